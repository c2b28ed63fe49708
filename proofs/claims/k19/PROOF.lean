import PyProof.Rows.All
import Wide.All
import OpenK.AllK
import Wide.FinOn
import HandS.ForMost
import HandS.ForExc
import HandS.IsInst
import HandS.Flow
import HandS.Wide
import HandS.WideMore
import HandS.Defaults
import HandS.Style
import HandS.Evl
import HandS.ExcInit
import HandS.ExcField
import HandS.ExcIs
import KE.KExcIs
import HandS.Codes
import HandS.Iter
import HandS.Walk
import HandS.Text
import HandS.TupAny
import PyProof.StrBlock2
import HandS.SetBool
import HandS.Strs
import KE.GoesNew
import HandS.Zip
import HandS.More
import HandS.Conv
import HandS.Star
import PySem.Challenge.RW_roomstair_k19_whole_two_chains_at_each_d
set_option Elab.async false
set_option linter.all false
set_option maxRecDepth 100000
/-! HG: promises of defs that are called while no repr is under way, so that repr's text is known. -/
namespace HG
open PySem PySem.Spec PyProof.Rows L2

/-- as a def's promise, but for calls ahead of which nothing guards -/
structure FnG (P : Program) (w : World) (K : PySem.W.Frag) (mg : Str → Option Value) (base : Heap) (CX : CXT) (k : Nat) (f : Addr) (fd : FuncData) (ps : List Str) (sp : Sp) : Prop where
  len : ∀ vs H Q E, sp vs H Q E → vs.length = ps.length
  go : ∀ (A : Around) (ou : List Env) (s : Shared) (H : Hp) (ar : Args) (us : List Value) (vs : List V) (Q : VK) (E : XK),
    A.guards = some [] → Room k A → Env0 P w K mg base A ou s H → BindsTo s fd ar (ps.zip us) → Vals vs us → sp vs H Q E →
    codeAny (model P w) A (.call (.ref f) ar) (CR CX ou P w H s Q E) s
section
variable {P : Program} {w : World} {K : PySem.W.Frag} {mg : Str → Option Value} {base : Heap} {CX : CXT} {k : Nat} {f : Addr} {fd : FuncData} {ps : List Str} {sp : Sp}
theorem FnG.of (F : FnOk P w K mg base CX k f fd ps sp) : FnG P w K mg base CX k f fd ps sp :=
  ⟨F.len, fun A ou s H ar us vs Q E _ => F.run A ou s H ar us vs Q E⟩
theorem FnG.mono {j : Nat} (F : FnG P w K mg base CX j f fd ps sp) (h : j ≤ k) : FnG P w K mg base CX k f fd ps sp :=
  ⟨F.len, fun A ou s H ar us vs Q E g r => F.go A ou s H ar us vs Q E g (r.mono h)⟩
/-- a def by its body -/
theorem fn_g {x qual : Str} {st : Stmt} {N : List Str} (F : Fun K x qual st f fd) (S : FnScope N ps (defScope st)) (len : ∀ vs H Q E, sp vs H Q E → vs.length = ps.length)
    (hb : ∀ (cdv : Value) (A : Around) (ou : List Env) (s : Shared) (H : Hp) (vs : List V) (Q : VK) (E : XK), (A.deeper (envOfC qual (defScope st) s.heap.objs.size f cdv)).guards = some [] →
      Room k (A.deeper (envOfC qual (defScope st) s.heap.objs.size f cdv)) → sp vs H Q E →
      ∃ t, PSs (cxOf CX P w K mg base N qual (defScope st) f cdv A ou s H E) (defBody st) t ∧ t { nx := fun _ H' => Q .non H', rt := Q } (start N vs) H) :
    FnG P w K mg base CX (k + 1) f fd ps sp := by
  obtain ⟨oc, od, kV, doc, pm, an, cdv, ct, osl, rfl, lk, hcd⟩ := F.ex
  constructor
  · exact len
  intro A ou s H ar us vs Q E g room e0 binds rv q0
  have h1 := len vs H Q E q0
  have h2 : K.In s.heap := e0.mod.kin.keeps (fun b o z => (e0.bs b o z).1)
  have h3 : s.heap.NoLimit := e0.mod.nolimit.keeps (fun b o z => (e0.bs b o z).1)
  have h4 : ∀ y ∈ ps.zip us, (defScope st).names.lookup y.1 = some .local ∨ ((defScope st).names.lookup y.1 = some .cell ∧ ((cellsFrom (s.heap.objs.size + 1) (defScope st).names []).lookup y.1).isSome = true) := by
    intro y hy
    have hm := (List.of_mem_zip (show (y.1, y.2) ∈ ps.zip us from hy)).1
    cases S.par y.1 hm with
    | inl q => exact Or.inl q
    | inr q => exact Or.inr ⟨q, PySem.W.cellsFrom_some _ _ _ (Or.inl q)⟩
  apply codeAny_call_function room.depth (h2 _ _ lk) rfl S.co S.gen rfl (PySem.W.codeRec_of h2 hcd)
  apply binds
  apply wpAny_newFunctionEnv_cells S.kind h4
  intro env heq s1 ic
  cases heq
  refine And.intro (Heap.NoLimit.keeps h3 ic.toInCall.keep) (codeAny_func ?_)
  cases hb cdv A ou s H vs Q E g (Room.deeper room _) q0 with
  | intro t ht =>
    have J0 := inv_start (CX := CX) (E := E) S room.hd e0 h1 rv ic
    apply wpAny_mono (ht.1.run [] s1 (start N vs) H _ J0 ht.2)
    · intro fl s2 z
      cases fl with
      | ret u => exact let ⟨v, _, H2, J, r, q⟩ := z; ⟨v, H2, J.os, J.bare, J.base, J.hok, r, q⟩
      | next => exact let ⟨_, H2, J, q⟩ := z; ⟨V.non, H2, J.os, J.bare, J.base, J.hok, (rfl : Value.none = Value.none), q⟩
      | brk => exact let ⟨_, _, _, q⟩ := z; q.elim
      | cont => exact let ⟨_, _, _, q⟩ := z; q.elim
    · exact fun _ _ z => z
end
section
variable {X : Cx} {CX : CXT} {k : Nat} {f : Addr} {fd : FuncData} {ps : List Str} {sp : Sp} {dvs : List V} {ds : List Value} {E : XK} {x : Str} {p pos : Pos} {e : Expr} {es : List Expr} {t : TA}
theorem go_fn {pins : List (Addr × Obj)} {σ : L2.St} {H : Hp} {s : Shared} {Q : VK} {us : List Value} {vs : List V} (g : X.A.guards = some []) (F : FnG X.prog X.w X.K X.mg X.base CX k f fd ps sp) (hr : Room k X.A) (hb : Binds X.K fd ps ds) (hd : Vals dvs ds) (hx : Passes CX X E)
    (I : Inv X pins σ H s) (r : Vals vs us) (h : sp (vs ++ dvs) H Q E) : wpAny (model X.prog X.w) X.A (call (.ref f) us) (EP X pins σ Q) X.xe s := by
  have rr := Vals.append r hd
  have ln : (us ++ ds).length = ps.length := (Vals.length rr).symm.trans (F.len _ _ _ _ h)
  apply wpAny_call
  apply codeAny_mono (F.go X.A X.stack s H ⟨us, []⟩ (us ++ ds) (vs ++ dvs) Q E g hr I.env0 (hb s us I.kIn ln) rr h)
  intro r s2 z
  cases r with
  | error e => exact hx pins σ H s e s2 I z
  | ok fl =>
    cases fl with
    | ret u => exact Inv.after I z
    | next => exact z.elim
    | brk => exact z.elim
    | cont => exact z.elim
/-- f(e, ..) -/
theorem pe_callG (g : X.A.guards = some []) (F : FnG X.prog X.w X.K X.mg X.base CX k f fd ps sp) (hr : Room k X.A) (hg : Gl X x) (hm : X.mg x = some (.ref f)) (hk : PySem.W.keepIn X.K (.ref f) = true) (hb : Binds X.K fd ps ds) (hd : Vals dvs ds) (hx : Passes CX X E)
    (ha : PA X (e :: es) t) (n1 : (x == ("__debug__" : Str)) = false := by decide) (n2 : starEach (e :: es) X.env = (false, eval e X.env) :: starEach es X.env := by rfl) (n3 : (backTo pos (starEach es X.env)).any (·.1) = false := by rfl) :
    PE X (.Call (.Name x p) (e :: es) [] pos) (tCall sp dvs E t) := by
  constructor
  intro pins s σ H Q I h
  apply wpAny_Call_Name_kw (ld_glob I hg hm _ n1)
  exact PySem.W.callWith_K (h₀ := X.base) I.ok.mod.kin hk (thn (ha.run pos pins s σ H _ I h) (fun us s1 ⟨vs, H1, I1, r, q⟩ => ⟨I1.kIn, go_fn g F hr hb hd hx I1 r q⟩)) n2 n3
/-- repr of plain data -/
def rRepr (K : PySem.W.Frag) : List V → Hp → VK → Prop := fun xs H Q => ∃ x d, xs = [x] ∧ Dp K H x d ∧ d.showable = true ∧ d.hasDict = false ∧ d.depth ≤ 30 ∧ d.shown.length ≤ sizeLine ∧ Q (.str d.shown) H
theorem call_repr (g : X.A.guards = some []) (hu : X.A.units + 64 < cLine) : CallR X (.builtin "repr") (rRepr X.K) := by
  intro pins s σ H xs us Q I r h
  obtain ⟨x, d, rfl, hd, hs, hn, hp, hz, q⟩ := h
  obtain ⟨u, rfl, r1⟩ := vals1 r
  obtain ⟨as, rd⟩ := Dp.reads I d x u hd r1
  cases d with
  | none =>
    cases hd
    cases (show u = Value.none from r1)
    exact PySem.P.repr_of_none ⟨.str _, H, I.tok _, ⟨_, rfl⟩, q⟩
  | bool b =>
    cases hd
    cases (show u = Value.bool b from r1)
    exact PySem.P.repr_of_bool ⟨.str _, H, I.tok _, ⟨_, rfl⟩, q⟩
  | int i =>
    cases hd
    obtain ⟨t, rfl⟩ := (show ∃ t, u = Value.int i t from r1)
    exact PySem.P.repr_of_int (of_decide_eq_true hs) ⟨.str _, H, I.tok _, ⟨_, rfl⟩, q⟩
  | str z =>
    cases hd
    obtain ⟨t, rfl⟩ := (show ∃ t, u = Value.str z t from r1)
    exact PySem.P.repr_of_str ⟨.str _, H, I.tok _, ⟨_, rfl⟩, q⟩ hz
  | list ds =>
    cases hd
    cases (show u = Value.ref _ from r1)
    exact repr_of_reads' rd hs (PyData.noDict_hsm hn) g (by omega) (fun _ _ z => z) (fun h2 u2 tk kp => ⟨.str _, H, I.kept kp, ⟨_, rfl⟩, q⟩) hz
  | tuple ds =>
    cases hd
    cases (show u = Value.ref _ from r1)
    exact repr_of_reads' rd hs (PyData.noDict_hsm hn) g (by omega) (fun _ _ z => z) (fun h2 u2 tk kp => ⟨.str _, H, I.kept kp, ⟨_, rfl⟩, q⟩) hz
  | dict kvs => cases hd
end
/-- the script's place, as the law's def finds it: among the module's own objects, or locked -/
def ScrH (K : PySem.W.Frag) (a : Addr) (vs : List Value) (ns : List Int) : Hp := fun b =>
  if b = a ∧ K.lookup a = none then some (.frz { cls := .type "list", data := .seq vs.toArray } (.lst (ns.map V.int))) else none
theorem scrH_some {K : PySem.W.Frag} {a b : Addr} {vs : List Value} {ns : List Int} {u : HO} (h : ScrH K a vs ns b = some u) : b = a ∧ K.lookup a = none ∧ u = .frz { cls := .type "list", data := .seq vs.toArray } (.lst (ns.map V.int)) := by
  unfold ScrH at h
  by_cases q : b = a ∧ K.lookup a = none
  · rw [if_pos q] at h
    exact ⟨q.1, q.2, (Option.some.inj h).symm⟩
  · rw [if_neg q] at h
    cases h
theorem law_g {P : Program} {w : World} {K : PySem.W.Frag} {mg mb : Str → Option Value} {CX : CXT} {k : Nat} {fa a : Addr} {fd : FuncData} {x : Str} {sp : Sp} {s₁ : Shared} {vs : List Value} {ns : List Int}
    (KX : K.In s₁.heap) (n1 : s₁.heap.Ns mainGlobals mg) (n2 : s₁.heap.Ns builtinsNs mb) (n3 : ∀ x : Str, x ≠ "__name__" → mb x = bootBuiltins x) (n4 : s₁.heap.NoLimit) (n5 : s₁.gens = #[])
    (ha : s₁.heap.get? a = some { cls := .type "list", data := .seq vs.toArray }) (hi : IntsAre vs ns) (hl : ns.length ≤ sizeLine) (hr : Room k callerA)
    (F : ∀ base : Heap, K.In base → base.Ns mainGlobals mg → FnG P w K mg base CX k fa fd [x] sp) (bi : ∀ (s : Shared) (u : Value), BindsTo s fd ⟨[u], []⟩ [(x, u)])
    (hsp : ∀ H : Hp, Only H → SqL K H a (ns.map V.int) → sp [.ref a] H (fun v _ => v = .bl true) fun _ _ _ => False)
    (hCX : ∀ H e s', CX [] H s₁ (fun _ _ _ => False) e s' → False) :
    codeAny (model P w) callerA (.call (.ref fa) ⟨[.ref a], []⟩) (fun r s' => r = .ok (.ret (.bool true)) ∧ OldK s₁.heap s'.heap ∧ s'.os = s₁.os ∧ AllBare s'.gens) s₁ := by
  have rv := vals_ints hi
  have lv := hi.length
  let H : Hp := ScrH K a vs ns
  have hH : ∀ {b : Addr} {u : HO}, H b = some u → b = a ∧ K.lookup a = none ∧ u = .frz { cls := .type "list", data := .seq vs.toArray } (.lst (ns.map V.int)) := fun h => scrH_some h
  have hO : Only H := fun b => by
    cases q : H b with
    | none => exact .inl rfl
    | some u => exact .inr ⟨_, _, congrArg some (hH q).2.2⟩
  have hS : SqL K H a (ns.map V.int) := by
    cases hk : K.lookup a with
    | none => exact .inl (.inr ⟨_, if_pos ⟨rfl, hk⟩⟩)
    | some o =>
      have e := KX a o hk
      rw [ha] at e
      cases e
      exact .inr ⟨_, vs.toArray, _, hk, rfl, rfl, rfl, by rw [List.size_toArray, lv]; exact hl, by simpa using rv⟩
  have hok : HOk P w H s₁.heap := fun b u q => by
    obtain ⟨rfl, _, rfl⟩ := hH q
    exact ⟨ha, by rw [List.length_map]; exact hl, vs, _, rv, ha⟩
  have dictFree : ∀ {b : Addr} {o : Obj} {es : Array DictEntry} {ep : Nat}, s₁.heap.get? b = some o → o.data = .dict es ep → H b = none := fun {b o es ep} z d => by
    cases q : H b with
    | none => rfl
    | some u =>
      obtain ⟨rfl, _, _⟩ := hH q
      rw [ha] at z
      cases z
      exact nomatch d
  have ns' : ∀ {b : Addr} {m : Str → Option Value}, s₁.heap.Ns b m → (hidT s₁.heap H).Ns b m := fun ⟨o, es, ep, z, d, r⟩ => ⟨o, es, ep, hidT_get z (dictFree z d), d, r⟩
  have kin : K.In (hidT s₁.heap H) := fun b o z => hidT_get (KX b o z) (by
    cases q : H b with
    | none => rfl
    | some u =>
      obtain ⟨rfl, y, _⟩ := hH q
      rw [y] at z
      cases z)
  have lim : (hidT s₁.heap H).NoLimit := let ⟨mc, y1, y2⟩ := n4; ⟨mc, ns' y1, y2⟩
  have e0 : Env0 P w K mg (hidT s₁.heap H) callerA [] s₁ H :=
    { frames := rfl, mod := ⟨kin, ns' n1, ⟨mb, ns' n2, n3⟩, lim⟩, bs := fun b o z => of_hidT z, bsz := Nat.le_of_eq (hidT_size _ _), funs := trivial, frf := fun b hb => (List.not_mem_nil hb).elim, hok := hok, bare := .of_eq n5 }
  apply codeAny_mono ((F _ kin (ns' n1)).go callerA [] s₁ H ⟨[.ref a], []⟩ [.ref a] [.ref a] _ _ rfl hr e0 (bi s₁ (.ref a)) (.cons rfl .nil) (hsp H hO hS))
  intro r s2 z
  cases r with
  | error e => exact (hCX H e s2 z).elim
  | ok fl =>
    cases fl with
    | next => exact z.elim
    | brk => exact z.elim
    | cont => exact z.elim
    | ret u =>
      obtain ⟨v, H2, os, bare, un, hok2, r2, q⟩ := z
      cases (show v = .bl true from q)
      cases (show u = Value.bool true from r2)
      refine And.intro rfl (And.intro (OldK.of_keep fun b o y => ?_) (And.intro os bare))
      cases qb : H b with
      | none => exact un.keep b o y qb List.not_mem_nil List.not_mem_nil
      | some u =>
        obtain ⟨rfl, _, rfl⟩ := hH qb
        have y2 := (hok2 b _ (un.frzs b _ _ qb)).1
        rw [ha] at y
        cases y
        exact y2
theorem walk_g {l : PySem.W.OpenLaw} {n k : Nat} {q : Program} {loose : List Str} {XP : (Str → Option Value) → Heap → Prop} {YP : World → Heap → Prop} {d : DefRec} {K : Params → PySem.W.Frag} {CX : World → CXT} {sp : World → Sp} {x : Str}
    (hn : l.most = some n) (hn2 : n ≤ sizeLine) (hdf : d.params.defaults = []) (hr : Room k callerA)
    (hY : ∀ (w : World) (h : Heap), YP w h → (K w.params).In h)
    (F : ∀ (w : World) (mg : Str → Option Value) (fa : Addr) (h : Heap), (K w.params).In h → h.Ns mainGlobals mg → mg d.name = some (.ref fa) →
      ∃ fd : FuncData, (∀ (s : Shared) (u : Value), BindsTo s fd ⟨[u], []⟩ [(x, u)]) ∧
        ∀ base : Heap, (K w.params).In base → base.Ns mainGlobals mg → FnG l.prog w (K w.params) mg base (CX w) k fa fd [x] (sp w))
    (hsp : ∀ (w : World) (H : Hp) (a : Addr) (ns : List Int), ns.length ≤ n → Only H → SqL (K w.params) H a (ns.map V.int) → sp w [.ref a] H (fun v _ => v = .bl true) fun _ _ _ => False)
    (hCX : ∀ (w : World) (H : Hp) (s : Shared) (e : Value) (s' : Shared), CX w [] H s (fun _ _ _ => False) e s' → False) :
    PySem.W.WalkO q loose XP YP l.row.toRowW d [] (fun f vs => PySem.call f vs) := by
  apply Att.attach_call hn hdf
  intro w s₀ s₁ mg mb fa o pm cd doc a vs ns G Y _ _ _ hmg ho hi hl hg
  cases F w mg fa _ (hY w _ Y) G.T.g hmg with
  | intro fd z => exact law_g (hY w _ Y) G.T.g G.T.b G.T.builtins G.T.nolimit hg ho hi (Nat.le_trans hl hn2) hr z.2 z.1 (fun H y1 y2 => hsp w H a ns hl y1 y2) (fun H e s2 => hCX w H s₁ e s2)

/-! ### short words -/
section
variable {P : Program} {w : World} {K : PySem.W.Frag} {mg : Str → Option Value} {base : Heap}
/-- as fn_g, for a def that lets nothing out -/
theorem fn_g0 {k : Nat} {f : Addr} {fd : FuncData} {ps : List Str} {sp : Sp} {x qual : Str} {st : Stmt} {N : List Str} (F : Fun K x qual st f fd) (S : FnScope N ps (defScope st)) (len : ∀ vs H Q E, sp vs H Q E → vs.length = ps.length)
    (hb : ∀ (cdv : Value) (A : Around) (ou : List Env) (s : Shared) (H : Hp) (vs : List V) (Q : VK) (E : XK), (A.deeper (envOfC qual (defScope st) s.heap.objs.size f cdv)).guards = some [] →
      Room k (A.deeper (envOfC qual (defScope st) s.heap.objs.size f cdv)) → sp vs H Q E →
      ∃ t, PSs (cxOf CX0 P w K mg base N qual (defScope st) f cdv A ou s H E).nox (defBody st) t ∧ t { nx := fun _ H' => Q .non H', rt := Q } (start N vs) H) :
    FnG P w K mg base CX0 (k + 1) f fd ps sp := by
  apply fn_g F S len
  intro cdv A ou s H vs Q E g r q
  cases hb cdv A ou s H vs Q E g r q with
  | intro t z => exact ⟨t, PSs.nox z.1, z.2⟩
/-- a def as the top left it, with its promise -/
structure Df (P : Program) (w : World) (K : PySem.W.Frag) (mg : Str → Option Value) (base : Heap) (CX : CXT) (k : Nat) (x : Str) (ps : List Str) (sp : Sp) where
  f : Addr
  fd : FuncData
  ok : FnOk P w K mg base CX k f fd ps sp
  m : mg x = some (.ref f)
  kp : PySem.W.keepIn K (.ref f) = true
  b : Binds K fd ps []
/-- a def as the top left it -/
structure Tp (K : PySem.W.Frag) (mg : Str → Option Value) (x : Str) (st : Stmt) (ps : List Str) where
  f : Addr
  fd : FuncData
  F : Fun K x x st f fd
  m : mg x = some (.ref f)
  b : Binds K fd ps []
def Tp.df {x : Str} {st : Stmt} {ps : List Str} {CX : CXT} {k : Nat} {sp : Sp} (T : Tp K mg x st ps) (F : FnOk P w K mg base CX k T.f T.fd ps sp) : Df P w K mg base CX k x ps sp := ⟨T.f, T.fd, F, T.m, T.F.kp, T.b⟩
def tp_mk {h : Heap} {x : Str} {st : Stmt} {ps : List Str} {f : Addr} {oc kV doc pm cdv ct : Value} {od an : Option Addr} {osl : Array (Option Value)} (X : K.In h) (G : h.Ns mainGlobals mg) (a : PySem.W.nsIn K mainGlobals x = some (some (.ref f)))
    (l : K.lookup f = some ⟨oc, od, .func (PySem.W.fnOf x x (defArgs st) (defBody st) (defScope st) .none kV doc pm an cdv ct), osl⟩) (c : PySem.W.codeIn K cdv x = true) (k : PySem.W.keepIn K (.ref f) = true)
    (hb : ∀ (kV doc pm : Value) (an : Option Addr) (cdv ct : Value) (us : List Value), us.length = ps.length → bindArgs (PySem.W.fnOf x x (defArgs st) (defBody st) (defScope st) .none kV doc pm an cdv ct) ⟨us, []⟩ = pure (ps.zip us)) : Tp K mg x st ps :=
  ⟨f, _, fun_mk l c k, PySem.W.mg_of X G a, (fun_mk l c k).binds hb⟩
/-- how a call with keywords alone binds -/
theorem kbn {x : Str} {st : Stmt} {ps ks : List Str} (n : Nat) (T : Tp K mg x st ps) (g : {α : Type} → List α → List α → List α)
    (hrel : ∀ {vs : List V} {us : List Value} {zs : List V} {ws : List Value}, Vals vs us → Vals zs ws → Vals (g vs zs) (g us ws))
    (h : ∀ (kV doc pm : Value) (an : Option Addr) (cdv ct : Value) (us ws : List Value), us.length = n → ws.length = ks.length →
      bindArgs (PySem.W.fnOf x x (defArgs st) (defBody st) (defScope st) .none kV doc pm an cdv ct) ⟨us, ks.zip ws⟩ = pure (ps.zip (g us ws))) : KBn K T.fd ps n ks g g := by
  obtain ⟨oc, od, kV, doc, pm, an, cdv, ct, osl, e, _, _⟩ := T.F.ex
  exact ⟨fun s us ws _ l1 l2 => by rw [e]; exact .of_eq (h kV doc pm an cdv ct us ws l1 l2), fun r1 r2 => hrel r1 r2⟩
end
section
variable {X : Cx} {CX : CXT} {k j : Nat} {ps ks : List Str} {sp : Sp} {x : Str} {p pos : Pos} {e : Expr} {es : List Expr} {kws : List Keyword} {t tk : TA} {g : List Value → List Value → List Value} {gV : List V → List V → List V}
theorem p0 {E : XK} : Passes CX0 X E := fun _ _ _ _ _ _ _ h => h.elim
theorem pe_c (o : Df X.prog X.w X.K X.mg X.base CX0 k x ps sp) (hr : Room j X.A) (ha : PA X (e :: es) t) (hk : k ≤ j := by decide) (hg : Gl X x := by rfl)
    (n1 : (x == ("__debug__" : Str)) = false := by decide) (n2 : starEach (e :: es) X.env = (false, eval e X.env) :: starEach es X.env := by rfl) (n3 : (backTo pos (starEach es X.env)).any (·.1) = false := by rfl) :
    PE X (.Call (.Name x p) (e :: es) [] pos) (tCall sp [] E0 t) := pe_call o.ok (hr.mono hk) hg o.m o.kp o.b .nil p0 ha n1 n2 n3
theorem pe_c0 (o : Df X.prog X.w X.K X.mg X.base CX0 k x ps sp) (hr : Room j X.A) (hk : k ≤ j := by decide) (hg : Gl X x := by rfl)
    (n1 : (x == ("__debug__" : Str)) = false := by decide) : PE X (.Call (.Name x p) [] [] pos) (tCall sp [] E0 tNil) := pe_call0 o.ok (hr.mono hk) hg o.m o.kp o.b .nil p0 n1
/-- f(k = v, ..) -/
theorem pe_cK0 (o : Df X.prog X.w X.K X.mg X.base CX0 k x ps sp) (hb : KBn X.K o.fd ps 0 ks g gV) (hr : Room j X.A) (hw : PK X kws tk) (hk : k ≤ j := by decide) (hg : Gl X x := by rfl)
    (n0 : (backToKw pos (keywordEach kws X.env)).all (·.1.isSome) = true := by rfl) (n1 : (backToKw pos (keywordEach kws X.env)).filterMap (·.1) = ks := by rfl) (n2 : (x == ("__debug__" : Str)) = false := by decide)
    (n3 : ((backTo pos (starEach [] X.env)).any (·.1) || (backToKw pos (keywordEach kws X.env)).any (·.1.isNone)) = false := by rfl) :
    PE X (.Call (.Name x p) [] kws pos) (tCallN 0 ks.length sp gV E0 tNil tk) := by
  constructor
  intro pins s σ H Q I h
  apply wpAny_Call_Name_kw (ld_glob I hg o.m _ n2)
  apply PySem.W.callWith_KW0 (h₀ := X.base) I.ok.mod.kin o.kp n0 _ n3
  refine thn (hw.run pos pins s σ H _ I h) (fun ws s2 z => ?_)
  obtain ⟨zs, H2, J, rz, l1, l2, q⟩ := z
  refine And.intro J.kIn ?_
  rw [n1]
  exact run_fnN (us := []) (vs := []) o.ok (hr.mono hk) hb p0 J .nil rz rfl l2 q
/-- a def that may raise, where it does not -/
theorem pe_cL (o : Df X.prog X.w X.K X.mg X.base (L2.CX X.prog X.w) k x ps sp) (hr : Room j X.A) (ha : PA X (e :: es) t) (hk : k ≤ j := by decide) (hg : Gl X x := by rfl)
    (n1 : (x == ("__debug__" : Str)) = false := by decide) (n2 : starEach (e :: es) X.env = (false, eval e X.env) :: starEach es X.env := by rfl) (n3 : (backTo pos (starEach es X.env)).any (·.1) = false := by rfl) :
    PE X (.Call (.Name x p) (e :: es) [] pos) (tCall sp [] E0 t) := pe_call o.ok (hr.mono hk) hg o.m o.kp o.b .nil passL ha n1 n2 n3
theorem pe_cKL0 (o : Df X.prog X.w X.K X.mg X.base (L2.CX X.prog X.w) k x ps sp) (hb : KBn X.K o.fd ps 0 ks g gV) (hr : Room j X.A) (hw : PK X kws tk) (hk : k ≤ j := by decide) (hg : Gl X x := by rfl)
    (n0 : (backToKw pos (keywordEach kws X.env)).all (·.1.isSome) = true := by rfl) (n1 : (backToKw pos (keywordEach kws X.env)).filterMap (·.1) = ks := by rfl) (n2 : (x == ("__debug__" : Str)) = false := by decide)
    (n3 : ((backTo pos (starEach [] X.env)).any (·.1) || (backToKw pos (keywordEach kws X.env)).any (·.1.isNone)) = false := by rfl) :
    PE X (.Call (.Name x p) [] kws pos) (tCallN 0 ks.length sp gV E0 tNil tk) := by
  constructor
  intro pins s σ H Q I h
  apply wpAny_Call_Name_kw (ld_glob I hg o.m _ n2)
  apply PySem.W.callWith_KW0 (h₀ := X.base) I.ok.mod.kin o.kp n0 _ n3
  refine thn (hw.run pos pins s σ H _ I h) (fun ws s2 z => ?_)
  obtain ⟨zs, H2, J, rz, l1, l2, q⟩ := z
  refine And.intro J.kIn ?_
  rw [n1]
  exact run_fnN (us := []) (vs := []) o.ok (hr.mono hk) hb passL J .nil rz rfl l2 q
/-- a def that may raise, within a try -/
theorem pe_cS {W : WX} (o : Df X.prog X.w X.K X.mg X.base (L2.CX X.prog X.w) k x ps sp) (hr : Room j X.A) (tk : Takes X W) (ha : PA X (e :: es) t) (hk : k ≤ j := by decide) (hg : Gl X x := by rfl)
    (n1 : (x == ("__debug__" : Str)) = false := by decide) (n2 : starEach (e :: es) X.env = (false, eval e X.env) :: starEach es X.env := by rfl) (n3 : (backTo pos (starEach es X.env)).any (·.1) = false := by rfl) :
    PE X (.Call (.Name x p) (e :: es) [] pos) (tCallS sp (WE W) t) := pe_callS o.ok (hr.mono hk) hg o.m o.kp o.b (fun σ => passAt tk σ) ha n1 n2 n3
theorem pe_ty {T : String} (hg : Gl X x) (hm : X.mg x = none) (hv : bootBuiltins x = some (.type T)) (hn : x ≠ "__name__" := by decide) (hd : (x == ("__debug__" : Str)) = false := by decide) : PE X (.Name x pos) (tC (.ty T)) :=
  pe_bltn hg hm hv rfl hn hd
end
/-! ### heaps -/
/-- what stands at other places than g still stands -/
def Kp (g : Addr) (H H' : Hp) : Prop := ∀ p o, p ≠ g → H p = some o → H' p = some o
theorem Kp.refl {g : Addr} {H : Hp} : Kp g H H := fun _ _ _ h => h
theorem Kp.trans {g : Addr} {H H1 H2 : Hp} (a : Kp g H H1) (b : Kp g H1 H2) : Kp g H H2 := fun p o n h => b p o n (a p o n h)
theorem Kp.new {g p : Addr} {H : Hp} {o : HO} (h : H p = none) : Kp g H (upd H p o) := fun q u _ e => by rw [upd_ne (ne_of_none e h)]; exact e
theorem Kp.at {g : Addr} {H : Hp} {o : HO} : Kp g H (upd H g o) := fun q u n e => by rw [upd_ne n]; exact e
theorem Kp.seq {g a : Addr} {H H' : Hp} {K : PySem.W.Frag} {xs : List V} (k : Kp g H H') (n : a ≠ g) (h : SqL K H a xs) : SqL K H' a xs := by
  rcases h with (h | ⟨o, h⟩) | h
  · exact .inl (.inl (k _ _ n h))
  · exact .inl (.inr ⟨o, k _ _ n h⟩)
  · exact .inr h
end HG
/-! HD: a law's draws: the gauge (a list of the cells, how many were read, what is left), the facts about numbers. -/
namespace HD
open PySem PySem.Spec PyProof.Rows L2
/-- the gauge at g, its cells at c -/
structure Gau (H : Hp) (g c : Addr) (ns : List Int) (at_ rest : Int) : Prop where
  g : H g = some (.lst [.ref c, .int at_, .int rest])
  c : H c = some (.lst (ns.map V.int))
  a0 : 0 ≤ at_
  r0 : 0 ≤ rest
  len : ns.length ≤ 63
theorem Gau.ne {H : Hp} {g c : Addr} {ns : List Int} {a r : Int} (G : Gau H g c ns a r) : c ≠ g := fun e => by
  have h := G.g
  rw [← e, G.c] at h
  have h2 := HO.lst.inj (Option.some.inj h)
  cases ns with
  | nil => cases h2
  | cons x r => exact nomatch (List.cons.inj h2).1
theorem Gau.kp {H H' : Hp} {g c : Addr} {ns : List Int} {a r : Int} {q : Addr} (G : Gau H g c ns a r) (k : HG.Kp q H H') (n1 : g ≠ q) (n2 : c ≠ q) : Gau H' g c ns a r := ⟨k _ _ n1 G.g, k _ _ n2 G.c, G.a0, G.r0, G.len⟩
theorem Gau.new {H : Hp} {g c p : Addr} {o : HO} {ns : List Int} {a r : Int} (G : Gau H g c ns a r) (n : H p = none) : Gau (upd H p o) g c ns a r :=
  ⟨by rw [upd_ne (ne_of_none G.g n)]; exact G.g, by rw [upd_ne (ne_of_none G.c n)]; exact G.c, G.a0, G.r0, G.len⟩
theorem Gau.put {H : Hp} {g c : Addr} {ns : List Int} {a r a' r' : Int} {o : HO} (G : Gau H g c ns a r) (e : o = .lst [.ref c, .int a', .int r']) (h1 : 0 ≤ a') (h2 : 0 ≤ r') : Gau (upd H g o) g c ns a' r' :=
  ⟨by rw [upd_same, e], by rw [upd_ne G.ne]; exact G.c, h1, h2, G.len⟩
/-- behind a draw or more of them: the gauge stands, all else too; n: how many were drawn at most -/
structure Drew (g c : Addr) (ns : List Int) (n : Int) (H : Hp) (a : Int) (H' : Hp) : Prop where
  ex : ∃ a' r', Gau H' g c ns a' r' ∧ a' ≤ a + n
  kp : HG.Kp g H H'
/-- what a draw promises: 0 to many - 1 -/
def spDraw : Sp := fun vs H Q _ => ∃ g c ns a r many, vs = [.ref g, .int many] ∧ Gau H g c ns a r ∧ 0 < many ∧ many < 1000000 ∧ a < 1000000 ∧
  ∀ x a' r' H', 0 ≤ x → x < many → a' ≤ a + 1 → Gau H' g c ns a' r' → HG.Kp g H H' → Q (.int x) H'
/-- one of a list -/
def spOne (K : PySem.W.Frag) : Sp := fun vs H Q _ => ∃ g c ns a r l xs, vs = [.ref g, .ref l] ∧ Gau H g c ns a r ∧ a < 1000000 ∧ l ≠ g ∧ SqL K H l xs ∧ xs ≠ [] ∧ xs.length < 1000000 ∧
  ∀ x a' r' H', x ∈ xs → a' ≤ a + 1 → Gau H' g c ns a' r' → HG.Kp g H H' → Q x H'
theorem fdiv_nn {a b : Int} (h1 : 0 ≤ a) (h2 : 0 < b) : 0 ≤ a.fdiv b := by
  rw [Int.fdiv_eq_ediv_of_nonneg _ (Int.le_of_lt h2)]
  exact Int.ediv_nonneg h1 (Int.le_of_lt h2)
theorem fmod_nn {a b : Int} (h2 : 0 < b) : 0 ≤ a.fmod b := by
  rw [Int.fmod_eq_emod_of_nonneg _ (Int.le_of_lt h2)]
  exact Int.emod_nonneg _ (Int.ne_of_gt h2)
theorem fmod_lt {a b : Int} (h2 : 0 < b) : a.fmod b < b := by
  rw [Int.fmod_eq_emod_of_nonneg _ (Int.le_of_lt h2)]
  exact Int.emod_lt_of_pos _ h2
theorem shaped_ints (ns : List Int) : SeqAt.shaped (.list (ns.map PyData.int)) = true := by
  have h1 : PyData.canLayAll0 (ns.map PyData.int) = true := by
    induction ns with
    | nil => rfl
    | cons x r ih => rw [List.map_cons]; simp only [PyData.canLayAll0, PyData.canLay0, Bool.true_and]; exact ih
  have h2 : PyData.depthAll (ns.map PyData.int) = 0 := by
    induction ns with
    | nil => rfl
    | cons x r ih =>
      rw [List.map_cons]
      simp only [PyData.depthAll, PyData.depth]
      have h3 : PyData.canLayAll0 (r.map PyData.int) = true := by
        rw [List.map_cons] at h1
        simp only [PyData.canLayAll0, PyData.canLay0, Bool.true_and] at h1
        exact h1
      rw [ih h3]
      rfl
  unfold SeqAt.shaped
  simp only [PyData.canLay0, PyData.depth, h1, h2]
  rfl
theorem dp_ints {K : PySem.W.Frag} {H : Hp} : ∀ (ns : List Int), DpAll K H (ns.map V.int) (ns.map PyData.int)
  | [] => .nil
  | x :: r => .cons (.int x) (dp_ints r)
theorem eqv_nil (ns : List Int) : PyData.eqv (.list (ns.map PyData.int)) (.list []) = decide (ns = []) := by
  cases ns with
  | nil => simp only [List.map_nil, PyData.eqv, PyData.eqvAll]; rfl
  | cons x r => simp only [List.map_cons, PyData.eqv, PyData.eqvAll]; rfl
/-- a number mod a small number, and more: still small -/
theorem small_pow {x a : Int} {m k l : Int} (h1 : 0 ≤ x) (h2 : x < m) (h3 : 0 ≤ a) (h4 : a < 1000000) (hm : m ≤ 4000000000) (hk : 0 ≤ k) (hk2 : k ≤ 100000) (hl : 0 ≤ l) (hl2 : l ≤ 1000000) : (x + k * a + l).natAbs < 2 ^ 64 := by
  have h5 : k * a ≤ 100000 * 1000000 := Int.mul_le_mul hk2 (Int.le_of_lt h4) h3 (by decide)
  have h6 : 0 ≤ k * a := Int.mul_nonneg hk h3
  have h7 : (2 : Nat) ^ 64 = 18446744073709551616 := by decide
  omega
theorem small_pow2 {x a : Int} {m k l b : Int} (h1 : 0 ≤ x) (h2 : x < m) (h3 : 0 ≤ a) (h4 : a < 1000000) (hm : m ≤ 4000000000) (hk : 0 ≤ k) (hk2 : k ≤ 100000) (hl : 0 ≤ l) (hl2 : l ≤ 1000000) (hb : 0 ≤ b) (hb2 : b ≤ 1000000) :
    (x * (2 * a + b) + k * a * a + l).natAbs < 2 ^ 64 := by
  have h5 : k * a ≤ 100000 * 1000000 := Int.mul_le_mul hk2 (Int.le_of_lt h4) h3 (by decide)
  have h6 : 0 ≤ k * a := Int.mul_nonneg hk h3
  have h7 : (k * a) * a ≤ (100000 * 1000000) * 1000000 := Int.mul_le_mul h5 (Int.le_of_lt h4) h3 (by decide)
  have h8 : 0 ≤ (k * a) * a := Int.mul_nonneg h6 h3
  have h9 : x * (2 * a + b) ≤ 4000000000 * 3000000 := Int.mul_le_mul (by omega) (by omega) (by omega) (by decide)
  have h10 : 0 ≤ x * (2 * a + b) := Int.mul_nonneg h1 (by omega)
  have h11 : (2 : Nat) ^ 64 = 18446744073709551616 := by decide
  omega
theorem abs_ge {c : Int} {k : Int} (h : k ≤ (if c < 0 then -c else c)) (b : Int) (hb : 0 ≤ b) : 0 ≤ 2 * ((if c < 0 then -c else c) - k) + b := by omega
/-- the other way first: it may be wanted twice -/
theorem iteS {c A B : Prop} [Decidable c] (hb : B) (ha : c → B → A) : if c then A else B := by
  by_cases h : c
  · rw [if_pos h]
    exact ha h hb
  · rw [if_neg h]
    exact hb
theorem cell_at {ns : List Int} (hl : 0 < ns.length) (a : Int) : ∃ x, atI (ns.map V.int) (a % (ns.length : Int)) = some (.int x) := by
  have h3 := Int.emod_nonneg a (show (ns.length : Int) ≠ 0 by omega)
  have h4 := Int.emod_lt_of_pos a (show (0 : Int) < ns.length by omega)
  have il : (a % (ns.length : Int)).toNat < ns.length := by omega
  refine ⟨ns[(a % (ns.length : Int)).toNat], ?_⟩
  have e := atI_nat (xs := ns.map V.int) (j := (a % (ns.length : Int)).toNat) (v := .int (ns[(a % (ns.length : Int)).toNat])) (by rw [List.getElem?_map, List.getElem?_eq_getElem il]; rfl)
  rw [Int.toNat_of_nonneg h3] at e
  exact e
theorem cutV_ints (ns : List Int) (lo hi : Option Int) : ∃ ms : List Int, cutV (ns.map V.int) lo hi = ms.map V.int ∧ ms.length ≤ ns.length := by
  refine ⟨(ns.drop (HT.sIx (ns.map V.int).length 0 lo)).take (HT.sIx (ns.map V.int).length (ns.map V.int).length hi - HT.sIx (ns.map V.int).length 0 lo), ?_, ?_⟩
  · unfold cutV
    rw [List.map_take, List.map_drop]
  · rw [List.length_take, List.length_drop]
    omega
/-- the gauge of a script -/
def spGauge (K : PySem.W.Frag) : Sp := fun vs H Q _ => ∃ (s : Addr) (ns : List Int), vs = [.ref s] ∧ SqL K H s (ns.map V.int) ∧ ns.length ≤ 63 ∧
  ∀ (g c : Addr) (ms : List Int) (H' : Hp), H g = none → H c = none → Gau H' g c ms 0 0 → (∀ p o, H p = some o → H' p = some o) → Q (.ref g) H'
theorem get_map {α β : Type} {f : α → β} {xs : List α} {i : Nat} {y : β} (h : (xs.map f)[i]? = some y) : ∃ x, xs[i]? = some x ∧ y = f x := by
  rw [List.getElem?_map] at h
  cases e : xs[i]? with
  | none => rw [e] at h; cases h
  | some x => rw [e] at h; exact ⟨x, rfl, (Option.some.inj h).symm⟩
theorem take_snoc {α : Type} {xs : List α} {i : Nat} {x : α} (h : xs[i]? = some x) : xs.take (i + 1) = xs.take i ++ [x] := by
  rw [List.take_add_one, h]
  rfl
theorem stay {H : Hp} {p q : Addr} {o u : HO} (n : H q = none) (h : H p = some u) : upd H q o p = some u := by
  rw [upd_ne (ne_of_none h n)]
  exact h
theorem log_of {n : Nat} (h : n < 2 ^ 1900) : n.log2 < 1920 := by
  by_cases e : n = 0
  · subst e
    decide
  · exact Nat.lt_of_lt_of_le ((Nat.log2_lt e).mpr h) (by decide)
theorem small_pow200 {n : Nat} (h : n < 10 ^ 50) : n < 2 ^ 1900 := Nat.lt_of_lt_of_le h (by decide +kernel)
/-- some list, tuple or dict stands at p -/
def Box (H : Hp) (p : Addr) : Prop := (∃ xs, H p = some (.lst xs)) ∨ (∃ xs, H p = some (.tup xs)) ∨ ∃ k, H p = some (.dK k)
theorem Box.kp {H H' : Hp} {g p : Addr} (b : Box H p) (k : HG.Kp g H H') (n : p ≠ g) : Box H' p := by
  rcases b with ⟨x, h⟩ | ⟨x, h⟩ | ⟨x, h⟩
  · exact .inl ⟨x, k _ _ n h⟩
  · exact .inr (.inl ⟨x, k _ _ n h⟩)
  · exact .inr (.inr ⟨x, k _ _ n h⟩)
/-- a value that is an int, or plainly none -/
def AnyV (H : Hp) (g : Addr) (v : V) : Prop := (∃ i, v = .int i) ∨ v = .non ∨ (∃ b, v = .bl b) ∨ (∃ x, v = .str x) ∨ ∃ p, v = .ref p ∧ p ≠ g ∧ Box H p
theorem AnyV.kp {H H' : Hp} {g : Addr} {v : V} (a : AnyV H g v) (k : HG.Kp g H H') : AnyV H' g v := by
  rcases a with a | a | a | a | ⟨p, e, n, b⟩
  · exact .inl a
  · exact .inr (.inl a)
  · exact .inr (.inr (.inl a))
  · exact .inr (.inr (.inr (.inl a)))
  · exact .inr (.inr (.inr (.inr ⟨p, e, n, b.kp k n⟩)))
end HD
/-! HE: more of what a reading comes to where nothing is written. -/
namespace HE
open PySem PySem.Spec PyProof.Rows L2 Evl
section
variable {σ : L2.St} {H : Hp} {ta tb te : TE} {x y z : V} {K : PySem.W.Frag} {xs : List V} {d : PyData} {ds : List PyData}
/-- data that repr shows -/
structure Shows (d : PyData) : Prop where
  s : d.showable = true
  n : d.hasDict = false
  p : d.depth ≤ 30
  z : d.shown.length ≤ sizeLine
theorem Shows.bool (b : Bool) : Shows (.bool b) := ⟨rfl, rfl, by show 0 ≤ 30; decide, by cases b <;> decide +kernel⟩
theorem Shows.none : Shows .none := ⟨rfl, rfl, by show 0 ≤ 30; decide, by decide +kernel⟩
theorem ev_repr (ha : Ev ta σ H x) (hd : ∀ H1, Ex H H1 → Dp K H1 x d) (h : Shows d) : Ev (tCB (HG.rRepr K) (tCons ta tNil)) σ H (.str d.shown) := fun H1 e Q q =>
  ha H1 e _ fun H2 e2 => ⟨x, d, rfl, hd H2 (e.trans e2), h.s, h.n, h.p, h.z, q H2 e2⟩
theorem ev_reprL (ha : EvL ta σ H xs) (hd : ∀ H1, Ex H H1 → DpAll K H1 xs ds) (h : Shows (.list ds)) : Ev (tCB (HG.rRepr K) (tCons ta tNil)) σ H (.str (PyData.list ds).shown) := fun H1 e Q q =>
  ha H1 e _ fun p H2 _ e2 hp => ⟨.ref p, .list ds, rfl, .lst (SqL.of hp) (hd H2 (e.trans e2)), h.s, h.n, h.p, h.z, q H2 e2⟩
theorem ev_reprU (ha : EvU ta σ H xs) (hd : ∀ H1, Ex H H1 → DpAll K H1 xs ds) (h : Shows (.tuple ds)) : Ev (tCB (HG.rRepr K) (tCons ta tNil)) σ H (.str (PyData.tuple ds).shown) := fun H1 e Q q =>
  ha H1 e _ fun p H2 _ e2 hp => ⟨.ref p, .tuple ds, rfl, .tup (SqT.of hp) (hd H2 (e.trans e2)), h.s, h.n, h.p, h.z, q H2 e2⟩
/-- xs * k -/
theorem el_rep {k : Int} (ha : EvL ta σ H xs) (h1 : 0 ≤ k) (h2 : k < 1000) (h3 : xs.length ≤ 1000) : EvL (tOp rRep ta (tC (.int k))) σ H (List.replicate k.toNat xs).flatten := fun H1 e Q q =>
  ha H1 e _ fun p H2 n2 e2 hp => ⟨p, k, xs, rfl, rfl, hp, by omega, by omega, Nat.le_trans (Nat.mul_le_mul h3 (show k.toNat ≤ 1000 by omega)) (by decide +kernel), fun r hr => q r _ (fresh_back e2 hr) (e2.trans (Ex.new hr)) upd_same⟩
theorem rv_isN : RV (fun x y H Q => y = .non ∧ Q (.bl (decide (x = .non))) H) x .non H (.bl (decide (x = .non))) := fun H1 _ _ q => ⟨rfl, q H1 (Ex.refl H1)⟩
theorem rv_notN : RV (fun x y H Q => y = .non ∧ Q (.bl (!decide (x = .non))) H) x .non H (.bl (!decide (x = .non))) := fun H1 _ _ q => ⟨rfl, q H1 (Ex.refl H1)⟩
/-- f(k = v, ..) -/
theorem ev_callN {sp : Sp} {n m : Nat} {vs zs : List V} {gV : List V → List V → List V} {E : XK} {t tk : TA} (h1 : EvA t σ H vs) (h2 : EvA tk σ H zs) (l1 : vs.length = n) (l2 : zs.length = m) (hs : SpV sp (gV vs zs) H z) : Ev (tCallN n m sp gV E t tk) σ H z := fun H1 e Q q =>
  h1 H1 e _ fun H2 e2 => h2 H2 (e.trans e2) _ fun H3 e3 => ⟨l1, l2, hs H3 ((e.trans e2).trans e3) Q (fun H4 e4 => q H4 ((e2.trans e3).trans e4)) E⟩
/-- two texts alike -/
theorem et_ne {w : Str} (h1 : Ev ta σ H (.str w)) (h2 : Ev tb σ H (.str w)) : EvT (tTest (tOp rNe ta tb)) σ H false := by
  refine et_is (et_test (ev_op h1 h2 (rv_ne rfl))) ?_
  rw [decide_eq_true rfl]
  rfl
end
section
variable {X : Cx}
/-- the same with K by its name (within a comprehension) -/
theorem ix_listK (K : PySem.W.Frag) (h : X.K = K) : IxR X (rIxL K) := h ▸ ix_list
theorem ix_tupK (K : PySem.W.Frag) (h : X.K = K) : IxR X (rIxT K) := h ▸ ix_tup
theorem call_len_seqK (K : PySem.W.Frag) (h : X.K = K) : CallR X (.builtin "len") (rLenS K) := h ▸ call_len_seq
theorem op_eqDK (K : PySem.W.Frag) (h : X.K = K) (hu : X.A.units + 64 < cLine) : OpR X (compareOp .Eq) (rEqD K) := h ▸ op_eqD hu
theorem op_neDK (K : PySem.W.Frag) (h : X.K = K) (hu : X.A.units + 64 < cLine) : OpR X (compareOp .NotEq) (rNeD K) := h ▸ op_neD hu
theorem op_in_seqK (K : PySem.W.Frag) (h : X.K = K) : OpR X (compareOp .In) (rIn K false) := h ▸ op_in_seq
theorem op_notIn_seqK (K : PySem.W.Frag) (h : X.K = K) : OpR X (compareOp .NotIn) (rIn K true) := h ▸ op_notIn_seq
end
end HE
set_option maxHeartbeats 2000000
/-! HX: a caught error that stays known behind its except clause. -/
namespace HX
open PySem PySem.Spec PyProof.Rows L2
/-- at a: an error of the class cls, its dict at d -/
def errO (a : Addr) (cls : Value) (d : Option Addr) : HO := .ext fun h => ∃ oe vs, h.get? a = some oe ∧ Zc cls d oe ∧ oe.data = .fields vs
theorem errO_tup {a : Addr} {cls : Value} {d : Option Addr} {xs : List V} : errO a cls d ≠ .tup xs := fun z => HO.noConfusion z
section
variable {X : Cx} {pins : List (Addr × Obj)} {σ : L2.St} {H : Hp} {s : Shared} {a : Addr} {oe : Obj} {vs : Array Value} {cls : Value} {d : Option Addr}
/-- a pinned error is tracked from now on -/
theorem track (I : Inv X ((a, oe) :: pins) σ H s) (hz : Zc cls d oe) (hd : oe.data = .fields vs) (new : X.s_0.heap.get? a = none) (np : ∀ p ∈ X.pn ++ pins, p.1 ≠ a) : Inv X pins σ (upd H a (errO a cls d)) s := by
  obtain ⟨p1, p2, p3, p4, p5⟩ := I.pin (a, oe) (List.mem_append_right _ List.mem_cons_self)
  have up : ∀ {b : Addr} {o : HO}, H b = some o → upd H a (errO a cls d) b = some o := fun {b o} e => by
    rw [upd_ne (ne_of_none e p2)]
    exact e
  refine { ok := I.ok, os := I.os, bare := I.bare, base := ?_, loc := I.loc, cell := I.cell, free := ?_, freeC := ?_, pin := ?_, hok := ?_, len := I.len }
  · refine ⟨I.base.keep, I.base.slot, fun b o q n hx => ?_, I.base.there, fun b xs q => up (I.base.tups b xs q), fun b o u q => up (I.base.frzs b o u q), fun b ps q => ?_⟩
    · rw [upd_ne (fun z => by rw [z, new] at q; cases q)]
      exact I.base.free b o q n hx
    · obtain ⟨more, e⟩ := I.base.tbls b ps q
      exact ⟨more, up e⟩
  · rw [upd_ne (fun z => p3 z.symm)]
    exact I.free
  · intro y c e
    have nc : c ≠ a := fun z => by
      obtain ⟨v, hv⟩ := I.cell y c e
      rw [z] at hv
      obtain ⟨o, e1, e2⟩ := hv
      rw [p1] at e1
      cases e1
      exact p5 v e2
    rw [upd_ne nc]
    exact I.freeC y c e
  · intro p hp
    have hp' : p ∈ X.pn ++ (a, oe) :: pins := by
      rcases List.mem_append.mp hp with h | h
      · exact List.mem_append_left _ h
      · exact List.mem_append_right _ (List.mem_cons_of_mem _ h)
    obtain ⟨q1, q2, q3, q4, q5⟩ := I.pin p hp'
    exact ⟨q1, by rw [upd_ne (np p hp)]; exact q2, q3, q4, q5⟩
  · intro b u e
    by_cases hb : b = a
    · subst hb
      rw [upd_same] at e
      cases e
      exact ⟨⟨oe, vs, p1, hz, hd⟩, ⟨oe, p1⟩, fun h1 h2 ⟨o2, v2, g1, g2, g3⟩ k => ⟨o2, v2, k _ g1, g2, g3⟩⟩
    · rw [upd_ne hb] at e
      exact (I.hok b u e).stay (fun _ _ _ q => q) (fun _ q => up q) (fun _ _ q => up q)
/-- a tracked error's object -/
theorem err_at (I : Inv X pins σ H s) (e : H a = some (errO a cls d)) : ∃ oe vs, s.heap.get? a = some oe ∧ Zc cls d oe ∧ oe.data = .fields vs := (I.hok a _ e).1
/-- what a clause that keeps its error wishes of an error of the body -/
def wKeep (K : PySem.W.Frag) (c : Value) (i : Nat) (ts : Addr → Value → Option Addr → TS) (D : Ends) : WX := fun cls d σ H =>
  PySem.W.exmOne K cls c = some true ∧ ∀ a, H a = none → ts a cls d { nx := fun σ' H' => H' a = none → D.nx (σ'.set i none) (upd H' a (errO a cls d)), rt := fun _ _ => False, bk := fun _ _ => False, ct := fun _ _ => False } (σ.set i (some (.ref a))) H
/-- try: .. except x as n: suite; every error of the body is an x, and stays known -/
theorem ps_try_keep {x n : Str} {c : Value} {i : Nat} {body suite : List Stmt} {b₀ : Stmt} {np pos pos' : Pos} {tb : WX → TS} {ts : Addr → Value → Option Addr → TS} (hs : X.stack = X.env :: X.outer) (hf : X.env.frame = some X.env.locals) (hex : X.ex = []) (hN : X.N.Nodup)
    (hi : X.N[i]? = some n) (hln : X.env.kindOf n = some .local) (hc : Names X x c)
    (hb : ∀ (W : WX) (pn : List (Addr × Obj)) (xe : Value → Shared → Prop), Takes (X.tr pn xe) W → PassesOwn (model X.prog X.w) X.A X.env xe → PSs (X.tr pn xe) body (tb W))
    (hsu : ∀ (a : Addr) (oe : Obj) (cls : Value) (d : Option Addr) (pn : List (Addr × Obj)), Zc cls d oe → (∃ vs, oe.data = .fields vs) → PSs (X.suite a ((a, oe) :: pn)) (b₀ :: suite) (ts a cls d)) :
    PS X (.Try body [.ExceptHandler (some (.Name x np)) (some n) (b₀ :: suite) pos'] [] [] pos) (fun D σ H => tb (wKeep X.K c i ts D) D σ H) := by
  constructor
  intro pins s σ H D I h
  have ok := I.ok
  have hfr : X.A.frames = some (X.env :: X.outer) := ok.frames.trans (congrArg some hs)
  apply wpAny_Try_except
  refine wpAny_mono ((hb (wKeep X.K c i ts D) (X.pn ++ pins) (fun e s₁ => wpAny (model X.prog X.w) X.A (noteFrame e X.env) (fun _ s₂ => wpAny (model X.prog X.w) X.A (setFlight e none) (fun _ s₃ =>
    wpAny (model X.prog X.w) X.A (handleBy e X.env [.ExceptHandler (some (.Name x np)) (some n) (b₀ :: suite) pos']) (SP X pins D) X.xe s₃) X.xe s₂) X.xe s₁) (fun u s' xx => ?_) PassesOwn.looking).run [] s σ H D (I.toTry _) h) (fun f s1 hsp => ?_) (fun _ _ z => z)
  · obtain ⟨a, B, sI, pins', σ', H', cls, d, rfl, J', nb, up, sky, na, os, ag, hb1, hyes⟩ := xx
    have J : Inv X pins σ' H' sI := J'.ofTry ok
    rw [show (X.tr (X.pn ++ pins) _).stack = X.env :: X.outer from hs] at sky
    show wpAny (model X.prog X.w) X.A (noteFrame (.ref a) X.env) _ _ _
    apply Sky.land Zc.steady hfr hf sky
    intro h3 fl3 up3
    have J3 : Inv X pins σ' H' { s' with heap := h3 } := J.landed nb fl3.1 (up.trans up3) os ag
    obtain ⟨oe3, vs3, he3, hz3, hd3⟩ := fl3.there
    have nfr : a ∉ frs (X.env :: X.outer) := fun hm => by
      obtain ⟨_, o', e', hnf⟩ := fl3.2.2.1.mem hm
      rw [he3] at e'
      cases e'
      exact hnf _ hd3
    have nB : B.get? a = none := fl3.2.1
    have nI : sI.heap.get? a = none := by
      cases q : sI.heap.get? a with
      | none => rfl
      | some o =>
        have z := nb a o q (by rw [show (X.tr (X.pn ++ pins) _).stack = X.env :: X.outer from hs]; exact nfr)
        rw [nB] at z
        cases z
    have new : X.s_0.heap.get? a = none := by
      cases q : X.s_0.heap.get? a with
      | none => rfl
      | some o =>
        obtain ⟨o', z⟩ := J.base.there a o q (by rw [hex]; exact List.not_mem_nil)
        rw [nI] at z
        cases z
    have np' : ∀ p ∈ X.pn ++ pins, p.1 ≠ a := fun p hp z => by
      have y := (J.pin p hp).1
      rw [z, nI] at y
      cases y
    have nL : a ≠ X.env.locals := fun z => nfr (List.mem_filterMap.mpr ⟨X.env, List.mem_cons_self, hf.trans (congrArg some z.symm)⟩)
    have nF : a ∉ X.fs := fun hm => by
      obtain ⟨e, he, q⟩ := List.mem_filterMap.mp hm
      exact nfr (List.mem_filterMap.mpr ⟨e, List.mem_cons_of_mem _ he, q⟩)
    have S3 := J3.suite he3 hd3 na nL nF
    refine wpAny_handleBy_cons (codeAny_handlers_test ?_) (by intro y; cases y)
    have LM := PySem.W.exm_one (M := model X.prog X.w) J3.kIn (fun A Q E s k q => wpAny_typeOf_ref (k _ _ he3) (hz3.1.symm ▸ q) : PySem.W.Looks (model X.prog X.w) h3 (typeOf (.ref a)) cls) hb1
    have tst : ∀ {Q E : Value → Shared → Prop}, Q c { s' with heap := h3 } → wpAny (model X.prog X.w) (X.A.mark (some (.ref a))) (eval (.Name x np) X.env) Q E { s' with heap := h3 } := fun {Q E} q => by
      rcases hc with ⟨g1, g2, g3 | ⟨g3, g4, g5⟩⟩
      · exact ld_glob (X := X.suite a ((a, oe3) :: (X.pn ++ pins))) S3 g1 g3 q g2
      · exact ld_blt (X := X.suite a ((a, oe3) :: (X.pn ++ pins))) S3 g1 g3 g4 q g5 g2
    refine tst (LM.here ?_)
    refine codeAny_handlers_suite_as ?_
    refine HandSPX.lands_againZ fl3 (fun h4 fl4 up4 => ?_)
    have J4 : Inv X pins σ' H' { s' with heap := h4 } := J.landed nb fl4.1 ((up.trans up3).trans up4) os ag
    obtain ⟨oe4, vs4, he4, hz4, hd4⟩ := fl4.there
    refine store_ok (X := X.suite a ((a, oe4) :: (X.pn ++ pins))) (v := .ref a) (J4.suite he4 hd4 na nL nF) hN hi (.inl hln) rfl (fun s5 S5 => ?_) (.inr hln)
    refine wpAny_mono ((hsu a oe4 cls d (X.pn ++ pins) hz4 ⟨_, hd4⟩).run [] s5 _ H' _ S5 (hyes a na)) (fun f s6 hsp => ?_) (fun _ _ z => z.elim)
    cases f with
    | next =>
      obtain ⟨σ6, H6, S6, q6⟩ := hsp
      have n6 : H6 a = none := (S6.pin (a, oe4) (List.mem_append_left _ List.mem_cons_self)).2.1
      have J6 : Inv X ((a, oe4) :: pins) σ6 H6 s6 := ⟨ok, S6.os, S6.bare, S6.base, S6.loc, S6.cell, S6.free, S6.freeC, fun p hp => S6.pin p (by
        rcases List.mem_append.mp hp with m | m
        · exact List.mem_append_left _ (List.mem_cons_of_mem _ (List.mem_append_left _ m))
        · rcases List.mem_cons.mp m with rfl | m
          · exact List.mem_append_left _ List.mem_cons_self
          · exact List.mem_append_left _ (List.mem_cons_of_mem _ (List.mem_append_right _ m))), S6.hok, S6.len⟩
      exact gone_ok J6 hN hi hln (fun s7 J7 => ⟨_, _, track J7 hz4 hd4 new np', q6 n6⟩)
    | brk => exact let ⟨_, _, _, q⟩ := hsp; q.elim
    | cont => exact let ⟨_, _, _, q⟩ := hsp; q.elim
    | ret u => exact let ⟨_, _, _, _, _, q⟩ := hsp; q.elim
  · cases f with
    | next => exact let ⟨σ2, H2, J, q⟩ := hsp; wpAny_execs_nil ⟨σ2, H2, J.ofTry ok, q⟩
    | brk => exact let ⟨σ2, H2, J, q⟩ := hsp; ⟨σ2, H2, J.ofTry ok, q⟩
    | cont => exact let ⟨σ2, H2, J, q⟩ := hsp; ⟨σ2, H2, J.ofTry ok, q⟩
    | ret u => exact let ⟨v, σ2, H2, J, r, q⟩ := hsp; ⟨v, σ2, H2, J.ofTry ok, r, q⟩
/-- what a class of errors must say -/
structure ErrC (K : PySem.W.Frag) (D : Addr) : Prop where
  cl : (PySem.W.clsIn K D).isSome = true
  ga : PySem.W.findIn K (.ref D) "__getattribute__" = some (some (.builtin "BaseException.__getattribute__"))
  gg : PySem.W.findIn K (.ref D) "__getattr__" = some none
  ex : PySem.W.subIn K (.ref D) (.type "BaseException") = some true
  hd : PySem.W.hasDictIn K D = true
  hc : PySem.W.findIn K (.ref D) "__class__" = some (some (.builtin "object.__class__"))
  gs : PySem.W.specialIn K (.builtin "object.__class__") "__get__" = some (some (.builtin "getset_descriptor.__get__"))
  tk : PySem.W.takesIn K (.builtin "object.__class__") = some true
  ob : PySem.W.mroIn K D (.type "object") = some true
/-- the error at a as an instance of its class -/
theorem err_inst {D dd : Addr} {fs : List (Str × V)} (I : Inv X pins σ H s) (e : H a = some (errO a (.ref D) (some dd))) (ed : H dd = some (.xd fs)) :
    ∃ (ox od : Obj) (mA : Str → Option Value), PySem.W.InstAt s.heap a ox D (some od) ∧ (∀ f, RelO (fs.lookup f) (mA f)) ∧ ∀ y, PySem.W.lookIn y od = some (mA y) := by
  obtain ⟨ox, vs, h1, h2, h3⟩ := err_at I e
  obtain ⟨mA, hns, hr⟩ := (show ObjOk X.prog X.w H s.heap dd (.xd fs) from I.hok dd _ ed)
  obtain ⟨od, ho, hl⟩ := lookIn_ns hns
  exact ⟨ox, od, mA, ⟨h1, h2.1, by unfold PySem.W.notCls; rw [h3] <;> rfl, by rw [h2.2]; exact ho⟩, hr, hl⟩
/-- isinstance(caught, c) -/
def rIsX (K : PySem.W.Frag) : List V → Hp → VK → Prop := fun xs H Q => ∃ (a D dd : Addr) (fs : List (Str × V)) (c : V) (cv : Value) (b : Bool), xs = [.ref a, c] ∧ H a = some (errO a (.ref D) (some dd)) ∧ H dd = some (.xd fs) ∧ ErrC K D ∧ ClsV c cv ∧ PySem.W.kitOne K (.ref D) cv = some b ∧ Q (.bl b) H
def rIsU (K : PySem.W.Frag) : List V → Hp → VK → Prop := fun xs H Q => rIsi K xs H Q ∨ rIsX K xs H Q
theorem call_isU : CallR X (.builtin "isinstance") (rIsU X.K) := by
  intro pins s σ H xs us Q I r h
  rcases h with h | h
  · exact call_isi pins s σ H xs us Q I r h
  · obtain ⟨a, D, dd, fs, c, cv, b, rfl, e, ed, C, hc, hk, q⟩ := h
    obtain ⟨u1, u2, rfl, r1, r2⟩ := vals2 r
    cases (show u1 = Value.ref a from r1)
    cases hc.eq r2
    obtain ⟨ox, od, mA, J, _, _⟩ := err_inst I e ed
    exact PySem.W.kia_one (PySem.W.kitx_exc C.cl C.ga C.gg C.ex C.hc C.gs C.tk C.ob) I.kIn J hk (fun z => nomatch z) (fun tk => ⟨.bl b, H, I.tok tk, rfl, q⟩)
/-- caught.n -/
def tErr (K : PySem.W.Frag) (n : Str) (te : TE) : TE := fun σ H Q => te σ H fun x H1 => ∃ (a D dd : Addr) (fs : List (Str × V)) (v : V), x = .ref a ∧ H1 a = some (errO a (.ref D) (some dd)) ∧ H1 dd = some (.xd fs) ∧ ErrC K D ∧ PySem.W.findIn K (.ref D) n = some none ∧ fs.lookup n = some v ∧ Q v H1
theorem pe_err {e : Expr} {te : TE} {n : Str} {pos : Pos} (he : PE X e te) (hb : attributeBase e n X.env (eval e X.env) = eval e X.env := by rfl) : PE X (.Attribute e n pos) (tErr X.K n te) := by
  constructor
  intro pins s σ H Q I h
  refine attr_of hb (thn (he.run pins s σ H _ I h) (fun u s1 z => ?_))
  obtain ⟨x, H1, I1, rx, a, D, dd, fs, v, rfl, e1, e2, C, hn, l, q⟩ := z
  cases (show u = Value.ref a from rx)
  obtain ⟨ox, od, mA, J, hr, hl⟩ := err_inst I1 e1 e2
  obtain ⟨u2, hu, ru⟩ := RelO.some_of (v := v) (o := mA n) (by rw [← l]; exact hr n)
  exact HandSPX.exc_get I1.kIn J C.ga C.gg C.ex (PySem.W.findObj_own C.hd hn rfl (by rw [hl, hu])) (handed_of ru) ⟨v, H1, I1.tok _, ru, q⟩
end
/-- what an error's __init__ with the one field part promises -/
def spPart (C : Addr) : Sp := fun vs H Q _ => ∃ a v, vs = [.ref a, v] ∧ H a = some (exo a C none) ∧ ∀ dx, H dx = none → dx ≠ a → Q .non (upd (upd H dx (exd dx [("part", v)])) a (exo a C (some dx)))
/-- a class of errors with the one field part, as the top left it -/
structure Er (P : Program) (w : World) (K : PySem.W.Frag) (mg : Str → Option Value) (base : Heap) (x : Str) where
  C : Addr
  fI : Addr
  fd : FuncData
  oex : OexC K C
  ini : PySem.W.findIn K (.ref C) "__init__" = some (some (.ref fI))
  tyI : PySem.W.typeIn K (.ref fI) = some (.type "function")
  ok : FnOk P w K mg base CX0 1 fI fd ["self", "part"] (spPart C)
  b : Binds K fd ["self", "part"] []
  m : mg x = some (.ref C)
  no : PySem.W.findIn K (.ref C) "part" = some none
  err : ErrC K C
/-- an error of the class C with this part reaches E -/
def Told (E : Value → Option Addr → Hp → Prop) (C : Addr) (H : Hp) (v : V) : Prop := ∀ d H', (∀ p o, H p = some o → H' p = some o) → H d = none → H' d = some (.xd [("part", v)]) → E (.ref C) (some d) H'
theorem raise_go {E : XK} {C : Addr} {H : Hp} {v : V} (h : Told E C H v) : [v].length ≤ 1000 ∧ ∀ a, H a = none → spPart C (.ref a :: ([v] ++ [])) (upd H a (exo a C none))
    (fun u H2 => u = .non ∧ ∃ (d : Addr) (fs : List (Str × V)), H2 a = some (exo a C (some d)) ∧ H2 d = some (exd d fs) ∧ H d = none ∧ E (.ref C) (some d) (upd (del H2 a) d (.xd fs))) (fun _ _ _ => False) := by
  refine ⟨by show 1 ≤ 1000; decide, fun a na => ⟨a, v, rfl, upd_same, fun dx nd ne => ⟨rfl, dx, [("part", v)], upd_same, ?_, ?_, ?_⟩⟩⟩
  · rw [upd_ne ne, upd_same]
  · rw [upd_ne ne] at nd
    exact nd
  · have nd' : H dx = none := by rw [upd_ne ne] at nd; exact nd
    refine h dx _ (fun p o e => ?_) nd' upd_same
    have h1 : p ≠ dx := ne_of_none e nd'
    have h2 : p ≠ a := ne_of_none e na
    rw [upd_ne h1, del_ne h2, upd_ne h2, upd_ne h1, upd_ne h2]
    exact e
section
variable {X : Cx} {x : Str} {p pos pos' : Pos} {e : Expr} {te : TE} {k : Nat} {W : WX}
theorem ps_raise_er (T : Er X.prog X.w X.K X.mg X.base x) (hr : Room k X.A) (tk : Takes X W) (he : PE X e te) (hk : 2 ≤ k := by decide) (hc : X.calm = true := by rfl) (hg : Gl X x := by rfl) (n1 : (x == ("__debug__" : Str)) = false := by decide)
    (n2 : starEach [e] X.env = (false, eval e X.env) :: starEach [] X.env := by rfl) : PS X (.Raise (some (.Call (.Name x p) [e] [] pos)) none pos') (fun _ σ H => tMkO T.C (spPart T.C) [] (tCons te tNil) σ H fun cls d H' => W cls d σ H') :=
  ps_raise (pos := pos') hc tk (pmk_oex (pos := pos) (p := p) T.oex T.ini T.tyI T.ok (hr.mono hk) T.b .nil HG.p0 hg T.m (pa_cons he pa_nil n2) n1 n2 (by rfl))
end
end HX
/-! HY: an own class of errors with the one field part, from its row of facts. -/
namespace HX
open PySem PySem.Spec PyProof.Rows L2
theorem exm_of {K : PySem.W.Frag} {C S : Addr} (h1 : PySem.W.subIn K (.ref S) (.type "BaseException") = some true) (h2 : PySem.W.isClsIn K S = true) (h3 : PySem.W.typeIn K (.ref S) = some (.type "type")) (h4 : PySem.W.subIn K (.ref C) (.ref S) = some true) :
    PySem.W.exmOne K (.ref C) (.ref S) = some true := by
  have e1 : (PySem.W.subIn K (.ref S) (.type "BaseException") == some true) = true := by rw [h1] <;> rfl
  have e2 : ((PySem.W.clsIn K S).isSome && PySem.W.typeIn K (.ref S) == some (.type "type")) = true := by
    have h2' : (PySem.W.clsIn K S).isSome = true := h2
    rw [h2', h3] <;> rfl
  show (if (PySem.W.subIn K (.ref S) (.type "BaseException") == some true) = true then (if ((PySem.W.clsIn K S).isSome && PySem.W.typeIn K (.ref S) == some (.type "type")) = true then PySem.W.subIn K (.ref C) (.ref S) else none) else none) = some true
  rw [if_pos e1, if_pos e2]
  exact h4
theorem kit_self {K : PySem.W.Frag} {C : Addr} : PySem.W.kitOne K (.ref C) (.ref C) = some true := if_pos (beq_self_eq_true _)
/-- what k_is tells of the class -/
structure Row (K : PySem.W.Frag) (C fI : Addr) : Prop where
  cls : ∃ nm q N bs bm sn sub ab col dd k0 k1 k2 k3 k5, K.lookup C = some (excClassObj nm q C N bs bm true sn sub ab col dd k0 k1 k2 k3 k5 "ValueError.__new__") ∧ PySem.HandSPX.refsVE bm = true
  sa : PySem.W.findIn K (.ref C) "__setattr__" = some (some (.builtin "object.__setattr__"))
  ga : PySem.W.findIn K (.ref C) "__getattribute__" = some (some (.builtin "BaseException.__getattribute__"))
  gg : PySem.W.findIn K (.ref C) "__getattr__" = some none
  hc : PySem.W.findIn K (.ref C) "__class__" = some (some (.builtin "object.__class__"))
  no : PySem.W.findIn K (.ref C) "part" = some none
  ini : PySem.W.findIn K (.ref C) "__init__" = some (some (.ref fI))
  tyI : PySem.W.typeIn K (.ref fI) = some (.type "function")
  exC : PySem.W.subIn K (.ref C) (.type "BaseException") = some true
  tyC : PySem.W.typeIn K (.ref C) = some (.type "type")
  kC : PySem.W.keepIn K (.ref C) = true
  hd : PySem.W.hasDictIn K C = true
  cl : PySem.W.isClsIn K C = true
  ob : PySem.W.subIn K (.ref C) (.type "object") = some true
  gs : PySem.W.specialIn K (.builtin "object.__class__") "__get__" = some (some (.builtin "getset_descriptor.__get__"))
  tk : PySem.W.takesIn K (.builtin "object.__class__") = some true
theorem Row.err {K : PySem.W.Frag} {C fI : Addr} (R : Row K C fI) : ErrC K C := ⟨R.cl, R.ga, R.gg, R.exC, R.hd, R.hc, R.gs, R.tk, R.ob⟩
theorem Row.oex {K : PySem.W.Frag} {C fI : Addr} (R : Row K C fI) : OexC K C := ⟨R.cls, R.sa, R.exC, R.tyC, R.kC⟩
def Row.er {P : Program} {w : World} {K : PySem.W.Frag} {mg : Str → Option Value} {base : Heap} {x : Str} {C fI : Addr} {fd : FuncData} (R : Row K C fI) (m : mg x = some (.ref C)) (b : Binds K fd ["self", "part"] []) (ok : FnOk P w K mg base CX0 1 fI fd ["self", "part"] (spPart C)) : Er P w K mg base x :=
  ⟨C, fI, fd, R.oex, R.ini, R.tyI, ok, b, m, R.no, R.err⟩
end HX
/-! HR: values, heaps that grow, comprehensions over them, texts of few signs. -/
namespace HR
open PySem PySem.Spec PyProof.Rows L2 SX
/-! ### values -/
def IsI (K : PySem.W.Frag) (H : Hp) (v : V) (r : Bool) : Prop := ∃ t b1 b2, TyX K H v t ∧ PySem.W.kitOne K t (.type "int") = some b1 ∧ PySem.W.kitOne K t (.type "bool") = some b2 ∧ r = (b1 && !b2)
/-- an int, None, a bool, a text, a list, a tuple, a dict -/
def PV (H : Hp) (v : V) : Prop := (∃ i, v = .int i) ∨ v = .non ∨ (∃ b, v = .bl b) ∨ (∃ x, v = .str x) ∨ ∃ p, v = .ref p ∧ HD.Box H p
def Grow (H H' : Hp) : Prop := ∀ p o, H p = some o → H' p = some o
theorem Grow.new {H : Hp} {p : Addr} {o : HO} (n : H p = none) : Grow H (upd H p o) := fun q u e => HD.stay n e
theorem Grow.trans {H H1 H2 : Hp} (a : Grow H H1) (b : Grow H1 H2) : Grow H H2 := fun p o e => b p o (a p o e)
theorem PV.grow {H H' : Hp} {v : V} (a : PV H v) (k : Grow H H') : PV H' v := by
  rcases a with a | a | a | a | ⟨p, e, ⟨x, h⟩ | ⟨x, h⟩ | ⟨x, h⟩⟩
  · exact .inl a
  · exact .inr (.inl a)
  · exact .inr (.inr (.inl a))
  · exact .inr (.inr (.inr (.inl a)))
  · exact .inr (.inr (.inr (.inr ⟨p, e, .inl ⟨x, k _ _ h⟩⟩)))
  · exact .inr (.inr (.inr (.inr ⟨p, e, .inr (.inl ⟨x, k _ _ h⟩)⟩)))
  · exact .inr (.inr (.inr (.inr ⟨p, e, .inr (.inr ⟨x, k _ _ h⟩)⟩)))
def isIntV : V → Bool
  | .int _ => true
  | _ => false
theorem isI_of {K : PySem.W.Frag} {H : Hp} {v : V} (a : PV H v) : IsI K H v (isIntV v) := by
  rcases a with ⟨i, rfl⟩ | rfl | ⟨b, rfl⟩ | ⟨x, rfl⟩ | ⟨p, rfl, ⟨x, h⟩ | ⟨x, h⟩ | ⟨x, h⟩⟩
  · exact ⟨_, true, false, .base (.int i), kit_ty (by decide +kernel), kit_ty (by decide +kernel), rfl⟩
  · exact ⟨_, false, false, .base .non, kit_ty (by decide +kernel), kit_ty (by decide +kernel), rfl⟩
  · exact ⟨_, true, true, .base (.bl b), kit_ty (by decide +kernel), kit_ty (by decide +kernel), rfl⟩
  · exact ⟨_, false, false, .base (.str x), kit_ty (by decide +kernel), kit_ty (by decide +kernel), rfl⟩
  · exact ⟨_, false, false, .base (.lst h), kit_ty (by decide +kernel), kit_ty (by decide +kernel), rfl⟩
  · exact ⟨_, false, false, .base (.tup h), kit_ty (by decide +kernel), kit_ty (by decide +kernel), rfl⟩
  · exact ⟨_, false, false, .base (.dK h), kit_ty (by decide +kernel), kit_ty (by decide +kernel), rfl⟩
/-- a list or a tuple -/
def SeqV (H : Hp) (v : V) : Prop := ∃ p xs, v = .ref p ∧ (H p = some (.lst xs) ∨ H p = some (.tup xs))
theorem seq_or {H : Hp} {v : V} (a : PV H v) : SeqV H v ∨ ¬ SeqV H v := Classical.em _
theorem kit_seq {K : PySem.W.Frag} {H : Hp} {v : V} (a : PV H v) : ∃ t b, TyX K H v t ∧ PySem.W.kitAny K t [.type "list", .type "tuple"] = some b ∧ (b = true ↔ SeqV H v) := by
  have no : ∀ {t : Value}, PySem.W.kitOne K t (.type "list") = some false → PySem.W.kitOne K t (.type "tuple") = some false → PySem.W.kitAny K t [.type "list", .type "tuple"] = some false := fun h1 h2 =>
    kitAny_cons h1 (fun _ => kitAny_cons h2 (fun _ => rfl) (fun z => nomatch z)) (fun z => nomatch z)
  rcases a with ⟨i, rfl⟩ | rfl | ⟨b, rfl⟩ | ⟨x, rfl⟩ | ⟨p, rfl, ⟨x, h⟩ | ⟨x, h⟩ | ⟨x, h⟩⟩
  · exact ⟨_, false, .base (.int i), no (kit_ty (by decide +kernel)) (kit_ty (by decide +kernel)), ⟨fun z => (nomatch z), fun ⟨_, _, e, _⟩ => (nomatch e)⟩⟩
  · exact ⟨_, false, .base .non, no (kit_ty (by decide +kernel)) (kit_ty (by decide +kernel)), ⟨fun z => (nomatch z), fun ⟨_, _, e, _⟩ => (nomatch e)⟩⟩
  · exact ⟨_, false, .base (.bl b), no (kit_ty (by decide +kernel)) (kit_ty (by decide +kernel)), ⟨fun z => (nomatch z), fun ⟨_, _, e, _⟩ => (nomatch e)⟩⟩
  · exact ⟨_, false, .base (.str x), no (kit_ty (by decide +kernel)) (kit_ty (by decide +kernel)), ⟨fun z => (nomatch z), fun ⟨_, _, e, _⟩ => (nomatch e)⟩⟩
  · exact ⟨_, true, .base (.lst h), kitAny_cons (kit_ty (r := true) (by decide +kernel)) (fun z => nomatch z) (fun _ => rfl), ⟨fun _ => ⟨p, x, rfl, .inl h⟩, fun _ => rfl⟩⟩
  · exact ⟨_, true, .base (.tup h), kitAny_cons (kit_ty (r := false) (by decide +kernel)) (fun _ => kitAny_cons (kit_ty (r := true) (by decide +kernel)) (fun z => nomatch z) (fun _ => rfl)) (fun z => nomatch z), ⟨fun _ => ⟨p, x, rfl, .inr h⟩, fun _ => rfl⟩⟩
  · refine ⟨_, false, .base (.dK h), no (kit_ty (by decide +kernel)) (kit_ty (by decide +kernel)), ⟨fun z => (nomatch z), fun ⟨q, _, e, h2⟩ => ?_⟩⟩
    cases e
    rw [h] at h2
    rcases h2 with h2 | h2 <;> cases h2

theorem Grow.refl {H : Hp} : Grow H H := fun _ _ h => h
/-- the list at D holds the first i of f; all that was stays -/
def LcI (H1 : Hp) (D : Addr) (f : List V) (i : Nat) (H : Hp) : Prop := Grow H1 H ∧ H D = some (.lst (f.take i))
theorem lc_start {H1 : Hp} {D : Addr} {f : List V} (n : H1 D = none) : LcI H1 D f 0 (upd H1 D (.lst [])) := ⟨Grow.new n, upd_same⟩
theorem lc_fin {H1 H H4 : Hp} {D : Addr} {f : List V} {i : Nat} {y : V} (n : H1 D = none) (a : LcI H1 D f i H) (g : Grow H H4) (hy : f[i]? = some y) (hl : f.length ≤ 1000) :
    ∃ acc, H4 D = some (.lst acc) ∧ acc.length < sizeLine ∧ LcI H1 D f (i + 1) (upd H4 D (.lst (acc ++ [y]))) := by
  refine ⟨_, g _ _ a.2, ?_, fun q o e => ?_, ?_⟩
  · rw [List.length_take]
    exact small1000 (by omega)
  · rw [upd_ne (ne_of_none e n)]
    exact g _ _ (a.1 q o e)
  · rw [upd_same]
    rw [HD.take_snoc hy]
theorem lc_end {H1 H : Hp} {D : Addr} {f : List V} {i : Nat} (a : LcI H1 D f i H) (h : f.length ≤ i) : Grow H1 H ∧ H D = some (.lst f) := by
  refine ⟨a.1, ?_⟩
  have e := a.2
  rw [List.take_of_length_le h] at e
  exact e
section
variable {X : Cx}
/-- text * k -/
theorem op_mul_str : OpR X (binaryOp .Mult) (fun x y H Q => ∃ z k, x = .str z ∧ y = .int k ∧ MulOk z k ∧ Q (.str (Txt.mul z k)) H) := by
  intro pins s σ H x y v u Q I rx ry h
  obtain ⟨z, k, rfl, rfl, hz, q⟩ := h
  obtain ⟨t, rfl⟩ := rx
  obtain ⟨t', rfl⟩ := ry
  exact SB.mul hz fun t' tk => ⟨.str _, H, I.tok _, ⟨_, rfl⟩, q⟩
end
theorem mul_ok {c : Nat} {k : Nat} (h : k ≤ 1000) : MulOk (S [c]) (k : Int) := by
  have e : (S [c]).length = 1 := rfl
  refine ⟨by rw [Bool.or_eq_false_iff]; exact ⟨decide_eq_false (by omega), decide_eq_false (by omega)⟩, fun h1 _ => ?_, fun _ _ => ?_⟩
  · rw [e]
    have : (2 ^ 63 - 1 : Int) / (k : Int) ≥ 1 := Int.le_ediv_of_mul_le (by omega) (by omega)
    show ¬ ((1 : Int) > _)
    omega
  · rw [e]
    show PySem.Builtin.Str.tooLong (1 * ((k : Int)).toNat) = false
    exact decide_eq_false (by rw [Int.toNat_natCast, Nat.one_mul]; have := sizeLine_eq; omega)
theorem fold_cat : ∀ (n : Nat) (c : Nat) (a : Array Nat), (List.replicate n #[c]).foldl (· ++ ·) a = a ++ (List.replicate n c).toArray
  | 0, c, a => by simp
  | n + 1, c, a => by
    rw [List.replicate_succ, List.foldl_cons, fold_cat n c (a ++ #[c]), List.replicate_succ]
    apply Array.ext'
    simp
theorem mul_S {c : Nat} (k : Nat) : Txt.mul (S [c]) (k : Int) = S (List.replicate k c) := by
  unfold Txt.mul
  by_cases h : (k : Int) < 1
  · rw [if_pos h]
    have e : k = 0 := by omega
    subst e
    rfl
  · rw [if_neg h]
    by_cases h1 : k = 1
    · subst h1
      rfl
    · have e : ((k : Int) == 1 || (S [c]).length == 0) = false := by
        have e1 : (S [c]).length = 1 := rfl
        rw [e1]
        simp
        omega
      rw [if_neg (by rw [e]; exact Bool.false_ne_true), Int.toNat_natCast]
      show (⟨(List.replicate k #[c]).foldl (· ++ ·) #[]⟩ : Str) = S (List.replicate k c)
      rw [fold_cat]
      simp [S]
end HR
set_option maxHeartbeats 4000000
/-! HC: a set of ints, told by a comprehension; its len. -/
namespace HC
open PySem PySem.Spec PyProof.Rows L2 HR PpSet
section
variable {X : Cx} {elt tg iter : Expr} {ifs : List Expr} {scope : Scope} {own : List (Str × Nat)} {pos : Pos} {wi : TI} {g : TG} {tt : TT} {te : TE} {Q : VK} {σ : L2.St} {pins : List (Addr × Obj)}
/-- the turns of a comprehension that adds ints to the set D -/
def Turns (w : World) (J : It) (D : Addr) (Q : VK) (g : TG) (tt : TT) (te : TE) (vs : List Nat) (σ : L2.St) (W : Nat → Nat → Hp → Prop) : Prop := ∀ i m H', W i m H' → (J.stop i H' ∧ Q (.ref D) H') ∨
    (J.go i H' ∧ ∃ Go : Hp → Prop, (∀ H2, Go H2 → ∃ m2, m2 < m ∧ W (i + 1) m2 H2) ∧ ∀ x H2, J.yld i H' x H2 → g x (wipe σ vs) H2 fun σ3 H3 => wipe σ3 vs = wipe σ vs ∧
      tt σ3 H3 fun b H4 => if b = true then te σ3 H4 fun y H5 => rSAdd w (.ref D) [y] H5 fun _ H6 => Go H6 else Go H4)
/-- {e for .. in ..}, each e an int: D is the new set -/
def tSetC (w : World) (wi : TI) (g : TG) (tt : TT) (te : TE) (vs : List Nat) : TE := fun σ H Q => wi σ H fun J H1 => ∀ D, H1 D = none → ∃ W : Nat → Nat → Hp → Prop, (∃ m, W 0 m (upd H1 D (SetO w D (fun _ => false) 0))) ∧ Turns w J D Q g tt te vs σ W
theorem set_loop {fp : List Addr} {s3 s4 : Shared} {H3 : Hp} {D ia : Addr} {ce : Env} {J : It} {tn : Nat → Heap → Prop} {W : Nat → Nat → Hp → Prop} {m0 : Nat} {R : Result → Shared → Prop} (calm : X.calm = true) (loc : ce.locals = s3.heap.objs.size)
    (I3 : Inv X pins σ H3 s3) (T : Turn X.prog X.w X.K tg J fp ia tn) (free : ∀ b ∈ fp, FpOk X pins H3 b) (I4 : Inv (X.blk s3 H3 scope ce fp) [] (wipe σ (own.map (·.2))) H3 s4) (t4 : tn 0 s4.heap) (w0 : W 0 m0 H3) (turn : Turns X.w J D Q g tt te (own.map (·.2)) σ W)
    (pg : PG (X.blk s3 H3 scope ce fp) tg g) (pt : PTs (X.blk s3 H3 scope ce fp) ifs tt) (pe : PE (X.blk s3 H3 scope ce fp) elt te)
    (done : ∀ s' m H', Inv X pins σ H' s' → Q (.ref D) H' → s'.heap.Ns s3.heap.objs.size m → FpOk X pins H' s3.heap.objs.size → R (.ok .next) s') :
    codeAny (model X.prog X.w) X.A (.compLoop (.SetComp elt [⟨tg, iter, ifs, 0⟩] scope pos) 0 (.ref ia) (.ref D) ce) R s4 := by
  -- the iterator's own objects stay loose within the block
  have loose : ∀ (σ' : L2.St) (H' : Hp) (s' : Shared), Inv (X.blk s3 H3 scope ce fp) [] σ' H' s' → (∀ b ∈ fp, H' b = none) → ∀ b ∈ fp, FpOk (X.blk s3 H3 scope ce fp) [] H' b := by
    intro σ' H' s' I' no b hb
    have e1 := I'.ok.exf b hb
    refine ⟨no b hb, e1.1, I'.ok.exfs b hb, .inl hb, e1.2, ?_⟩
    intro p hp
    exact absurd (show p ∈ ([] : List (Addr × Obj)) ++ [] from hp) List.not_mem_nil
  have none3 : ∀ b ∈ fp, H3 b = none := fun b hb => (free b hb).1
  apply compLoopS_any (fun n s' => ∃ i H', Inv (X.blk s3 H3 scope ce fp) [] (wipe σ (own.map (·.2))) H' s' ∧ tn i s'.heap ∧ (∀ b ∈ fp, H' b = none) ∧ W i n H') _ m0 ⟨0, H3, I4, t4, none3, w0⟩
  intro n s5 z
  obtain ⟨i, H5, I5, t5, no5, w5⟩ := z
  cases turn i n H5 w5 with
  | inl a =>
    apply thnF (T.done (X.blk s3 H3 scope ce fp) rfl rfl rfl calm i [] s5 _ H5 (fun _ _ => False) I5 (loose _ _ _ I5 no5) t5 a.1)
    rintro _ s6 ⟨rfl, I6⟩
    obtain ⟨m, ns, _⟩ := I6.loc
    have ns' : s6.heap.Ns ce.locals m := ns
    have lo : H5 ce.locals = none := I6.free
    rw [loc] at ns' lo
    have back : Inv X pins σ H5 s6 := I3.call' (ch := fp) I6.os I6.base I6.hok I6.bare fun b hb => let f := free b hb; ⟨f.2.2.2.1, f.2.1, f.2.2.2.2.1, f.2.2.2.2.2⟩
    exact done s6 m H5 back a.2 ns' (I3.fpOk (Nat.le_refl _) lo)
  | inr a =>
    obtain ⟨go, Go, less, step⟩ := a
    apply thnF (T.item (X.blk s3 H3 scope ce fp) rfl rfl rfl calm i [] s5 _ H5 (fun _ _ => False) I5 (loose _ _ _ I5 no5) t5 go)
    rintro _ s6 ⟨u, rfl, h6⟩
    apply thnF h6
    rintro _ s7 ⟨x, H7, I7, r7, y7, t7, no7⟩
    have there := T.obj _ _ t7
    apply thnF (pg.run _ s7 _ H7 x u _ (I7.pinned (loose _ _ _ I7 no7) there) r7 (step x H7 y7))
    rintro _ s8 ⟨σ8, H8, I8, wp, q8⟩
    apply thnF (pt.run _ s8 σ8 H8 _ I8 q8)
    rintro b s9 ⟨H9, I9, q9⟩
    -- at the turn's end the block is as at its begin
    have next : ∀ (s' : Shared) (H' : Hp), Inv (X.blk s3 H3 scope ce fp) ([] ++ pinsAt fp s7.heap) σ8 H' s' → Go H' → ∃ m, m < n ∧ ∃ i H', Inv (X.blk s3 H3 scope ce fp) [] (wipe σ (own.map (·.2))) H' s' ∧ tn i s'.heap ∧ (∀ b ∈ fp, H' b = none) ∧ W i m H' := by
      intro s' H' I' hg
      obtain ⟨m2, lt, w2⟩ := less H' hg
      have pinned : ∀ b ∈ fp, ∀ o, s7.heap.get? b = some o → s'.heap.get? b = some o ∧ H' b = none := by
        intro b hb o e
        have p := I'.pin (b, o) (List.mem_append_right _ (List.mem_append_right _ (mem_pinsAt hb e)))
        exact ⟨p.1, p.2.1⟩
      have len : (wipe σ (own.map (·.2))).length = σ8.length := by
        rw [← wp, wipe_length]
      have I2 := (I'.unpinned (pins := [])).weak len fun j v e => by
        rw [← wp] at e
        exact (wipe_some e).1
      refine ⟨m2, lt, i + 1, H', I2, ?_, ?_, w2⟩
      · apply T.keep _ _ _ t7
        intro b hb o e
        exact (pinned b hb o e).1
      · intro b hb
        obtain ⟨o, e, _⟩ := there b hb
        exact (pinned b hb o e).2
    cases b with
    | false => exact next s9 H9 I9 q9
    | true =>
      show wpAny _ _ _ _ _ _
      apply thnF (pe.run _ s9 σ8 H9 _ I9 q9)
      rintro z s10 ⟨v, H10, I10, r10, qa⟩
      refine thnF (mt_sadd (X := X.blk s3 H3 scope ce fp) _ s10 σ8 H10 (.ref D) [v] (.ref D) [z] _ I10 rfl (.cons r10 .nil) qa) ?_
      rintro _ s11 ⟨_, H11, I11, _, q11⟩
      exact next s11 H11 I11 q11
theorem pe_setC (calm : X.calm = true) (nd : X.N.Nodup) (it : PI X tg iter wi) (B : BlkOk X.N X.env.scope scope own)
    (pg : ∀ s H C cl fp, PG (X.blk s H scope (compEnvC scope cl C X.env) fp) tg g) (pt : ∀ s H C cl fp, PTs (X.blk s H scope (compEnvC scope cl C X.env) fp) ifs tt) (pe : ∀ s H C cl fp, PE (X.blk s H scope (compEnvC scope cl C X.env) fp) elt te)
    (fold : ∀ x, foldedSetIterable iter X.env x = pure x := by intro _; rfl) : PE X (.SetComp elt [⟨tg, iter, ifs, 0⟩] scope pos) (tSetC X.w wi g tt te (own.map (·.2))) := by
  constructor
  intro pins s σ H Q I want
  have cells : ∀ y ∈ scope.names, y.2 = .free → ∃ c, X.env.cells.lookup y.1 = some c := fun y hy e => (B.free y hy e).elim (fun k => I.ok.has _ (.inl k)) fun k => I.ok.has _ (.inr k)
  have first := it.run pins s σ H _ I want
  rw [eval_SetComp]
  apply wpAny_comprehension_free (use := none) (cl := cloFrom X.env.cells scope.names []) rfl fold (closure_ok cells) B.kind (fun y hy e => by rw [B.uniq y hy, e])
  refine thn first fun xv s1 hx => thn hx fun itv s2 z => ?_
  obtain ⟨ia, fp, tn, J, H1, rfl, I1, T, t1, f1, q⟩ := z
  apply newSet_ok
  apply newEnv_comp
  obtain ⟨W, ⟨m0, w0⟩, turn⟩ := q s2.heap.objs.size (I1.hok.fresh (Nat.le_refl _))
  have small : ∀ b ∈ fp, b < s2.heap.objs.size := fun b hb => by
    obtain ⟨o, e, _⟩ := T.obj _ _ t1 b hb
    exact Heap.lt_size e
  have I3 : Inv X pins σ (upd H1 s2.heap.objs.size (SetO X.w s2.heap.objs.size (fun _ => false) 0)) { s2 with heap := s2.heap.push { cls := .type "set", dict := none, data := .set #[] 0 (.fresh 0 0 (!X.w.params.followText "set-order")) } } :=
    I1.laid (t' := s2.toks) (fun b o e => Heap.get?_push_of_some _ e) (Nat.le_refl _) (setO_new (setR_fresh X.w))
  have f3 : ∀ b ∈ fp, FpOk X pins (upd H1 s2.heap.objs.size (SetO X.w s2.heap.objs.size (fun _ => false) 0)) b := fun b hb => by
    have f := f1 b hb
    exact ⟨by rw [upd_ne (Nat.ne_of_lt (small b hb))]; exact f.1, f.2⟩
  have I4 := block_start I3 B nd fun b hb => ⟨f3 b hb, by rw [Heap.size_push]; exact Nat.lt_succ_of_lt (small b hb)⟩
  have t3 : tn 0 (s2.heap.push { cls := .type "set", dict := none, data := .set #[] 0 (.fresh 0 0 (!X.w.params.followText "set-order")) }) := T.keep _ _ _ t1 fun b _ o e => Heap.get?_push_of_some _ e
  have t4 := T.keep _ _ (pushCells ((s2.heap.push { cls := .type "set", dict := none, data := .set #[] 0 (.fresh 0 0 (!X.w.params.followText "set-order")) }).push { cls := .type "dict", data := .dict #[] }) scope.names) t3 fun b _ o e => pushCells_keeps _ _ _ _ (Heap.get?_push_of_some _ e)
  have whole := set_loop (ifs := ifs) (pos := pos) (iter := iter) (m0 := m0) (R := compPost (model X.prog X.w) X.A X.xe none (EP X pins σ Q) (.ref s2.heap.objs.size) _) calm rfl I3 T f3 I4 t4 w0 turn (pg _ _ _ _ _) (pt _ _ _ _ _) (pe _ _ _ _ _) fun s' m H' I' q' ns f => ⟨m, ns, fun h2 same => by
      obtain ⟨k0, k1, k2, k3, k4, k5⟩ := f
      exact ⟨.ref s2.heap.objs.size, H', I'.turned (t' := s'.toks) (fun b o hb e => (same.2 b hb).trans e) k0 k1 k3 k4 k5, rfl, q'⟩⟩
  exact codeAny_compStart_set whole (T.self X.A 0 _ _ _ t4 whole)
/-- len of such a set -/
theorem call_lenC : CallR X (.builtin "len") (fun xs H Q => ∃ a S n, xs = [.ref a] ∧ H a = some (SetO X.w a S n) ∧ n ≤ sizeLine ∧ Q (.int (n : Nat)) H) := by
  intro pins s σ H xs us Q I r h
  obtain ⟨a, S, n, rfl, ha, hn, q⟩ := h
  obtain ⟨u, rfl, r1⟩ := vals1 r
  cases (show u = Value.ref a from r1)
  obtain ⟨o, es, ep, t, ho, hex, hd, _, _, _, _, hf, hs, _, _⟩ := setO_get I ha
  have sz := sizeLine_eq
  exact call_len_set ho hex hd hf (by rw [hs]; omega) ⟨.int (n : Nat), H, I.tok _, ⟨_, by rw [hs]⟩, q⟩
end
end HC
/-! zip of two and of three texts -/
namespace HZ
open PySem PySem.Spec PyProof.Rows L2 HR
theorem iteT' {b : Bool} {A B : Prop} (e : b = true) (h : A) : if b = true then A else B := by rw [e]; exact L2.iteT h
theorem iteF' {b : Bool} {A B : Prop} (e : b = false) (h : B) : if b = true then A else B := by rw [e]; exact L2.iteF h
theorem ix_kdictK {X : Cx} (K : PySem.W.Frag) (w : World) (h : X.K = K) (hw : X.w = w) : IxR X (rIxD K w) := h ▸ hw ▸ ix_kdict
theorem pg_tupK {X : Cx} (K : PySem.W.Frag) (hK : X.K = K) {es : List Expr} {k : Nat} {t : TGs} {n : Nat} {pos : Pos} (hc : X.calm = true) (h : PGs X es t)
    (hn : (assignEach es X.env).length = n := by rfl) (hst : (assignEach es X.env).findIdx? (·.1) = none := by rfl) : PG X (.Tuple es k pos) (gTup K n t) := hK ▸ pg_tup hc h hn hst
/-- a sign of a text, as a value -/
def sgV (x : Str) (i : Nat) : Option V := (x.cps[i]?).map fun c => V.str ⟨#[c]⟩
/-- n turns; at each a new tuple of what f tells -/
def Itf (n : Nat) (f : Nat → List V → Prop) : It :=
  ⟨fun i _ => i < n, fun i H v H' => ∃ T l, v = .ref T ∧ H T = none ∧ H' = upd H T (.tup l) ∧ f i l, fun i _ => i = n⟩
theorem walk_f {n : Nat} {f : Nat → List V → Prop} : Walk (Itf n f) n (fun _ => True) (Itf n f).yld := ⟨fun _ _ h _ => h, fun _ _ => rfl, fun _ _ _ _ _ _ y => y⟩
theorem turn_of {P : Program} {w : World} {K : PySem.W.Frag} {tg : Expr} {it : Addr} {fp wr : List Addr} {n : Nat} {f : Nat → List V → Prop} {Y : Nat → Heap → Value → Heap → Prop} {St : Nat → Heap → Prop}
    (W : ∀ A : Around, A.handled = none → GoesN P w A tg it fp wr n Y St) (mem : it ∈ fp) (obj : ∀ i h, St i h → ∀ b ∈ fp, ∃ o, h.get? b = some o ∧ ∀ v, o.data ≠ .cell v)
    (self : ∀ (A : Around) (i : Nat) (s : Shared) (Q : Value → Shared → Prop) (E : Value → Shared → Prop), St i s.heap → Q (.ref it) s → wpAny (model P w) A (pyIter (.ref it)) Q E s)
    (keep : ∀ i h h', St i h → (∀ b ∈ fp, ∀ o, h.get? b = some o → h'.get? b = some o) → St i h') (sub : ∀ b ∈ wr, b ∈ fp)
    (hY : ∀ i h0 v h, i < n → Y i h0 v h → ∃ T l us, v = .ref T ∧ h0.objs.size ≤ T ∧ f i l ∧ l.length ≤ 3 ∧ Vals l us ∧ h.IsTuple T us.toArray) :
    Turn P w K tg (Itf n f) fp it St where
  mem := mem
  obj := obj
  keep := keep
  item := by
    intro X hP hw hK hc i pins s σ H E I hf st hg
    subst hP hw hK
    have G := W X.A (I.ok.hd hc)
    refine wpAny_mono (G.goes i s (fun u s2 => ∃ x H', Inv X pins σ H' s2 ∧ RelV x u ∧ (Itf n f).yld i H x H' ∧ St (i + 1) s2.heap ∧ ∀ b ∈ fp, H' b = none) E hg st fun v h' tk hy st' hk _ => ?_) (fun r s1 q => q) (fun e s1 q => q)
    obtain ⟨T, l, us, rfl, hT, hfl, hl, rv, hI⟩ := hY i s.heap v h' hg hy
    have hn : H T = none := I.hok.fresh hT
    have new : ObjOk X.prog X.w (upd H T (.tup l)) h' T (.tup l) := by
      refine ⟨by show l.length ≤ sizeLine; have := sizeLine_eq; omega, us, rv, hI⟩
    have I1 : Inv X pins σ (upd H T (.tup l)) { s with heap := h', toks := tk } := I.turnedNew (t' := tk) (ch := fp) (fun b o hb e => hk b o (fun z => hb (sub b z)) e) hf hT new
    refine ⟨.ref T, _, I1, rfl, ⟨T, l, rfl, hn, rfl, hfl⟩, st', fun b hb => ?_⟩
    obtain ⟨o, e, _⟩ := obj i s.heap st b hb
    rw [upd_ne (Nat.ne_of_lt (Nat.lt_of_lt_of_le (Heap.lt_size e) hT))]
    exact (hf b hb).1
  done := by
    intro X hP hw hK hc i pins s σ H E I hf st hg
    subst hP hw hK
    obtain rfl : i = n := hg
    have G := W X.A (I.ok.hd hc)
    refine wpAny_mono (G.stops s (fun s2 => Inv X pins σ H s2) E st fun h' tk hk _ => ?_) (fun r s1 q => q) (fun e s1 q => q)
    exact I.turnedL (t' := tk) (ch := fp) (fun b o hb e => hk b o (fun z => hb (sub b z)) e) hf
  self := self
def two (x y : Str) (i : Nat) (l : List V) : Prop := ∃ c d, x.cps[i]? = some c ∧ y.cps[i]? = some d ∧ l = [.str ⟨#[c]⟩, .str ⟨#[d]⟩]
def three (x y z : Str) (i : Nat) (l : List V) : Prop := ∃ c d e, x.cps[i]? = some c ∧ y.cps[i]? = some d ∧ z.cps[i]? = some e ∧ l = [.str ⟨#[c]⟩, .str ⟨#[d]⟩, .str ⟨#[e]⟩]
abbrev Itz2 (x y : Str) : It := Itf (min x.cps.size y.cps.size) (two x y)
abbrev Itz3 (x y z : Str) : It := Itf (min (min x.cps.size y.cps.size) z.cps.size) (three x y z)
theorem iter_obj {h : Heap} {it : Addr} {ty : String} {x : Str} {t : Tok} {i : Nat} (st : h.IsStrIter it ty x t i) : ∃ o, h.get? it = some o ∧ ∀ v, o.data ≠ .cell v := by
  obtain ⟨o, e, c, d⟩ := st
  exact ⟨o, e, fun v z => by rw [d] at z; cases z⟩
theorem iter_keep {h h' : Heap} {it : Addr} {ty : String} {x : Str} {t : Tok} {i : Nat} (st : h.IsStrIter it ty x t i) (k : ∀ o, h.get? it = some o → h'.get? it = some o) : h'.IsStrIter it ty x t i := by
  obtain ⟨o, e, c, d⟩ := st
  exact ⟨o, k o e, c, d⟩
section
variable {P : Program} {w : World} {K : PySem.W.Frag} {elts : List Expr} {kk : Nat} {tpos : Pos}
theorem turn_z2 {x y : Str} {t u : Tok} {N : Nat} :
    Turn P w K (.Tuple elts kk tpos) (Itz2 x y) [N + 4, N + 2, N + 3, N, N + 1] (N + 4)
      (fun i h => IsZip h (N + 4) (N + 2) (N + 3) .none ∧ IsTupOf2 h (N + 2) (.ref N) (.ref (N + 1)) ∧ (∃ a1 a2, IsTupOf2 h (N + 3) a1 a2) ∧ h.IsStrIter N (strIterType x) x t i ∧ h.IsStrIter (N + 1) (strIterType y) y u i) :=
  turn_of (wr := [N + 4, N + 3, N, N + 1]) (fun A hh => GoesN.zip2 (zip_sep2 (N := N) (fp1 := []) (fp2 := []) (fun b h => by cases h) (fun b h => by cases h)) (Draws.text (A := A.in1) hh N x t) (Draws.text (A := A.in1) hh (N + 1) y u)) (by simp)
    (fun i h st b hb => by
      obtain ⟨hz, hTI, ⟨a1, a2, hTO⟩, h1, h2⟩ := st
      have e' : b = N + 4 ∨ b = N + 2 ∨ b = N + 3 ∨ b = N ∨ b = N + 1 := by simpa using hb
      rcases e' with q | q | q | q | q
      · rw [q]; exact ⟨_, hz, fun v q => nomatch q⟩
      · rw [q]; exact ⟨_, hTI, fun v q => nomatch q⟩
      · rw [q]; exact ⟨_, hTO, fun v q => nomatch q⟩
      · rw [q]; exact iter_obj h1
      · rw [q]; exact iter_obj h2)
    (fun A i s Q E st h => wpAny_pyIter_zip st.1 h)
    (fun i h h' st k => by
      obtain ⟨hz, hTI, ⟨a1, a2, hTO⟩, h1, h2⟩ := st
      exact ⟨k _ (by simp) _ hz, k _ (by simp) _ hTI, ⟨a1, a2, k _ (by simp) _ hTO⟩, iter_keep h1 (k _ (by simp)), iter_keep h2 (k _ (by simp))⟩)
    (fun b hb => by
      have e' : b = N + 4 ∨ b = N + 3 ∨ b = N ∨ b = N + 1 := by simpa using hb
      rcases e' with q | q | q | q <;> rw [q] <;> simp)
    (fun i h0 v h _ hy => by
      obtain ⟨T, a, b, ev, hT, ⟨c, ct, hc, rfl⟩, ⟨d, dt, hd, rfl⟩, hI⟩ := hy
      exact ⟨T, _, _, ev, hT, ⟨c, d, hc, hd, rfl⟩, by simp, .cons ⟨ct, rfl⟩ (.cons ⟨dt, rfl⟩ .nil), hI⟩)
theorem turn_z3 {x y z : Str} {t u v : Tok} {N : Nat} :
    Turn P w K (.Tuple elts kk tpos) (Itz3 x y z) [N + 5, N + 3, N + 4, N, N + 1, N + 2] (N + 5)
      (fun i h => IsZip h (N + 5) (N + 3) (N + 4) .none ∧ IsTupOf3 h (N + 3) (.ref N) (.ref (N + 1)) (.ref (N + 2)) ∧ (∃ a1 a2 a3, IsTupOf3 h (N + 4) a1 a2 a3) ∧ h.IsStrIter N (strIterType x) x t i ∧ h.IsStrIter (N + 1) (strIterType y) y u i ∧ h.IsStrIter (N + 2) (strIterType z) z v i) :=
  turn_of (wr := [N + 5, N + 4, N, N + 1, N + 2]) (fun A hh => GoesN.zip3 (zip_sep3 (N := N) (fp1 := []) (fp2 := []) (fp3 := []) (fun b h => by cases h) (fun b h => by cases h) (fun b h => by cases h)) (Draws.text (A := A.in1) hh N x t) (Draws.text (A := A.in1) hh (N + 1) y u) (Draws.text (A := A.in1) hh (N + 2) z v)) (by simp)
    (fun i h st b hb => by
      obtain ⟨hz, hTI, ⟨a1, a2, a3, hTO⟩, h1, h2, h3⟩ := st
      have e' : b = N + 5 ∨ b = N + 3 ∨ b = N + 4 ∨ b = N ∨ b = N + 1 ∨ b = N + 2 := by simpa using hb
      rcases e' with q | q | q | q | q | q
      · rw [q]; exact ⟨_, hz, fun v q => nomatch q⟩
      · rw [q]; exact ⟨_, hTI, fun v q => nomatch q⟩
      · rw [q]; exact ⟨_, hTO, fun v q => nomatch q⟩
      · rw [q]; exact iter_obj h1
      · rw [q]; exact iter_obj h2
      · rw [q]; exact iter_obj h3)
    (fun A i s Q E st h => wpAny_pyIter_zip st.1 h)
    (fun i h h' st k => by
      obtain ⟨hz, hTI, ⟨a1, a2, a3, hTO⟩, h1, h2, h3⟩ := st
      exact ⟨k _ (by simp) _ hz, k _ (by simp) _ hTI, ⟨a1, a2, a3, k _ (by simp) _ hTO⟩, iter_keep h1 (k _ (by simp)), iter_keep h2 (k _ (by simp)), iter_keep h3 (k _ (by simp))⟩)
    (fun b hb => by
      have e' : b = N + 5 ∨ b = N + 4 ∨ b = N ∨ b = N + 1 ∨ b = N + 2 := by simpa using hb
      rcases e' with q | q | q | q | q <;> rw [q] <;> simp)
    (fun i h0 v h _ hy => by
      obtain ⟨T, a, b, e, ev, hT, ⟨c, ct, hc, rfl⟩, ⟨d, dt, hd, rfl⟩, ⟨g, gt, hg, rfl⟩, hI⟩ := hy
      exact ⟨T, _, _, ev, hT, ⟨c, d, g, hc, hd, hg, rfl⟩, by simp, .cons ⟨ct, rfl⟩ (.cons ⟨dt, rfl⟩ (.cons ⟨gt, rfl⟩ .nil)), hI⟩)
end
def iZ2 (ta : TA) : TI := fun σ H R => ta σ H fun vs H1 => ∃ x y, vs = [.str x, .str y] ∧ R (Itz2 x y) H1
def iZ3 (ta : TA) : TI := fun σ H R => ta σ H fun vs H1 => ∃ x y z, vs = [.str x, .str y, .str z] ∧ R (Itz3 x y z) H1
theorem pi_zip2 {X : Cx} {e e2 : Expr} {ta : TA} {p pos tpos : Pos} {elts : List Expr} {kk : Nat} (hg : Gl X "zip") (hm : X.mg "zip" = none) (ha : PA X [e, e2] ta)
    (hs : starEach [e, e2] X.env = (false, eval e X.env) :: starEach [e2] X.env := by rfl) (hpl : (backTo pos (starEach [e2] X.env)).any (·.1) = false := by rfl) :
    PI X (.Tuple elts kk tpos) (.Call (.Name "zip" p) [e, e2] [] pos) (iZ2 ta) := by
  refine ⟨fun pins s σ H R I h => ?_⟩
  refine Call_ (ld_blt I hg hm PyProof.Rows.boot_zip (PyProof.Rows.callWith_type1 (thn (ha.run pos pins s σ H _ I h) fun us s1 ⟨vs, H1, I1, r1, q1⟩ => ?_) hs hpl))
  obtain ⟨x, y, ex, q⟩ := q1
  subst ex
  obtain ⟨a, b, rfl, ⟨t, rfl⟩, ⟨u, rfl⟩⟩ : ∃ a b, us = [a, b] ∧ (∃ t, a = .str x t) ∧ ∃ u, b = .str y u := by
    cases r1 with
    | cons r rr =>
      cases rr with
      | cons r' rr =>
        cases rr
        exact ⟨_, _, rfl, r, r'⟩
  refine zip_begins2 (begins_text x t) (begins_text y u) trivial trivial fun h' hz hTI hTO g1 g2 hsz hk => wpAny_pyIter_zip hz ?_
  have I2 : Inv X pins σ H1 { s1 with heap := h' } := I1.kept (t' := s1.toks) hk
  refine ⟨s1.heap.objs.size + 4, _, _, _, H1, rfl, I2, turn_z2 (x := x) (y := y) (t := t) (u := u) (N := s1.heap.objs.size), ⟨hz, hTI, ⟨_, _, hTO⟩, ⟨_, g1, rfl, rfl⟩, ⟨_, g2, rfl, rfl⟩⟩, fun c hcm => ?_, q⟩
  have hle : s1.heap.objs.size ≤ c := by
    have e' : c = s1.heap.objs.size + 4 ∨ c = s1.heap.objs.size + 2 ∨ c = s1.heap.objs.size + 3 ∨ c = s1.heap.objs.size ∨ c = s1.heap.objs.size + 1 := by simpa using hcm
    have hc : s1.heap.objs.size ≤ c := by
      rcases e' with z | z | z | z | z
      · rw [z]; exact Nat.le_add_right _ _
      · rw [z]; exact Nat.le_add_right _ _
      · rw [z]; exact Nat.le_add_right _ _
      · rw [z]; exact Nat.le_refl _
      · rw [z]; exact Nat.le_add_right _ _
    exact hc
  exact I1.fpOk hle (I1.hok.fresh hle)
theorem pi_zip3 {X : Cx} {e e2 e3 : Expr} {ta : TA} {p pos tpos : Pos} {elts : List Expr} {kk : Nat} (hg : Gl X "zip") (hm : X.mg "zip" = none) (ha : PA X [e, e2, e3] ta)
    (hs : starEach [e, e2, e3] X.env = (false, eval e X.env) :: starEach [e2, e3] X.env := by rfl) (hpl : (backTo pos (starEach [e2, e3] X.env)).any (·.1) = false := by rfl) :
    PI X (.Tuple elts kk tpos) (.Call (.Name "zip" p) [e, e2, e3] [] pos) (iZ3 ta) := by
  refine ⟨fun pins s σ H R I h => ?_⟩
  refine Call_ (ld_blt I hg hm PyProof.Rows.boot_zip (PyProof.Rows.callWith_type1 (thn (ha.run pos pins s σ H _ I h) fun us s1 ⟨vs, H1, I1, r1, q1⟩ => ?_) hs hpl))
  obtain ⟨x, y, z, ex, q⟩ := q1
  subst ex
  obtain ⟨a, b, c, rfl, ⟨t, rfl⟩, ⟨u, rfl⟩, ⟨v, rfl⟩⟩ : ∃ a b c, us = [a, b, c] ∧ (∃ t, a = .str x t) ∧ (∃ u, b = .str y u) ∧ ∃ v, c = .str z v := by
    cases r1 with
    | cons r rr =>
      cases rr with
      | cons r' rr =>
        cases rr with
        | cons r'' rr =>
          cases rr
          exact ⟨_, _, _, rfl, r, r', r''⟩
  refine zip_begins3 (begins_text x t) (begins_text y u) (begins_text z v) trivial trivial trivial fun h' hz hTI hTO g1 g2 g3 hsz hk => wpAny_pyIter_zip hz ?_
  have I2 : Inv X pins σ H1 { s1 with heap := h' } := I1.kept (t' := s1.toks) hk
  refine ⟨s1.heap.objs.size + 5, _, _, _, H1, rfl, I2, turn_z3 (x := x) (y := y) (z := z) (t := t) (u := u) (v := v) (N := s1.heap.objs.size), ⟨hz, hTI, ⟨_, _, _, hTO⟩, ⟨_, g1, rfl, rfl⟩, ⟨_, g2, rfl, rfl⟩, ⟨_, g3, rfl, rfl⟩⟩, fun c hcm => ?_, q⟩
  have hle : s1.heap.objs.size ≤ c := by
    have e' : c = s1.heap.objs.size + 5 ∨ c = s1.heap.objs.size + 3 ∨ c = s1.heap.objs.size + 4 ∨ c = s1.heap.objs.size ∨ c = s1.heap.objs.size + 1 ∨ c = s1.heap.objs.size + 2 := by simpa using hcm
    rcases e' with z | z | z | z | z | z
    · rw [z]; exact Nat.le_add_right _ _
    · rw [z]; exact Nat.le_add_right _ _
    · rw [z]; exact Nat.le_add_right _ _
    · rw [z]; exact Nat.le_refl _
    · rw [z]; exact Nat.le_add_right _ _
    · rw [z]; exact Nat.le_add_right _ _
  exact I1.fpOk hle (I1.hok.fresh hle)
end HZ
namespace K19
open PySem PySem.Spec PyProof.Rows L2 HR SX
def topS (i : Nat) : Stmt := PySem.Challenge.pw_roomstair_k19_whole_two_chains_at_each_d.main.body.getD i (.Pass ⟨0, 0, 0, 0⟩)
abbrev s_is_integer : Stmt := topS 1
theorem sc_is_integer : FnScope ["value"] ["value"] (defScope s_is_integer) := ⟨rfl, rfl, rfl, by decide +kernel, rfl, by decide +kernel, by decide +kernel⟩
abbrev s_is_within : Stmt := topS 2
theorem sc_is_within : FnScope ["value", "least", "most"] ["value", "least", "most"] (defScope s_is_within) := ⟨rfl, rfl, rfl, by decide +kernel, rfl, by decide +kernel, by decide +kernel⟩
abbrev s_is_list : Stmt := topS 3
theorem sc_is_list : FnScope ["value"] ["value"] (defScope s_is_list) := ⟨rfl, rfl, rfl, by decide +kernel, rfl, by decide +kernel, by decide +kernel⟩
abbrev s_is_row : Stmt := topS 14
theorem sc_is_row : FnScope ["value", "sign"] ["value"] (defScope s_is_row) := ⟨rfl, rfl, rfl, by decide +kernel, rfl, by decide +kernel, by decide +kernel⟩
abbrev s_want_row : Stmt := topS 15
theorem sc_want_row : FnScope ["value", "part"] ["value", "part"] (defScope s_want_row) := ⟨rfl, rfl, rfl, by decide +kernel, rfl, by decide +kernel, by decide +kernel⟩
abbrev s_size_of : Stmt := topS 16
theorem sc_size_of : FnScope ["row"] ["row"] (defScope s_size_of) := ⟨rfl, rfl, rfl, by decide +kernel, rfl, by decide +kernel, by decide +kernel⟩
abbrev s_lies_below : Stmt := topS 17
theorem sc_lies_below : FnScope ["one", "other", "place"] ["one", "other"] (defScope s_lies_below) := ⟨rfl, rfl, rfl, by decide +kernel, rfl, by decide +kernel, by decide +kernel⟩
abbrev s_is_chain : Stmt := topS 19
theorem sc_is_chain : FnScope ["value", "at"] ["value"] (defScope s_is_chain) := ⟨rfl, rfl, rfl, by decide +kernel, rfl, by decide +kernel, by decide +kernel⟩
abbrev s_is_full : Stmt := topS 20
theorem sc_is_full : FnScope ["value", "many", "row"] ["value"] (defScope s_is_full) := ⟨rfl, rfl, rfl, by decide +kernel, rfl, by decide +kernel, by decide +kernel⟩
abbrev s_want_full : Stmt := topS 21
theorem sc_want_full : FnScope ["value", "part"] ["value", "part"] (defScope s_want_full) := ⟨rfl, rfl, rfl, by decide +kernel, rfl, by decide +kernel, by decide +kernel⟩
abbrev s_row_beyond : Stmt := topS 23
theorem sc_row_beyond : FnScope ["chain", "index", "row", "lower", "upper", "below", "here", "above"] ["chain", "index"] (defScope s_row_beyond) := ⟨rfl, rfl, rfl, by decide +kernel, rfl, by decide +kernel, by decide +kernel⟩
abbrev s_beyond : Stmt := topS 24
theorem sc_beyond : FnScope ["chain", "index", "row"] ["chain", "index"] (defScope s_beyond) := ⟨rfl, rfl, rfl, by decide +kernel, rfl, by decide +kernel, by decide +kernel⟩
/-! ### bounds, rows -/
def withinV (v : V) (lo hi : Int) : Bool := match v with
  | .int i => decide (lo ≤ i) && decide (i ≤ hi)
  | _ => false
def sgn (c : Nat) : Bool := c == 43 || (c == 45 || c == 48)
def rowL (l : List Nat) : Bool := decide (l.length ≤ 12) && (l.all sgn && (decide (43 ∈ l) || decide (45 ∈ l)))
def rowV : V → Bool
  | .str z => rowL z.cps.toList
  | _ => false
def isStrV : V → Bool
  | .str _ => true
  | _ => false
theorem isS_of {K : PySem.W.Frag} {H : Hp} {v : V} (a : PV H v) : ∃ t, TyX K H v t ∧ PySem.W.kitOne K t (.type "str") = some (isStrV v) := by
  rcases a with ⟨i, rfl⟩ | rfl | ⟨b, rfl⟩ | ⟨x, rfl⟩ | ⟨p, rfl, ⟨x, h⟩ | ⟨x, h⟩ | ⟨x, h⟩⟩
  · exact ⟨_, .base (.int i), kit_ty (r := false) (by decide +kernel)⟩
  · exact ⟨_, .base .non, kit_ty (r := false) (by decide +kernel)⟩
  · exact ⟨_, .base (.bl b), kit_ty (r := false) (by decide +kernel)⟩
  · exact ⟨_, .base (.str x), kit_ty (r := true) (by decide +kernel)⟩
  · exact ⟨_, .base (.lst h), kit_ty (r := false) (by decide +kernel)⟩
  · exact ⟨_, .base (.tup h), kit_ty (r := false) (by decide +kernel)⟩
  · exact ⟨_, .base (.dK h), kit_ty (r := false) (by decide +kernel)⟩
abbrev signs3 : List V := [.str "+", .str "-", .str "0"]
theorem sign_in (c : Nat) : inV (.str ⟨#[c]⟩) signs3 = sgn c := by
  show (eqV (.str ⟨#[43]⟩) (.str ⟨#[c]⟩) || (eqV (.str ⟨#[45]⟩) (.str ⟨#[c]⟩) || (eqV (.str ⟨#[48]⟩) (.str ⟨#[c]⟩) || false))) = (c == 43 || (c == 45 || c == 48))
  have e : ∀ d : Nat, eqV (.str ⟨#[d]⟩) (.str ⟨#[c]⟩) = (c == d) := fun d => by
    show ((⟨#[d]⟩ : Str) == ⟨#[c]⟩) = (c == d)
    by_cases h : c = d
    · subst h
      rw [beq_self_eq_true, beq_self_eq_true]
    · rw [beq_eq_false_iff_ne.mpr h]
      refine beq_eq_false_iff_ne.mpr fun z => h ?_
      have z2 : (#[d] : Array Nat) = #[c] := congrArg (·.cps) z
      have z3 : ([d] : List Nat) = [c] := congrArg (·.toList) z2
      exact (List.cons.inj z3).1.symm
  rw [e, e, e, Bool.or_false]
section
variable {P : Program} {w : World} {K : PySem.W.Frag} {mg : Str → Option Value} {base : Heap}
def spInt : Sp := fun vs H Q _ => ∃ v, vs = [v] ∧ PV H v ∧ Q (.bl (isIntV v)) H
theorem ok_is_integer (T : HG.Tp K mg "is_integer" s_is_integer ["value"]) (m_isinstance : mg "isinstance" = none) (m_int : mg "int" = none) (m_bool : mg "bool" = none) : FnOk P w K mg base CX0 1 T.f T.fd ["value"] spInt := by
  refine T.F.ok sc_is_integer (fun vs H Q E h => ?_) (fun cdv A outer s H vs Q E hr h => ?_)
  · obtain ⟨v, rfl, _⟩ := h
    rfl
  · obtain ⟨v, rfl, hv, q⟩ := h
    obtain ⟨t, b1, b2, ty, k1, k2, e⟩ := isI_of (K := K) hv
    refine ⟨_, (pss_one (ps_ret (pe_and (pe_callB call_isi (by rfl) m_isinstance (by decide +kernel) (pa_cons (pv 0) (pa_cons (HG.pe_ty (T := "int") (by rfl) m_int (by decide +kernel)) pa_nil))) (pe_one (pe_not (pe_callB call_isi (by rfl) m_isinstance (by decide +kernel) (pa_cons (pv 0) (pa_cons (HG.pe_ty (T := "bool") (by rfl) m_bool (by decide +kernel)) pa_nil)))))))), ?_⟩
    refine ⟨v, rfl, v, _, t, _, b1, rfl, ClsV.ty "int", ty, k1, b1, rfl, ?_⟩
    rw [e] at q
    cases b1 with
    | true =>
      refine iteT ?_
      exact ⟨v, rfl, v, _, t, _, b2, rfl, ClsV.ty "bool", ty, k2, b2, rfl, q⟩
    | false => exact iteF q
def spList : Sp := fun vs H Q _ => ∃ v, vs = [v] ∧ PV H v ∧ ∀ b H', (b = true ↔ SeqV H v) → Grow H H' → Q (.bl b) H'
theorem ok_is_list (T : HG.Tp K mg "is_list" s_is_list ["value"]) (m_isinstance : mg "isinstance" = none) (m_list : mg "list" = none) (m_tuple : mg "tuple" = none) : FnOk P w K mg base CX0 1 T.f T.fd ["value"] spList := by
  refine T.F.ok sc_is_list (fun vs H Q E h => ?_) (fun cdv A outer s H vs Q E hr h => ?_)
  · obtain ⟨v, rfl, _⟩ := h
    rfl
  · obtain ⟨v, rfl, hv, q⟩ := h
    refine ⟨_, (pss_one (ps_ret (pe_callB call_isiT (by rfl) m_isinstance (by decide +kernel) (pa_cons (pv 0) (pa_cons (pe_tup (pa_cons (HG.pe_ty (T := "list") (by rfl) m_list (by decide +kernel)) (pa_cons (HG.pe_ty (T := "tuple") (by rfl) m_tuple (by decide +kernel)) pa_nil))) pa_nil))))), ?_⟩
    refine ⟨v, rfl, by show 2 ≤ sizeLine; decide, fun p np => ?_⟩
    have g : Grow H (upd H p (.tup [.ty "list", .ty "tuple"])) := Grow.new np
    obtain ⟨t, b, ty, hk, hb⟩ := kit_seq (K := K) (hv.grow g)
    refine ⟨v, p, _, t, _, b, rfl, upd_same, .cons (ClsV.ty "list") (.cons (ClsV.ty "tuple") .nil), ty, hk, q b _ ?_ g⟩
    rw [hb]
    constructor
    · rintro ⟨r, xs, rfl, h⟩
      rcases hv with ⟨i, z⟩ | z | ⟨b, z⟩ | ⟨x, z⟩ | ⟨p2, z, ⟨x, h2⟩ | ⟨x, h2⟩ | ⟨x, h2⟩⟩
      · cases z
      · cases z
      · cases z
      · cases z
      · cases z
        exact ⟨r, x, rfl, .inl h2⟩
      · cases z
        exact ⟨r, x, rfl, .inr h2⟩
      · cases z
        rw [g _ _ h2] at h
        rcases h with h | h <;> cases h
    · rintro ⟨r, xs, rfl, h⟩
      exact ⟨r, xs, rfl, h.elim (fun h => .inl (g _ _ h)) (fun h => .inr (g _ _ h))⟩

def spWithin : Sp := fun vs H Q _ => ∃ v lo hi, vs = [v, .int lo, .int hi] ∧ PV H v ∧ Q (.bl (withinV v lo hi)) H
theorem ok_is_within (T : HG.Tp K mg "is_within" s_is_within ["value", "least", "most"]) (o_is_integer : HG.Df P w K mg base CX0 1 "is_integer" ["value"] spInt) : FnOk P w K mg base CX0 2 T.f T.fd ["value", "least", "most"] spWithin := by
  refine T.F.ok sc_is_within (fun vs H Q E h => ?_) (fun cdv A outer s H vs Q E hr h => ?_)
  · obtain ⟨v, lo, hi, rfl, _⟩ := h
    rfl
  · obtain ⟨v, lo, hi, rfl, hv, q⟩ := h
    refine ⟨_, (pss_cons (ps_if (pt_not (pt_val (HG.pe_c o_is_integer hr (pa_cons (pv 0) pa_nil))))
      (pss_one (ps_ret pe_bl))
      pss_nil)
    (pss_cons (ps_if (PW.pt (pw_and (pt_cmpR op_notN (pv 1) pe_non (nomark _)) (pw_and1 (pt_cmpR op_lt (pv 0) (pv 1) (nomark _)))))
      (pss_one (ps_ret pe_bl))
      pss_nil)
    (pss_one (ps_ret (pe_or (pe_cmpR op_isN (pv 2) pe_non (nomark _)) (pe_one (pe_cmpR op_le (pv 0) (pv 2) (nomark _)))))))), ?_⟩
    refine ⟨v, rfl, v, rfl, hv, _, rfl, ?_⟩
    cases v with
    | int i =>
      refine iteF ?_
      refine ⟨_, rfl, rfl, _, rfl, ?_⟩
      refine iteT ?_
      refine ⟨_, rfl, _, rfl, _, _, rfl, rfl, _, rfl, ?_⟩
      refine ite2 (fun h => ?_) (fun h => ?_)
      · have h' : i < lo := of_decide_eq_true h
        have e : withinV (.int i) lo hi = false := by
          show (decide (lo ≤ i) && decide (i ≤ hi)) = false
          rw [decide_eq_false (by omega)]; rfl
        rw [e] at q
        exact q
      · have h' : ¬ i < lo := fun z => h (decide_eq_true z)
        refine ⟨_, rfl, rfl, _, rfl, ?_⟩
        refine iteF ?_
        have e : withinV (.int i) lo hi = decide (i ≤ hi) := by
          show (decide (lo ≤ i) && decide (i ≤ hi)) = _
          rw [decide_eq_true (by omega)]; rfl
        rw [e] at q
        exact ⟨_, rfl, _, rfl, _, _, rfl, rfl, q⟩
    | non => exact iteT q
    | bl b => exact iteT q
    | str z => exact iteT q
    | byt b => exact iteT q
    | flt b => exact iteT q
    | ref r => exact iteT q
    | ty n => exact iteT q
def spRow : Sp := fun vs H Q _ => ∃ v, vs = [v] ∧ PV H v ∧ (∀ z, v = .str z → z.length ≤ sizeLine) ∧ ∀ H', Grow H H' → Q (.bl (rowV v)) H'
theorem ok_is_row (T : HG.Tp K mg "is_row" s_is_row ["value"]) {tM : Tok} {aS : Addr} (m_MOST_PLACES : mg "MOST_PLACES" = some (.int 12 tM)) (m_SIGNS : mg "SIGNS" = some (.ref aS)) (k_SIGNS : ∀ H, SqT K H aS signs3)
    (m_isinstance : mg "isinstance" = none) (m_str : mg "str" = none) (m_len : mg "len" = none) (m_all : mg "all" = none) : FnOk P w K mg base CX0 1 T.f T.fd ["value"] spRow := by
  refine T.F.ok sc_is_row (fun vs H Q E h => ?_) (fun cdv A outer s H vs Q E hr h => ?_)
  · obtain ⟨v, rfl, _⟩ := h
    rfl
  · obtain ⟨v, rfl, hv, hz, q⟩ := h
    obtain ⟨t, ty, kt⟩ := isS_of (K := K) hv
    refine ⟨_, (pss_cons (ps_if (PW.pt (pw_or (pt_not (pt_val (pe_callB call_isi (by rfl) m_isinstance (by decide +kernel) (pa_cons (pv 0) (pa_cons (HG.pe_ty (T := "str") (by rfl) m_str (by decide +kernel)) pa_nil))))) (pw_or1 (pt_cmpR op_gt (pe_callB call_len_str (by rfl) m_len PySem.boot_len (pa_cons (pv 0) pa_nil)) (pe_glob (v := .int 12) (by rfl) m_MOST_PLACES ⟨_, rfl⟩) (nomark _)))))
      (pss_one (ps_ret pe_bl))
      pss_nil)
    (pss_cons (ps_if (pt_not (pt_val (pe_callB (cr_all rfl) (by rfl) m_all (by decide +kernel) (pa_cons (pe_lc (own := [("sign", 1)]) (by rfl) sc_is_row.nd (pi_str (pv 0)) (blkOk_by (N := ["value", "sign"]) (sc := defScope s_is_row) (by decide +kernel)) (fun _ _ _ _ _ => (pg_name (i := 1) sc_is_row.nd rfl (Or.inl rfl))) (fun _ _ _ _ _ => pts_nil) (fun _ _ _ _ _ => (pe_cmpR (HE.op_in_seqK K rfl) (pv 1) (pe_glob (v := .ref aS) (by rfl) m_SIGNS rfl) rfl))) pa_nil))))
      (pss_one (ps_ret pe_bl))
      pss_nil)
    (pss_one (ps_ret (pe_or (pe_cmpR op_in_sign pe_str (pv 0) rfl) (pe_one (pe_cmpR op_in_sign pe_str (pv 0) rfl))))))), ?_⟩
    refine ⟨v, rfl, v, _, t, _, _, rfl, ClsV.ty "str", ty, kt, _, rfl, ?_⟩
    cases v with
    | str z =>
      refine iteF ?_
      have hz1 := hz z rfl
      have el : z.length = z.cps.toList.length := by simp [Str.length]
      have er : rowV (.str z) = (decide (z.cps.toList.length ≤ 12) && (z.cps.toList.all sgn && (decide (43 ∈ z.cps.toList) || decide (45 ∈ z.cps.toList)))) := rfl
      refine ⟨_, rfl, z, rfl, hz1, _, _, rfl, rfl, _, rfl, ite2 (fun h => ?_) (fun h => ?_)⟩
      · have h' : (12 : Int) < (z.length : Int) := of_decide_eq_true h
        have e : rowV (.str z) = false := by rw [er, decide_eq_false (by omega)]; rfl
        have qq := q _ Grow.refl
        rw [e] at qq
        exact qq
      · have h' : ¬ (12 : Int) < (z.length : Int) := fun y => h (decide_eq_true y)
        rw [decide_eq_true (by omega), Bool.true_and] at er
        refine ⟨_, rfl, z, rfl, fun D nD => ?_⟩
        have fl : (z.cps.toList.map fun c => V.bl (sgn c)).length ≤ 1000 := by rw [List.length_map]; omega
        refine lc_it walk_str (LcI H D (z.cps.toList.map fun c => V.bl (sgn c))) (lc_start nD) (fun _ _ _ _ => True.intro) ?_ ?_
        · rintro i x H2 H3 hi a ⟨rfl, c, hc, rfl⟩
          have hc' : z.cps.toList[i]? = some c := by rw [Array.getElem?_toList]; exact hc
          refine ⟨rfl, ?_⟩
          refine ⟨_, rfl, aS, _, rfl, .inr (k_SIGNS _), rfl, rfl, ?_⟩
          refine lc_fin nD a Grow.refl ?_ fl
          rw [List.getElem?_map, hc', sign_in]
          rfl
        · rintro H2 a
          obtain ⟨g2, e2⟩ := lc_end a (by rw [List.length_map]; simp)
          refine ⟨D, z.cps.toList.map sgn, rfl, SqL.of (by rw [e2, List.map_map]; rfl), _, rfl, ?_⟩
          have e3 : (z.cps.toList.map sgn).all id = z.cps.toList.all sgn := by rw [List.all_map]; rfl
          rw [e3]
          have qq := q _ g2
          rw [er] at qq
          cases hs : z.cps.toList.all sgn with
          | false =>
            rw [hs] at qq
            exact iteT qq
          | true =>
            rw [hs, Bool.true_and] at qq
            refine iteF ?_
            refine ⟨_, rfl, 43, z, rfl, rfl, _, rfl, ite2 (fun h => ?_) (fun h => ?_)⟩
            · rw [h] at qq
              exact qq
            · rw [Bool.eq_false_iff.mpr h] at qq
              exact ⟨_, rfl, 45, z, rfl, rfl, qq⟩
    | int i => exact iteT (iteT (q _ Grow.refl))
    | non => exact iteT (iteT (q _ Grow.refl))
    | bl b => exact iteT (iteT (q _ Grow.refl))
    | byt b => exact iteT (iteT (q _ Grow.refl))
    | flt b => exact iteT (iteT (q _ Grow.refl))
    | ref r => exact iteT (iteT (q _ Grow.refl))
    | ty n => exact iteT (iteT (q _ Grow.refl))
end
end K19
namespace K19
open PySem PySem.Spec PyProof.Rows L2 HR SX
/-- a value, its text no endless one -/
def OKV (H : Hp) (v : V) : Prop := PV H v ∧ ∀ z, v = .str z → z.length ≤ sizeLine
theorem OKV.grow {H H' : Hp} {v : V} (a : OKV H v) (k : Grow H H') : OKV H' v := ⟨a.1.grow k, a.2⟩
theorem told_grow {E : XK} {C : Addr} {H H1 : Hp} {v : V} (h : HX.Told E C H v) (g : Grow H H1) : HX.Told E C H1 v := fun d H' k n e => h d H' (fun p o z => k p o (g p o z)) (by
  cases q : H d with
  | none => rfl
  | some o => rw [g d o q] at n; cases n) e
/-- want_..(value, part): by good -/
def spWant (C : Addr) (good : Hp → V → Bool → Prop) : Sp := fun vs H Q E => ∃ v x b, vs = [v, .str x] ∧ OKV H v ∧ good H v b ∧ (b = true → ∀ H', Grow H H' → Q .non H') ∧ (b = false → ∀ H', Grow H H' → HX.Told E C H' (.str x))
def gRow : Hp → V → Bool → Prop := fun _ v b => b = rowV v
def sizeL (l : List Nat) : Int := (l.length : Int) - cnt 48 l
def belowL (a b : List Nat) : Bool := decide (a.length = b.length) && (decide (a ≠ b) && (a.zip b).all fun p => p.1 == 48 || p.1 == p.2)
theorem eqV_one (d c : Nat) : eqV (.str ⟨#[d]⟩) (.str ⟨#[c]⟩) = (c == d) := by
  show ((⟨#[d]⟩ : Str) == ⟨#[c]⟩) = (c == d)
  by_cases h : c = d
  · subst h
    rw [beq_self_eq_true, beq_self_eq_true]
  · rw [beq_eq_false_iff_ne.mpr h]
    refine beq_eq_false_iff_ne.mpr fun z => h ?_
    have z2 : (#[d] : Array Nat) = #[c] := congrArg (·.cps) z
    have z3 : ([d] : List Nat) = [c] := congrArg (·.toList) z2
    exact (List.cons.inj z3).1.symm
theorem pair_in (c d : Nat) : inV (.str ⟨#[c]⟩) [.str "0", .str ⟨#[d]⟩] = (c == 48 || c == d) := by
  show (eqV (.str ⟨#[48]⟩) (.str ⟨#[c]⟩) || (eqV (.str ⟨#[d]⟩) (.str ⟨#[c]⟩) || false)) = _
  rw [eqV_one, eqV_one, Bool.or_false]
section
variable {P : Program} {w : World} {K : PySem.W.Frag} {mg : Str → Option Value} {base : Heap}
theorem ok_want_row (T : HG.Tp K mg "want_row" s_want_row ["value", "part"]) (o_is_row : HG.Df P w K mg base CX0 1 "is_row" ["value"] spRow) (e_BadRow : HX.Er P w K mg base "BadRow") :
    FnOk P w K mg base (L2.CX P w) 3 T.f T.fd ["value", "part"] (spWant e_BadRow.C gRow) := by
  refine T.F.okX sc_want_row (fun vs H Q E h => ?_) (fun cdv A outer s H vs Q E hr h => ?_)
  · obtain ⟨v, x, b, rfl, _⟩ := h
    rfl
  · obtain ⟨v, x, b, rfl, hv, rfl, q1, q2⟩ := h
    have tk : Takes (cxOf (L2.CX P w) P w K mg base ["value", "part"] "want_row" (defScope s_want_row) T.f cdv A outer s H E) (fun cls d _ H => E cls d H) := takes_of rfl rfl rfl rfl
    refine ⟨_, (pss_one (ps_if (pt_not (pt_val (HG.pe_c o_is_row hr (pa_cons (pv 0) pa_nil))))
      (pss_one (HX.ps_raise_er e_BadRow hr tk (pv 1)))
      pss_nil)), ?_⟩
    refine ⟨_, rfl, v, rfl, hv.1, hv.2, fun H1 g1 => ⟨_, rfl, ?_⟩⟩
    cases hb : rowV v with
    | true => exact iteF (q1 hb H1 g1)
    | false => exact iteT ⟨_, rfl, HX.raise_go (q2 hb H1 g1)⟩
def spSize (C : Addr) : Sp := fun vs H Q E => ∃ v, vs = [v] ∧ OKV H v ∧ (∀ z, v = .str z → rowL z.cps.toList = true → ∀ H', Grow H H' → Q (.int (sizeL z.cps.toList)) H') ∧ (rowV v = false → ∀ H', Grow H H' → HX.Told E C H' (.str "row"))
theorem ok_size_of (T : HG.Tp K mg "size_of" s_size_of ["row"]) {C : Addr} (o_want_row : HG.Df P w K mg base (L2.CX P w) 3 "want_row" ["value", "part"] (spWant C gRow)) (m_len : mg "len" = none) :
    FnOk P w K mg base (L2.CX P w) 4 T.f T.fd ["row"] (spSize C) := by
  refine T.F.okX sc_size_of (fun vs H Q E h => ?_) (fun cdv A outer s H vs Q E hr h => ?_)
  · obtain ⟨v, rfl, _⟩ := h
    rfl
  · obtain ⟨v, rfl, hv, q1, q2⟩ := h
    have tk : Takes (cxOf (L2.CX P w) P w K mg base ["row"] "size_of" (defScope s_size_of) T.f cdv A outer s H E) (fun cls d _ H => E cls d H) := takes_of rfl rfl rfl rfl
    refine ⟨_, (pss_cons (ps_expr (HG.pe_cS o_want_row hr tk (pa_cons (pv 0) (pa_cons pe_str pa_nil))))
    (pss_one (ps_ret (pe_op op_sub (pe_callB call_len_str (by rfl) m_len PySem.boot_len (pa_cons (pv 0) pa_nil)) (pe_bm PySem.F.plainAttrs_str PySem.F.slot_str_count PySem.F.type_str_count mt_count (pv 0) (pa_cons pe_str pa_nil)))))), ?_⟩
    refine ⟨_, rfl, v, _, _, rfl, hv, rfl, fun hb H1 g1 => ?_, fun hb H1 g1 => q2 hb H1 g1⟩
    obtain ⟨z, rfl⟩ : ∃ z, v = .str z := by
      cases v with
      | str z => exact ⟨z, rfl⟩
      | int i => cases hb
      | non => cases hb
      | bl b => cases hb
      | byt b => cases hb
      | flt b => cases hb
      | ref r => cases hb
      | ty n => cases hb
    refine ⟨_, rfl, z, rfl, hv.2 z rfl, _, rfl, rfl, z, _, rfl, rfl, _, _, rfl, rfl, ?_⟩
    have qq := q1 z rfl hb H1 g1
    have e1 : Txt.count z "0" = cnt 48 z.cps.toList := count_cnt z 48
    have e2 : z.length = z.cps.toList.length := by simp [Str.length]
    rw [e1, e2]
    exact qq
def spBelow : Sp := fun vs H Q _ => ∃ a b : Str, vs = [.str a, .str b] ∧ a.length ≤ 1000 ∧ b.length ≤ 1000 ∧ ∀ H', Grow H H' → Q (.bl (belowL a.cps.toList b.cps.toList)) H'
theorem ok_lies_below (T : HG.Tp K mg "lies_below" s_lies_below ["one", "other"]) (m_len : mg "len" = none) (m_all : mg "all" = none) (m_range : mg "range" = none) : FnOk P w K mg base CX0 1 T.f T.fd ["one", "other"] spBelow := by
  refine T.F.ok sc_lies_below (fun vs H Q E h => ?_) (fun cdv A outer s H vs Q E hr h => ?_)
  · obtain ⟨a, b, rfl, _⟩ := h
    rfl
  · obtain ⟨a, b, rfl, ha, hb, q⟩ := h
    refine ⟨_, (pss_cons (ps_if (PW.pt (pw_or (pt_cmpR op_ne (pe_callB call_len_str (by rfl) m_len PySem.boot_len (pa_cons (pv 0) pa_nil)) (pe_callB call_len_str (by rfl) m_len PySem.boot_len (pa_cons (pv 1) pa_nil)) (nomark _)) (pw_or1 (pt_cmpR op_eq (pv 0) (pv 1) (nomark _)))))
      (pss_one (ps_ret pe_bl))
      pss_nil)
    (pss_one (ps_ret (pe_callB (cr_all rfl) (by rfl) m_all (by decide +kernel) (pa_cons (pe_lc (own := [("place", 2)]) (by rfl) sc_lies_below.nd (pi_range1 rfl m_range (pa_cons (pe_callB call_len_str (by rfl) m_len PySem.boot_len (pa_cons (pv 0) pa_nil)) pa_nil)) (blkOk_by (N := ["one", "other", "place"]) (sc := defScope s_lies_below) (by decide +kernel)) (fun _ _ _ _ _ => (pg_name (i := 2) sc_lies_below.nd rfl (Or.inl rfl))) (fun _ _ _ _ _ => pts_nil) (fun _ _ _ _ _ => (pe_cmpR (HE.op_in_seqK K rfl) (pe_ix ix_str (pv 0) (pv 2) (fun _ _ => rfl)) (pe_tup (pa_cons pe_str (pa_cons (pe_ix ix_str (pv 1) (pv 2) (fun _ _ => rfl)) pa_nil))) rfl))) pa_nil))))), ?_⟩
    have sl := small1000 ha
    have sl2 := small1000 hb
    have la : a.length = a.cps.toList.length := by simp [Str.length]
    have lb : b.length = b.cps.toList.length := by simp [Str.length]
    refine ⟨_, rfl, a, rfl, by omega, _, rfl, b, rfl, by omega, rfl, _, rfl, ?_⟩
    refine ite2 (fun h => ?_) (fun h => ?_)
    · have e : belowL a.cps.toList b.cps.toList = false := by
        unfold belowL
        rw [decide_eq_false (fun z => by rw [la, lb, z, decide_eq_true rfl] at h; cases h)]
        rfl
      have qq := q H Grow.refl
      rw [e] at qq
      exact qq
    · have e0 : a.cps.toList.length = b.cps.toList.length := by
        by_cases z : a.cps.toList.length = b.cps.toList.length
        · exact z
        · refine absurd ?_ h
          rw [la, lb, decide_eq_false (fun y => z (by have := V.int.inj y; omega))]
          rfl
      refine ⟨_, rfl, _, rfl, rfl, _, rfl, ite2 (fun h2 => ?_) (fun h2 => ?_)⟩
      · have e2 : a = b := V.str.inj (of_decide_eq_true h2)
        have e : belowL a.cps.toList b.cps.toList = false := by
          unfold belowL
          rw [e2, decide_eq_true rfl, decide_eq_false (fun z => z rfl)]
          rfl
        have qq := q H Grow.refl
        rw [e] at qq
        exact qq
      · have e2 : a.cps.toList ≠ b.cps.toList := fun z => h2 (decide_eq_true (congrArg V.str (TL.ext_tl z)))
        have e : belowL a.cps.toList b.cps.toList = (a.cps.toList.zip b.cps.toList).all fun p => p.1 == 48 || p.1 == p.2 := by
          unfold belowL
          rw [decide_eq_true e0, decide_eq_true e2]
          rfl
        refine ⟨_, rfl, a, rfl, by omega, _, rfl, by omega, by omega, fun D nD => ?_⟩
        have hn : ((a.length : Int)).toNat = a.cps.toList.length := by omega
        rw [hn]
        have zl : ((a.cps.toList.zip b.cps.toList).map fun p => V.bl (p.1 == 48 || p.1 == p.2)).length = a.cps.toList.length := by
          rw [List.length_map, List.length_zip]; omega
        have fl : ((a.cps.toList.zip b.cps.toList).map fun p => V.bl (p.1 == 48 || p.1 == p.2)).length ≤ 1000 := by rw [zl]; omega
        refine lc_range (LcI H D ((a.cps.toList.zip b.cps.toList).map fun p => V.bl (p.1 == 48 || p.1 == p.2))) (lc_start nD) ?_ ?_
        · rintro i H2 hi ac
          have ca : a.cps.toList[i]? = some a.cps.toList[i] := List.getElem?_eq_getElem hi
          have cb : b.cps.toList[i]? = some (b.cps.toList[i]'(by omega)) := List.getElem?_eq_getElem (by omega)
          refine ⟨rfl, ?_⟩
          refine ⟨_, rfl, _, rfl, a, _, _, rfl, rfl, by omega, (by rw [show (0 + (i : Int)) = (i : Int) by omega]; exact atI_nat ca), ?_⟩
          refine ⟨_, rfl, _, rfl, b, _, _, rfl, rfl, by omega, (by rw [show (0 + (i : Int)) = (i : Int) by omega]; exact atI_nat cb), by show 2 ≤ sizeLine; decide, fun t nt => ?_⟩
          refine ⟨t, _, rfl, .inr (SqT.of upd_same), rfl, rfl, ?_⟩
          refine lc_fin nD ac (Grow.new nt) ?_ fl
          rw [List.getElem?_map, (List.getElem?_zip_eq_some (z := (a.cps.toList[i], b.cps.toList[i]'(by omega)))).mpr ⟨ca, cb⟩, pair_in]
          rfl
        · rintro H2 ac
          obtain ⟨g2, e2⟩ := lc_end ac (by rw [zl]; exact Nat.le_refl _)
          refine ⟨D, (a.cps.toList.zip b.cps.toList).map fun p => (p.1 == 48 || p.1 == p.2), rfl, SqL.of (by rw [e2, List.map_map]; rfl), ?_⟩
          have qq := q H2 g2
          rw [e] at qq
          rw [List.all_map]
          exact qq
end
end K19
namespace K19
open PySem PySem.Spec PyProof.Rows L2 HR SX
def strL : V → List Nat
  | .str z => z.cps.toList
  | _ => []
def stepV (x y : V) : Bool := rowV y && belowL (strL x) (strL y)
def chainT : List V → Bool
  | x :: y :: r => stepV x y && chainT (y :: r)
  | _ => true
def chainV : List V → Bool
  | [] => false
  | x :: r => rowV x && chainT (x :: r)
theorem chainT_iff : ∀ xs : List V, chainT xs = true ↔ ∀ i x y, xs[i]? = some x → xs[i + 1]? = some y → stepV x y = true
  | [] => ⟨fun _ i x y h => by simp at h, fun _ => rfl⟩
  | [a] => ⟨fun _ i x y h h2 => by simp at h2, fun _ => rfl⟩
  | a :: b :: r => by
    show (stepV a b && chainT (b :: r)) = true ↔ _
    rw [Bool.and_eq_true, chainT_iff (b :: r)]
    constructor
    · rintro ⟨h1, h2⟩ i x y hx hy
      cases i with
      | zero =>
        cases hx
        cases hy
        exact h1
      | succ i => exact h2 i x y hx hy
    · intro h
      exact ⟨h 0 a b rfl rfl, fun i x y hx hy => h (i + 1) x y hx hy⟩
theorem row_str {v : V} (h : rowV v = true) : ∃ z, v = .str z ∧ rowL z.cps.toList = true ∧ z.length ≤ 12 := by
  cases v with
  | str z =>
    refine ⟨z, rfl, h, ?_⟩
    have h1 : (decide (z.cps.toList.length ≤ 12) && (z.cps.toList.all sgn && (decide (43 ∈ z.cps.toList) || decide (45 ∈ z.cps.toList)))) = true := h
    rw [Bool.and_eq_true] at h1
    have := of_decide_eq_true h1.1
    simpa [Str.length] using this
  | int i => cases h
  | non => cases h
  | bl b => cases h
  | byt b => cases h
  | flt b => cases h
  | ref r => cases h
  | ty n => cases h
/-- a list or a tuple of these at p -/
def SeqAtP (H : Hp) (p : Addr) (xs : List V) : Prop := (H p = some (.lst xs) ∨ H p = some (.tup xs)) ∧ xs.length ≤ 1000 ∧ ∀ x ∈ xs, OKV H x
theorem SeqAtP.grow {H H' : Hp} {p : Addr} {xs : List V} (a : SeqAtP H p xs) (g : Grow H H') : SeqAtP H' p xs := ⟨a.1.imp (g _ _) (g _ _), a.2.1, fun x hx => (a.2.2 x hx).grow g⟩
theorem SeqAtP.sq {K : PySem.W.Frag} {H : Hp} {p : Addr} {xs : List V} (a : SeqAtP H p xs) : SqL K H p xs ∨ SqT K H p xs := a.1.imp SqL.of SqT.of
def spChain : Sp := fun vs H Q _ => ∃ v, vs = [v] ∧ PV H v ∧ ((¬ SeqV H v ∧ ∀ H', Grow H H' → Q (.bl false) H') ∨ ∃ p xs, v = .ref p ∧ SeqAtP H p xs ∧ ∀ H', Grow H H' → Q (.bl (chainV xs)) H')
theorem ix_at {K : PySem.W.Frag} {H : Hp} {p : Addr} {xs : List V} {i : Int} {v : V} (a : SeqAtP H p xs) (h : atI xs i = some v) {Q : VK} (q : Q v H) : rIx K (.ref p) (.int i) H Q := by
  rcases a.1 with h1 | h1
  · exact .inl ⟨p, xs, i, v, rfl, rfl, SqL.of h1, h, q⟩
  · exact .inr (.inl ⟨p, xs, i, v, rfl, rfl, SqT.of h1, h, q⟩)
section
variable {P : Program} {w : World} {K : PySem.W.Frag} {mg : Str → Option Value} {base : Heap}
theorem ok_is_chain (T : HG.Tp K mg "is_chain" s_is_chain ["value"]) (o_is_list : HG.Df P w K mg base CX0 1 "is_list" ["value"] spList) (o_is_row : HG.Df P w K mg base CX0 1 "is_row" ["value"] spRow) (o_lies_below : HG.Df P w K mg base CX0 1 "lies_below" ["one", "other"] spBelow)
    (m_len : mg "len" = none) (m_range : mg "range" = none) : FnOk P w K mg base CX0 2 T.f T.fd ["value"] spChain := by
  refine T.F.ok sc_is_chain (fun vs H Q E h => ?_) (fun cdv A outer s H vs Q E hr h => ?_)
  · obtain ⟨v, rfl, _⟩ := h
    rfl
  · obtain ⟨v, rfl, hv, h⟩ := h
    refine ⟨_, (pss_cons (ps_if (PW.pt (pw_or (pt_not (pt_val (HG.pe_c o_is_list hr (pa_cons (pv 0) pa_nil)))) (pw_or (pt_cmpR op_eq (pe_callB call_len_seq (by rfl) m_len PySem.boot_len (pa_cons (pv 0) pa_nil)) pe_int (nomark _)) (pw_or1 (pt_not (pt_val (HG.pe_c o_is_row hr (pa_cons (pe_ix ix_seq (pv 0) pe_int (fun _ _ => rfl)) pa_nil))))))))
      (pss_one (ps_ret pe_bl))
      pss_nil)
    (pss_cons (ps_for PassesOwn.never rfl (pi_range2 (by rfl) m_range (pa_cons pe_int (pa_cons (pe_callB call_len_seq (by rfl) m_len PySem.boot_len (pa_cons (pv 0) pa_nil)) pa_nil))) (pg_name (i := 1) sc_is_chain.nd rfl (Or.inl rfl))
      (pss_one (ps_if (PW.pt (pw_or (pt_not (pt_val (HG.pe_c o_is_row hr (pa_cons (pe_ix ix_seq (pv 0) (pv 1) (fun _ _ => rfl)) pa_nil)))) (pw_or1 (pt_not (pt_val (HG.pe_c o_lies_below hr (pa_cons (pe_ix ix_seq (pv 0) (pe_op op_sub (pv 1) pe_int) (fun _ _ => rfl)) (pa_cons (pe_ix ix_seq (pv 0) (pv 1) (fun _ _ => rfl)) pa_nil))))))))
        (pss_one (ps_ret pe_bl))
        pss_nil)))
    (pss_one (ps_ret pe_bl)))), ?_⟩
    refine ⟨_, rfl, v, rfl, hv, fun b H1 hb g1 => ⟨b, rfl, ?_⟩⟩
    rcases h with ⟨hn, q⟩ | ⟨p, xs, rfl, hp, q⟩
    · have eb : b = false := by
        cases b with
        | true => exact absurd (hb.mp rfl) hn
        | false => rfl
      subst eb
      exact iteT (iteT (q H1 g1))
    · have eb : b = true := hb.mpr ⟨p, xs, rfl, hp.1⟩
      subst eb
      refine iteF ?_
      have hp1 := hp.grow g1
      refine ⟨_, rfl, p, xs, rfl, hp1.sq, rfl, _, rfl, ite2 (fun h0 => ?_) (fun h0 => ?_)⟩
      · have e0 : xs = [] := by
          have e1 : ((xs.length : Nat) : Int) = 0 := V.int.inj (of_decide_eq_true h0)
          exact List.eq_nil_of_length_eq_zero (by omega)
        subst e0
        exact iteT (q H1 g1)
      · obtain ⟨x, r, rfl⟩ : ∃ x r, xs = x :: r := by
          cases xs with
          | nil => exact absurd (decide_eq_true rfl) h0
          | cons x r => exact ⟨x, r, rfl⟩
        have hx := hp1.2.2 x List.mem_cons_self
        refine ⟨_, rfl, ix_at hp1 (atI_nat (j := 0) rfl) ?_⟩
        refine ⟨x, rfl, hx.1, hx.2, fun H2 g2 => ⟨_, rfl, ?_⟩⟩
        have hp2 := hp1.grow g2
        cases hrow : rowV x with
        | false =>
          have qq := q H2 (g1.trans g2)
          rw [show chainV (x :: r) = (rowV x && chainT (x :: r)) from rfl, hrow] at qq
          exact iteT qq
        | true =>
          refine iteF ?_
          have en : ((((x :: r).length : Nat) : Int) - 1).toNat = r.length := by rw [List.length_cons]; omega
          have hlen : r.length + 1 ≤ 1000 := hp.2.1
          refine ⟨_, rfl, p, _, rfl, hp2.sq, 1, (((x :: r).length : Nat) : Int), rfl, ⟨by decide, by decide, by rw [List.length_cons]; omega, by rw [List.length_cons]; omega⟩, ?_⟩
          rw [en]
          refine for_range (lo := 1) (n := r.length) (fun i σ H3 => ∃ y, σ = [some (.ref p), y] ∧ Grow H2 H3 ∧ ∀ j, j < i → ∀ a b, (x :: r)[j]? = some a → (x :: r)[j + 1]? = some b → stepV a b = true) ⟨none, rfl, Grow.refl, fun j hj => absurd hj (Nat.not_lt_zero _)⟩ ?_ ?_
          · rintro i σ H3 hi ⟨y, rfl, g3, hs⟩
            have hp3 := hp2.grow g3
            have ha : (x :: r)[i]? = some ((x :: r)[i]'(by rw [List.length_cons]; omega)) := List.getElem?_eq_getElem _
            have hb : (x :: r)[i + 1]? = some ((x :: r)[i + 1]'(by rw [List.length_cons]; omega)) := List.getElem?_eq_getElem _
            generalize (x :: r)[i]'(by rw [List.length_cons]; omega) = va at ha
            generalize (x :: r)[i + 1]'(by rw [List.length_cons]; omega) = vb at hb
            have ra : rowV va = true := by
              cases i with
              | zero =>
                cases ha
                exact hrow
              | succ i =>
                have hc : (x :: r)[i]? = some ((x :: r)[i]'(by rw [List.length_cons]; omega)) := List.getElem?_eq_getElem _
                have := hs i (Nat.lt_succ_self _) _ _ hc ha
                exact ((Bool.and_eq_true _ _).mp this).1
            obtain ⟨za, rfl, _, la⟩ := row_str ra
            have okb := hp3.2.2 vb (List.mem_of_getElem? hb)
            have bad : stepV (.str za) vb = false → chainV (x :: r) = false := fun z => by
              rw [show chainV (x :: r) = (rowV x && chainT (x :: r)) from rfl]
              cases hc : chainT (x :: r) with
              | false => rw [Bool.and_false]
              | true =>
                have := (chainT_iff _).mp hc i _ _ ha hb
                rw [z] at this
                cases this
            have e1 : (1 + (i : Int)) = ((i + 1 : Nat) : Int) := by omega
            refine ⟨_, rfl, _, rfl, ?_⟩
            rw [e1]
            refine ix_at hp3 (atI_nat hb) ?_
            refine ⟨vb, rfl, okb.1, okb.2, fun H4 g4 => ⟨_, rfl, ?_⟩⟩
            have hp4 := hp3.grow g4
            have gg : Grow H H4 := ((g1.trans g2).trans g3).trans g4
            cases rb : rowV vb with
            | false =>
              have qq := q H4 gg
              rw [bad (by show (rowV vb && _) = false; rw [rb]; rfl)] at qq
              exact iteT (iteT qq)
            | true =>
              obtain ⟨zb, rfl, _, lb⟩ := row_str rb
              refine iteF ?_
              refine ⟨_, rfl, _, rfl, _, _, rfl, rfl, ?_⟩
              refine ix_at hp4 (by rw [show (((i + 1 : Nat) : Int) - 1) = (i : Int) by omega]; exact atI_nat ha) ?_
              refine ⟨_, rfl, _, rfl, ix_at hp4 (atI_nat hb) ?_⟩
              refine ⟨za, zb, rfl, by omega, by omega, fun H5 g5 => ⟨_, rfl, ?_⟩⟩
              cases hbl : belowL za.cps.toList zb.cps.toList with
              | false =>
                have qq := q H5 (gg.trans g5)
                rw [bad (by show (rowV (.str zb) && belowL za.cps.toList zb.cps.toList) = false; rw [hbl, Bool.and_false])] at qq
                exact iteT qq
              | true =>
                refine iteF ?_
                refine ⟨_, rfl, (g3.trans g4).trans g5, fun j hj a b ha2 hb2 => ?_⟩
                by_cases ej : j = i
                · subst ej
                  rw [ha] at ha2
                  rw [hb] at hb2
                  cases ha2
                  cases hb2
                  show (rowV (.str zb) && belowL za.cps.toList zb.cps.toList) = true
                  rw [hbl, rb]
                  rfl
                · exact hs j (by omega) a b ha2 hb2
          · rintro σ H3 ⟨y, rfl, g3, hs⟩
            have e : chainV (x :: r) = true := by
              rw [show chainV (x :: r) = (rowV x && chainT (x :: r)) from rfl, hrow]
              refine (chainT_iff _).mpr fun i a b ha hb => hs i ?_ a b ha hb
              have := (List.getElem?_eq_some_iff.mp hb).1
              rw [List.length_cons] at this
              omega
            have qq := q H3 ((g1.trans g2).trans g3)
            rw [e] at qq
            exact qq
end
end K19
namespace K19
open PySem PySem.Spec PyProof.Rows L2 HR SX
/-- over a list or a tuple -/
def iSeq (K : PySem.W.Frag) (tl : TE) : TI := fun σ H R => iList K tl σ H R ∨ iTup K tl σ H R
theorem pi_seq {X : Cx} {tg l : Expr} {tl : TE} (hl : PE X l tl) : PI X tg l (iSeq X.K tl) := ⟨fun pins s σ H R I h => h.elim ((pi_list hl).run pins s σ H R I) ((pi_tup hl).run pins s σ H R I)⟩
theorem iSeq_var {K : PySem.W.Frag} {i : Nat} {σ : L2.St} {H0 H : Hp} {p : Addr} {xs : List V} (hσ : σ[i]? = some (some (.ref p))) (a : SeqAtP H0 p xs) (g0 : Grow H0 H) {R : It → Hp → Prop} (hR : ∀ J, Walk J xs.length (Grow H0) (YAt xs) → R J H) : iSeq K (tVar i) σ H R := by
  rcases a.1 with h | h
  · exact .inl ⟨_, hσ, p, rfl, ⟨xs, SqL.of (g0 _ _ h)⟩, hR _ (walk_list.mono (fun H' g => SqL.of (g _ _ h)) fun _ _ _ _ _ _ y => y)⟩
  · exact .inr ⟨_, hσ, p, rfl, ⟨xs, SqT.of (g0 _ _ h)⟩, hR _ (walk_tup.mono (fun H' g => SqT.of (g _ _ h)) fun _ _ _ _ _ _ y => y)⟩
def sizesV (xs : List V) : List Int := xs.map fun x => sizeL (strL x)
def upTo (n : Nat) : List Int := (List.range n).map fun i : Nat => 1 + (i : Int)
def fullV (xs : List V) : Bool := chainV xs && (decide (sizesV xs = upTo xs.length) && !decide (48 ∈ (strL (xs.getLastD .non)).take xs.length))
theorem chain_rows {xs : List V} (h : chainV xs = true) : xs ≠ [] ∧ ∀ x ∈ xs, rowV x = true := by
  cases xs with
  | nil => cases h
  | cons a r =>
    refine ⟨List.cons_ne_nil _ _, fun x hx => ?_⟩
    obtain ⟨h1, h2⟩ := (Bool.and_eq_true _ _).mp (show (rowV a && chainT (a :: r)) = true from h)
    obtain ⟨i, hi⟩ := List.getElem?_of_mem hx
    cases i with
    | zero =>
      cases hi
      exact h1
    | succ i =>
      have hl := (List.getElem?_eq_some_iff.mp hi).1
      have := (chainT_iff _).mp h2 i _ x (List.getElem?_eq_getElem (by omega)) hi
      exact ((Bool.and_eq_true _ _).mp this).1
theorem rg_ints (n : Nat) : rgV 1 ((n : Int) + 1) = (upTo n).map V.int := by
  unfold rgV upTo
  rw [show (((n : Int) + 1) - 1).toNat = n by omega, List.map_map]
  rfl
theorem shaped_ints (l : List Int) : SeqAt.shaped (.list (l.map PyData.int)) = true := PySem.W.ke_shaped_ints l
theorem eqv_ints (l m : List Int) : PyData.eqv (.list (l.map PyData.int)) (.list (m.map PyData.int)) = decide (l = m) := PySem.W.ked_eqvAll l m
def spFull : Sp := fun vs H Q _ => ∃ v, vs = [v] ∧ PV H v ∧ ((¬ SeqV H v ∧ ∀ H', Grow H H' → Q (.bl false) H') ∨ ∃ p xs, v = .ref p ∧ SeqAtP H p xs ∧ ∀ H', Grow H H' → Q (.bl (fullV xs)) H')
section
variable {P : Program} {w : World} {K : PySem.W.Frag} {mg : Str → Option Value} {base : Heap}
theorem ok_is_full (T : HG.Tp K mg "is_full" s_is_full ["value"]) {C : Addr} (o_is_chain : HG.Df P w K mg base CX0 2 "is_chain" ["value"] spChain) (o_size_of : HG.Df P w K mg base (L2.CX P w) 4 "size_of" ["row"] (spSize C)) 
    (m_len : mg "len" = none) (m_range : mg "range" = none) (m_list : mg "list" = none) : FnOk P w K mg base CX0 5 T.f T.fd ["value"] spFull := by
  refine T.F.ok sc_is_full (fun vs H Q E h => ?_) (fun cdv A outer s H vs Q E hr h => ?_)
  · obtain ⟨v, rfl, _⟩ := h
    rfl
  · obtain ⟨v, rfl, hv, h⟩ := h
    refine ⟨_, (pss_cons (ps_if (pt_not (pt_val (HG.pe_c o_is_chain hr (pa_cons (pv 0) pa_nil))))
      (pss_one (ps_ret pe_bl))
      pss_nil)
    (pss_cons (ps_set (i := 1) sc_is_full.nd rfl (.inl rfl) (pe_callB call_len_seq (by rfl) m_len PySem.boot_len (pa_cons (pv 0) pa_nil)))
    (pss_cons (ps_if (pt_cmpR (op_neD hr.units) (pe_lc (own := [("row", 2)]) (by rfl) sc_is_full.nd (pi_seq (pv 0)) (blkOk_by (N := ["value", "many", "row"]) (sc := defScope s_is_full) (by decide +kernel)) (fun _ _ _ _ _ => (pg_name (i := 2) sc_is_full.nd rfl (Or.inl rfl))) (fun _ _ _ _ _ => pts_nil) (fun _ _ _ _ _ => (HG.pe_cL o_size_of hr (pa_cons (pv 2) pa_nil)))) (pe_listRg rfl (by rfl) m_list (prg_2 (by rfl) m_range pe_int (pe_op op_add (pv 1) pe_int))) (nomark _))
      (pss_one (ps_ret pe_bl))
      pss_nil)
    (pss_one (ps_ret (pe_cmpR op_notIn_sign pe_str (pe_slice C8.sl_txt (pe_ix ix_seq (pv 0) (pe_op op_sub (pv 1) pe_int) (fun _ _ => rfl)) po_none (po_some (pv 1))) rfl)))))), ?_⟩
    refine ⟨_, rfl, v, rfl, hv, ?_⟩
    rcases h with ⟨hn, q⟩ | ⟨p, xs, rfl, hp, q⟩
    · exact .inl ⟨hn, fun H1 g1 => ⟨_, rfl, iteT (q H1 g1)⟩⟩
    · refine .inr ⟨p, xs, rfl, hp, fun H1 g1 => ⟨_, rfl, ?_⟩⟩
      cases hc : chainV xs with
      | false =>
        have qq := q H1 g1
        rw [show fullV xs = (chainV xs && _) from rfl, hc] at qq
        exact iteT qq
      | true =>
        obtain ⟨hne, hrows⟩ := chain_rows hc
        have hp1 := hp.grow g1
        have hl := hp.2.1
        refine iteF ?_
        refine ⟨_, rfl, p, xs, rfl, hp1.sq, ?_⟩
        refine iSeq_var rfl hp1 Grow.refl (fun J wJ D nD => ?_)
        have fl : ((sizesV xs).map V.int).length ≤ 1000 := by unfold sizesV; rw [List.length_map, List.length_map]; exact hl
        refine lc_it wJ (LcI H1 D ((sizesV xs).map V.int)) (lc_start nD) (fun _ _ _ a => a.1) ?_ ?_
        · rintro i x H2 H3 hi a ⟨rfl, hx⟩
          have hm := List.mem_of_getElem? hx
          refine ⟨rfl, ?_⟩
          obtain ⟨z, rfl, hz, _⟩ := row_str (hrows x hm)
          refine ⟨_, rfl, _, rfl, (hp1.2.2 _ hm).grow a.1, fun z' e _ H4 g4 => ?_, fun hb => ?_⟩
          · cases e
            refine lc_fin nD a g4 ?_ fl
            unfold sizesV
            rw [List.getElem?_map, List.getElem?_map, hx]
            rfl
          · rw [hrows _ hm] at hb
            cases hb
        · rintro H2 a
          obtain ⟨g2, e2⟩ := lc_end a (by unfold sizesV; rw [List.length_map, List.length_map]; exact Nat.le_refl _)
          have hfull : fullV xs = (decide (sizesV xs = upTo xs.length) && !decide (48 ∈ (strL (xs.getLastD .non)).take xs.length)) := by
            show (chainV xs && _) = _
            rw [hc]
            rfl
          refine ⟨_, rfl, _, _, rfl, rfl, _, _, rfl, rfl, ⟨by decide, by decide, by omega, by omega, by omega⟩, fun r nr => ?_⟩
          rw [rg_ints]
          refine ⟨.list ((sizesV xs).map PyData.int), .list ((upTo xs.length).map PyData.int), .lst (SqL.of (HD.stay nr e2)) (HD.dp_ints _), .lst (SqL.of upd_same) (HD.dp_ints _), shaped_ints _, shaped_ints _, _, rfl, ?_⟩
          have g3 : Grow H1 (upd H2 r (.lst ((upTo xs.length).map V.int))) := g2.trans (Grow.new nr)
          have hp3 := hp1.grow g3
          rw [eqv_ints]
          have qq := q _ (g1.trans g3)
          rw [hfull] at qq
          cases hd : decide (sizesV xs = upTo xs.length) with
          | false =>
            rw [hd] at qq
            exact iteT qq
          | true =>
            rw [hd, Bool.true_and] at qq
            refine iteF ?_
            have hpos : 0 < xs.length := by
              cases xs with
              | nil => exact absurd rfl hne
              | cons a r => exact Nat.succ_pos _
            have hlast : xs[xs.length - 1]? = some (xs.getLastD .non) := by
              rw [← List.getLast?_eq_getElem?]
              cases xs with
              | nil => exact absurd rfl hne
              | cons a r => rw [List.getLast?_eq_some_getLast (List.cons_ne_nil _ _), List.getLastD_cons]; simp [List.getLast_eq_getLastD]
            have hm := List.mem_of_getElem? hlast
            obtain ⟨z, ez, hz, lz⟩ := row_str (hrows _ hm)
            rw [ez] at qq hlast
            refine ⟨_, rfl, _, rfl, _, _, rfl, rfl, ?_⟩
            refine ix_at hp3 (by rw [show ((xs.length : Int) - 1) = ((xs.length - 1 : Nat) : Int) by omega]; exact atI_nat hlast) ?_
            refine ⟨_, rfl, _, rfl, z, rfl, by have := small1000 (show z.length ≤ 1000 by omega); omega, 48, _, rfl, rfl, ?_⟩
            have es : Txt.slice z none (some (xs.length : Int)) = S (z.cps.toList.take xs.length) := by
              have e := slice_to (a := z.cps.toList) (i := (xs.length : Int)) (by omega)
              rw [S_tl] at e
              exact e
            rw [es]
            exact qq
end
end K19
namespace K19
open PySem PySem.Spec PyProof.Rows L2 HR SX
/-! ### lists side by side -/
def All2 {α β : Type} (R : α → β → Prop) (xs : List α) (ys : List β) : Prop := xs.length = ys.length ∧ ∀ (i : Nat) (x : α) (y : β), xs[i]? = some x → ys[i]? = some y → R x y
section
variable {α β : Type} {R R' : α → β → Prop} {xs xs' : List α} {ys ys' : List β} {x : α} {y : β}
theorem All2.nil : All2 R [] [] := ⟨rfl, fun i x y h => by simp at h⟩
theorem All2.mono (a : All2 R xs ys) (h : ∀ x y, R x y → R' x y) : All2 R' xs ys := ⟨a.1, fun i x y hx hy => h x y (a.2 i x y hx hy)⟩
theorem All2.cons (h : R x y) (a : All2 R xs ys) : All2 R (x :: xs) (y :: ys) := ⟨by rw [List.length_cons, List.length_cons, a.1], fun i u v hu hv => by
  cases i with
  | zero =>
    cases hu
    cases hv
    exact h
  | succ i => exact a.2 i u v hu hv⟩
theorem All2.app (a : All2 R xs ys) (b : All2 R xs' ys') : All2 R (xs ++ xs') (ys ++ ys') := ⟨by rw [List.length_append, List.length_append, a.1, b.1], fun i u v hu hv => by
  by_cases h : i < xs.length
  · rw [List.getElem?_append_left h] at hu
    rw [List.getElem?_append_left (by rw [← a.1]; exact h)] at hv
    exact a.2 i u v hu hv
  · rw [List.getElem?_append_right (by omega)] at hu
    rw [List.getElem?_append_right (by rw [← a.1]; omega)] at hv
    rw [← a.1] at hv
    exact b.2 _ u v hu hv⟩
theorem All2.one (h : R x y) : All2 R [x] [y] := .cons h .nil
theorem All2.take (a : All2 R xs ys) (n : Nat) : All2 R (xs.take n) (ys.take n) := ⟨by rw [List.length_take, List.length_take, a.1], fun i u v hu hv => by
  rw [List.getElem?_take] at hu hv
  by_cases h : i < n
  · rw [if_pos h] at hu hv
    exact a.2 i u v hu hv
  · rw [if_neg h] at hu
    cases hu⟩
theorem All2.drop (a : All2 R xs ys) (n : Nat) : All2 R (xs.drop n) (ys.drop n) := ⟨by rw [List.length_drop, List.length_drop, a.1], fun i u v hu hv => by
  rw [List.getElem?_drop] at hu hv
  exact a.2 _ u v hu hv⟩
theorem All2.at (a : All2 R xs ys) {i : Nat} (h : ys[i]? = some y) : ∃ x, xs[i]? = some x ∧ R x y := by
  have hl := (List.getElem?_eq_some_iff.mp h).1
  have hx : xs[i]? = some (xs[i]'(by rw [a.1]; exact hl)) := List.getElem?_eq_getElem _
  exact ⟨_, hx, a.2 i _ y hx h⟩
end
def withS (l : List Nat) (p c : Nat) : List Nat := l.take p ++ [c] ++ l.drop (p + 1)
theorem withS_len {l : List Nat} {p c : Nat} (h : p < l.length) : (withS l p c).length = l.length := by
  unfold withS
  rw [List.length_append, List.length_append, List.length_take, List.length_drop]
  show _ + 1 + _ = _
  omega
def rowsV (c : List (List Nat)) : List V := c.map fun l => V.str (S l)
def gFull : Hp → V → Bool → Prop := fun H v b => (¬ SeqV H v ∧ b = false) ∨ ∃ p xs, v = .ref p ∧ SeqAtP H p xs ∧ b = fullV xs
/-- the items of range that pass, in the new list -/
def LcF (H1 : Hp) (D : Addr) (f : Nat → Bool) (g : Nat → V) (i : Nat) (H : Hp) : Prop := Grow H1 H ∧ H D = some (.lst (((List.range i).filter f).map g))
theorem lcf_no {H1 H H4 : Hp} {D : Addr} {f : Nat → Bool} {g : Nat → V} {i : Nat} (a : LcF H1 D f g i H) (k : Grow H H4) (h : f i = false) : LcF H1 D f g (i + 1) H4 := by
  refine ⟨fun q o e => k _ _ (a.1 q o e), ?_⟩
  rw [List.range_succ, List.filter_append, List.filter_cons_of_neg (by rw [h]; exact Bool.false_ne_true), List.filter_nil, List.append_nil]
  exact k _ _ a.2
theorem lcf_yes {H1 H H4 : Hp} {D : Addr} {f : Nat → Bool} {g : Nat → V} {i : Nat} (n : H1 D = none) (a : LcF H1 D f g i H) (k : Grow H H4) (h : f i = true) (hl : i ≤ 1000) :
    ∃ acc, H4 D = some (.lst acc) ∧ acc.length < sizeLine ∧ LcF H1 D f g (i + 1) (upd H4 D (.lst (acc ++ [g i]))) := by
  refine ⟨_, k _ _ a.2, ?_, fun q o e => ?_, ?_⟩
  · rw [List.length_map]
    have := List.length_filter_le f (List.range i)
    rw [List.length_range] at this
    exact small1000 (by omega)
  · rw [upd_ne (ne_of_none e n)]
    exact k _ _ (a.1 q o e)
  · rw [upd_same, List.range_succ, List.filter_append, List.filter_cons_of_pos h, List.filter_nil, List.map_append]
    rfl
section
variable {P : Program} {w : World} {K : PySem.W.Frag} {mg : Str → Option Value} {base : Heap}
theorem ok_want_full (T : HG.Tp K mg "want_full" s_want_full ["value", "part"]) (o_is_full : HG.Df P w K mg base CX0 5 "is_full" ["value"] spFull) (e_BadChain : HX.Er P w K mg base "BadChain") :
    FnOk P w K mg base (L2.CX P w) 6 T.f T.fd ["value", "part"] (spWant e_BadChain.C gFull) := by
  refine T.F.okX sc_want_full (fun vs H Q E h => ?_) (fun cdv A outer s H vs Q E hr h => ?_)
  · obtain ⟨v, x, b, rfl, _⟩ := h
    rfl
  · obtain ⟨v, x, b, rfl, hv, hg, q1, q2⟩ := h
    have tk : Takes (cxOf (L2.CX P w) P w K mg base ["value", "part"] "want_full" (defScope s_want_full) T.f cdv A outer s H E) (fun cls d _ H => E cls d H) := takes_of rfl rfl rfl rfl
    refine ⟨_, (pss_one (ps_if (pt_not (pt_val (HG.pe_c o_is_full hr (pa_cons (pv 0) pa_nil))))
      (pss_one (HX.ps_raise_er e_BadChain hr tk (pv 1)))
      pss_nil)), ?_⟩
    refine ⟨_, rfl, v, rfl, hv.1, ?_⟩
    rcases hg with ⟨hn, rfl⟩ | ⟨p, xs, rfl, hp, rfl⟩
    · exact .inl ⟨hn, fun H1 g1 => ⟨_, rfl, iteT ⟨_, rfl, HX.raise_go (q2 rfl H1 g1)⟩⟩⟩
    · refine .inr ⟨p, xs, rfl, hp, fun H1 g1 => ⟨_, rfl, ?_⟩⟩
      cases hb : fullV xs with
      | true => exact iteF (q1 hb H1 g1)
      | false => exact iteT ⟨_, rfl, HX.raise_go (q2 hb H1 g1)⟩
/-- what a d-chain is -/
theorem full_rows {xs : List V} (h : fullV xs = true) : ∃ n, n ≤ 12 ∧ xs ≠ [] ∧ ∀ (i : Nat) x, xs[i]? = some x → ∃ z : Str, x = .str z ∧ rowL z.cps.toList = true ∧ z.length = n ∧ z.cps.toList = (xs.map strL).getD i [] := by
  have hc : chainV xs = true := ((Bool.and_eq_true _ _).mp (show (chainV xs && _) = true from h)).1
  obtain ⟨hne, hr⟩ := chain_rows hc
  cases xs with
  | nil => exact absurd rfl hne
  | cons a r =>
    obtain ⟨za, rfl, ra, la⟩ := row_str (hr a List.mem_cons_self)
    have ht : chainT (.str za :: r) = true := ((Bool.and_eq_true _ _).mp (show (rowV (.str za) && chainT (.str za :: r)) = true from hc)).2
    have key : ∀ (i : Nat) x, (V.str za :: r)[i]? = some x → (strL x).length = za.length := by
      intro i
      induction i with
      | zero =>
        intro x hx
        cases hx
        show za.cps.toList.length = za.length
        simp [Str.length]
      | succ i ih =>
        intro x hx
        have hl := (List.getElem?_eq_some_iff.mp hx).1
        have h0 : (V.str za :: r)[i]? = some ((V.str za :: r)[i]'(by omega)) := List.getElem?_eq_getElem _
        have h1 := ih _ h0
        have h2 := (chainT_iff _).mp ht i _ x h0 hx
        have h3 := ((Bool.and_eq_true _ _).mp h2).2
        have h4 := of_decide_eq_true ((Bool.and_eq_true _ _).mp h3).1
        omega
    refine ⟨za.length, la, hne, fun i x hx => ?_⟩
    obtain ⟨z, rfl, rz, lz⟩ := row_str (hr x (List.mem_of_getElem? hx))
    refine ⟨z, rfl, rz, ?_, ?_⟩
    · have := key i _ hx
      have e : (strL (.str z)).length = z.length := by
        show z.cps.toList.length = z.length
        simp [Str.length]
      omega
    · rw [List.getD_eq_getElem?_getD, List.getElem?_map, hx]
      rfl
theorem full_step {xs : List V} (h : fullV xs = true) {i : Nat} {x y : V} (hx : xs[i]? = some x) (hy : xs[i + 1]? = some y) : belowL (strL x) (strL y) = true := by
  have hc : chainV xs = true := ((Bool.and_eq_true _ _).mp (show (chainV xs && _) = true from h)).1
  cases xs with
  | nil => cases hc
  | cons a r =>
    have ht : chainT (a :: r) = true := ((Bool.and_eq_true _ _).mp (show (rowV a && chainT (a :: r)) = true from hc)).2
    exact ((Bool.and_eq_true _ _).mp ((chainT_iff _).mp ht i x y hx hy)).2
theorem cut_to {xs : List V} {i : Nat} : cutV xs none (some (i : Int)) = xs.take i := by
  show (xs.drop (HT.sIx xs.length 0 none)).take (HT.sIx xs.length xs.length (some (i : Int)) - HT.sIx xs.length 0 none) = _
  rw [HT.sIx_none, HT.sIx_nat, List.drop_zero, Nat.sub_zero]
  by_cases h : i ≤ xs.length
  · rw [Nat.min_eq_left h]
  · rw [Nat.min_eq_right (by omega), List.take_of_length_le (Nat.le_refl _), List.take_of_length_le (by omega)]
theorem cut_from {xs : List V} {i : Nat} : cutV xs (some (i : Int)) none = xs.drop i := by
  show (xs.drop (HT.sIx xs.length 0 (some (i : Int)))).take (HT.sIx xs.length xs.length none - HT.sIx xs.length 0 (some (i : Int))) = _
  rw [HT.sIx_none, HT.sIx_nat]
  by_cases h : i ≤ xs.length
  · rw [Nat.min_eq_left h, List.take_of_length_le (by rw [List.length_drop]; omega)]
  · rw [Nat.min_eq_right (by omega), List.drop_of_length_le (Nat.le_refl _), List.drop_of_length_le (by omega), List.take_nil]
/-- t[lo:hi], the whole of it or a part -/
theorem sl_any {K : PySem.W.Frag} {xs : List V} {lo hi : Option Int} {a : Addr} {H : Hp} {Q : VK} (h : H a = some (.tup xs)) (q : ∀ t H', Grow H H' → H' t = some (.tup (cutV xs lo hi)) → Q (.ref t) H') : rSlA K (.ref a) lo hi H Q := by
  refine ⟨a, xs, rfl, SqT.of h, fun ⟨e1, e2⟩ => q a H Grow.refl ?_, fun _ p np => q p _ (Grow.new np) upd_same⟩
  rw [h]
  show _ = some (HO.tup ((xs.drop (HT.sIx xs.length 0 lo)).take (HT.sIx xs.length xs.length hi - HT.sIx xs.length 0 lo)))
  rw [e1, e2, List.drop_zero, Nat.sub_zero, List.take_of_length_le (Nat.le_refl _)]
/-- the written dict of opposite signs -/
def OppK (K : PySem.W.Frag) (w : World) (a : Addr) : Prop := KDct K w a (S [43]) (.str (S [45])) ∧ KDct K w a (S [45]) (.str (S [43])) ∧ KDct K w a (S [48]) (.str (S [48]))
end
end K19
namespace K19
open PySem PySem.Spec PyProof.Rows L2 HR SX HZ
def oppS (c : Nat) : Nat := if c = 43 then 45 else if c = 45 then 43 else 48
/-- the row between two rows, that takes the other one of the two places first -/
def midL : List Nat → List Nat → List Nat → List Nat
  | a :: r, b :: s, c :: t => (if b = a then c else a) :: midL r s t
  | _, _, _ => []
/-- the last row with the other sign -/
def turnL : List Nat → List Nat → List Nat
  | a :: r, b :: s => (if b = a then b else oppS b) :: turnL r s
  | _, _ => []
def lowL (c : List (List Nat)) (i : Nat) : List Nat := if 0 < i then c.getD (i - 1) [] else List.replicate (c.getD i []).length 48
def rowB (c : List (List Nat)) (i : Nat) : Option (List Nat) :=
  if i + 1 < c.length then some (midL (lowL c i) (c.getD i []) (c.getD (i + 1) [])) else if (lowL c i).getD i 0 = 48 then none else some (turnL (lowL c i) (c.getD i []))
theorem midL_len : ∀ {n : Nat} {a b c : List Nat}, a.length = n → b.length = n → c.length = n → (midL a b c).length = n
  | 0, [], [], [], _, _, _ => rfl
  | n + 1, x :: a, y :: b, z :: c, h1, h2, h3 => congrArg Nat.succ (midL_len (Nat.succ.inj h1) (Nat.succ.inj h2) (Nat.succ.inj h3))
theorem turnL_len : ∀ {n : Nat} {a b : List Nat}, a.length = n → b.length = n → (turnL a b).length = n
  | 0, [], [], _, _ => rfl
  | n + 1, x :: a, y :: b, h1, h2 => congrArg Nat.succ (turnL_len (Nat.succ.inj h1) (Nat.succ.inj h2))
theorem midL_at : ∀ {i : Nat} {a b c : List Nat} {x y z : Nat}, a[i]? = some x → b[i]? = some y → c[i]? = some z → (midL a b c)[i]? = some (if y = x then z else x)
  | 0, _ :: _, _ :: _, _ :: _, _, _, _, h1, h2, h3 => by cases h1; cases h2; cases h3; rfl
  | i + 1, _ :: a, _ :: b, _ :: c, _, _, _, h1, h2, h3 => midL_at (i := i) (a := a) (b := b) (c := c) h1 h2 h3
  | _, [], _, _, _, _, _, h1, _, _ => by simp at h1
  | _, _ :: _, [], _, _, _, _, _, h2, _ => by simp at h2
  | _, _ :: _, _ :: _, [], _, _, _, _, _, h3 => by simp at h3
theorem turnL_at : ∀ {i : Nat} {a b : List Nat} {x y : Nat}, a[i]? = some x → b[i]? = some y → (turnL a b)[i]? = some (if y = x then y else oppS y)
  | 0, _ :: _, _ :: _, _, _, h1, h2 => by cases h1; cases h2; rfl
  | i + 1, _ :: a, _ :: b, _, _, h1, h2 => turnL_at (i := i) (a := a) (b := b) h1 h2
  | _, [], _, _, _, h1, _ => by simp at h1
  | _, _ :: _, [], _, _, _, h2 => by simp at h2
def sg1 (c : Nat) : V := .str ⟨#[c]⟩
theorem join1 : ∀ l : List Nat, TL.joinL [] (l.map fun c => [c]) = l
  | [] => rfl
  | [c] => rfl
  | c :: d :: r => by
    have ih := join1 (d :: r)
    show [c] ++ ([] ++ TL.joinL [] ((d :: r).map fun c => [c])) = _
    rw [ih]
    rfl
theorem join_sg (l : List Nat) : Txt.join (Str.ofString "") (l.map fun c => S [c]) = S l := by
  have e := join_S [] (l.map fun c => [c])
  rw [join1, List.map_map] at e
  exact e
theorem map_sg (l : List Nat) : l.map sg1 = (l.map fun c => S [c]).map V.str := by
  rw [List.map_map]
  rfl
theorem sum_sg : ∀ l : List Nat, ((l.map fun c => S [c]).map (·.length)).sum = l.length
  | [] => rfl
  | c :: r => by
    have ih := sum_sg r
    show 1 + ((r.map fun c => S [c]).map (·.length)).sum = r.length + 1
    omega
theorem S_at {l : List Nat} {i : Nat} {c : Nat} (h : (S l).cps[i]? = some c) : l[i]? = some c := by
  simpa [S] using h
theorem S_size (l : List Nat) : (S l).cps.size = l.length := by simp [S]
theorem rows_at {c : List (List Nat)} {i : Nat} (h : i < c.length) : (rowsV c)[i]? = some (.str (S (c.getD i []))) := by
  unfold rowsV
  rw [List.getElem?_map, List.getElem?_eq_getElem h, List.getD_eq_getElem?_getD, List.getElem?_eq_getElem h]
  rfl
theorem sg1_eq (a b : Nat) : decide (V.str ⟨#[a]⟩ = V.str ⟨#[b]⟩) = decide (a = b) := by
  by_cases h : a = b
  · rw [h, decide_eq_true rfl, decide_eq_true rfl]
  · rw [decide_eq_false h, decide_eq_false fun z => h ?_]
    have z2 : (#[a] : Array Nat) = #[b] := congrArg (·.cps) (V.str.inj z)
    exact (List.cons.inj (congrArg (·.toList) z2)).1
def spRB : Sp := fun vs H Q _ => ∃ (p : Addr) (c : List (List Nat)) (i n : Nat), vs = [.ref p, .int (i : Nat)] ∧ SeqAtP H p (rowsV c) ∧ i < c.length ∧ c.length ≤ n ∧ n ≤ 12 ∧ (∀ l ∈ c, l.length = n ∧ l.all sgn = true) ∧
  (rowB c i = none → ∀ H', Grow H H' → Q .non H') ∧ ∀ r, rowB c i = some r → ∀ H', Grow H H' → Q (.str (S r)) H'
section
variable {P : Program} {w : World} {K : PySem.W.Frag} {mg : Str → Option Value} {base : Heap}
theorem ok_row_beyond (T : HG.Tp K mg "row_beyond" s_row_beyond ["chain", "index"]) {aO : Addr} (m_OPPOSITES : mg "OPPOSITES" = some (.ref aO)) (k_OPP : OppK K w aO) (m_len : mg "len" = none) (m_zip : mg "zip" = none) :
    FnOk P w K mg base CX0 1 T.f T.fd ["chain", "index"] spRB := by
  refine T.F.ok sc_row_beyond (fun vs H Q E h => ?_) (fun cdv A outer s H vs Q E hr h => ?_)
  · obtain ⟨p, c, i, n, rfl, _⟩ := h
    rfl
  · obtain ⟨p, c, i, n, rfl, hp, hi, hcn, hn, hrow, q1, q2⟩ := h
    refine ⟨_, (pss_cons (ps_set (i := 2) sc_row_beyond.nd rfl (.inl rfl) (pe_ix ix_seq (pv 0) (pv 1) (fun _ _ => rfl)))
    (pss_cons (ps_set (i := 3) sc_row_beyond.nd rfl (.inl rfl) (pe_ifExp (pt_cmpR op_gt (pv 1) pe_int (nomark _)) (pe_ix ix_seq (pv 0) (pe_op op_sub (pv 1) pe_int) (fun _ _ => rfl)) (pe_op op_mul_str pe_str (pe_callB call_len_str (by rfl) m_len PySem.boot_len (pa_cons (pv 2) pa_nil)))))
    (pss_cons (ps_if (pt_cmpR op_lt (pv 1) (pe_op op_sub (pe_callB call_len_seq (by rfl) m_len PySem.boot_len (pa_cons (pv 0) pa_nil)) pe_int) (nomark _))
      (pss_cons (ps_set (i := 4) sc_row_beyond.nd rfl (.inl rfl) (pe_ix ix_seq (pv 0) (pe_op op_add (pv 1) pe_int) (fun _ _ => rfl)))
      (pss_one (ps_ret (pe_join pe_str (pe_lc (own := [("below", 5), ("here", 6), ("above", 7)]) (by rfl) sc_row_beyond.nd (pi_zip3 (by rfl) m_zip (pa_cons (pv 3) (pa_cons (pv 2) (pa_cons (pv 4) pa_nil)))) (blkOk_by (N := ["chain", "index", "row", "lower", "upper", "below", "here", "above"]) (sc := defScope s_row_beyond) (by decide +kernel)) (fun _ _ _ _ _ => (pg_tupK (n := 3) K rfl rfl (pgs_cons (pg_name (i := 5) sc_row_beyond.nd rfl (Or.inl rfl)) (pgs_cons (pg_name (i := 6) sc_row_beyond.nd rfl (Or.inl rfl)) (pgs_cons (pg_name (i := 7) sc_row_beyond.nd rfl (Or.inl rfl)) pgs_nil))))) (fun _ _ _ _ _ => pts_nil) (fun _ _ _ _ _ => (pe_ifExp (pt_cmpR op_eq (pv 6) (pv 5) (nomark _)) (pv 7) (pv 5))))))))
      pss_nil)
    (pss_cons (ps_if (pt_cmpR op_eq (pe_ix ix_str (pv 3) (pv 1) (fun _ _ => rfl)) pe_str (nomark _))
      (pss_one (ps_ret pe_non))
      pss_nil)
    (pss_one (ps_ret (pe_join pe_str (pe_lc (own := [("below", 5), ("here", 6)]) (by rfl) sc_row_beyond.nd (pi_zip2 (by rfl) m_zip (pa_cons (pv 3) (pa_cons (pv 2) pa_nil))) (blkOk_by (N := ["chain", "index", "row", "lower", "upper", "below", "here", "above"]) (sc := defScope s_row_beyond) (by decide +kernel)) (fun _ _ _ _ _ => (pg_tupK (n := 2) K rfl rfl (pgs_cons (pg_name (i := 5) sc_row_beyond.nd rfl (Or.inl rfl)) (pgs_cons (pg_name (i := 6) sc_row_beyond.nd rfl (Or.inl rfl)) pgs_nil)))) (fun _ _ _ _ _ => pts_nil) (fun _ _ _ _ _ => (pe_ifExp (pt_cmpR op_eq (pv 6) (pv 5) (nomark _)) (pv 6) (pe_ix (ix_kdictK K w rfl rfl) (pe_glob (v := .ref aO) (by rfl) m_OPPOSITES rfl) (pv 6) (fun _ _ => rfl)))))))))))), ?_⟩
    have gi := rows_at hi
    have hl0 := hrow _ (List.getElem_mem hi)
    have el : c.getD i [] = c[i] := by rw [List.getD_eq_getElem?_getD, List.getElem?_eq_getElem hi]; rfl
    have hri : (c.getD i []).length = n ∧ (c.getD i []).all sgn = true := by rw [el]; exact hl0
    obtain ⟨lo, hlo⟩ : ∃ lo, lo = lowL c i := ⟨_, rfl⟩
    obtain ⟨ro, hro⟩ : ∃ ro, ro = c.getD i [] := ⟨_, rfl⟩
    have hlol : lo.length = n := by
      rw [hlo]
      unfold lowL
      by_cases h0 : 0 < i
      · rw [if_pos h0]
        have hj : i - 1 < c.length := by omega
        have := hrow _ (List.getElem_mem hj)
        rw [List.getD_eq_getElem?_getD, List.getElem?_eq_getElem hj]
        exact this.1
      · rw [if_neg h0, List.length_replicate]
        exact hri.1
    have eb : rowB c i = if i + 1 < c.length then some (midL lo ro (c.getD (i + 1) [])) else if lo.getD i 0 = 48 then none else some (turnL lo ro) := by
      rw [hlo, hro]
      rfl
    rw [eb] at q1 q2
    rw [← hro] at gi hri
    have sz := sizeLine_eq
    have len2 : (rowsV c).length = c.length := by unfold rowsV; rw [List.length_map]
    refine ⟨_, rfl, _, rfl, ix_at hp (atI_nat gi) ?_⟩
    refine ⟨_, rfl, _, _, rfl, rfl, _, rfl, ite2 (fun h0 => ?_) (fun h0 => ?_)⟩
    have h0' : 0 < i := by
      have : (0 : Int) < (i : Int) := of_decide_eq_true h0
      omega
    have hj : i - 1 < c.length := by omega
    have gj := rows_at hj
    have ej : lo = c.getD (i - 1) [] := by rw [hlo]; exact if_pos h0'
    refine ⟨_, rfl, _, rfl, _, _, rfl, rfl, ix_at hp (by rw [show ((i : Int) - 1) = ((i - 1 : Nat) : Int) by omega]; exact atI_nat gj) ?_⟩
    rw [← ej]
    rotate_left
    have h0' : ¬ 0 < i := fun z => h0 (decide_eq_true (show (0 : Int) < (i : Int) by omega))
    have ej : lo = List.replicate n 48 := by
      rw [hlo]
      show (if 0 < i then _ else _) = _
      rw [if_neg h0', ← hro, hri.1]
    refine ⟨_, rfl, _, rfl, by rw [S_len]; omega, ?_⟩
    refine ⟨_, _, rfl, rfl, by rw [S_len]; exact mul_ok (by omega), ?_⟩
    rw [show Txt.mul "0" ((S ro).length : Int) = S lo from by rw [S_len, hri.1, ej]; exact mul_S n]
    all_goals
      refine ⟨_, rfl, _, rfl, p, _, rfl, hp.sq, _, _, rfl, rfl, _, _, rfl, rfl, _, rfl, ite2 (fun h => ?_) (fun h => ?_)⟩
      · have h1 : i + 1 < c.length := by
          have : (i : Int) < ((rowsV c).length : Int) - 1 := of_decide_eq_true h
          omega
        have gk := rows_at h1
        have hup : (c.getD (i + 1) []).length = n := by
          rw [List.getD_eq_getElem?_getD, List.getElem?_eq_getElem h1]
          exact (hrow _ (List.getElem_mem h1)).1
        generalize c.getD (i + 1) [] = up at gk hup q2
        refine ⟨_, rfl, _, rfl, _, _, rfl, rfl, ix_at hp (by rw [show ((i : Int) + 1) = ((i + 1 : Nat) : Int) by omega]; exact atI_nat gk) ?_⟩
        have ml := midL_len hlol hri.1 hup
        refine ⟨⟨_, rfl⟩, _, rfl, _, rfl, _, rfl, S lo, S ro, S up, rfl, fun D nD => ?_⟩
        refine lc_it walk_f (LcI H D ((midL lo ro up).map sg1)) (lc_start nD) (fun _ _ _ _ => trivial) ?_ ?_
        · rintro j x H2 H3 hj a ⟨t, l, rfl, nt, rfl, x1, y1, z1, hx, hy, hz, rfl⟩
          refine ⟨t, _, rfl, SqT.of upd_same, rfl, _, _, rfl, _, _, rfl, _, _, rfl, rfl, ?_⟩
          refine ⟨rfl, ?_⟩
          refine ⟨_, rfl, _, rfl, rfl, _, rfl, ?_⟩
          rw [sg1_eq]
          have fin : ∀ v : Nat, (midL lo ro up)[j]? = some v → ∃ acc, (upd H2 t (.tup [.str ⟨#[x1]⟩, .str ⟨#[y1]⟩, .str ⟨#[z1]⟩])) D = some (.lst acc) ∧ acc.length < sizeLine ∧ LcI H D ((midL lo ro up).map sg1) (j + 1) (upd (upd H2 t (.tup [.str ⟨#[x1]⟩, .str ⟨#[y1]⟩, .str ⟨#[z1]⟩])) D (.lst (acc ++ [.str ⟨#[v]⟩]))) := fun v hv =>
            lc_fin nD a (Grow.new nt) (by rw [List.getElem?_map, hv]; rfl) (by rw [List.length_map]; omega)
          have e := midL_at (S_at hx) (S_at hy) (S_at hz)
          by_cases hxy : y1 = x1
          · rw [if_pos hxy] at e
            exact iteT' (decide_eq_true hxy) ⟨_, rfl, fin _ e⟩
          · rw [if_neg hxy] at e
            exact iteF' (decide_eq_false hxy) ⟨_, rfl, fin _ e⟩
        · rintro H2 a
          rw [S_size, S_size, S_size] at a
          obtain ⟨g2, e2⟩ := lc_end a (by rw [List.length_map]; omega)
          refine ⟨_, D, (midL lo ro up).map fun c => S [c], rfl, rfl, .inl (SqL.of (by rw [e2, map_sg])), ?_, ?_⟩
          · rw [sum_sg, List.length_map]
            show _ + _ * 0 ≤ _
            omega
          · show Q (.str (Txt.join (Str.ofString "") _)) _
            rw [join_sg]
            exact q2 _ (if_pos h1) H2 g2
      · have h1 : ¬ i + 1 < c.length := fun z => h (decide_eq_true (show (i : Int) < ((rowsV c).length : Int) - 1 by omega))
        rw [if_neg h1] at q1 q2
        have hli : lo[i]? = some (lo.getD i 0) := by
          have hlt : i < lo.length := by omega
          rw [List.getD_eq_getElem?_getD, List.getElem?_eq_getElem hlt]
          rfl
        generalize lo.getD i 0 = g at hli q1 q2
        refine ⟨_, rfl, _, rfl, S lo, _, _, rfl, rfl, by rw [S_len]; omega, atI_nat (by simpa using hli), rfl, _, rfl, ?_⟩
        by_cases hg : g = 48
        · rw [if_pos hg] at q1
          exact iteT' (by rw [hg]; exact decide_eq_true rfl) (q1 rfl H Grow.refl)
        · rw [if_neg hg] at q2
          refine iteF' ((sg1_eq g 48).trans (decide_eq_false hg)) ?_
          have tl := turnL_len hlol hri.1
          refine ⟨⟨_, rfl⟩, _, rfl, _, rfl, S lo, S ro, rfl, fun D nD => ?_⟩
          refine lc_it walk_f (LcI H D ((turnL lo ro).map sg1)) (lc_start nD) (fun _ _ _ _ => trivial) ?_ ?_
          · rintro j x H2 H3 hj a ⟨t, l, rfl, nt, rfl, x1, y1, hx, hy, rfl⟩
            refine ⟨t, _, rfl, SqT.of upd_same, rfl, _, _, rfl, _, _, rfl, rfl, ?_⟩
            refine ⟨rfl, ?_⟩
            refine ⟨_, rfl, _, rfl, rfl, _, rfl, ?_⟩
            rw [sg1_eq]
            have fin : ∀ v : Nat, (turnL lo ro)[j]? = some v → ∃ acc, (upd H2 t (.tup [.str ⟨#[x1]⟩, .str ⟨#[y1]⟩])) D = some (.lst acc) ∧ acc.length < sizeLine ∧ LcI H D ((turnL lo ro).map sg1) (j + 1) (upd (upd H2 t (.tup [.str ⟨#[x1]⟩, .str ⟨#[y1]⟩])) D (.lst (acc ++ [.str ⟨#[v]⟩]))) := fun v hv =>
              lc_fin nD a (Grow.new nt) (by rw [List.getElem?_map, hv]; rfl) (by rw [List.length_map]; omega)
            have e := turnL_at (S_at hx) (S_at hy)
            by_cases hxy : y1 = x1
            · rw [if_pos hxy] at e
              exact iteT' (decide_eq_true hxy) ⟨_, rfl, fin _ e⟩
            · rw [if_neg hxy] at e
              have hs : y1 = 43 ∨ y1 = 45 ∨ y1 = 48 := by
                have := List.all_eq_true.mp hri.2 y1 (List.mem_of_getElem? (S_at hy))
                revert this
                unfold sgn
                simp
              have hk : KDct K w aO (S [y1]) (.str (S [oppS y1])) := by
                rcases hs with z | z | z
                · rw [z]; exact k_OPP.1
                · rw [z]; exact k_OPP.2.1
                · rw [z]; exact k_OPP.2.2
              exact iteF' (decide_eq_false hxy) ⟨_, rfl, aO, _, _, rfl, rfl, hk, fin _ e⟩
          · rintro H2 a
            rw [S_size, S_size] at a
            obtain ⟨g2, e2⟩ := lc_end a (by rw [List.length_map]; omega)
            refine ⟨_, D, (turnL lo ro).map fun c => S [c], rfl, rfl, .inl (SqL.of (by rw [e2, map_sg])), ?_, ?_⟩
            · rw [sum_sg, List.length_map]
              show _ + _ * 0 ≤ _
              omega
            · show Q (.str (Txt.join (Str.ofString "") _)) _
              rw [join_sg]
              exact q2 _ rfl H2 g2
end
end K19
namespace K19
open PySem PySem.Spec PyProof.Rows L2 HR SX HZ
/-- the d-chain beyond -/
def beyC (c : List (List Nat)) (i : Nat) : Option (List (List Nat)) := (rowB c i).map fun r => c.take i ++ r :: c.drop (i + 1)
theorem cnt_ge (k : Nat) : ∀ l : List Nat, 0 ≤ cnt k l
  | [] => by rw [cnt_nil]; exact Int.le_refl 0
  | n :: r => by
    rw [cnt_cons]
    have := cnt_ge k r
    by_cases h : n = k
    · rw [if_pos h]; omega
    · rw [if_neg h]; omega
theorem sizeL_le (l : List Nat) : sizeL l ≤ l.length := by
  unfold sizeL
  have := cnt_ge 48 l
  omega
/-- the last row of a d-chain has d places at least -/
theorem full_wide {xs : List V} (h : fullV xs = true) {x : V} {i : Nat} (hx : xs[i]? = some x) : (i : Int) + 1 ≤ (strL x).length := by
  have h1 := ((Bool.and_eq_true _ _).mp (show (chainV xs && _) = true from h)).2
  have h2 := of_decide_eq_true ((Bool.and_eq_true _ _).mp h1).1
  have hl := (List.getElem?_eq_some_iff.mp hx).1
  have e1 : (sizesV xs)[i]? = some (sizeL (strL x)) := by
    unfold sizesV
    rw [List.getElem?_map, hx]
    rfl
  have e2 : (upTo xs.length)[i]? = some (1 + (i : Int)) := by
    unfold upTo
    rw [List.getElem?_map, List.getElem?_range hl]
    rfl
  rw [h2, e2] at e1
  have e3 := Option.some.inj e1
  have := sizeL_le (strL x)
  omega
theorem strL_S (l : List Nat) : strL (.str (S l)) = l := by simp [strL, S]
theorem rowL_sgn {l : List Nat} (h : rowL l = true) : l.all sgn = true := by
  have h1 := ((Bool.and_eq_true _ _).mp (show (_ && _) = true from h)).2
  exact ((Bool.and_eq_true _ _).mp h1).1
theorem rows_full {c : List (List Nat)} (h : fullV (rowsV c) = true) : ∃ n, c.length ≤ n ∧ n ≤ 12 ∧ 1 ≤ c.length ∧ ∀ l ∈ c, l.length = n ∧ l.all sgn = true := by
  obtain ⟨n, hn, hne, hr⟩ := full_rows h
  have key : ∀ l ∈ c, l.length = n ∧ l.all sgn = true := fun l hl => by
    obtain ⟨i, hi⟩ := List.getElem?_of_mem hl
    have e : (rowsV c)[i]? = some (.str (S l)) := by
      unfold rowsV
      rw [List.getElem?_map, hi]
      rfl
    obtain ⟨z, ez, rz, lz, _⟩ := hr i _ e
    cases ez
    rw [S_len] at lz
    have e2 : (S l).cps.toList = l := by simp [S]
    rw [e2] at rz
    exact ⟨lz, rowL_sgn rz⟩
  have hc : 1 ≤ c.length := by
    cases c with
    | nil => exact absurd rfl hne
    | cons a r => exact Nat.succ_le_succ (Nat.zero_le _)
  have hj : c.length - 1 < c.length := by omega
  have w := full_wide h (rows_at hj)
  rw [strL_S] at w
  have e : c.getD (c.length - 1) [] = c[c.length - 1] := by rw [List.getD_eq_getElem?_getD, List.getElem?_eq_getElem hj]; rfl
  have k := (key _ (List.getElem_mem hj)).1
  rw [e, k] at w
  exact ⟨n, by omega, hn, hc, key⟩
def spBey (CC CN CM : Addr) : Sp := fun vs H Q E => ∃ v u, vs = [v, u] ∧ OKV H v ∧ PV H u ∧ ((gFull H v false ∧ ∀ H', Grow H H' → HX.Told E CC H' (.str "chain")) ∨
  ∃ p c, v = .ref p ∧ SeqAtP H p (rowsV c) ∧ fullV (rowsV c) = true ∧ ((withinV u 0 ((c.length : Int) - 1) = false ∧ ∀ H', Grow H H' → HX.Told E CN H' (.str "index")) ∨
    ∃ i : Nat, u = .int (i : Nat) ∧ i < c.length ∧ ((c.length = 1 ∧ ∀ H', Grow H H' → HX.Told E CM H' (.str "chain")) ∨
      (2 ≤ c.length ∧ (beyC c i = none → ∀ H', Grow H H' → Q .non H') ∧ ∀ d, beyC c i = some d → ∀ H' t, Grow H H' → H' t = some (.tup (rowsV d)) → Q (.ref t) H'))))
theorem cut_l {H : Hp} {p : Addr} {xs : List V} {K : PySem.W.Frag} {lo hi : Option Int} {Q : VK} (h : SeqAtP H p xs) (q : ∀ t H', Grow H H' → (H' t = some (.lst (cutV xs lo hi)) ∨ H' t = some (.tup (cutV xs lo hi))) → Q (.ref t) H') : rSlL K (.ref p) lo hi H Q ∨ rSlA K (.ref p) lo hi H Q := by
  rcases h.1 with h1 | h1
  · exact .inl ⟨p, xs, rfl, SqL.of h1, fun t nt => q t _ (Grow.new nt) (.inl upd_same)⟩
  · exact .inr (sl_any h1 fun t H' g e => q t H' g (.inr e))
section
variable {P : Program} {w : World} {K : PySem.W.Frag} {mg : Str → Option Value} {base : Heap}
theorem ok_beyond (T : HG.Tp K mg "beyond" s_beyond ["chain", "index"]) (e_BadChain : HX.Er P w K mg base "BadChain") (o_want_full : HG.Df P w K mg base (L2.CX P w) 6 "want_full" ["value", "part"] (spWant e_BadChain.C gFull)) (o_is_within : HG.Df P w K mg base CX0 2 "is_within" ["value", "least", "most"] spWithin)
    (o_row_beyond : HG.Df P w K mg base CX0 1 "row_beyond" ["chain", "index"] spRB)
    (e_BadNumber : HX.Er P w K mg base "BadNumber") (e_Misfit : HX.Er P w K mg base "Misfit") (m_len : mg "len" = none) : FnOk P w K mg base (L2.CX P w) 7 T.f T.fd ["chain", "index"] (spBey e_BadChain.C e_BadNumber.C e_Misfit.C) := by
  refine T.F.okX sc_beyond (fun vs H Q E h => ?_) (fun cdv A outer s H vs Q E hr h => ?_)
  · obtain ⟨v, u, rfl, _⟩ := h
    rfl
  · obtain ⟨v, u, rfl, hv, hu, h⟩ := h
    have tk : Takes (cxOf (L2.CX P w) P w K mg base ["chain", "index", "row"] "beyond" (defScope s_beyond) T.f cdv A outer s H E) (fun cls d _ H => E cls d H) := takes_of rfl rfl rfl rfl
    refine ⟨_, (pss_cons (ps_expr (HG.pe_cS o_want_full hr tk (pa_cons (pv 0) (pa_cons pe_str pa_nil))))
    (pss_cons (ps_if (pt_not (pt_val (HG.pe_c o_is_within hr (pa_cons (pv 1) (pa_cons pe_int (pa_cons (pe_op op_sub (pe_callB call_len_seq (by rfl) m_len PySem.boot_len (pa_cons (pv 0) pa_nil)) pe_int) pa_nil))))))
      (pss_one (HX.ps_raise_er e_BadNumber hr tk pe_str))
      pss_nil)
    (pss_cons (ps_if (pt_cmpR op_eq (pe_callB call_len_seq (by rfl) m_len PySem.boot_len (pa_cons (pv 0) pa_nil)) pe_int (nomark _))
      (pss_one (HX.ps_raise_er e_Misfit hr tk pe_str))
      pss_nil)
    (pss_cons (ps_set (i := 2) sc_beyond.nd rfl (.inl rfl) (HG.pe_c o_row_beyond hr (pa_cons (pv 0) (pa_cons (pv 1) pa_nil))))
    (pss_one (ps_ret (pe_ifExp (pt_cmpR op_isN (pv 2) pe_non (nomark _)) pe_non (pe_tup (StX.pa_star (pe_slice (sl_list.or sl_tupA) (pv 0) po_none (po_some (pv 1))) (pa_cons (pv 2) (StX.pa_star (pe_slice (sl_list.or sl_tupA) (pv 0) (po_some (pe_op op_add (pv 1) pe_int)) po_none) pa_nil))))))))))), ?_⟩
    rcases h with ⟨hb, ht⟩ | ⟨p, c, rfl, hp, hf, h⟩
    · exact ⟨_, rfl, v, _, false, rfl, hv, hb, (fun z => by cases z), fun _ H1 g1 => ht H1 g1⟩
    · obtain ⟨n, hcn, hn, hc1, hrow⟩ := rows_full hf
      have len2 : (rowsV c).length = c.length := by unfold rowsV; rw [List.length_map]
      refine ⟨_, rfl, _, _, true, rfl, hv, .inr ⟨p, _, rfl, hp, hf.symm⟩, fun _ H1 g1 => ?_, fun z => by cases z⟩
      have hp1 := hp.grow g1
      refine ⟨_, rfl, _, rfl, p, _, rfl, hp1.sq, _, _, rfl, rfl, _, _, _, rfl, hu.grow g1, _, rfl, ?_⟩
      rw [len2]
      rcases h with ⟨hw, ht⟩ | ⟨i, rfl, hi, h⟩
      · rw [hw]
        exact iteT (HX.raise_go (ht H1 g1))
      · have ew : withinV (.int (i : Nat)) 0 ((c.length : Int) - 1) = true := by
          show (decide ((0 : Int) ≤ (i : Int)) && decide ((i : Int) ≤ (c.length : Int) - 1)) = true
          rw [decide_eq_true (by omega), decide_eq_true (by omega)]
          rfl
        rw [ew]
        refine iteF ?_
        refine ⟨_, rfl, p, _, rfl, hp1.sq, rfl, _, rfl, ite2 (fun h1 => ?_) (fun h1 => ?_)⟩
        · have e1 : ((rowsV c).length : Int) = 1 := V.int.inj (of_decide_eq_true h1)
          rcases h with ⟨_, ht⟩ | ⟨h2, _⟩
          · exact HX.raise_go (ht H1 g1)
          · omega
        · rcases h with ⟨h2, ht⟩ | ⟨h2, q1, q2⟩
          · exact absurd (decide_eq_true (congrArg V.int (show ((rowsV c).length : Int) = 1 by omega))) h1
          · refine ⟨_, rfl, _, rfl, p, c, i, n, rfl, hp1, hi, hcn, hn, hrow, fun eb H2 g2 => ?_, fun r eb H2 g2 => ?_⟩
            · refine ⟨_, rfl, rfl, _, rfl, iteT ?_⟩
              exact q1 (by unfold beyC; rw [eb]; rfl) _ (g1.trans g2)
            · refine ⟨_, rfl, rfl, _, rfl, iteF ?_⟩
              have hp2 := hp1.grow g2
              refine ⟨_, rfl, _, rfl, _, rfl, cut_l hp2 fun t1 H3 g3 e3 => ?_⟩
              refine ⟨t1, _, rfl, e3.elim (fun h => .inr (SqL.of h)) (fun h => .inl (SqT.of h)), ?_⟩
              have hp3 := hp2.grow g3
              refine ⟨_, rfl, _, rfl, _, rfl, _, _, rfl, rfl, _, rfl, ?_⟩
              delta tNoPart
              dsimp only
              refine cut_l hp3 fun t2 H4 g4 e4 => ?_
              refine ⟨t2, _, rfl, e4.elim (fun h => .inr (SqL.of h)) (fun h => .inl (SqT.of h)), ?_⟩
              rw [show ((i : Int) + 1) = ((i + 1 : Nat) : Int) by omega, cut_to, cut_from]
              have er : (rowsV c).take i ++ (V.str (S r) :: ((rowsV c).drop (i + 1) ++ [])) = rowsV (c.take i ++ r :: c.drop (i + 1)) := by
                unfold rowsV
                rw [List.map_append, List.map_cons, List.map_take, List.map_drop, List.append_nil]
              have sz := sizeLine_eq
              refine ⟨?_, fun t nt => ?_⟩
              · rw [er]
                unfold rowsV
                rw [List.length_map, List.length_append, List.length_cons, List.length_take, List.length_drop]
                omega
              · refine q2 _ (by unfold beyC; rw [eb]; rfl) _ t ((((g1.trans g2).trans g3).trans g4).trans (Grow.new nt)) ?_
                rw [upd_same]
                exact congrArg (fun z => some (HO.tup z)) er
end
end K19
namespace K19
open PySem PySem.Spec PyProof.Rows L2
abbrev s__law_pen : Stmt := topS 26
theorem sc__law_pen : FnScope ["script", "cell"] ["script"] (defScope s__law_pen) := ⟨rfl, rfl, rfl, by decide +kernel, rfl, by decide +kernel, by decide +kernel⟩
abbrev s__law_draw : Stmt := topS 27
theorem sc__law_draw : FnScope ["pen", "many", "rest", "at", "cell", "mixed"] ["pen", "many"] (defScope s__law_draw) := ⟨rfl, rfl, rfl, by decide +kernel, rfl, by decide +kernel, by decide +kernel⟩
abbrev s__law_one_of : Stmt := topS 28
theorem sc__law_one_of : FnScope ["pen", "some"] ["pen", "some"] (defScope s__law_one_of) := ⟨rfl, rfl, rfl, by decide +kernel, rfl, by decide +kernel, by decide +kernel⟩
abbrev s__law_all_full : Stmt := topS 29
theorem sc__law_all_full : FnScope ["places", "many", "found", "turn", "longer", "chain", "last", "place", "sign"] ["places", "many"] (defScope s__law_all_full) := ⟨rfl, rfl, rfl, by decide +kernel, rfl, by decide +kernel, by decide +kernel⟩
abbrev s_law : Stmt := topS 30
theorem sc_law : FnScope ["script", "pen", "places", "many", "known", "chain", "at", "left", "found", "is_down", "one"] ["script"] (defScope s_law) := ⟨rfl, rfl, rfl, by decide +kernel, rfl, by decide +kernel, by decide +kernel⟩
section
variable {P : Program} {w : World} {K : PySem.W.Frag} {mg : Str → Option Value} {base : Heap}
theorem ok__law_pen (T : HG.Tp K mg "_law_pen" s__law_pen ["script"]) (m_int : mg "int" = none) : FnOk P w K mg base CX0 1 T.f T.fd ["script"] (HD.spGauge K) := by
  refine T.F.ok sc__law_pen (fun vs H Q E h => ?_) (fun cdv A outer s H vs Q E hr h => ?_)
  · obtain ⟨s, ns, rfl, _⟩ := h
    rfl
  · obtain ⟨a, ns, rfl, hS, hlen, q⟩ := h
    refine ⟨_, (pss_one (ps_ret (pe_lst (pa_cons (pe_lc (own := [("cell", 1)]) (by rfl) sc__law_pen.nd (pi_list (pe_slice sl_list (pv 0) po_none (po_some pe_int))) (blkOk_by (N := ["script", "cell"]) (sc := defScope s__law_pen) (by decide +kernel)) (fun _ _ _ _ _ => (pg_name (i := 1) sc__law_pen.nd rfl (Or.inl rfl))) (fun _ _ _ _ _ => pts_nil) (fun _ _ _ _ _ => (pe_callTy call_int1 (by rfl) m_int (by decide +kernel) (pa_cons (pv 1) pa_nil)))) (pa_cons pe_int (pa_cons pe_int pa_nil)))))), ?_⟩
    refine ⟨.ref a, rfl, 61, rfl, a, _, rfl, hS, fun c0 nc0 => ?_⟩
    obtain ⟨ms, em, hm⟩ := HD.cutV_ints ns none (some 61)
    rw [em]
    refine ⟨c0, rfl, ⟨_, SqL.of upd_same⟩, fun D nD => ?_⟩
    have ncD : c0 ≠ D := fun e => by rw [← e, upd_same] at nD; cases nD
    have nD' : H D = none := by rw [upd_ne ncD.symm] at nD; exact nD
    refine lc_list (K := K) (a := c0) (xs := ms.map V.int) (fun i H2 => H2 c0 = some (.lst (ms.map V.int)) ∧ H2 D = some (.lst ((ms.take i).map V.int)) ∧ ∀ p o, H p = some o → H2 p = some o) ⟨?_, upd_same, fun p o e => ?_⟩ (fun i H2 _ p => SqL.of p.1) ?_ ?_
    · rw [upd_ne ncD, upd_same]
    · rw [upd_ne (ne_of_none e nD'), upd_ne (ne_of_none e nc0)]
      exact e
    · rintro i x H2 hx ⟨e1, e2, e3⟩
      obtain ⟨y, hy, rfl⟩ := HD.get_map hx
      refine ⟨rfl, ?_⟩
      refine ⟨_, rfl, .inl ⟨_, rfl, _, e2, ?_, ?_⟩⟩
      · rw [List.length_map, List.length_take]
        exact small1000 (by omega)
      have n1 : D ≠ c0 := ncD.symm
      refine ⟨by rw [upd_ne ncD]; exact e1, ?_, fun p o e => ?_⟩
      · rw [upd_same, HD.take_snoc hy, List.map_append]
        rfl
      · rw [upd_ne (ne_of_none e nD')]
        exact e3 p o e
    · rintro H2 ⟨e1, e2, e3⟩
      refine ⟨by show 3 ≤ sizeLine; decide, fun g ng => ?_⟩
      have ngH : H g = none := by
        cases e : H g with
        | none => rfl
        | some o => rw [e3 g o e] at ng; cases ng
      refine q g D ms _ ngH nD' ⟨upd_same, ?_, Int.le_refl 0, Int.le_refl 0, by omega⟩ fun p o e => ?_
      · rw [upd_ne (ne_of_none e2 ng), e2, List.length_map, List.take_of_length_le (Nat.le_refl _)]
      · rw [upd_ne (ne_of_none (e3 p o e) ng)]
        exact e3 p o e
theorem ok__law_draw (T : HG.Tp K mg "_law_draw" s__law_draw ["pen", "many"]) (m_int : mg "int" = none) (m_len : mg "len" = none) (m_abs : mg "abs" = none) : FnOk P w K mg base CX0 1 T.f T.fd ["pen", "many"] HD.spDraw := by
  refine T.F.ok sc__law_draw (fun vs H Q E h => ?_) (fun cdv A outer s H vs Q E hr h => ?_)
  · obtain ⟨g, c, ns, a, r, many, rfl, _⟩ := h
    rfl
  · obtain ⟨g, c, ns, a, r, many, rfl, G, m0, m1, a1, q⟩ := h
    have rd0 : ∀ {H2 : Hp} {a2 r2 : Int}, HD.Gau H2 g c ns a2 r2 → atI [V.ref c, .int a2, .int r2] (0 : Int) = some (.ref c) := fun _ => rfl
    refine ⟨_, (pss_cons (ps_set (i := 2) sc__law_draw.nd rfl (.inl rfl) (pe_callTy call_int1 (by rfl) m_int (by decide +kernel) (pa_cons (pe_ix ix_list (pv 0) pe_int (fun _ _ => rfl)) pa_nil)))
    (pss_cons (ps_if (pt_cmpR op_gt (pv 2) pe_int (nomark _))
      (pss_cons (ps_asg (pe_op op_fdiv (pv 2) (pv 1)) (pg_sub (pv 0) pe_int set_list))
      (pss_one (ps_ret (pe_op op_mod (pv 2) (pv 1)))))
      pss_nil)
    (pss_cons (ps_if (pt_cmpR (op_eqD hr.units) (pe_ix ix_list (pv 0) pe_int (fun _ _ => rfl)) (pe_lst pa_nil) (nomark _))
      (pss_one (ps_ret pe_int))
      pss_nil)
    (pss_cons (ps_set (i := 3) sc__law_draw.nd rfl (.inl rfl) (pe_ix ix_list (pv 0) pe_int (fun _ _ => rfl)))
    (pss_cons (ps_asg (pe_op op_add (pv 3) pe_int) (pg_sub (pv 0) pe_int set_list))
    (pss_cons (ps_set (i := 4) sc__law_draw.nd rfl (.inl rfl) (pe_ix ix_list (pe_ix ix_list (pv 0) pe_int (fun _ _ => rfl)) (pe_op op_mod (pe_callTy call_int1 (by rfl) m_int (by decide +kernel) (pa_cons (pv 3) pa_nil)) (pe_callB call_len_seq (by rfl) m_len PySem.boot_len (pa_cons (pe_ix ix_list (pv 0) pe_int (fun _ _ => rfl)) pa_nil))) (fun _ _ => rfl)))
    (pss_cons (ps_if (PW.pt (pw_and (pt_cmpR op_lt (pv 3) (pe_callB call_len_seq (by rfl) m_len PySem.boot_len (pa_cons (pe_ix ix_list (pv 0) pe_int (fun _ _ => rfl)) pa_nil)) (nomark _)) (pw_and1 (pt_cmpR op_ge (pe_callB call_abs (by rfl) m_abs (by decide +kernel) (pa_cons (pv 4) pa_nil)) (pe_op op_pow pe_int pe_int) (nomark _)))))
      (pss_cons (ps_set (i := 2) sc__law_draw.nd rfl (.inl rfl) (pe_op op_add (pe_op op_mul pe_int (pe_op op_sub (pe_callB call_abs (by rfl) m_abs (by decide +kernel) (pa_cons (pv 4) pa_nil)) (pe_op op_pow pe_int pe_int))) (pe_callTy call_int1 (by rfl) m_int (by decide +kernel) (pa_cons (pe_cmpR op_lt (pv 4) pe_int (nomark _)) pa_nil))))
      (pss_cons (ps_asg (pe_op op_fdiv (pv 2) (pv 1)) (pg_sub (pv 0) pe_int set_list))
      (pss_one (ps_ret (pe_op op_mod (pv 2) (pv 1))))))
      pss_nil)
    (pss_cons (ps_set (i := 5) sc__law_draw.nd rfl (.inl rfl) (pe_op op_mod (pe_callTy call_int1 (by rfl) m_int (by decide +kernel) (pa_cons (pe_op op_pow (pe_op op_add (pe_op op_add (pe_op op_mod (pe_callTy call_int1 (by rfl) m_int (by decide +kernel) (pa_cons (pv 4) pa_nil)) pe_int) (pe_op op_mul pe_int (pv 3))) pe_int) pe_int) pa_nil)) pe_int))
    (pss_cons (ps_set (i := 5) sc__law_draw.nd rfl (.inl rfl) (pe_op op_mod (pe_callTy call_int1 (by rfl) m_int (by decide +kernel) (pa_cons (pe_op op_pow (pe_op op_add (pe_op op_add (pe_op op_mul (pv 5) (pe_op op_add (pe_op op_mul pe_int (pv 3)) pe_int)) (pe_op op_mul (pe_op op_mul pe_int (pv 3)) (pv 3))) pe_int) pe_int) pa_nil)) pe_int))
    (pss_one (ps_ret (pe_op op_mod (pe_callTy call_int1 (by rfl) m_int (by decide +kernel) (pa_cons (pe_op op_fdiv (pv 5) pe_int) pa_nil)) (pv 1))))))))))))), ?_⟩
    -- rest = int(pen[2])
    refine ⟨_, rfl, g, _, 2, .int r, rfl, rfl, SqL.of G.g, rfl, .inl ⟨_, rfl, ?_⟩⟩
    refine ⟨_, rfl, _, _, rfl, rfl, _, rfl, ite2 (fun h2 => ?_) (fun h2 => ?_)⟩
    · have h2' : 0 < r := of_decide_eq_true (p := (0 : Int) < r) h2
      refine ⟨_, rfl, _, rfl, _, _, rfl, rfl, ⟨m0, by omega⟩, _, rfl, g, _, 2, 2, rfl, rfl, G.g, rfl, ?_⟩
      refine ⟨_, rfl, _, rfl, _, _, rfl, rfl, m0, ?_⟩
      exact q (r % many) a (r / many) _ (Int.emod_nonneg _ (Int.ne_of_gt m0)) (Int.emod_lt_of_pos _ m0) (by omega) (G.put rfl G.a0 (Int.ediv_nonneg (Int.le_of_lt h2') (Int.le_of_lt m0))) HG.Kp.at
    -- pen[0] == []
    · refine ⟨_, rfl, g, _, 0, .ref c, rfl, rfl, SqL.of G.g, rfl, Nat.zero_le _, fun e ne => ?_⟩
      have G1 := G.new (o := .lst []) ne
      have k1 : HG.Kp g H (upd H e (.lst [])) := HG.Kp.new ne
      refine ⟨.list (ns.map PyData.int), .list [], .lst (SqL.of G1.c) (HD.dp_ints ns), .lst (SqL.of upd_same) .nil, HD.shaped_ints ns, rfl, _, rfl, ?_⟩
      rw [HD.eqv_nil]
      refine ite2 (fun hn => ?_) (fun hn => ?_)
      · exact q 0 a r _ (Int.le_refl 0) m0 (by omega) G1 k1
      · have hne : ns ≠ [] := fun z => hn (decide_eq_true z)
        have hl : 0 < ns.length := List.length_pos_iff.mpr hne
        -- at = pen[1]; pen[1] = at + 1
        refine ⟨_, rfl, g, _, 1, .int a, rfl, rfl, SqL.of G1.g, rfl, ?_⟩
        refine ⟨_, rfl, _, _, rfl, rfl, _, rfl, g, _, 1, 1, rfl, rfl, G1.g, rfl, ?_⟩
        have G2 : HD.Gau (upd (upd H e (.lst [])) g (.lst [.ref c, .int (a + 1), .int r])) g c ns (a + 1) r := G1.put rfl (by have := G.a0; omega) G.r0
        have k2 : HG.Kp g H (upd (upd H e (.lst [])) g (.lst [.ref c, .int (a + 1), .int r])) := k1.trans HG.Kp.at
        -- cell = gauge[0][int(at) % len(gauge[0])]
        obtain ⟨cell, hcell⟩ := HD.cell_at hl a
        refine ⟨_, rfl, g, _, 0, .ref c, rfl, rfl, SqL.of G2.g, rfl, _, rfl, .inl ⟨_, rfl, _, rfl, g, _, 0, .ref c, rfl, rfl, SqL.of G2.g, rfl, c, _, rfl, .inl (SqL.of G2.c), _, _, rfl, rfl, ?_, ?_⟩⟩
        · rw [List.length_map]; omega
        refine ⟨c, _, _, .int cell, rfl, rfl, SqL.of G2.c, by rw [List.length_map]; exact hcell, ?_⟩
        have a0 := G.a0
        -- if at < len(gauge[0]) and abs(cell) >= 10 ** 18
        refine ⟨_, rfl, _, rfl, g, _, 0, .ref c, rfl, rfl, SqL.of G2.g, rfl, c, _, rfl, .inl (SqL.of G2.c), _, _, rfl, rfl, _, rfl, HD.iteS ?_ (fun _ tl => ?_)⟩
        · -- the mixed ones
          refine iteF ?_
          refine ⟨_, rfl, .inl ⟨_, rfl, _, _, rfl, rfl, (by show (0 : Int) < 2147483629; decide), _, rfl, _, _, rfl, rfl, .inl ⟨by decide, by decide⟩, _, _, rfl, rfl, _, _, rfl, rfl, _, _, rfl, rfl, ⟨by decide, by decide, ?_⟩, .inl ⟨_, rfl, _, _, rfl, rfl, (by show (0 : Int) < 2147483563; decide), ?_⟩⟩⟩
          · exact HD.small_pow (Int.emod_nonneg _ (by decide)) (Int.emod_lt_of_pos _ (by decide)) a0 a1 (by decide) (by decide) (by decide) (by decide) (by decide)
          generalize hm : (cell % (2147483629 : Int) + 61075 * a + 12117) ^ (Int.toNat 5) = big
          have b0 := Int.emod_nonneg big (show (2147483563 : Int) ≠ 0 by decide)
          have b1 := Int.emod_lt_of_pos big (show (0 : Int) < 2147483563 by decide)
          refine ⟨_, rfl, _, rfl, _, _, rfl, rfl, .inl ⟨by decide, by decide⟩, _, _, rfl, rfl, _, _, rfl, rfl, .inl ⟨by omega, by omega⟩, _, rfl, _, _, rfl, rfl, .inl ⟨by decide, by decide⟩, _, rfl, _, _, rfl, rfl, .inl ⟨by omega, by omega⟩, _, _, rfl, rfl, _, _, rfl, rfl, _, _, rfl, rfl, ⟨by decide, by decide, ?_⟩, .inl ⟨_, rfl, _, _, rfl, rfl, (by show (0 : Int) < 2147483549; decide), ?_⟩⟩
          · exact HD.small_pow2 b0 b1 a0 a1 (by decide) (by decide) (by decide) (by decide) (by decide) (by decide) (by decide)
          refine ⟨_, rfl, _, _, rfl, rfl, ⟨by decide, by decide⟩, .inl ⟨_, rfl, _, rfl, _, _, rfl, rfl, m0, ?_⟩⟩
          exact q _ (a + 1) r _ (Int.emod_nonneg _ (Int.ne_of_gt m0)) (Int.emod_lt_of_pos _ m0) (by omega) G2 k2
        · refine ⟨_, rfl, _, rfl, _, _, rfl, rfl, ⟨by decide, by decide, by decide⟩, _, _, rfl, rfl, _, rfl, ite2 (fun h5 => ?_) (fun _ => tl)⟩
          have h6 : ((10 : Int) ^ (Int.toNat 18)) ≤ (if cell < 0 then -cell else cell) := of_decide_eq_true h5
          refine ⟨_, rfl, _, rfl, _, _, rfl, rfl, ⟨by decide, by decide, by decide⟩, _, _, rfl, rfl, _, _, rfl, rfl, .inl ⟨by decide, by decide⟩, _, rfl, _, _, rfl, rfl, .inr ⟨_, rfl, _, _, rfl, rfl, ?_⟩⟩
          have h7 := HD.abs_ge h6 (if decide (cell < 0) = true then 1 else 0) (by split <;> decide)
          refine ⟨_, rfl, _, rfl, _, _, rfl, rfl, ⟨m0, by omega⟩, _, rfl, g, _, 2, 2, rfl, rfl, G2.g, rfl, ?_⟩
          refine ⟨_, rfl, _, rfl, _, _, rfl, rfl, m0, ?_⟩
          exact q _ (a + 1) _ _ (Int.emod_nonneg _ (Int.ne_of_gt m0)) (Int.emod_lt_of_pos _ m0) (by omega) (G2.put rfl (by omega) (Int.ediv_nonneg h7 (Int.le_of_lt m0))) (k2.trans HG.Kp.at)
theorem ok__law_one_of (T : HG.Tp K mg "_law_one_of" s__law_one_of ["pen", "some"]) (o__law_draw : HG.Df P w K mg base CX0 1 "_law_draw" ["pen", "many"] HD.spDraw) (m_len : mg "len" = none) : FnOk P w K mg base CX0 2 T.f T.fd ["pen", "some"] (HD.spOne K) := by
  refine T.F.ok sc__law_one_of (fun vs H Q E h => ?_) (fun cdv A outer s H vs Q E hr h => ?_)
  · obtain ⟨g, c, ns, a, r, l, xs, rfl, _⟩ := h
    rfl
  · obtain ⟨g, c, ns, a, r, l, xs, rfl, G, a1, lg, hL, hx, hl, q⟩ := h
    have h0 : 0 < xs.length := List.length_pos_iff.mpr hx
    refine ⟨_, (pss_one (ps_ret (pe_ix ix_list (pv 1) (HG.pe_c o__law_draw hr (pa_cons (pv 0) (pa_cons (pe_callB call_len_seq (by rfl) m_len PySem.boot_len (pa_cons (pv 1) pa_nil)) pa_nil))) (fun _ _ => rfl)))), ?_⟩
    refine ⟨_, rfl, _, rfl, _, rfl, l, xs, rfl, .inl hL, g, c, ns, a, r, _, rfl, G, by omega, by omega, a1, fun x a' r' H' x0 x1 ha G' kp => ?_⟩
    have hx2 : x.toNat < xs.length := by omega
    refine ⟨l, xs, x, xs[x.toNat], rfl, rfl, kp.seq lg hL, ?_, ?_⟩
    · have e := atI_nat (List.getElem?_eq_getElem hx2)
      rw [Int.toNat_of_nonneg x0] at e
      exact e
    · exact q _ a' r' H' (List.getElem_mem hx2) ha G' kp
end
end K19
namespace K19
open PySem PySem.Spec PyProof.Rows L2 HR SX HC
/-! ### all d-chains -/
def lastL (places : Nat) (c : List (List Nat)) : List Nat := c.getLast?.getD (List.replicate places 48)
def two (places : Nat) (c : List (List Nat)) (p : Nat) : List (List (List Nat)) := [c ++ [withS (lastL places c) p 43], c ++ [withS (lastL places c) p 45]]
def frees (places many : Nat) (c : List (List Nat)) : List Nat := (List.range many).filter fun p => (lastL places c).getD p 0 == 48
def exts (places many : Nat) (c : List (List Nat)) : List (List (List Nat)) := (frees places many c).flatMap (two places c)
def allF (places many : Nat) : Nat → List (List (List Nat))
  | 0 => [[]]
  | t + 1 => (allF places many t).flatMap (exts places many)
def RowsOk (places : Nat) (c : List (List Nat)) : Prop := ∀ l ∈ c, l.length = places ∧ l.all sgn = true
theorem lastL_ok {places : Nat} {c : List (List Nat)} (h : RowsOk places c) : (lastL places c).length = places ∧ (lastL places c).all sgn = true := by
  unfold lastL
  cases e : c.getLast? with
  | none => exact ⟨List.length_replicate, List.all_eq_true.mpr fun x hx => by rw [(List.mem_replicate.mp hx).2]; rfl⟩
  | some l => exact h l (List.mem_of_getLast? e)
theorem lastL_len {places : Nat} {c : List (List Nat)} (h : RowsOk places c) : (lastL places c).length = places := (lastL_ok h).1
theorem withS_all {l : List Nat} {p s : Nat} (h : l.all sgn = true) (hs : sgn s = true) : (withS l p s).all sgn = true := by
  rw [List.all_eq_true] at h ⊢
  intro x hx
  rcases List.mem_append.mp hx with hx | hx
  · rcases List.mem_append.mp hx with hx | hx
    · exact h x (List.mem_of_mem_take hx)
    · rcases List.mem_cons.mp hx with rfl | hx
      · exact hs
      · exact absurd hx List.not_mem_nil
  · exact h x (List.mem_of_mem_drop hx)
theorem frees_lt {places many : Nat} {c : List (List Nat)} {p : Nat} (h : p ∈ frees places many c) : p < many := List.mem_range.mp (List.mem_filter.mp h).1
theorem two_ok {places : Nat} {c d : List (List Nat)} {p : Nat} (h : RowsOk places c) (hp : p < places) (m : d ∈ two places c p) : RowsOk places d ∧ d.length = c.length + 1 := by
  have key : ∀ s, sgn s = true → RowsOk places (c ++ [withS (lastL places c) p s]) := fun s hs l hl => by
    rcases List.mem_append.mp hl with hl | hl
    · exact h l hl
    · rcases List.mem_cons.mp hl with rfl | hl
      · exact ⟨by rw [withS_len (by rw [lastL_len h]; exact hp), lastL_len h], withS_all (lastL_ok h).2 hs⟩
      · exact absurd hl List.not_mem_nil
  unfold two at m
  rcases List.mem_cons.mp m with rfl | m
  · exact ⟨key _ rfl, by rw [List.length_append]; rfl⟩
  · rcases List.mem_cons.mp m with rfl | m
    · exact ⟨key _ rfl, by rw [List.length_append]; rfl⟩
    · exact absurd m List.not_mem_nil
theorem allF_ok {places many : Nat} (hm : many ≤ places) : ∀ t, ∀ c ∈ allF places many t, RowsOk places c ∧ c.length = t
  | 0, c, h => by
    rcases List.mem_cons.mp h with rfl | h
    · exact ⟨fun l hl => absurd hl List.not_mem_nil, rfl⟩
    · exact absurd h List.not_mem_nil
  | t + 1, c, h => by
    obtain ⟨b, hb, hc⟩ := List.mem_flatMap.mp (show c ∈ (allF places many t).flatMap (exts places many) from h)
    obtain ⟨p, hp, hd⟩ := List.mem_flatMap.mp hc
    have ih := allF_ok hm t b hb
    have := two_ok ih.1 (Nat.lt_of_lt_of_le (frees_lt hp) hm) hd
    exact ⟨this.1, by rw [this.2, ih.2]⟩
theorem exts_len (places many : Nat) (c : List (List Nat)) : (exts places many c).length ≤ 2 * many := by
  unfold exts
  have : ∀ l : List Nat, (l.flatMap (two places c)).length = 2 * l.length := by
    intro l
    induction l with
    | nil => rfl
    | cons x r ih => rw [List.flatMap_cons, List.length_append, ih]; show 2 + _ = 2 * (r.length + 1); omega
  rw [this]
  have := List.length_filter_le (fun p => (lastL places c).getD p 0 == 48) (List.range many)
  rw [List.length_range] at this
  show 2 * (List.filter _ _).length ≤ _
  omega
theorem flat_len {α β : Type} {f : α → List β} {b : Nat} (h : ∀ x, (f x).length ≤ b) : ∀ l : List α, (l.flatMap f).length ≤ b * l.length
  | [] => Nat.zero_le _
  | x :: r => by
    rw [List.flatMap_cons, List.length_append, List.length_cons, Nat.mul_succ]
    have := flat_len h r
    have := h x
    omega
theorem allF_len {places many : Nat} (hm : many ≤ 4) : ∀ t, t ≤ 4 → (allF places many t).length ≤ 8 ^ t
  | 0, _ => Nat.le_refl _
  | t + 1, ht => by
    have ih := allF_len (places := places) hm t (by omega)
    have h := flat_len (f := exts places many) (b := 8) (fun x => Nat.le_trans (exts_len places many x) (by omega)) (allF places many t)
    rw [Nat.pow_succ]
    show ((allF places many t).flatMap (exts places many)).length ≤ _
    omega
/-- a chain as it stands in the heap, at none of some places -/
def CAt (H : Hp) (ex : Addr → Prop) (v : V) (c : List (List Nat)) : Prop := ∃ p, v = .ref p ∧ ¬ ex p ∧ H p = some (.lst (rowsV c))
theorem CAt.kp {H H' : Hp} {ex ex' : Addr → Prop} {v : V} {c : List (List Nat)} (a : CAt H ex v c) (h : ∀ p o, ¬ ex p → H p = some o → ¬ ex' p ∧ H' p = some o) : CAt H' ex' v c := let ⟨p, e, n, z⟩ := a; ⟨p, e, (h p _ n z).1, (h p _ n z).2⟩
def no : Addr → Prop := fun _ => False
def ChainsAt (H : Hp) (r : Addr) (cs : List (List (List Nat))) : Prop := ∃ vs, H r = some (.lst vs) ∧ All2 (CAt H no) vs cs
theorem dp_rows {K : PySem.W.Frag} {H : Hp} : ∀ c : List (List Nat), DpAll K H (rowsV c) (c.map fun l => PyData.str (S l))
  | [] => .nil
  | x :: r => .cons (.str _) (dp_rows r)
theorem eqv_rows (c : List (List Nat)) : PyData.eqv (.list (c.map fun l => PyData.str (S l))) (.list []) = decide (c = []) := by
  cases c with
  | nil => simp only [List.map_nil, PyData.eqv, PyData.eqvAll]; rfl
  | cons x r => simp only [List.map_cons, PyData.eqv, PyData.eqvAll]; rfl
theorem ok_row {l : List Nat} (h : l.all sgn = true) : PyData.strOk (S l) = true := by
  show (l.toArray).all (· < 0x110000) = true
  rw [← Array.all_toList, List.all_eq_true]
  rw [List.all_eq_true] at h
  intro x hx
  have hs := h x (by simpa using hx)
  unfold sgn at hs
  rw [Bool.or_eq_true, Bool.or_eq_true] at hs
  rcases hs with e | e | e <;> rw [eq_of_beq e] <;> decide
theorem lay_rows : ∀ c : List (List Nat), (∀ l ∈ c, l.all sgn = true) → PyData.canLayAll0 (c.map fun l => PyData.str (S l)) = true
  | [], _ => by simp [PyData.canLayAll0]
  | x :: r, h => by
    simp only [List.map_cons, PyData.canLayAll0, PyData.canLay0, lay_rows r fun l hl => h l (List.mem_cons_of_mem _ hl), ok_row (h x List.mem_cons_self), Bool.and_self]
theorem depth_rows : ∀ c : List (List Nat), PyData.depthAll (c.map fun l => PyData.str (S l)) = 0
  | [] => rfl
  | _ :: r => by simp only [List.map_cons, PyData.depthAll, PyData.depth, depth_rows r]; rfl
theorem shaped_rows {c : List (List Nat)} (h : ∀ l ∈ c, l.all sgn = true) : SeqAt.shaped (.list (c.map fun l => PyData.str (S l))) = true := by
  simp only [SeqAt.shaped, PyData.canLay0, PyData.depth, lay_rows c h, depth_rows]
  rfl
def spAll : Sp := fun vs H Q _ => ∃ places many : Nat, vs = [.int (places : Nat), .int (many : Nat)] ∧ many ≤ places ∧ places ≤ 12 ∧ many ≤ 4 ∧ ∀ H' r, Grow H H' → ChainsAt H' r (allF places many many) → Q (.ref r) H'
section
variable {P : Program} {w : World} {K : PySem.W.Frag} {mg : Str → Option Value} {base : Heap}
theorem ok__law_all_full (T : HG.Tp K mg "_law_all_full" s__law_all_full ["places", "many"]) (m_range : mg "range" = none) : FnOk P w K mg base CX0 1 T.f T.fd ["places", "many"] spAll := by
  refine T.F.ok sc__law_all_full (fun vs H Q E h => ?_) (fun cdv A outer s H vs Q E hr h => ?_)
  · obtain ⟨places, many, rfl, _⟩ := h
    rfl
  · obtain ⟨places, many, rfl, hmp, hp12, hm4, q⟩ := h
    refine ⟨_, (pss_cons (ps_set (i := 2) sc__law_all_full.nd rfl (.inl rfl) (pe_lst (pa_cons (pe_lst pa_nil) pa_nil)))
    (pss_cons (ps_for PassesOwn.never rfl (pi_range1 rfl m_range (pa_cons (pv 1) pa_nil)) (pg_name (i := 3) sc__law_all_full.nd rfl (Or.inl rfl))
      (pss_cons (ps_set (i := 4) sc__law_all_full.nd rfl (.inl rfl) (pe_lst pa_nil))
      (pss_cons (ps_for PassesOwn.never rfl (pi_list (pv 2)) (pg_name (i := 5) sc__law_all_full.nd rfl (Or.inr rfl))
        (Evl.pss_cut (ps_set (i := 6) sc__law_all_full.nd rfl (.inr rfl) (pe_ifExp (pt_cmpR (op_neD hr.units) (pv 5) (pe_lst pa_nil) (nomark _)) (pe_ix ix_list (pv 5) (pe_un un_neg pe_int) (fun _ _ => rfl)) (pe_op op_mul_str pe_str (pv 0))))
        (pss_one (ps_for PassesOwn.never rfl (pi_list (pe_lc (own := [("place", 7)]) (by rfl) sc__law_all_full.nd (pi_range1 rfl m_range (pa_cons (pv 1) pa_nil)) (blkOk_by (N := ["places", "many", "found", "turn", "longer", "chain", "last", "place", "sign"]) (sc := defScope s__law_all_full) (by decide +kernel)) (fun _ _ _ _ _ => (pg_name (i := 7) sc__law_all_full.nd rfl (Or.inl rfl))) (fun _ _ _ _ _ => (pts_one (pt_cmpR op_eq (pe_ix ix_str (pv 6) (pv 7) (fun _ _ => rfl)) pe_str (nomark _)))) (fun _ _ _ _ _ => (pv 7)))) (pg_name (i := 7) sc__law_all_full.nd rfl (Or.inr rfl))
          (pss_one (ps_expr (pe_bm PySem.F.plainAttrs_list PySem.F.slot_list_extend PySem.F.type_list_extend mt_extend (pv 4) (pa_cons (pe_lc (own := [("sign", 8)]) (by rfl) sc__law_all_full.nd (pi_str pe_str) (blkOk_by (N := ["places", "many", "found", "turn", "longer", "chain", "last", "place", "sign"]) (sc := defScope s__law_all_full) (by decide +kernel)) (fun _ _ _ _ _ => (pg_name (i := 8) sc__law_all_full.nd rfl (Or.inl rfl))) (fun _ _ _ _ _ => pts_nil) (fun _ _ _ _ _ => (pe_op op_cat (pv 5) (pe_lst (pa_cons (pe_op op_add_str (pe_op op_add_str (pe_slice C8.sl_txt (pv 6) po_none (po_some (pv 7))) (pv 8)) (pe_slice C8.sl_txt (pv 6) (po_some (pe_op op_add (pv 7) pe_int)) po_none)) pa_nil))))) pa_nil))))))))
      (pss_one (ps_set (i := 2) sc__law_all_full.nd rfl (.inl rfl) (pv 4))))))
    (pss_one (ps_ret (pv 2))))), ?_⟩
    refine ⟨by decide, fun e0 n0 => ⟨by show 1 ≤ sizeLine; decide, fun r0 nr0 => ?_⟩⟩
    have g0 : Grow H (upd (upd H e0 (.lst [])) r0 (.lst [.ref e0])) := (Grow.new n0).trans (Grow.new nr0)
    have c0 : ChainsAt (upd (upd H e0 (.lst [])) r0 (.lst [.ref e0])) r0 (allF places many 0) := ⟨_, upd_same, .one ⟨e0, rfl, fun z => z, HD.stay nr0 upd_same⟩⟩
    refine ⟨_, rfl, _, rfl, by omega, by omega, ?_⟩
    rw [Int.toNat_natCast]
    refine for_range (n := many) (fun t σ H2 => ∃ y3 y4 y5 y6 y7 y8 r, σ = [some (.int (places : Nat)), some (.int (many : Nat)), some (.ref r), y3, y4, y5, y6, y7, y8] ∧ Grow H H2 ∧ ChainsAt H2 r (allF places many t))
      ⟨none, none, none, none, none, none, r0, rfl, g0, c0⟩ ?_ ?_
    · rintro t σ H2 ht ⟨y3, y4, y5, y6, y7, y8, r, rfl, g2, vs, hr, hc⟩
      have hlen := allF_len (places := places) hm4 t (by omega)
      have h84 : 8 ^ t ≤ 4096 := Nat.le_trans (Nat.pow_le_pow_right (by decide) (show t ≤ 4 by omega)) (by decide)
      have lv := hc.1
      refine ⟨by decide, fun L nL => ?_⟩
      have gL : Grow H2 (upd H2 L (.lst [])) := Grow.new nL
      refine ⟨_, rfl, r, rfl, ⟨vs, SqL.of (gL _ _ hr)⟩, ?_⟩
      refine for_list (xs := vs) (fun i σ H3 => ∃ y5 y6 y7 y8, σ = [some (.int (places : Nat)), some (.int (many : Nat)), some (.ref r), some (.int (0 + (t : Int))), some (.ref L), y5, y6, y7, y8] ∧ Grow H2 H3 ∧
          ∃ ws, H3 L = some (.lst ws) ∧ All2 (CAt H3 (fun q => q = L)) ws (((allF places many t).take i).flatMap (exts places many)))
        ⟨y5, y6, y7, y8, rfl, gL, [], upd_same, .nil⟩ (fun i σ H3 _ z => by obtain ⟨_, _, _, _, _, g, _⟩ := z; exact SqL.of (g _ _ hr)) ?_ ?_
      · rintro i x σ H3 hx ⟨z5, z6, z7, z8, rfl, g3, ws, hL, hw⟩
        have hil := (List.getElem?_eq_some_iff.mp hx).1
        have hcs : (allF places many t)[i]? = some ((allF places many t)[i]'(by omega)) := List.getElem?_eq_getElem _
        generalize (allF places many t)[i]'(by omega) = c at hcs
        obtain ⟨p, rfl, _, hp⟩ := hc.2 i x c hx hcs
        have hp3 := g3 _ _ hp
        have pL : p ≠ L := fun e => by rw [e, nL] at hp; cases hp
        obtain ⟨rok, clen⟩ := allF_ok hmp t c (List.mem_of_getElem? hcs)
        have ll := lastL_len rok
        -- last
        refine ⟨fun σ' H' => σ' = [some (.int (places : Nat)), some (.int (many : Nat)), some (.ref r), some (.int (0 + (t : Int))), some (.ref L), some (.ref p), some (.str (S (lastL places c))), z7, z8] ∧ Grow H3 H', ?_, ?_⟩
        · refine ⟨_, rfl, by decide, fun e1 ne1 => ?_⟩
          have g4 : Grow H3 (upd H3 e1 (.lst [])) := Grow.new ne1
          refine ⟨_, _, .lst (SqL.of (g4 _ _ hp3)) (dp_rows c), .lst (SqL.of upd_same) (dp_rows []), shaped_rows (fun l hl => (rok l hl).2), shaped_rows (c := []) (fun l hl => absurd hl List.not_mem_nil), _, rfl, ?_⟩
          rw [show PyData.eqv (.list (c.map fun l => PyData.str (S l))) (.list (([] : List (List Nat)).map fun l => PyData.str (S l))) = decide (c = []) from eqv_rows c]
          by_cases hcn : c = []
          · subst hcn
            refine iteF ?_
            refine ⟨_, rfl, _, _, rfl, rfl, mul_ok (by omega), ?_⟩
            exact ⟨by rw [show Txt.mul "0" (places : Int) = S (List.replicate places 48) from mul_S places]; rfl, g4⟩
          · rw [decide_eq_false hcn]
            refine iteT ?_
            have hlast : atI (rowsV c) (-1) = some (.str (S (lastL places c))) := by
              have e := List.dropLast_concat_getLast hcn
              have e2 : lastL places c = c.getLast hcn := by
                unfold lastL
                rw [List.getLast?_eq_some_getLast hcn]
                rfl
              rw [e2]
              have e3 : rowsV c = rowsV c.dropLast ++ [.str (S (c.getLast hcn))] := by
                conv => lhs; rw [← e]
                unfold rowsV
                rw [List.map_append]
                rfl
              rw [e3]
              exact atI_last _ _
            exact ⟨_, rfl, _, rfl, p, _, _, _, rfl, rfl, SqL.of (g4 _ _ hp3), hlast, rfl, g4⟩
        · rintro σ' H' ⟨rfl, g4⟩
          have hp4 := g4 _ _ hp3
          have hL4 := g4 _ _ hL
          have sl : (S (lastL places c)).length ≤ sizeLine := by rw [S_len, ll]; have := small1000 (show places ≤ 1000 by omega); omega
          refine ⟨_, rfl, _, rfl, by omega, by omega, fun D nD => ?_⟩
          rw [Int.toNat_natCast]
          have DL : D ≠ L := fun e => by rw [e, hL4] at nD; cases nD
          refine lc_range (LcF H' D (fun i => (lastL places c).getD i 0 == 48) (fun i => .int (i : Nat))) ⟨Grow.new nD, upd_same⟩ ?_ ?_
          · rintro i1 H5 hi1 ac
            have cl : (S (lastL places c)).cps.toList[i1]? = some ((lastL places c).getD i1 0) := by
              show (lastL places c)[i1]? = _
              rw [List.getD_eq_getElem?_getD, List.getElem?_eq_getElem (by omega)]
              rfl
            have e1 : (0 + (i1 : Int)) = (i1 : Int) := by omega
            refine ⟨rfl, ?_⟩
            refine ⟨_, rfl, _, rfl, S (lastL places c), _, _, rfl, rfl, sl, (by rw [e1]; exact atI_nat cl), rfl, _, rfl, ?_⟩
            have ed : decide (V.str ⟨#[(lastL places c).getD i1 0]⟩ = V.str (Str.ofString "0")) = ((lastL places c).getD i1 0 == 48) := by
              by_cases h : (lastL places c).getD i1 0 = 48
              · rw [h]
                exact decide_eq_true rfl
              · rw [decide_eq_false (fun z => h ?_)]
                · exact (beq_eq_false_iff_ne.mpr h).symm
                · have z2 : (#[(lastL places c).getD i1 0] : Array Nat) = #[48] := congrArg (·.cps) (V.str.inj z)
                  exact (List.cons.inj (congrArg (·.toList) z2)).1
            rw [ed]
            refine ite2 (fun h => ?_) (fun h => ?_)
            · refine ⟨_, rfl, ?_⟩
              rw [e1]
              exact lcf_yes nD ac Grow.refl h (by omega)
            · exact lcf_no ac Grow.refl (Bool.eq_false_iff.mpr h)
          · rintro H5 ac
            have g5 := ac.1
            have hD : H5 D = some (.lst ((frees places many c).map fun i => .int (i : Nat))) := ac.2
            have hL5 := g5 _ _ hL4
            have hp5 := g5 _ _ hp4
            have lfr : (frees places many c).length ≤ many := by
              have := List.length_filter_le (fun p => (lastL places c).getD p 0 == 48) (List.range many)
              rw [List.length_range] at this
              exact this
            refine ⟨D, rfl, ⟨_, SqL.of hD⟩, ?_⟩
            have lpre : (((allF places many t).take i).flatMap (exts places many)).length ≤ 8 * i := by
              have h := flat_len (f := exts places many) (b := 8) (fun x => Nat.le_trans (exts_len places many x) (by omega)) ((allF places many t).take i)
              rw [List.length_take] at h
              have : min i (allF places many t).length ≤ i := Nat.min_le_left _ _
              have := Nat.mul_le_mul_left 8 this
              omega
            refine for_list (xs := (frees places many c).map fun i => .int (i : Nat)) (fun j σ H6 => ∃ y7 y8, σ = [some (.int (places : Nat)), some (.int (many : Nat)), some (.ref r), some (.int (0 + (t : Int))), some (.ref L), some (.ref p), some (.str (S (lastL places c))), y7, y8] ∧ HG.Kp L H5 H6 ∧
                ∃ ws2, H6 L = some (.lst ws2) ∧ All2 (CAt H6 (fun q => q = L)) ws2 (((allF places many t).take i).flatMap (exts places many) ++ ((frees places many c).take j).flatMap (two places c)))
              ⟨z7, z8, rfl, HG.Kp.refl, ws, hL5, ?_⟩ (fun j σ H6 _ z => by obtain ⟨_, _, _, k, _⟩ := z; exact SqL.of (k _ _ DL hD)) ?_ ?_
            · rw [List.take_zero, List.flatMap_nil, List.append_nil]
              exact hw.mono fun _ _ a => a.kp fun _ _ n h => ⟨n, g5 _ _ (g4 _ _ h)⟩
            · rintro j y σ H6 hy ⟨w7, w8, rfl, k6, ws2, hL6, hw2⟩
              obtain ⟨pl, hpl, rfl⟩ : ∃ pl, (frees places many c)[j]? = some pl ∧ y = V.int (pl : Nat) := by
                rw [List.getElem?_map] at hy
                cases e : (frees places many c)[j]? with
                | none => rw [e] at hy; cases hy
                | some pl => rw [e] at hy; exact ⟨pl, rfl, (Option.some.inj hy).symm⟩
              have plm := frees_lt (List.mem_of_getElem? hpl)
              have hp6 := k6 _ _ pL hp5
              have e1 : Txt.slice (S (lastL places c)) none (some (pl : Int)) = S ((lastL places c).take pl) := by
                have e := slice_to (a := lastL places c) (i := (pl : Int)) (by omega)
                rw [Int.toNat_natCast] at e
                exact e
              have e2 : Txt.slice (S (lastL places c)) (some ((pl : Int) + 1)) none = S ((lastL places c).drop (pl + 1)) := by
                have e := slice_from (a := lastL places c) (i := (pl : Int) + 1) (by omega)
                rw [show ((pl : Int) + 1).toNat = pl + 1 by omega] at e
                exact e
              have h1 : ((lastL places c).take pl).length ≤ 12 := by rw [List.length_take]; omega
              have h2 : ((lastL places c).drop (pl + 1)).length ≤ 12 := by rw [List.length_drop]; omega
              have sz := sizeLine_eq
              refine ⟨_, rfl, .inl ⟨rfl, _, SqL.of hL6⟩, _, rfl, fun D2 nD2 => ?_⟩
              have D2L : D2 ≠ L := fun e => by rw [e, hL6] at nD2; cases nD2
              refine lc_it walk_str (fun k H7 => Grow H6 H7 ∧ ∃ us, H7 D2 = some (.lst us) ∧ All2 (CAt H7 (fun q => q = L ∨ q = D2)) us ((two places c pl).take k)) ⟨Grow.new nD2, [], upd_same, .nil⟩ (fun _ _ _ _ => True.intro) ?_ ?_
              · rintro k x H7 H8 hk ⟨g7, us, hD2, hu⟩ ⟨rfl, ch, hch, rfl⟩
                have htwo : (two places c pl)[k]? = some (c ++ [withS (lastL places c) pl ch]) := by
                  match k, hch with
                  | 0, hch => cases hch; rfl
                  | 1, hch => cases hch; rfl
                have hp7 := g7 _ _ hp6
                have hL7 := g7 _ _ hL6
                refine ⟨rfl, ?_⟩
                refine ⟨_, rfl, _, rfl, _, rfl, _, rfl, S (lastL places c), rfl, sl, ?_⟩
                rw [e1]
                refine ⟨_, rfl, _, _, rfl, rfl, by rw [S_len]; show _ + 1 ≤ _; omega, ?_⟩
                refine ⟨_, rfl, _, rfl, _, _, rfl, rfl, _, rfl, S (lastL places c), rfl, sl, ?_⟩
                rw [e2]
                refine ⟨_, _, rfl, rfl, by rw [show ((S ((lastL places c).take pl) ++ (⟨#[ch]⟩ : Str)) : Str) = S ((lastL places c).take pl ++ [ch]) from S_cat _ _, S_len, S_len, List.length_append]; show _ + 1 + _ ≤ _; omega, ?_⟩
                have ecat : (S ((lastL places c).take pl) ++ (⟨#[ch]⟩ : Str) ++ S ((lastL places c).drop (pl + 1)) : Str) = S (withS (lastL places c) pl ch) := by
                  rw [show ((S ((lastL places c).take pl) ++ (⟨#[ch]⟩ : Str)) : Str) = S ((lastL places c).take pl ++ [ch]) from S_cat _ _, S_cat]
                  rfl
                rw [ecat]
                refine ⟨by show 1 ≤ sizeLine; decide, fun u nu => ?_⟩
                have hp8 := HD.stay (o := .lst [V.str (S (withS (lastL places c) pl ch))]) nu hp7
                have clen' : (rowsV c).length = t := by unfold rowsV; rw [List.length_map]; exact clen
                refine ⟨p, u, _, _, rfl, rfl, hp8, upd_same, by rw [clen']; show t + 1 ≤ _; omega, fun v nv => ?_⟩
                have gu := (Grow.new (o := .lst [V.str (S (withS (lastL places c) pl ch))]) nu).trans (Grow.new (o := .lst (rowsV c ++ [V.str (S (withS (lastL places c) pl ch))])) nv)
                have vL : v ≠ L := fun e => by
                  have z := Grow.new (o := .lst [V.str (S (withS (lastL places c) pl ch))]) nu _ _ hL7
                  rw [← e, nv] at z
                  cases z
                have vD2 : v ≠ D2 := fun e => by
                  have z := Grow.new (o := .lst [V.str (S (withS (lastL places c) pl ch))]) nu _ _ hD2
                  rw [← e, nv] at z
                  cases z
                have lus : us.length ≤ 2 := by rw [hu.1, List.length_take]; exact Nat.min_le_right _ _
                refine ⟨us, gu _ _ hD2, small1000 (by omega), fun q o e => ?_, us ++ [.ref v], upd_same, ?_⟩
                · rw [upd_ne (ne_of_none e nD2)]
                  exact gu _ _ (g7 _ _ e)
                · rw [HD.take_snoc htwo]
                  refine All2.app (hu.mono fun _ _ a => a.kp fun q o n h => ⟨n, by rw [upd_ne (fun z => n (.inr z))]; exact gu _ _ h⟩) (.one ⟨v, rfl, fun z => z.elim vL vD2, ?_⟩)
                  rw [upd_ne vD2, upd_same]
                  unfold rowsV
                  rw [List.map_append]
                  rfl
              · rintro H7 ⟨g7, us, hD2, hu⟩
                have hL7 := g7 _ _ hL6
                have hut : (two places c pl).take (Str.ofString "+-").cps.size = two places c pl := rfl
                rw [hut] at hu
                have lu := hu.1
                have lw := hw2.1
                have lfl : (((frees places many c).take j).flatMap (two places c)).length ≤ 2 * many := by
                  have h := flat_len (f := two places c) (b := 2) (fun _ => Nat.le_refl 2) ((frees places many c).take j)
                  rw [List.length_take] at h
                  have : min j (frees places many c).length ≤ many := Nat.le_trans (Nat.min_le_right _ _) lfr
                  have := Nat.mul_le_mul_left 2 this
                  omega
                rw [List.length_append] at lw
                refine ⟨L, D2, ws2, us, rfl, rfl, hL7, hD2, by rw [lu]; show _ + 2 ≤ _; omega, ?_⟩
                refine ⟨_, _, rfl, fun q o n e => ?_, _, upd_same, ?_⟩
                · rw [upd_ne n]
                  exact g7 _ _ (k6 _ _ n e)
                · rw [HD.take_snoc hpl, List.flatMap_append, ← List.append_assoc]
                  refine All2.app (hw2.mono fun _ _ a => a.kp fun q o n h => ⟨n, by rw [upd_ne n]; exact g7 _ _ h⟩) ?_
                  have eone : [pl].flatMap (two places c) = two places c pl := by rw [List.flatMap_cons, List.flatMap_nil, List.append_nil]
                  rw [eone]
                  exact hu.mono fun _ _ a => a.kp fun q o n h => ⟨fun z => n (.inl z), by rw [upd_ne (fun z => n (.inl z))]; exact h⟩
            · rintro σ H6 ⟨w7, w8, rfl, k6, ws2, hL6, hw2⟩
              refine ⟨_, _, _, _, rfl, fun q o e => ?_, ws2, hL6, ?_⟩
              · have qL : q ≠ L := fun z => by rw [z, nL] at e; cases e
                exact k6 _ _ qL (g5 _ _ (g4 _ _ (g3 _ _ e)))
              · rw [HD.take_snoc hcs, List.flatMap_append]
                have eone : [c].flatMap (exts places many) = exts places many c := by rw [List.flatMap_cons, List.flatMap_nil, List.append_nil]
                rw [eone]
                have e : (frees places many c).take ((frees places many c).map fun i => V.int (i : Nat)).length = frees places many c := List.take_of_length_le (by rw [List.length_map]; exact Nat.le_refl _)
                rw [e] at hw2
                exact hw2
      · rintro σ H3 ⟨z5, z6, z7, z8, rfl, g3, ws, hL, hw⟩
        refine ⟨_, rfl, _, _, _, _, _, _, L, rfl, g2.trans g3, ws, hL, ?_⟩
        have e : (allF places many t).take vs.length = allF places many t := List.take_of_length_le (by omega)
        rw [e] at hw
        exact hw.mono fun _ _ a => a.kp fun _ _ _ h => ⟨fun z => z, h⟩
    · rintro σ H2 ⟨y3, y4, y5, y6, y7, y8, r, rfl, g2, hc⟩
      exact ⟨_, rfl, q H2 r g2 hc⟩
end
end K19
namespace K19
open PySem PySem.Spec PyProof.Rows L2 HR SX HC
/-! ### what the law puts together -/
abbrev Ent := List (List Nat) × Nat
def keyL (many : Nat) (e : Ent) : List Nat := ((lastL many e.1).getD (many - 1) 0 :: [32]) ++ TL.joinL [32] (e.1.take e.2 ++ e.1.drop (e.2 + 1))
def getG (kv : List (List Nat × List Ent)) (k : List Nat) : Option (List Ent) := (kv.find? fun p => decide (p.1 = k)).map (·.2)
def putG (kv : List (List Nat × List Ent)) (k : List Nat) (v : List Ent) : List (List Nat × List Ent) :=
  if (kv.any fun p => decide (p.1 = k)) = true then kv.map (fun p => if p.1 = k then (p.1, v) else p) else kv ++ [(k, v)]
def putE (many : Nat) (kv : List (List Nat × List Ent)) (e : Ent) : List (List Nat × List Ent) := putG kv (keyL many e) ((getG kv (keyL many e)).getD [] ++ [e])
def entsOf (many : Nat) (c : List (List Nat)) : List Ent := (List.range many).map fun a => (c, a)
def knownP (places many : Nat) : List (List Nat × List Ent) := ((allF places many many).flatMap (entsOf many)).foldl (putE many) []
theorem All2.un {α β : Type} {R : α → β → Prop} {x : α} {y : β} {xs : List α} {ys : List β} (a : All2 R (x :: xs) (y :: ys)) : R x y ∧ All2 R xs ys :=
  ⟨a.2 0 x y rfl rfl, by have := a.1; rw [List.length_cons, List.length_cons] at this; omega, fun i u v hu hv => a.2 (i + 1) u v hu hv⟩
theorem All2.nil_of {α β : Type} {R : α → β → Prop} {xs : List α} (a : All2 R xs ([] : List β)) : xs = [] := List.eq_nil_of_length_eq_zero a.1
def EntAt (H : Hp) (v : V) (e : Ent) : Prop := ∃ t p, v = .ref t ∧ H t = some (.tup [.ref p, .int (e.2 : Nat)]) ∧ H p = some (.lst (rowsV e.1))
def EntsAt (H : Hp) (v : V) (es : List Ent) : Prop := ∃ l vs, v = .ref l ∧ H l = some (.lst vs) ∧ All2 (EntAt H) vs es
def RK (H : Hp) (a : Key × V) (b : List Nat × List Ent) : Prop := a.1 = .inr (S b.1) ∧ EntsAt H a.2 b.2
section
variable {H H' : Hp} {d : Addr} {k0 : List (Key × V)}
theorem EntAt.kp {v : V} {e : Ent} (a : EntAt H v e) (hd : H d = some (.dK k0)) (k : HG.Kp d H H') : EntAt H' v e := by
  obtain ⟨t, p, rfl, ht, hp⟩ := a
  exact ⟨t, p, rfl, k _ _ (fun z => by rw [z, hd] at ht; cases ht) ht, k _ _ (fun z => by rw [z, hd] at hp; cases hp) hp⟩
theorem EntsAt.kp {v : V} {es : List Ent} (a : EntsAt H v es) (hd : H d = some (.dK k0)) (k : HG.Kp d H H') : EntsAt H' v es := by
  obtain ⟨l, vs, rfl, hl, al⟩ := a
  exact ⟨l, vs, rfl, k _ _ (fun z => by rw [z, hd] at hl; cases hl) hl, al.mono fun _ _ e => e.kp hd k⟩
theorem RK.kp {a : Key × V} {b : List Nat × List Ent} (r : RK H a b) (hd : H d = some (.dK k0)) (k : HG.Kp d H H') : RK H' a b := ⟨r.1, r.2.kp hd k⟩
end
theorem key_eq {a : Key} {b k : List Nat} (h : a = .inr (S b)) : decide (a = .inr (S k)) = decide (b = k) := by
  rw [h]
  by_cases e : b = k
  · rw [e, decide_eq_true rfl, decide_eq_true rfl]
  · rw [decide_eq_false e, decide_eq_false fun z => e (S_inj (Sum.inr.inj z))]
theorem rk_get {H : Hp} {k : List Nat} : ∀ {kvs : List (Key × V)} {kv : List (List Nat × List Ent)}, All2 (RK H) kvs kv →
    (getG kv k = none ∧ valV kvs (.inr (S k)) = none) ∨ ∃ es v, getG kv k = some es ∧ valV kvs (.inr (S k)) = some v ∧ EntsAt H v es
  | [], [], _ => .inl ⟨rfl, rfl⟩
  | [], y :: ys, a => by have := a.1; cases this
  | x :: xs, [], a => by have := a.1; cases this
  | x :: xs, y :: ys, a => by
    obtain ⟨r, a'⟩ := a.un
    have ih := rk_get (k := k) a'
    have ek := key_eq (k := k) r.1
    by_cases e : y.1 = k
    · refine .inr ⟨y.2, x.2, ?_, ?_, r.2⟩
      · unfold getG
        rw [List.find?_cons_of_pos (by exact decide_eq_true e)]
        rfl
      · unfold valV
        rw [List.find?_cons_of_pos (by rw [ek]; exact decide_eq_true e)]
        rfl
    · have g1 : getG (y :: ys) k = getG ys k := by
        unfold getG
        rw [List.find?_cons_of_neg (by rw [decide_eq_false e]; exact Bool.false_ne_true)]
      have g2 : valV (x :: xs) (.inr (S k)) = valV xs (.inr (S k)) := by
        unfold valV
        rw [List.find?_cons_of_neg (by rw [ek, decide_eq_false e]; exact Bool.false_ne_true)]
      rw [g1, g2]
      exact ih
theorem rk_any {H : Hp} {k : List Nat} : ∀ {kvs : List (Key × V)} {kv : List (List Nat × List Ent)}, All2 (RK H) kvs kv → (kvs.any fun p => decide (p.1 = .inr (S k))) = kv.any fun p => decide (p.1 = k)
  | [], [], _ => rfl
  | [], y :: ys, a => by have := a.1; cases this
  | x :: xs, [], a => by have := a.1; cases this
  | x :: xs, y :: ys, a => by
    obtain ⟨r, a'⟩ := a.un
    rw [List.any_cons, List.any_cons, rk_any a', key_eq r.1]
theorem rk_put {H : Hp} {k : List Nat} {v : V} {es : List Ent} {kvs : List (Key × V)} {kv : List (List Nat × List Ent)} (a : All2 (RK H) kvs kv) (h : EntsAt H v es) : All2 (RK H) (putK kvs (.inr (S k)) v) (putG kv k es) := by
  unfold putK putG
  rw [rk_any a]
  by_cases e : (kv.any fun p => decide (p.1 = k)) = true
  · rw [if_pos e, if_pos e]
    refine ⟨by rw [List.length_map, List.length_map, a.1], fun i x y hx hy => ?_⟩
    rw [List.getElem?_map] at hx hy
    cases ex : kvs[i]? with
    | none => rw [ex] at hx; cases hx
    | some x0 =>
      cases ey : kv[i]? with
      | none => rw [ey] at hy; cases hy
      | some y0 =>
        rw [ex] at hx
        rw [ey] at hy
        have r := a.2 i x0 y0 ex ey
        have hx' := Option.some.inj hx
        have hy' := Option.some.inj hy
        subst hx' hy'
        show RK H (if x0.1 = .inr (S k) then (x0.1, v) else x0) (if y0.1 = k then (y0.1, es) else y0)
        by_cases e2 : y0.1 = k
        · have e3 : x0.1 = .inr (S k) := by rw [r.1, e2]
          rw [if_pos e2, if_pos e3]
          exact ⟨r.1, h⟩
        · have e3 : ¬ x0.1 = .inr (S k) := fun z => e2 (S_inj (Sum.inr.inj (r.1.symm.trans z)))
          rw [if_neg e2, if_neg e3]
          exact r
  · rw [if_neg e, if_neg e]
    exact a.app (.one ⟨rfl, h⟩)
theorem putG_len (kv : List (List Nat × List Ent)) (k : List Nat) (v : List Ent) : (putG kv k v).length ≤ kv.length + 1 := by
  unfold putG
  by_cases e : (kv.any fun p => decide (p.1 = k)) = true
  · rw [if_pos e, List.length_map]
    omega
  · rw [if_neg e, List.length_append]
    exact Nat.le_refl _
end K19
namespace K19
open PySem PySem.Spec PyProof.Rows L2 HR SX HC
/-- a d-chain, an index of it, and the chain beyond it -/
structure Pair (many : Nat) (c : List (List Nat)) (a : Nat) (b : Option (List (List Nat))) : Prop where
  len : c.length = many
  full : fullV (rowsV c) = true
  is : beyC c a = b
def downB (many : Nat) (c : List (List Nat)) (a : Nat) : Bool := decide (a = many - 1) && ((c.getD (c.length - 2) []).getD (many - 1) 0 == 48)
/-- what the law wishes of the chains with one key -/
def FoundOk (many : Nat) (f : List Ent) : Prop := ∃ c a r, f = (c, a) :: r ∧ a < many ∧ (∀ l ∈ c, many ≤ l.length ∧ l.length ≤ 12) ∧
  ((downB many c a = true ∧ r = [] ∧ Pair many c a none) ∨ (downB many c a = false ∧ ∃ c2, r = [(c2, a)] ∧ (∀ l ∈ c2, l.all sgn = true) ∧ (∀ l ∈ c, l.all sgn = true) ∧ Pair many c a (some c2) ∧ Pair many c2 a (some c)))
def LawOk (places many : Nat) : Prop := ∀ kf ∈ knownP places many, FoundOk many kf.2
def spLaw (K : PySem.W.Frag) : Sp := fun vs H Q _ => ∃ (a : Addr) (ns : List Int), vs = [.ref a] ∧ SqL K H a (ns.map V.int) ∧ ns.length ≤ 63 ∧ ∀ H', Q (.bl true) H'
theorem getG_mem {kv : List (List Nat × List Ent)} {k : List Nat} {es : List Ent} (h : getG kv k = some es) : ∃ k', (k', es) ∈ kv := by
  unfold getG at h
  cases hf : kv.find? fun p => decide (p.1 = k) with
  | none => rw [hf] at h; cases h
  | some p =>
    rw [hf] at h
    cases h
    exact ⟨p.1, List.mem_of_find?_eq_some hf⟩
theorem put_len {m b : Nat} {kv : List (List Nat × List Ent)} {e : Ent} (h : ∀ kf ∈ kv, kf.2.length ≤ b) : ∀ kf ∈ putE m kv e, kf.2.length ≤ b + 1 := by
  have hv : ((getG kv (keyL m e)).getD [] ++ [e]).length ≤ b + 1 := by
    rw [List.length_append]
    show _ + 1 ≤ _
    cases hg : getG kv (keyL m e) with
    | none => exact Nat.succ_le_succ (Nat.zero_le _)
    | some es =>
      obtain ⟨k', hk⟩ := getG_mem hg
      have : es.length ≤ b := h _ hk
      show es.length + 1 ≤ _
      omega
  intro kf hk
  unfold putE putG at hk
  by_cases c : (kv.any fun p => decide (p.1 = keyL m e)) = true
  · rw [if_pos c] at hk
    obtain ⟨p, hp, rfl⟩ := List.mem_map.mp hk
    by_cases c2 : p.1 = keyL m e
    · rw [if_pos c2]
      exact hv
    · rw [if_neg c2]
      have := h p hp
      omega
  · rw [if_neg c] at hk
    rcases List.mem_append.mp hk with hk | hk
    · have := h kf hk
      omega
    · rcases List.mem_cons.mp hk with rfl | hk
      · exact hv
      · exact absurd hk List.not_mem_nil
theorem fold_len {m : Nat} : ∀ (es : List Ent) (kv : List (List Nat × List Ent)) (b : Nat), (∀ kf ∈ kv, kf.2.length ≤ b) → ∀ kf ∈ es.foldl (putE m) kv, kf.2.length ≤ b + es.length
  | [], kv, b, h => h
  | e :: r, kv, b, h => fun kf hk => by
    have := fold_len r (putE m kv e) (b + 1) (put_len h) kf hk
    rw [List.length_cons]
    omega
theorem sum_le : ∀ {l : List (List Nat)} {b : Nat}, (∀ x ∈ l, x.length ≤ b) → (l.map (·.length)).sum ≤ b * l.length
  | [], _, _ => Nat.zero_le _
  | x :: r, b, h => by
    rw [List.map_cons, List.sum_cons, List.length_cons, Nat.mul_succ]
    have := sum_le (l := r) (b := b) fun y hy => h y (List.mem_cons_of_mem _ hy)
    have := h x List.mem_cons_self
    omega
theorem joinL_len : ∀ l : List (List Nat), (TL.joinL [32] l).length ≤ (l.map (·.length)).sum + l.length
  | [] => Nat.zero_le _
  | [x] => by
    show x.length ≤ _
    rw [List.map_cons, List.sum_cons]
    omega
  | x :: y :: r => by
    show (x ++ ([32] ++ TL.joinL [32] (y :: r))).length ≤ _
    have := joinL_len (y :: r)
    simp only [List.map_cons, List.sum_cons, List.length_cons, List.length_append, List.length_nil] at this ⊢
    omega
theorem rows_take (c : List (List Nat)) (j : Nat) : (rowsV c).take j ++ (rowsV c).drop (j + 1) = ((c.take j ++ c.drop (j + 1)).map S).map V.str := by
  unfold rowsV
  rw [List.map_append, List.map_append, List.map_map, List.map_map, List.map_take, List.map_drop]
  rfl
theorem last_at {places : Nat} {c : List (List Nat)} (h : c ≠ []) : atI (rowsV c) (-1) = some (.str (S (lastL places c))) := by
  have e := List.dropLast_concat_getLast h
  have e2 : lastL places c = c.getLast h := by
    unfold lastL
    rw [List.getLast?_eq_some_getLast h]
    rfl
  rw [e2]
  have e3 : rowsV c = rowsV c.dropLast ++ [.str (S (c.getLast h))] := by
    conv => lhs; rw [← e]
    unfold rowsV
    rw [List.map_append]
    rfl
  rw [e3]
  exact atI_last _ _
theorem lastL_any {c : List (List Nat)} (h : c ≠ []) (a b : Nat) : lastL a c = lastL b c := by
  unfold lastL
  rw [List.getLast?_eq_some_getLast h]
  rfl
theorem EntAt.grow {H H' : Hp} {v : V} {e : Ent} (a : EntAt H v e) (g : Grow H H') : EntAt H' v e := let ⟨t, p, e, h1, h2⟩ := a; ⟨t, p, e, g _ _ h1, g _ _ h2⟩
theorem EntsAt.grow {H H' : Hp} {v : V} {es : List Ent} (a : EntsAt H v es) (g : Grow H H') : EntsAt H' v es := let ⟨l, vs, e, h, al⟩ := a; ⟨l, vs, e, g _ _ h, al.mono fun _ _ z => z.grow g⟩
theorem getG_some {kv : List (List Nat × List Ent)} {b : List Nat × List Ent} (h : b ∈ kv) : getG kv b.1 ≠ none := fun z => by
  unfold getG at z
  rw [Option.map_eq_none_iff, List.find?_eq_none] at z
  exact z b h (decide_eq_true rfl)
theorem full_seq {H : Hp} {p : Addr} {c : List (List Nat)} (hf : fullV (rowsV c) = true) (hl : c.length ≤ 1000) (h : H p = some (.lst (rowsV c)) ∨ H p = some (.tup (rowsV c))) : SeqAtP H p (rowsV c) := by
  refine ⟨h, by unfold rowsV; rw [List.length_map]; exact hl, fun x hx => ?_⟩
  obtain ⟨n, hn, _, hr⟩ := full_rows hf
  obtain ⟨i, hi⟩ := List.getElem?_of_mem hx
  obtain ⟨z, rfl, _, lz, _⟩ := hr i x hi
  refine ⟨.inr (.inr (.inr (.inl ⟨z, rfl⟩))), fun z' e => ?_⟩
  cases e
  have := small1000 (show z.length ≤ 1000 by omega)
  omega
theorem at_m2 {α : Type} {xs : List α} {v : α} (h2 : 2 ≤ xs.length) (h : xs[xs.length - 2]? = some v) : atI xs (-2) = some v := by
  unfold atI ixN
  rw [if_neg (by decide), if_pos (by omega)]
  show xs[(-2 + (xs.length : Int)).toNat]? = some v
  rw [show (-2 + (xs.length : Int)).toNat = xs.length - 2 by omega]
  exact h
theorem eqvT_refl {c : List (List Nat)} (h : ∀ l ∈ c, l.all sgn = true) : PyData.eqv (.tuple (c.map fun l => PyData.str (S l))) (.tuple (c.map fun l => PyData.str (S l))) = true := PySem.SeqAt.eqvAll_refl _ (lay_rows c h)
theorem shapedT {c : List (List Nat)} (h : ∀ l ∈ c, l.all sgn = true) : SeqAt.shaped (.tuple (c.map fun l => PyData.str (S l))) = true := by
  simp only [SeqAt.shaped, PyData.canLay0, PyData.depth, lay_rows c h, depth_rows]
  rfl
theorem gd0 {l : List Nat} {i : Nat} (h : i < l.length) : l[i]? = some (l.getD i 0) := by
  rw [List.getD_eq_getElem?_getD, List.getElem?_eq_getElem h]
  rfl
theorem ne_self (v : V) : (!decide (v = v)) = false := by
  rw [decide_eq_true rfl]
  rfl
theorem one_zero (x : Nat) : decide (V.str ⟨#[x]⟩ = V.str (Str.ofString "0")) = (x == 48) := by
  by_cases h : x = 48
  · rw [h]
    exact decide_eq_true rfl
  · rw [decide_eq_false (fun z => h ?_)]
    · exact (beq_eq_false_iff_ne.mpr h).symm
    · have z2 : (#[x] : Array Nat) = #[48] := congrArg (·.cps) (V.str.inj z)
      exact (List.cons.inj (congrArg (·.toList) z2)).1
section
variable {P : Program} {w : World} {K : PySem.W.Frag} {mg : Str → Option Value} {base : Heap}
theorem okv_seq {H : Hp} {p : Addr} {xs : List V} (h : SeqAtP H p xs) : OKV H (.ref p) := ⟨.inr (.inr (.inr (.inr ⟨p, rfl, h.1.elim (fun z => .inl ⟨_, z⟩) (fun z => .inr (.inl ⟨_, z⟩))⟩))), fun z e => by cases e⟩
theorem ok_law (good : ∀ places many, 2 ≤ many → many ≤ places → places ≤ 4 → LawOk places many) (T : HG.Tp K mg "law" s_law ["script"]) {CC CN CM : Addr} (o_beyond : HG.Df P w K mg base (L2.CX P w) 7 "beyond" ["chain", "index"] (spBey CC CN CM)) (o__law_pen : HG.Df P w K mg base CX0 1 "_law_pen" ["script"] (HD.spGauge K)) (o__law_draw : HG.Df P w K mg base CX0 1 "_law_draw" ["pen", "many"] HD.spDraw) (o__law_one_of : HG.Df P w K mg base CX0 2 "_law_one_of" ["pen", "some"] (HD.spOne K))
    (o__law_all_full : HG.Df P w K mg base CX0 1 "_law_all_full" ["places", "many"] spAll) (m_range : mg "range" = none) (m_len : mg "len" = none) (m_tuple : mg "tuple" = none) : HG.FnG P w K mg base CX0 9 T.f T.fd ["script"] (spLaw K) := by
  refine HG.fn_g0 T.F sc_law (fun vs H Q E h => ?_) (fun cdv A outer s H vs Q E hg hr h => ?_)
  · obtain ⟨a, ns, rfl, _⟩ := h
    rfl
  · obtain ⟨a, ns, rfl, hS, hlen, q⟩ := h
    have hu : (A.deeper (envOfC "law" (defScope s_law) s.heap.objs.size T.f cdv)).units + 1 < cLine := by have := hr.units; omega
    refine ⟨_, (pss_cons (ps_set (i := 1) sc_law.nd rfl (.inl rfl) (HG.pe_c o__law_pen hr (pa_cons (pv 0) pa_nil)))
      (pss_cons (ps_set (i := 2) sc_law.nd rfl (.inl rfl) (HG.pe_c o__law_one_of hr (pa_cons (pv 1) (pa_cons (pe_lst (pa_cons pe_int (pa_cons pe_int (pa_cons pe_int (pa_cons pe_int pa_nil))))) pa_nil))))
      (pss_cons (ps_par (i := 3) (j := 4) (by rfl) sc_law.nd rfl rfl (by decide) rfl rfl (pa_cons (pe_op op_add pe_int (HG.pe_c o__law_draw hr (pa_cons (pv 1) (pa_cons (pe_op op_sub (pv 2) pe_int) pa_nil)))) (pa_cons pe_dnewK pa_nil)) (by rfl))
      (pss_cons (ps_for PassesOwn.never rfl (pi_list (HG.pe_c o__law_all_full hr (pa_cons (pv 2) (pa_cons (pv 3) pa_nil)))) (pg_name (i := 5) sc_law.nd rfl (Or.inl rfl)) (pss_one (ps_for PassesOwn.never rfl (pi_range1 rfl m_range (pa_cons (pv 3) pa_nil)) (pg_name (i := 6) sc_law.nd rfl (Or.inl rfl)) (pss_cons (ps_set (i := 7) sc_law.nd rfl (.inl rfl) (pe_op op_add_str (pe_op op_add_str (pe_ix ix_str (pe_ix ix_list (pv 5) (pe_un un_neg pe_int) (fun _ _ => rfl)) (pe_op op_sub (pv 3) pe_int) (fun _ _ => rfl)) pe_str) (pe_bm PySem.F.plainAttrs_str PySem.F.slot_str_join PySem.F.type_str_join mt_join pe_str (pa_cons (pe_op op_cat (pe_slice sl_list (pv 5) po_none (po_some (pv 6))) (pe_slice sl_list (pv 5) (po_some (pe_op op_add (pv 6) pe_int)) po_none)) pa_nil))))
      (pss_one (ps_dput hu (pv 4) (pv 7) (pe_op op_cat (pe_dget2 hu (pv 4) (pv 7) (pe_lst pa_nil) ⟨by rfl, by rfl, by rfl, by rfl⟩) (pe_lst (pa_cons (pe_tup (pa_cons (pv 5) (pa_cons (pv 6) pa_nil))) pa_nil))) rfl))))))
      (pss_cons (ps_lock (ps_for PassesOwn.never rfl (pi_keys (pv 4)) (pg_name (i := 7) sc_law.nd rfl (Or.inl rfl)) (pss_cons (ps_set (i := 8) sc_law.nd rfl (.inl rfl) (pe_dget hu (pv 4) (pv 7) (fun _ _ => rfl)))
      (pss_cons (ps_asg (pe_ix ix_list (pv 8) pe_int (fun _ _ => rfl)) (pg_tup rfl (pgs_cons (pg_name (i := 10) sc_law.nd rfl (Or.inl rfl)) (pgs_cons (pg_name (i := 6) sc_law.nd rfl (Or.inl rfl)) pgs_nil))))
      (Evl.pss_cut (ps_set (i := 9) sc_law.nd rfl (.inl rfl) (pe_and (pe_cmpR op_eq (pv 6) (pe_op op_sub (pv 3) pe_int) (nomark _)) (pe_one (pe_cmpR op_eq (pe_ix ix_str (pe_ix ix_list (pv 10) (pe_un un_neg pe_int) (fun _ _ => rfl)) (pe_op op_sub (pv 3) pe_int) (fun _ _ => rfl)) pe_str (nomark _)))))
      (pss_cons (ps_if (pt_cmpR op_ne (pe_callB call_len_seq (by rfl) m_len PySem.boot_len (pa_cons (pv 8) pa_nil)) (pe_ifExp (pt_val (pv 9)) pe_int pe_int) (nomark _)) (pss_one (ps_ret pe_bl)) pss_nil)
      (pss_one (ps_if (pt_val (pv 9)) (pss_one (ps_if (pt_cmpR op_notN (HG.pe_cL o_beyond hr (pa_cons (pv 10) (pa_cons (pv 6) pa_nil))) pe_non (nomark _)) (pss_one (ps_ret pe_bl)) pss_nil)) (pss_one (ps_if (PW.pt (pw_or (pt_cmpR op_ne (pe_ix ix_tup (pe_ix ix_list (pv 8) pe_int (fun _ _ => rfl)) pe_int (fun _ _ => rfl)) (pv 6) (nomark _)) (pw_or (pt_cmpR (op_neD hr.units) (HG.pe_cL o_beyond hr (pa_cons (pv 10) (pa_cons (pv 6) pa_nil))) (pe_callTy call_tuple_of (by rfl) m_tuple (by decide +kernel) (pa_cons (pe_ix ix_tup (pe_ix ix_list (pv 8) pe_int (fun _ _ => rfl)) pe_int (fun _ _ => rfl)) pa_nil)) (nomark _)) (pw_or1 (pt_cmpR (op_neD hr.units) (HG.pe_cL o_beyond hr (pa_cons (pe_callTy call_tuple_of (by rfl) m_tuple (by decide +kernel) (pa_cons (pe_ix ix_tup (pe_ix ix_list (pv 8) pe_int (fun _ _ => rfl)) pe_int (fun _ _ => rfl)) pa_nil)) (pa_cons (pv 6) pa_nil))) (pe_callTy call_tuple_of (by rfl) m_tuple (by decide +kernel) (pa_cons (pv 10) pa_nil)) (nomark _)))))) (pss_one (ps_ret pe_bl)) pss_nil))))))))))
      (pss_one (ps_ret pe_bl))))))), ?_⟩
    refine ⟨_, rfl, a, ns, rfl, hS, hlen, fun g c0 ms H1 ng nc G k1 => ?_⟩
    refine ⟨_, rfl, by show 4 ≤ sizeLine; decide, fun L nL => ?_⟩
    refine ⟨g, c0, ms, 0, 0, L, _, rfl, ⟨HD.stay nL G.g, HD.stay nL G.c, G.a0, G.r0, G.len⟩, by decide, (ne_of_none G.g nL).symm, SqL.of upd_same, by simp, by simp, fun x a2 r2 H2 hx ha2 G2 k2 => ?_⟩
    obtain ⟨places, rfl, hp2, hp4⟩ : ∃ n : Nat, x = .int (n : Nat) ∧ 2 ≤ n ∧ n ≤ 4 := by
      rcases List.mem_cons.mp hx with e | hx
      · exact ⟨3, e, by decide, by decide⟩
      rcases List.mem_cons.mp hx with e | hx
      · exact ⟨2, e, by decide, by decide⟩
      rcases List.mem_cons.mp hx with e | hx
      · exact ⟨4, e, by decide, by decide⟩
      rcases List.mem_cons.mp hx with e | hx
      · exact ⟨3, e, by decide, by decide⟩
      exact absurd hx List.not_mem_nil
    refine ⟨_, rfl, _, rfl, _, _, rfl, rfl, g, c0, ms, a2, r2, _, rfl, G2, by omega, by omega, by omega, fun x a3 r3 H3 x0 x1 ha3 G3 k3 => ?_⟩
    refine ⟨_, _, rfl, rfl, fun d nd => ?_⟩
    refine ⟨_, _, rfl, ?_⟩
    obtain ⟨m, em, hm2, hmp⟩ : ∃ m : Nat, (2 + x : Int) = (m : Int) ∧ 2 ≤ m ∧ m ≤ places := ⟨(2 + x).toNat, by omega, by omega, by omega⟩
    dsimp only
    rw [em]
    have gd := good places m hm2 hmp hp4
    refine ⟨_, rfl, _, rfl, places, m, rfl, hmp, by omega, by omega, fun H4 r g4 hch => ?_⟩
    obtain ⟨vs, hr, hc⟩ := hch
    have hd4 : H4 d = some (.dK []) := g4 _ _ upd_same
    have dr : r ≠ d := fun e => by rw [e, hd4] at hr; cases hr
    refine ⟨r, rfl, ⟨vs, SqL.of hr⟩, ?_⟩
    have lv := hc.1
    have hal := allF_len (places := places) (show m ≤ 4 by omega) m (by omega)
    have h84 : 8 ^ m ≤ 4096 := Nat.le_trans (Nat.pow_le_pow_right (by decide) (show m ≤ 4 by omega)) (by decide)
    have sz := sizeLine_eq
    refine for_list (xs := vs) (fun i σ H5 => ∃ y5 y6 y7, σ = [some (.ref a), some (.ref g), some (.int (places : Nat)), some (.int (m : Nat)), some (.ref d), y5, y6, y7, none, none, none] ∧ HG.Kp d H4 H5 ∧
        ∃ kvs, H5 d = some (.dK kvs) ∧ All2 (RK H5) kvs ((((allF places m m).take i).flatMap (entsOf m)).foldl (putE m) []) ∧ kvs.length ≤ 4 * i)
      ⟨none, none, none, rfl, HG.Kp.refl, [], hd4, .nil, Nat.zero_le _⟩ (fun i σ H5 _ z => by obtain ⟨_, _, _, _, k, _⟩ := z; exact SqL.of (k _ _ dr hr)) ?_ ?_
    · rintro i x σ H5 hx ⟨y5, y6, y7, rfl, k5, kvs5, hd5, rk5, l5⟩
      have hil := (List.getElem?_eq_some_iff.mp hx).1
      have hcs : (allF places m m)[i]? = some ((allF places m m)[i]'(by omega)) := List.getElem?_eq_getElem _
      generalize (allF places m m)[i]'(by omega) = c at hcs
      obtain ⟨p, rfl, _, hp⟩ := hc.2 i x c hx hcs
      have pd : p ≠ d := fun e => by rw [e, hd4] at hp; cases hp
      obtain ⟨rok, clen⟩ := allF_ok hmp m c (List.mem_of_getElem? hcs)
      have cne : c ≠ [] := fun e => by rw [e] at clen; rw [← clen] at hm2; exact absurd hm2 (by decide)
      have ll := lastL_len rok
      refine ⟨_, rfl, _, rfl, by omega, by omega, ?_⟩
      rw [Int.toNat_natCast]
      refine for_range (n := m) (fun j σ H6 => ∃ y6 y7, σ = [some (.ref a), some (.ref g), some (.int (places : Nat)), some (.int (m : Nat)), some (.ref d), some (.ref p), y6, y7, none, none, none] ∧ HG.Kp d H4 H6 ∧
          ∃ kvs, H6 d = some (.dK kvs) ∧ All2 (RK H6) kvs (((entsOf m c).take j).foldl (putE m) ((((allF places m m).take i).flatMap (entsOf m)).foldl (putE m) [])) ∧ kvs.length ≤ 4 * i + j)
        ⟨y6, y7, rfl, k5, kvs5, hd5, rk5, l5⟩ ?_ ?_
      · rintro j σ H6 hj ⟨z6, z7, rfl, k6, kvs, hd6, rk6, l6⟩
        have hp6 := k6 _ _ pd hp
        have rlen : (rowsV c).length = m := by unfold rowsV; rw [List.length_map]; exact clen
        have sl : (S (lastL m c)).length ≤ sizeLine := by rw [S_len, lastL_any cne m places, ll]; omega
        have hch : (S (lastL m c)).cps.toList[m - 1]? = some ((lastL m c).getD (m - 1) 0) := by
          show (lastL m c)[m - 1]? = _
          rw [List.getD_eq_getElem?_getD, List.getElem?_eq_getElem (by rw [lastL_any cne m places, ll]; omega)]
          rfl
        have e0 : (0 + (j : Int)) = (j : Int) := by omega
        have cut : ∀ x ∈ c.take j ++ c.drop (j + 1), x.length ≤ 12 := fun x hx => by
          rcases List.mem_append.mp hx with hx | hx
          · rw [(rok x (List.mem_of_mem_take hx)).1]; omega
          · rw [(rok x (List.mem_of_mem_drop hx)).1]; omega
        have s1 := sum_le cut
        have s2 : (c.take j ++ c.drop (j + 1)).length ≤ 8 := by rw [List.length_append, List.length_take, List.length_drop]; omega
        have s3 : 12 * (c.take j ++ c.drop (j + 1)).length ≤ 96 := by omega
        have s4 := joinL_len (c.take j ++ c.drop (j + 1))
        rw [e0]
        refine ⟨_, rfl, _, rfl, p, _, _, _, rfl, rfl, SqL.of hp6, last_at (places := m) cne, ?_⟩
        refine ⟨_, rfl, _, _, rfl, rfl, S (lastL m c), _, _, rfl, rfl, sl, (by rw [show ((m : Int) - 1) = ((m - 1 : Nat) : Int) by omega]; exact atI_nat hch), ?_⟩
        refine ⟨_, _, rfl, rfl, by show 1 + 1 ≤ sizeLine; omega, ?_⟩
        refine ⟨rfl, _, rfl, _, rfl, _, rfl, p, _, rfl, SqL.of hp6, fun l1 n1 => ?_⟩
        have hp7 := HD.stay (o := .lst (cutV (rowsV c) none (some (j : Int)))) n1 hp6
        refine ⟨_, rfl, _, rfl, _, _, rfl, rfl, _, rfl, p, _, rfl, SqL.of hp7, fun l2 n2 => ?_⟩
        have h1 := HD.stay (o := .lst (cutV (rowsV c) (some ((j : Int) + 1)) none)) n2 (upd_same (H := H6) (a := l1) (o := .lst (cutV (rowsV c) none (some (j : Int)))))
        refine ⟨l1, l2, _, _, rfl, rfl, h1, upd_same, ?_, fun l3 n3 => ?_⟩
        · have := cutV_length (rowsV c) none (some (j : Int))
          have := cutV_length (rowsV c) (some ((j : Int) + 1)) none
          omega
        have ecut : cutV (rowsV c) none (some (j : Int)) ++ cutV (rowsV c) (some ((j : Int) + 1)) none = ((c.take j ++ c.drop (j + 1)).map S).map V.str := by
          rw [cut_to, show ((j : Int) + 1) = ((j + 1 : Nat) : Int) by omega, cut_from]
          exact rows_take c j
        have g7 : Grow H6 _ := ((Grow.new (o := .lst (cutV (rowsV c) none (some (j : Int)))) n1).trans (Grow.new (o := .lst (cutV (rowsV c) (some ((j : Int) + 1)) none)) n2)).trans (Grow.new (o := .lst (cutV (rowsV c) none (some (j : Int)) ++ cutV (rowsV c) (some ((j : Int) + 1)) none)) n3)
        revert g7
        have hj3 : ∀ {HX : Hp}, HX = upd (upd (upd H6 l1 (.lst (cutV (rowsV c) none (some (j : Int))))) l2 (.lst (cutV (rowsV c) (some ((j : Int) + 1)) none))) l3 (.lst (cutV (rowsV c) none (some (j : Int)) ++ cutV (rowsV c) (some ((j : Int) + 1)) none)) → HX l3 = some (.lst (((c.take j ++ c.drop (j + 1)).map S).map V.str)) := fun {HX} e => by
          rw [e, ← ecut]
          exact upd_same
        generalize hH7 : upd (upd (upd H6 l1 (.lst (cutV (rowsV c) none (some (j : Int))))) l2 (.lst (cutV (rowsV c) (some ((j : Int) + 1)) none))) l3 (.lst (cutV (rowsV c) none (some (j : Int)) ++ cutV (rowsV c) (some ((j : Int) + 1)) none)) = H7 at hj3 ⊢
        intro g7
        have e7 := hj3 rfl
        have ekey : (⟨#[(lastL m c).getD (m - 1) 0]⟩ ++ Str.ofString " " ++ Txt.join (Str.ofString " ") ((c.take j ++ c.drop (j + 1)).map S) : Str) = S (keyL m (c, j)) := by
          rw [show Txt.join (Str.ofString " ") ((c.take j ++ c.drop (j + 1)).map S) = S (TL.joinL [32] (c.take j ++ c.drop (j + 1))) from join_S [32] _]
          rw [show (⟨#[(lastL m c).getD (m - 1) 0]⟩ ++ Str.ofString " " : Str) = S ([(lastL m c).getD (m - 1) 0] ++ [32]) from S_cat [_] [32], S_cat]
          rfl
        refine ⟨_, l3, (c.take j ++ c.drop (j + 1)).map S, rfl, rfl, .inl (SqL.of e7), ?_, ?_⟩
        · have q1 : (((c.take j ++ c.drop (j + 1)).map S).map fun x => x.length).sum = ((c.take j ++ c.drop (j + 1)).map fun x => x.length).sum := congrArg List.sum (SX.lens _)
          have q2 : (Str.ofString " ").length = 1 := rfl
          rw [q1, q2, List.length_map]
          omega
        refine ⟨_, _, rfl, rfl, ?_, ?_⟩
        · have q3 : (Txt.join (Str.ofString " ") ((c.take j ++ c.drop (j + 1)).map S)).length ≤ 200 := by
            rw [show Txt.join (Str.ofString " ") ((c.take j ++ c.drop (j + 1)).map S) = S (TL.joinL [32] (c.take j ++ c.drop (j + 1))) from join_S [32] _, S_len]
            omega
          have q4 : (⟨#[(lastL m c).getD (m - 1) 0]⟩ ++ Str.ofString " " : Str).length = 2 := by
            rw [show (⟨#[(lastL m c).getD (m - 1) 0]⟩ ++ Str.ofString " " : Str) = S ([(lastL m c).getD (m - 1) 0] ++ [32]) from S_cat [_] [32], S_len]
            rfl
          rw [q4]
          omega
        rw [ekey]
        have hd7 := g7 _ _ hd6
        have rk7 : All2 (RK H7) kvs (((entsOf m c).take j).foldl (putE m) ((((allF places m m).take i).flatMap (entsOf m)).foldl (putE m) [])) := rk6.mono fun _ _ r => r.kp hd6 fun q o _ h => g7 _ _ h
        refine ⟨_, rfl, d, rfl, .inl ⟨kvs, .inl hd7⟩, _, rfl, by decide, fun e ne => ?_⟩
        have g8 : Grow H7 (upd H7 e (.lst [])) := Grow.new ne
        have hd8 := g8 _ _ hd7
        refine ⟨_, DGet.k (k := .inr (S (keyL m (c, j)))) hd8, ?_⟩
        have total : (((allF places m m).take i).flatMap (entsOf m)).length + ((entsOf m c).take j).length ≤ 4 * i + j := by
          have h := flat_len (f := entsOf m) (b := 4) (fun x => by unfold entsOf; rw [List.length_map, List.length_range]; omega) ((allF places m m).take i)
          rw [List.length_take] at h ⊢
          have : min i (allF places m m).length ≤ i := Nat.min_le_left _ _
          have := Nat.mul_le_mul_left 4 this
          have : min j (entsOf m c).length ≤ j := Nat.min_le_left _ _
          omega
        have short := fold_len (m := m) ((entsOf m c).take j) _ _ (fold_len (m := m) (((allF places m m).take i).flatMap (entsOf m)) [] 0 (fun _ h => absurd h List.not_mem_nil))
        obtain ⟨l0, ws, es0, eo, hl0, al0, es_is, lw0⟩ : ∃ l0 ws es0, (valV kvs (.inr (S (keyL m (c, j))))).getD (.ref e) = .ref l0 ∧ (upd H7 e (.lst [])) l0 = some (.lst ws) ∧ All2 (EntAt (upd H7 e (.lst []))) ws es0 ∧
            (getG (((entsOf m c).take j).foldl (putE m) ((((allF places m m).take i).flatMap (entsOf m)).foldl (putE m) [])) (keyL m (c, j))).getD [] = es0 ∧ es0.length ≤ 4 * i + j := by
          rcases rk_get (k := keyL m (c, j)) rk7 with ⟨h1, h2⟩ | ⟨es, v, h1, h2, l0, ws, rfl, hl, al⟩
          · rw [h1, h2]
            exact ⟨e, [], [], rfl, upd_same, .nil, rfl, Nat.zero_le _⟩
          · rw [h1, h2]
            refine ⟨l0, ws, es, rfl, g8 _ _ hl, al.mono fun _ _ a => a.kp hd7 fun q o _ h => g8 _ _ h, rfl, ?_⟩
            obtain ⟨k', hk⟩ := getG_mem h1
            have := short _ hk
            show es.length ≤ _
            have this2 : es.length ≤ 0 + (((allF places m m).take i).flatMap (entsOf m)).length + ((entsOf m c).take j).length := this
            omega
        rw [eo]
        refine ⟨_, rfl, _, rfl, by show 2 ≤ sizeLine; omega, fun t nt => ⟨by show 1 ≤ sizeLine; omega, fun l4 n4 => ?_⟩⟩
        have g9 := (Grow.new (o := .tup [V.ref p, .int (j : Nat)]) nt).trans (Grow.new (o := .lst [V.ref t]) n4)
        have lws := al0.1
        refine ⟨l0, l4, ws, _, rfl, rfl, g9 _ _ hl0, upd_same, by show _ + 1 ≤ _; omega, fun l9 n9 => ?_⟩
        have g10 := g9.trans (Grow.new (o := .lst (ws ++ [V.ref t])) n9)
        have hd10 := g10 _ _ hd8
        refine ⟨_, rfl, _, rfl, d, _, rfl, DPut.k (k := .inr (S (keyL m (c, j)))) hd10 (by omega), ?_⟩
        have k11 : HG.Kp d H7 (upd (upd (upd (upd (upd H7 e (.lst [])) t (.tup [V.ref p, .int (j : Nat)])) l4 (.lst [V.ref t])) l9 (.lst (ws ++ [V.ref t]))) d (.dK (putK kvs (.inr (S (keyL m (c, j)))) (.ref l9)))) := fun q o n h => by
          rw [upd_ne n]
          exact g10 _ _ (g8 _ _ h)
        have k8 : HG.Kp d (upd H7 e (.lst [])) (upd (upd (upd (upd (upd H7 e (.lst [])) t (.tup [V.ref p, .int (j : Nat)])) l4 (.lst [V.ref t])) l9 (.lst (ws ++ [V.ref t]))) d (.dK (putK kvs (.inr (S (keyL m (c, j)))) (.ref l9)))) := fun q o n h => by
          rw [upd_ne n]
          exact g10 _ _ h
        have l9d : l9 ≠ d := fun z => by rw [z] at n9; rw [g9 _ _ hd8] at n9; cases n9
        have td : t ≠ d := fun z => by rw [z, hd8] at nt; cases nt
        have ents : EntsAt (upd (upd (upd (upd (upd H7 e (.lst [])) t (.tup [V.ref p, .int (j : Nat)])) l4 (.lst [V.ref t])) l9 (.lst (ws ++ [V.ref t]))) d (.dK (putK kvs (.inr (S (keyL m (c, j)))) (.ref l9)))) (.ref l9) (es0 ++ [(c, j)]) := by
          refine ⟨l9, ws ++ [.ref t], rfl, by rw [upd_ne l9d]; exact upd_same, (al0.mono fun _ _ a => a.kp hd8 k8).app (.one ⟨t, p, rfl, ?_, k11 _ _ pd (g7 _ _ hp6)⟩)⟩
          rw [upd_ne td]
          exact HD.stay n9 (HD.stay n4 upd_same)
        have rk11 := rk_put (k := keyL m (c, j)) (rk7.mono fun _ _ r => r.kp hd7 k11) ents
        have ej : (entsOf m c)[j]? = some (c, j) := by
          unfold entsOf
          rw [List.getElem?_map, List.getElem?_range hj]
          rfl
        refine ⟨_, _, rfl, k6.trans (HG.Kp.trans (fun q o _ h => g7 _ _ h) k11), _, upd_same, ?_, ?_⟩
        · rw [HD.take_snoc ej, List.foldl_append]
          show All2 _ _ (putG _ (keyL m (c, j)) (_ ++ [(c, j)]))
          rw [es_is]
          exact rk11
        · have h1 := rk11.1
          have h2 := putG_len (((entsOf m c).take j).foldl (putE m) ((((allF places m m).take i).flatMap (entsOf m)).foldl (putE m) [])) (keyL m (c, j)) (es0 ++ [(c, j)])
          have h3 := rk7.1
          omega
      · rintro σ H6 ⟨z6, z7, rfl, k6, kvs, hd6, rk6, l6⟩
        refine ⟨_, _, _, rfl, k6, kvs, hd6, ?_, by omega⟩
        have e : (entsOf m c).take m = entsOf m c := List.take_of_length_le (by unfold entsOf; rw [List.length_map, List.length_range]; exact Nat.le_refl _)
        rw [e] at rk6
        rw [HD.take_snoc hcs, List.flatMap_append, List.foldl_append]
        have eone : [c].flatMap (entsOf m) = entsOf m c := by rw [List.flatMap_cons, List.flatMap_nil, List.append_nil]
        rw [eone]
        exact rk6
    · rintro σ H5 ⟨y5, y6, y7, rfl, k5, kvs, hd5, rk5, l5⟩
      have e : (allF places m m).take vs.length = allF places m m := List.take_of_length_le (by omega)
      rw [e] at rk5
      have rk5' : All2 (RK H5) kvs (knownP places m) := rk5
      refine ⟨d, .dK kvs, hd5, trivial, fun od => ?_⟩
      have kL : HG.Kp d H5 (upd H5 d (.frz od (.dK kvs))) := HG.Kp.at
      refine ⟨_, rfl, d, od, rfl, .inl ⟨kvs, upd_same, ?_⟩⟩
      refine for_it walk_keys (fun i σ H6 => ∃ w6 w7 w8 w9 w10, σ = [some (.ref a), some (.ref g), some (.int (places : Nat)), some (.int (m : Nat)), some (.ref d), y5, w6, w7, w8, w9, w10] ∧ Grow (upd H5 d (.frz od (.dK kvs))) H6)
        ⟨y6, y7, none, none, none, rfl, Grow.refl⟩ (fun i σ H6 _ z => by obtain ⟨_, _, _, _, _, _, gg⟩ := z; exact gg _ _ upd_same) ?_ ?_
      · rintro i x σ H6 H7 hi ⟨w6, w7, w8, w9, w10, rfl, g6⟩ ⟨rfl, k, v, hkv, rfl⟩
        have hb : (knownP places m)[i]? = some ((knownP places m)[i]'(by rw [← rk5'.1]; exact hi)) := List.getElem?_eq_getElem _
        generalize (knownP places m)[i]'(by rw [← rk5'.1]; exact hi) = b at hb
        have rb := rk5'.2 i _ b hkv hb
        obtain ⟨ek, _⟩ := rb
        have ek' : k = .inr (S b.1) := ek
        subst ek'
        rcases rk_get (k := b.1) rk5' with ⟨h1, _⟩ | ⟨es, v2, h1, h2, he⟩
        · exact absurd h1 (getG_some (List.mem_of_getElem? hb))
        obtain ⟨k', hmem⟩ := getG_mem h1
        obtain ⟨c, at_, rr, ees, ham, rows, hcase⟩ := gd _ hmem
        have ees' : es = (c, at_) :: rr := ees
        subst ees'
        obtain ⟨l, ws, rfl, hl, al⟩ := (he.kp hd5 kL).grow g6
        have h0 : ((c, at_) :: rr)[0]? = some (c, at_) := rfl
        obtain ⟨v0, hv0, t0, p0, rfl, ht0, hp0⟩ := al.at h0
        have hfz := g6 _ _ (upd_same (H := H5) (a := d) (o := .frz od (.dK kvs)))
        refine ⟨_, rfl, _, rfl, d, _, rfl, .inl ⟨kvs, .inr (S b.1), .inr ⟨od, hfz⟩, rfl, h2.symm⟩, ?_⟩
        refine ⟨_, rfl, l, ws, 0, _, rfl, rfl, SqL.of hl, atI_nat (j := 0) hv0, t0, _, rfl, SqT.of ht0, rfl, _, _, rfl, _, _, rfl, rfl, ?_⟩
        refine ⟨fun σ' H' => σ' = [some (.ref a), some (.ref g), some (.int (places : Nat)), some (.int (m : Nat)), some (.ref d), y5, some (.int (at_ : Nat)), some (kV (.inr (S b.1))), some (.ref l), some (.bl (downB m c at_)), some (.ref p0)] ∧ H' = H7, ?_, ?_⟩
        · have pc : Pair m c at_ (if downB m c at_ = true then none else none) ∨ ∃ b, Pair m c at_ b := by
            rcases hcase with ⟨_, _, pp⟩ | ⟨_, _, _, _, _, pp, _⟩
            · exact .inr ⟨_, pp⟩
            · exact .inr ⟨_, pp⟩
          have pcl : c.length = m := by
            rcases hcase with ⟨_, _, pp⟩ | ⟨_, _, _, _, _, pp, _⟩
            · exact pp.len
            · exact pp.len
          refine ⟨_, rfl, _, rfl, _, _, rfl, rfl, rfl, _, rfl, ite2 (fun h => ?_) (fun h => ?_)⟩
          · have ea : at_ = m - 1 := by
              have : (at_ : Int) = (m : Int) - 1 := V.int.inj (of_decide_eq_true h)
              omega
            have h2 : (rowsV c)[(rowsV c).length - 2]? = some (.str (S (c.getD (c.length - 2) []))) := by
              unfold rowsV
              rw [List.length_map, List.getElem?_map, List.getD_eq_getElem?_getD, List.getElem?_eq_getElem (by omega)]
              rfl
            have hl2 : 2 ≤ (rowsV c).length := by unfold rowsV; rw [List.length_map]; omega
            have hrow := rows (c.getD (c.length - 2) []) (by rw [List.getD_eq_getElem?_getD, List.getElem?_eq_getElem (show c.length - 2 < c.length by omega)]; exact List.getElem_mem _)
            have hch : (S (c.getD (c.length - 2) [])).cps.toList[m - 1]? = some ((c.getD (c.length - 2) []).getD (m - 1) 0) := by
              exact gd0 (l := c.getD (c.length - 2) []) (by omega)
            refine ⟨_, rfl, _, rfl, p0, _, _, _, rfl, rfl, SqL.of hp0, at_m2 hl2 h2, ?_⟩
            refine ⟨_, rfl, _, _, rfl, rfl, S (c.getD (c.length - 2) []), _, _, rfl, rfl, by rw [S_len]; omega, (by rw [show ((m : Int) - 1) = ((m - 1 : Nat) : Int) by omega]; exact atI_nat hch), rfl, ?_⟩
            rw [one_zero]
            have e : downB m c at_ = ((c.getD (c.length - 2) []).getD (m - 1) 0 == 48) := by
              unfold downB
              rw [decide_eq_true ea, Bool.true_and]
            rw [e]
            exact ⟨rfl, rfl⟩
          · have e : downB m c at_ = false := by
              unfold downB
              rw [decide_eq_false (fun z => h (decide_eq_true (by rw [z]; exact congrArg V.int (by omega)))), Bool.false_and]
            rw [e]
            exact ⟨rfl, rfl⟩
        · rintro σ' H' ⟨rfl, rfl⟩
          have lws := al.1
          rcases hcase with ⟨hdn, rfl, pp⟩ | ⟨hdn, c2, rfl, sg2, sg1, pp, pp2⟩
          · rw [hdn]
            refine ⟨_, rfl, l, ws, rfl, .inl (SqL.of hl), _, rfl, _, rfl, iteT ?_⟩
            have lw1 : ws.length = 1 := lws
            refine ⟨rfl, _, rfl, ?_⟩
            rw [lw1]
            refine iteF ?_
            have pl := pp.len
            refine ⟨_, rfl, _, rfl, iteT ?_⟩
            refine ⟨_, rfl, _, rfl, .ref p0, .int (at_ : Nat), rfl, okv_seq (full_seq pp.full (by omega) (.inl hp0)), .inl ⟨_, rfl⟩, .inr ⟨p0, c, rfl, full_seq pp.full (by omega) (.inl hp0), pp.full, .inr ⟨at_, rfl, by omega, .inr ⟨by omega, fun hn H8 g8 => ?_, fun d hd => ?_⟩⟩⟩⟩
            · refine ⟨rfl, _, rfl, iteF ?_⟩
              exact ⟨_, _, _, _, _, rfl, g6.trans g8⟩
            · rw [pp.is] at hd
              cases hd
          · rw [hdn]
            refine ⟨_, rfl, l, ws, rfl, .inl (SqL.of hl), _, rfl, _, rfl, iteF ?_⟩
            have lw2 : ws.length = 2 := lws
            refine ⟨rfl, _, rfl, ?_⟩
            rw [lw2]
            refine iteF ?_
            have pl := pp.len
            have pl2 := pp2.len
            have h1' : ((c, at_) :: [(c2, at_)])[1]? = some (c2, at_) := rfl
            obtain ⟨v1, hv1, t1, p1, rfl, ht1, hp1⟩ := al.at h1'
            refine ⟨_, rfl, _, rfl, iteF ?_⟩
            refine ⟨_, rfl, l, ws, 1, _, rfl, rfl, SqL.of hl, atI_nat (j := 1) hv1, t1, _, 1, _, rfl, rfl, SqT.of ht1, atI_nat (j := 1) rfl, _, rfl, rfl, _, rfl, ?_⟩
            rw [ne_self]
            refine iteF ?_
            refine ⟨_, rfl, _, rfl, .ref p0, .int (at_ : Nat), rfl, okv_seq (full_seq pp.full (by omega) (.inl hp0)), .inl ⟨_, rfl⟩, .inr ⟨p0, c, rfl, full_seq pp.full (by omega) (.inl hp0), pp.full, .inr ⟨at_, rfl, by omega, .inr ⟨by omega, fun hn => ?_, fun d1 hd1 H8 u8 g8 hu8 => ?_⟩⟩⟩⟩
            · rw [pp.is] at hn
              cases hn
            have is1 : d1 = c2 := by
              rw [pp.is] at hd1
              exact (Option.some.inj hd1).symm
            rw [is1] at hu8
            refine ⟨_, rfl, l, ws, 1, _, rfl, rfl, SqL.of (g8 _ _ hl), atI_nat (j := 1) hv1, t1, _, 0, _, rfl, rfl, SqT.of (g8 _ _ ht1), atI_nat (j := 0) rfl, p1, rowsV c2, rfl, .inl ⟨SqL.of (g8 _ _ hp1), fun u9 n9 => ?_⟩⟩
            have g9 : Grow H8 (upd H8 u9 (.tup (rowsV c2))) := Grow.new n9
            refine ⟨_, _, .tup (SqT.of (g9 _ _ hu8)) (dp_rows c2), .tup (SqT.of upd_same) (dp_rows c2), shapedT sg2, shapedT sg2, _, rfl, ?_⟩
            rw [eqvT_refl sg2]
            refine iteF ?_
            have G9 := g8.trans g9
            refine ⟨_, rfl, l, ws, 1, _, rfl, rfl, SqL.of (G9 _ _ hl), atI_nat (j := 1) hv1, t1, _, 0, _, rfl, rfl, SqT.of (G9 _ _ ht1), atI_nat (j := 0) rfl, p1, rowsV c2, rfl, .inl ⟨SqL.of (G9 _ _ hp1), fun u10 n10 => ?_⟩⟩
            have g10 : Grow (upd H8 u9 (.tup (rowsV c2))) (upd (upd H8 u9 (.tup (rowsV c2))) u10 (.tup (rowsV c2))) := Grow.new n10
            refine ⟨_, rfl, .ref u10, .int (at_ : Nat), rfl, okv_seq (full_seq pp2.full (by omega) (.inr upd_same)), .inl ⟨_, rfl⟩, .inr ⟨u10, c2, rfl, full_seq pp2.full (by omega) (.inr upd_same), pp2.full, .inr ⟨at_, rfl, by omega, .inr ⟨by omega, fun hn => ?_, fun d2 hd2 H11 u11 g11 hu11 => ?_⟩⟩⟩⟩
            · rw [pp2.is] at hn
              cases hn
            have is2 : d2 = c := by
              rw [pp2.is] at hd2
              exact (Option.some.inj hd2).symm
            rw [is2] at hu11
            have G11 := (G9.trans g10).trans g11
            refine ⟨_, rfl, p0, rowsV c, rfl, .inl ⟨SqL.of (G11 _ _ hp0), fun u12 n12 => ?_⟩⟩
            have g12 : Grow H11 (upd H11 u12 (.tup (rowsV c))) := Grow.new n12
            refine ⟨_, _, .tup (SqT.of (g12 _ _ hu11)) (dp_rows c), .tup (SqT.of upd_same) (dp_rows c), shapedT sg1, shapedT sg1, _, rfl, ?_⟩
            rw [eqvT_refl sg1]
            refine iteF ?_
            exact ⟨_, _, _, _, _, rfl, g6.trans (G11.trans g12)⟩
      · rintro σ H6 ⟨w6, w7, w8, w9, w10, rfl, g6⟩
        exact ⟨g6 _ _ upd_same, q _⟩
end
end K19
set_option maxRecDepth 1000000
namespace K19
open PySem PySem.Spec PyProof.Rows L2 HR SX HC
def pairB (many : Nat) (c : List (List Nat)) (a : Nat) (b : Option (List (List Nat))) : Bool := decide (c.length = many) && (fullV (rowsV c) && decide (beyC c a = b))
theorem pairB_of {many : Nat} {c : List (List Nat)} {a : Nat} {b : Option (List (List Nat))} (h : pairB many c a b = true) : Pair many c a b := by
  unfold pairB at h
  simp only [Bool.and_eq_true, decide_eq_true_eq] at h
  exact ⟨h.1, h.2.1, h.2.2⟩
def foundB (many : Nat) (f : List Ent) : Bool := match f with
  | [] => false
  | (c, a) :: r => decide (a < many) && (c.all (fun l => decide (many ≤ l.length) && decide (l.length ≤ 12)) && (if downB many c a = true then r.isEmpty && pairB many c a none else
      match r with
      | [(c2, a2)] => decide (a2 = a) && (c2.all (fun l => l.all sgn) && (c.all (fun l => l.all sgn) && (pairB many c a (some c2) && pairB many c2 a (some c))))
      | _ => false))
theorem foundB_of {many : Nat} {f : List Ent} (h : foundB many f = true) : FoundOk many f := by
  match f, h with
  | [], h => cases h
  | (c, a) :: r, h =>
    unfold foundB at h
    simp only [Bool.and_eq_true, decide_eq_true_eq, List.all_eq_true] at h
    obtain ⟨h1, h2, h3⟩ := h
    refine ⟨c, a, r, rfl, h1, h2, ?_⟩
    by_cases hd : downB many c a = true
    · rw [if_pos hd] at h3
      simp only [Bool.and_eq_true] at h3
      exact .inl ⟨hd, List.isEmpty_iff.mp h3.1, pairB_of h3.2⟩
    · rw [if_neg hd] at h3
      refine .inr ⟨Bool.eq_false_iff.mpr hd, ?_⟩
      match r, h3 with
      | [(c2, a2)], h3 =>
        simp only [Bool.and_eq_true, decide_eq_true_eq, List.all_eq_true] at h3
        obtain ⟨rfl, h4, h5, h6, h7⟩ := h3
        exact ⟨c2, rfl, fun l hl => List.all_eq_true.mpr (h4 l hl), fun l hl => List.all_eq_true.mpr (h5 l hl), pairB_of h6, pairB_of h7⟩
def lawB (places many : Nat) : Bool := (knownP places many).all fun kf => foundB many kf.2
theorem lawB_of {places many : Nat} (h : lawB places many = true) : LawOk places many := fun kf hk => foundB_of (List.all_eq_true.mp h kf hk)
theorem l22 : lawB 2 2 = true := by decide +kernel
theorem l32 : lawB 3 2 = true := by decide +kernel
theorem l42 : lawB 4 2 = true := by decide +kernel
end K19
namespace K19
open PySem PySem.Spec PyProof.Rows L2 HR SX HC
/-! ### the dict of all keys: to each key the entries that have it -/
structure Kinv (m : Nat) (es : List Ent) (kv : List (List Nat × List Ent)) : Prop where
  f : ∀ p ∈ kv, p.2 = es.filter fun e => decide (keyL m e = p.1)
  n : ∀ p ∈ kv, p.2 ≠ []
  k : ∀ e ∈ es, ∃ p ∈ kv, p.1 = keyL m e
theorem getG_of {kv : List (List Nat × List Ent)} {k : List Nat} {q : List Ent} (h : getG kv k = some q) : ∃ p ∈ kv, p.1 = k ∧ p.2 = q := by
  unfold getG at h
  cases hf : kv.find? fun p => decide (p.1 = k) with
  | none => rw [hf] at h; cases h
  | some p =>
    rw [hf] at h
    cases h
    have hs := List.find?_some hf
    exact ⟨p, List.mem_of_find?_eq_some hf, of_decide_eq_true hs, rfl⟩
theorem filt_yes {m : Nat} {es : List Ent} {e : Ent} {k : List Nat} (h : keyL m e = k) : (es ++ [e]).filter (fun e => decide (keyL m e = k)) = es.filter (fun e => decide (keyL m e = k)) ++ [e] := by
  rw [List.filter_append, List.filter_cons_of_pos (by exact decide_eq_true h), List.filter_nil]
theorem filt_no {m : Nat} {es : List Ent} {e : Ent} {k : List Nat} (h : keyL m e ≠ k) : (es ++ [e]).filter (fun e => decide (keyL m e = k)) = es.filter (fun e => decide (keyL m e = k)) := by
  rw [List.filter_append, List.filter_cons_of_neg (by rw [decide_eq_false h]; exact Bool.false_ne_true), List.filter_nil, List.append_nil]
theorem Kinv.put {m : Nat} {es : List Ent} {kv : List (List Nat × List Ent)} (I : Kinv m es kv) (e : Ent) : Kinv m (es ++ [e]) (putE m kv e) := by
  have old : ∀ p ∈ kv, p.1 ≠ keyL m e → p.2 = (es ++ [e]).filter fun e => decide (keyL m e = p.1) := fun p hp n => by
    rw [filt_no (Ne.symm n)]
    exact I.f p hp
  unfold putE putG
  by_cases c : (kv.any fun p => decide (p.1 = keyL m e)) = true
  · rw [if_pos c]
    obtain ⟨p0, hp0, e0⟩ := List.any_eq_true.mp c
    have e0' : p0.1 = keyL m e := of_decide_eq_true e0
    have hq : (getG kv (keyL m e)).getD [] = es.filter fun e' => decide (keyL m e' = keyL m e) := by
      cases hg : getG kv (keyL m e) with
      | none =>
        unfold getG at hg
        rw [Option.map_eq_none_iff, List.find?_eq_none] at hg
        exact absurd e0 (hg p0 hp0)
      | some q =>
        obtain ⟨p, hp, e1, e2⟩ := getG_of hg
        show q = _
        rw [← e2, I.f p hp, e1]
    rw [hq]
    refine ⟨fun p hp => ?_, fun p hp => ?_, fun e' he' => ?_⟩
    · obtain ⟨p1, hp1, rfl⟩ := List.mem_map.mp hp
      by_cases c2 : p1.1 = keyL m e
      · rw [if_pos c2]
        show _ ++ [e] = (es ++ [e]).filter fun e' => decide (keyL m e' = p1.1)
        rw [c2, filt_yes rfl]
      · rw [if_neg c2]
        exact old p1 hp1 c2
    · obtain ⟨p1, hp1, rfl⟩ := List.mem_map.mp hp
      by_cases c2 : p1.1 = keyL m e
      · rw [if_pos c2]
        exact fun z => List.cons_ne_nil _ _ (List.append_eq_nil_iff.mp z).2
      · rw [if_neg c2]
        exact I.n p1 hp1
    · have key : ∀ p1 ∈ kv, ∃ p ∈ kv.map (fun p => if p.1 = keyL m e then (p.1, es.filter (fun e' => decide (keyL m e' = keyL m e)) ++ [e]) else p), p.1 = p1.1 := fun p1 hp1 =>
        ⟨_, List.mem_map.mpr ⟨p1, hp1, rfl⟩, by by_cases c2 : p1.1 = keyL m e <;> simp [c2]⟩
      rcases List.mem_append.mp he' with h | h
      · obtain ⟨p1, hp1, e1⟩ := I.k e' h
        obtain ⟨p, hp, e2⟩ := key p1 hp1
        exact ⟨p, hp, e2.trans e1⟩
      · rcases List.mem_cons.mp h with rfl | h
        · obtain ⟨p, hp, e2⟩ := key p0 hp0
          exact ⟨p, hp, e2.trans e0'⟩
        · exact absurd h List.not_mem_nil
  · rw [if_neg c]
    have none' : ∀ p ∈ kv, p.1 ≠ keyL m e := fun p hp z => c (List.any_eq_true.mpr ⟨p, hp, decide_eq_true z⟩)
    have hq : (getG kv (keyL m e)).getD [] = [] := by
      cases hg : getG kv (keyL m e) with
      | none => rfl
      | some q =>
        obtain ⟨p, hp, e1, _⟩ := getG_of hg
        exact absurd e1 (none' p hp)
    have he : es.filter (fun e' => decide (keyL m e' = keyL m e)) = [] := by
      rw [List.filter_eq_nil_iff]
      intro e' he' z
      obtain ⟨p, hp, e1⟩ := I.k e' he'
      exact none' p hp (e1.trans (of_decide_eq_true z))
    rw [hq]
    refine ⟨fun p hp => ?_, fun p hp => ?_, fun e' he' => ?_⟩
    · rcases List.mem_append.mp hp with hp | hp
      · exact old p hp (none' p hp)
      · rcases List.mem_cons.mp hp with rfl | hp
        · show [] ++ [e] = (es ++ [e]).filter fun e' => decide (keyL m e' = keyL m e)
          rw [filt_yes rfl, he]
        · exact absurd hp List.not_mem_nil
    · rcases List.mem_append.mp hp with hp | hp
      · exact I.n p hp
      · rcases List.mem_cons.mp hp with rfl | hp
        · exact List.cons_ne_nil _ _
        · exact absurd hp List.not_mem_nil
    · rcases List.mem_append.mp he' with h | h
      · obtain ⟨p, hp, e1⟩ := I.k e' h
        exact ⟨p, List.mem_append_left _ hp, e1⟩
      · rcases List.mem_cons.mp h with rfl | h
        · exact ⟨_, List.mem_append_right _ List.mem_cons_self, rfl⟩
        · exact absurd h List.not_mem_nil
theorem Kinv.fold {m : Nat} : ∀ (es2 es1 : List Ent) (kv : List (List Nat × List Ent)), Kinv m es1 kv → Kinv m (es1 ++ es2) (es2.foldl (putE m) kv)
  | [], es1, kv, I => by rw [List.append_nil]; exact I
  | e :: r, es1, kv, I => by
    have := Kinv.fold r (es1 ++ [e]) (putE m kv e) (I.put e)
    rw [List.append_assoc] at this
    exact this
/-! ### the same keys together, digit by digit -/
def leafB (many : Nat) (l : List Ent) : Bool := l.isEmpty || foundB many l
def part (s : Nat) (l : List (List Nat × Ent)) : List (List Nat × Ent) := (l.filter fun x => x.1.headD 0 == s).map fun x => (x.1.tail, x.2)
def chk (many : Nat) : Nat → List (List Nat × Ent) → Bool
  | _, [] => true
  | 0, l => leafB many (l.map (·.2))
  | d + 1, l => chk many d (part 43 l) && (chk many d (part 45 l) && (chk many d (part 48 l) && (chk many d (part 32 l) && l.all fun x => x.1.headD 0 == 43 || (x.1.headD 0 == 45 || (x.1.headD 0 == 48 || x.1.headD 0 == 32)))))
def ofKey (k : List Nat) (l : List (List Nat × Ent)) : List Ent := (l.filter fun x => decide (x.1 = k)).map (·.2)
theorem ofKey_part {s : Nat} {k : List Nat} : ∀ {l : List (List Nat × Ent)}, (∀ x ∈ l, x.1 ≠ []) → ofKey (s :: k) l = ofKey k (part s l)
  | [], _ => rfl
  | x :: r, h => by
    have ih := ofKey_part (s := s) (k := k) (l := r) fun y hy => h y (List.mem_cons_of_mem _ hy)
    obtain ⟨x1, x2⟩ := x
    cases x1 with
    | nil => exact absurd rfl (h _ List.mem_cons_self)
    | cons a t =>
      by_cases e : a = s
      · subst e
        have p1 : part a ((a :: t, x2) :: r) = (t, x2) :: part a r := by
          unfold part
          rw [List.filter_cons_of_pos (by exact beq_self_eq_true a)]
          rfl
        rw [p1]
        unfold ofKey at ih ⊢
        by_cases e2 : t = k
        · rw [List.filter_cons_of_pos (by exact decide_eq_true (by rw [e2])), List.filter_cons_of_pos (by exact decide_eq_true e2), List.map_cons, List.map_cons, ih]
        · rw [List.filter_cons_of_neg (by rw [decide_eq_false (fun z => e2 (List.cons.inj z).2)]; exact Bool.false_ne_true), List.filter_cons_of_neg (by rw [decide_eq_false e2]; exact Bool.false_ne_true), ih]
      · have p1 : part s ((a :: t, x2) :: r) = part s r := by
          unfold part
          rw [List.filter_cons_of_neg (by show ¬ ((a == s) = true); rw [beq_eq_false_iff_ne.mpr e]; exact Bool.false_ne_true)]
        rw [p1, ← ih]
        unfold ofKey
        rw [List.filter_cons_of_neg (by rw [decide_eq_false (fun z => e (List.cons.inj z).1)]; exact Bool.false_ne_true)]
theorem part_len {s d : Nat} {l : List (List Nat × Ent)} (h : ∀ x ∈ l, x.1.length = d + 1) : ∀ x ∈ part s l, x.1.length = d := fun x hx => by
  obtain ⟨y, hy, rfl⟩ := List.mem_map.mp hx
  have := h y (List.mem_filter.mp hy).1
  show y.1.tail.length = d
  rw [List.length_tail, this]
  rfl
theorem chk_of {many : Nat} : ∀ (d : Nat) (l : List (List Nat × Ent)), (∀ x ∈ l, x.1.length = d) → chk many d l = true → ∀ k, leafB many (ofKey k l) = true
  | _, [], _, _, k => rfl
  | 0, x :: r, h, hc, k => by
    have hc' : leafB many ((x :: r).map (·.2)) = true := hc
    by_cases e : k = []
    · subst e
      have : ofKey [] (x :: r) = (x :: r).map (·.2) := by
        unfold ofKey
        rw [List.filter_eq_self.mpr fun y hy => decide_eq_true (List.eq_nil_of_length_eq_zero (h y hy))]
      rw [this]
      exact hc'
    · have : ofKey k (x :: r) = [] := by
        unfold ofKey
        rw [List.filter_eq_nil_iff.mpr fun y hy z => e (by rw [← of_decide_eq_true z]; exact List.eq_nil_of_length_eq_zero (h y hy))]
        rfl
      rw [this]
      rfl
  | d + 1, x :: r, h, hc, k => by
    have hc' : (chk many d (part 43 (x :: r)) && (chk many d (part 45 (x :: r)) && (chk many d (part 48 (x :: r)) && (chk many d (part 32 (x :: r)) && (x :: r).all fun x => x.1.headD 0 == 43 || (x.1.headD 0 == 45 || (x.1.headD 0 == 48 || x.1.headD 0 == 32)))))) = true := hc
    simp only [Bool.and_eq_true] at hc'
    obtain ⟨h1, h2, h3, h4, h5⟩ := hc'
    have ne : ∀ y ∈ x :: r, y.1 ≠ [] := fun y hy z => by
      have := h y hy
      rw [z] at this
      cases this
    cases k with
    | nil =>
      have : ofKey [] (x :: r) = [] := by
        unfold ofKey
        rw [List.filter_eq_nil_iff.mpr fun y hy z => ne y hy (of_decide_eq_true z)]
        rfl
      rw [this]
      rfl
    | cons s k =>
      rw [ofKey_part ne]
      by_cases e1 : s = 43
      · subst e1; exact chk_of d _ (part_len h) h1 k
      by_cases e2 : s = 45
      · subst e2; exact chk_of d _ (part_len h) h2 k
      by_cases e3 : s = 48
      · subst e3; exact chk_of d _ (part_len h) h3 k
      by_cases e4 : s = 32
      · subst e4; exact chk_of d _ (part_len h) h4 k
      have : part s (x :: r) = [] := by
        unfold part
        rw [List.filter_eq_nil_iff.mpr fun y hy z => ?_]
        · rfl
        · have q := List.all_eq_true.mp h5 y hy
          have z' : y.1.headD 0 = s := eq_of_beq z
          rw [z'] at q
          simp only [Bool.or_eq_true, beq_iff_eq] at q
          rcases q with q | q | q | q
          · exact e1 q
          · exact e2 q
          · exact e3 q
          · exact e4 q
      rw [this]
      rfl
def keyed (places many : Nat) : List (List Nat × Ent) := ((allF places many many).flatMap (entsOf many)).map fun e => (keyL many e, e)
theorem ofKey_keyed {places many : Nat} {k : List Nat} : ofKey k (keyed places many) = ((allF places many many).flatMap (entsOf many)).filter fun e => decide (keyL many e = k) := by
  unfold ofKey keyed
  rw [List.filter_map, List.map_map]
  exact List.map_id _
theorem law_of {places many d : Nat} (hl : (keyed places many).all (fun x => decide (x.1.length = d)) = true) (hc : chk many d (keyed places many) = true) : LawOk places many := fun kf hk => by
  have I := Kinv.fold (m := many) ((allF places many many).flatMap (entsOf many)) [] [] ⟨fun _ h => absurd h List.not_mem_nil, fun _ h => absurd h List.not_mem_nil, fun _ h => absurd h List.not_mem_nil⟩
  rw [List.nil_append] at I
  have e := I.f kf hk
  have n := I.n kf hk
  have q := chk_of (many := many) d (keyed places many) (fun x hx => of_decide_eq_true (List.all_eq_true.mp hl x hx)) hc kf.1
  rw [ofKey_keyed, ← e] at q
  refine foundB_of ?_
  rcases Bool.or_eq_true _ _ |>.mp q with z | z
  · exact absurd (List.isEmpty_iff.mp z) n
  · exact z
end K19
namespace K19
open PySem PySem.Spec PyProof.Rows L2 HR SX HC
theorem g44 : LawOk 4 4 := law_of (d := 16) (by decide +kernel) (by decide +kernel)
theorem good : ∀ places many, 2 ≤ many → many ≤ places → places ≤ 4 → LawOk places many := fun places many h1 h2 h3 => by
  match places, many, h1, h2, h3 with
  | 2, 2, _, _, _ => exact lawB_of l22
  | 3, 2, _, _, _ => exact lawB_of l32
  | 4, 2, _, _, _ => exact lawB_of l42
  | 3, 3, _, _, _ => exact law_of (d := 9) (by decide +kernel) (by decide +kernel)
  | 4, 3, _, _, _ => exact law_of (d := 11) (by decide +kernel) (by decide +kernel)
  | 4, 4, _, _, _ => exact g44
  | 0, m, a, b, _ => omega
  | 1, m, a, b, _ => omega
  | 2, 0, a, b, _ => omega
  | 2, 1, a, b, _ => omega
  | 3, 0, a, b, _ => omega
  | 3, 1, a, b, _ => omega
  | 4, 0, a, b, _ => omega
  | 4, 1, a, b, _ => omega
  | 2, m + 3, a, b, _ => omega
  | 3, m + 4, a, b, _ => omega
  | 4, m + 5, a, b, _ => omega
  | p + 5, m, a, b, c => omega
end K19
namespace K19
open PySem PySem.Spec PyProof.Rows L2 HR SX HC
abbrev s_BadNumber_init : Stmt := inClass (topS 6) 0
theorem sc_BadNumber_init : FnScope ["self", "part"] ["self", "part"] (defScope s_BadNumber_init) := ⟨rfl, rfl, rfl, by decide +kernel, rfl, by decide +kernel, by decide +kernel⟩
theorem ok_BadNumber_init {P : Program} {w : World} {K : PySem.W.Frag} {mg : Str → Option Value} {base : Heap} {C fI : Addr} {fd : FuncData} (F : Fun K "__init__" "BadNumber.__init__" s_BadNumber_init fI fd) (R : HX.Row K C fI) : FnOk P w K mg base CX0 1 fI fd ["self", "part"] (HX.spPart C) := by
  refine F.ok sc_BadNumber_init (fun vs H Q E h => ?_) (fun cdv A outer s H vs Q E hr h => ?_)
  · obtain ⟨a, v, rfl, _⟩ := h
    rfl
  · obtain ⟨a, v, rfl, ha, q⟩ := h
    exact ⟨_, pss_one (ps_ost (pv 0) (pv 1)), ⟨_, rfl, _, rfl, a, C, rfl, R.oex, R.no, .inl ⟨ha, fun dx n ne => q dx n ne⟩⟩⟩
abbrev s_BadRow_init : Stmt := inClass (topS 7) 0
theorem sc_BadRow_init : FnScope ["self", "part"] ["self", "part"] (defScope s_BadRow_init) := ⟨rfl, rfl, rfl, by decide +kernel, rfl, by decide +kernel, by decide +kernel⟩
theorem ok_BadRow_init {P : Program} {w : World} {K : PySem.W.Frag} {mg : Str → Option Value} {base : Heap} {C fI : Addr} {fd : FuncData} (F : Fun K "__init__" "BadRow.__init__" s_BadRow_init fI fd) (R : HX.Row K C fI) : FnOk P w K mg base CX0 1 fI fd ["self", "part"] (HX.spPart C) := by
  refine F.ok sc_BadRow_init (fun vs H Q E h => ?_) (fun cdv A outer s H vs Q E hr h => ?_)
  · obtain ⟨a, v, rfl, _⟩ := h
    rfl
  · obtain ⟨a, v, rfl, ha, q⟩ := h
    exact ⟨_, pss_one (ps_ost (pv 0) (pv 1)), ⟨_, rfl, _, rfl, a, C, rfl, R.oex, R.no, .inl ⟨ha, fun dx n ne => q dx n ne⟩⟩⟩
abbrev s_BadChain_init : Stmt := inClass (topS 8) 0
theorem sc_BadChain_init : FnScope ["self", "part"] ["self", "part"] (defScope s_BadChain_init) := ⟨rfl, rfl, rfl, by decide +kernel, rfl, by decide +kernel, by decide +kernel⟩
theorem ok_BadChain_init {P : Program} {w : World} {K : PySem.W.Frag} {mg : Str → Option Value} {base : Heap} {C fI : Addr} {fd : FuncData} (F : Fun K "__init__" "BadChain.__init__" s_BadChain_init fI fd) (R : HX.Row K C fI) : FnOk P w K mg base CX0 1 fI fd ["self", "part"] (HX.spPart C) := by
  refine F.ok sc_BadChain_init (fun vs H Q E h => ?_) (fun cdv A outer s H vs Q E hr h => ?_)
  · obtain ⟨a, v, rfl, _⟩ := h
    rfl
  · obtain ⟨a, v, rfl, ha, q⟩ := h
    exact ⟨_, pss_one (ps_ost (pv 0) (pv 1)), ⟨_, rfl, _, rfl, a, C, rfl, R.oex, R.no, .inl ⟨ha, fun dx n ne => q dx n ne⟩⟩⟩
abbrev s_Misfit_init : Stmt := inClass (topS 9) 0
theorem sc_Misfit_init : FnScope ["self", "part"] ["self", "part"] (defScope s_Misfit_init) := ⟨rfl, rfl, rfl, by decide +kernel, rfl, by decide +kernel, by decide +kernel⟩
theorem ok_Misfit_init {P : Program} {w : World} {K : PySem.W.Frag} {mg : Str → Option Value} {base : Heap} {C fI : Addr} {fd : FuncData} (F : Fun K "__init__" "Misfit.__init__" s_Misfit_init fI fd) (R : HX.Row K C fI) : FnOk P w K mg base CX0 1 fI fd ["self", "part"] (HX.spPart C) := by
  refine F.ok sc_Misfit_init (fun vs H Q E h => ?_) (fun cdv A outer s H vs Q E hr h => ?_)
  · obtain ⟨a, v, rfl, _⟩ := h
    rfl
  · obtain ⟨a, v, rfl, ha, q⟩ := h
    exact ⟨_, pss_one (ps_ost (pv 0) (pv 1)), ⟨_, rfl, _, rfl, a, C, rfl, R.oex, R.no, .inl ⟨ha, fun dx n ne => q dx n ne⟩⟩⟩
theorem all_mk {l : PySem.W.OpenLaw} {w : World} {K : PySem.W.Frag} {h : Heap} {mg : Str → Option Value} {fa f0 f1 f2 f3 f4 f5 f6 f7 f8 f9 f10 f11 f12 f13 f14 f15 f16 S0 C0 g0 C1 g1 C2 g2 C3 g3 : Addr} (X : K.In h) (G : h.Ns mainGlobals mg) (hfa : mg "law" = some (.ref fa))
    {od0 an0 : Option Addr} {sl0 : Array (Option Value)} {oc0 kV0 dc0 pm0 cd0 ct0 : Value} {od1 an1 : Option Addr} {sl1 : Array (Option Value)} {oc1 kV1 dc1 pm1 cd1 ct1 : Value} {od2 an2 : Option Addr} {sl2 : Array (Option Value)} {oc2 kV2 dc2 pm2 cd2 ct2 : Value} {od3 an3 : Option Addr} {sl3 : Array (Option Value)} {oc3 kV3 dc3 pm3 cd3 ct3 : Value} {od4 an4 : Option Addr} {sl4 : Array (Option Value)} {oc4 kV4 dc4 pm4 cd4 ct4 : Value} {od5 an5 : Option Addr} {sl5 : Array (Option Value)} {oc5 kV5 dc5 pm5 cd5 ct5 : Value} {od6 an6 : Option Addr} {sl6 : Array (Option Value)} {oc6 kV6 dc6 pm6 cd6 ct6 : Value} {od7 an7 : Option Addr} {sl7 : Array (Option Value)} {oc7 kV7 dc7 pm7 cd7 ct7 : Value} {od8 an8 : Option Addr} {sl8 : Array (Option Value)} {oc8 kV8 dc8 pm8 cd8 ct8 : Value} {od9 an9 : Option Addr} {sl9 : Array (Option Value)} {oc9 kV9 dc9 pm9 cd9 ct9 : Value} {od10 an10 : Option Addr} {sl10 : Array (Option Value)} {oc10 kV10 dc10 pm10 cd10 ct10 : Value} {od11 an11 : Option Addr} {sl11 : Array (Option Value)} {oc11 kV11 dc11 pm11 cd11 ct11 : Value} {od12 an12 : Option Addr} {sl12 : Array (Option Value)} {oc12 kV12 dc12 pm12 cd12 ct12 : Value} {od13 an13 : Option Addr} {sl13 : Array (Option Value)} {oc13 kV13 dc13 pm13 cd13 ct13 : Value} {od14 an14 : Option Addr} {sl14 : Array (Option Value)} {oc14 kV14 dc14 pm14 cd14 ct14 : Value} {od15 an15 : Option Addr} {sl15 : Array (Option Value)} {oc15 kV15 dc15 pm15 cd15 ct15 : Value} {od16 an16 : Option Addr} {sl16 : Array (Option Value)} {oc16 kV16 dc16 pm16 cd16 ct16 : Value}
    {nm0 q0 : Str} {N0 : Addr} {bs0 : List Value} {sn0 : List Str} {sub0 : List Value} {ab0 : Bool} {col0 : Option Bool} {dd0 : Option Addr} {ma0 mb0 mc0 md0 me0 : Option Value} {od_0 an_0 : Option Addr} {sl_0 : Array (Option Value)} {oc_0 kV_0 dc_0 pm_0 cd_0 ct_0 : Value}
    {nm1 q1 : Str} {N1 : Addr} {bs1 : List Value} {sn1 : List Str} {sub1 : List Value} {ab1 : Bool} {col1 : Option Bool} {dd1 : Option Addr} {ma1 mb1 mc1 md1 me1 : Option Value} {od_1 an_1 : Option Addr} {sl_1 : Array (Option Value)} {oc_1 kV_1 dc_1 pm_1 cd_1 ct_1 : Value}
    {nm2 q2 : Str} {N2 : Addr} {bs2 : List Value} {sn2 : List Str} {sub2 : List Value} {ab2 : Bool} {col2 : Option Bool} {dd2 : Option Addr} {ma2 mb2 mc2 md2 me2 : Option Value} {od_2 an_2 : Option Addr} {sl_2 : Array (Option Value)} {oc_2 kV_2 dc_2 pm_2 cd_2 ct_2 : Value}
    {nm3 q3 : Str} {N3 : Addr} {bs3 : List Value} {sn3 : List Str} {sub3 : List Value} {ab3 : Bool} {col3 : Option Bool} {dd3 : Option Addr} {ma3 mb3 mc3 md3 me3 : Option Value} {od_3 an_3 : Option Addr} {sl_3 : Array (Option Value)} {oc_3 kV_3 dc_3 pm_3 cd_3 ct_3 : Value}
    (a0 : PySem.W.nsIn K mainGlobals "is_integer" = some (some (.ref f0))) (l0 : K.lookup f0 = some ⟨oc0, od0, .func (PySem.W.fnOf "is_integer" "is_integer" (defArgs s_is_integer) (defBody s_is_integer) (defScope s_is_integer) .none kV0 dc0 pm0 an0 cd0 ct0), sl0⟩) (c0 : PySem.W.codeIn K cd0 "is_integer" = true) (k0 : PySem.W.keepIn K (.ref f0) = true)
    (a1 : PySem.W.nsIn K mainGlobals "is_within" = some (some (.ref f1))) (l1 : K.lookup f1 = some ⟨oc1, od1, .func (PySem.W.fnOf "is_within" "is_within" (defArgs s_is_within) (defBody s_is_within) (defScope s_is_within) .none kV1 dc1 pm1 an1 cd1 ct1), sl1⟩) (c1 : PySem.W.codeIn K cd1 "is_within" = true) (k1 : PySem.W.keepIn K (.ref f1) = true)
    (a2 : PySem.W.nsIn K mainGlobals "is_list" = some (some (.ref f2))) (l2 : K.lookup f2 = some ⟨oc2, od2, .func (PySem.W.fnOf "is_list" "is_list" (defArgs s_is_list) (defBody s_is_list) (defScope s_is_list) .none kV2 dc2 pm2 an2 cd2 ct2), sl2⟩) (c2 : PySem.W.codeIn K cd2 "is_list" = true) (k2 : PySem.W.keepIn K (.ref f2) = true)
    (a3 : PySem.W.nsIn K mainGlobals "is_row" = some (some (.ref f3))) (l3 : K.lookup f3 = some ⟨oc3, od3, .func (PySem.W.fnOf "is_row" "is_row" (defArgs s_is_row) (defBody s_is_row) (defScope s_is_row) .none kV3 dc3 pm3 an3 cd3 ct3), sl3⟩) (c3 : PySem.W.codeIn K cd3 "is_row" = true) (k3 : PySem.W.keepIn K (.ref f3) = true)
    (a4 : PySem.W.nsIn K mainGlobals "want_row" = some (some (.ref f4))) (l4 : K.lookup f4 = some ⟨oc4, od4, .func (PySem.W.fnOf "want_row" "want_row" (defArgs s_want_row) (defBody s_want_row) (defScope s_want_row) .none kV4 dc4 pm4 an4 cd4 ct4), sl4⟩) (c4 : PySem.W.codeIn K cd4 "want_row" = true) (k4 : PySem.W.keepIn K (.ref f4) = true)
    (a5 : PySem.W.nsIn K mainGlobals "size_of" = some (some (.ref f5))) (l5 : K.lookup f5 = some ⟨oc5, od5, .func (PySem.W.fnOf "size_of" "size_of" (defArgs s_size_of) (defBody s_size_of) (defScope s_size_of) .none kV5 dc5 pm5 an5 cd5 ct5), sl5⟩) (c5 : PySem.W.codeIn K cd5 "size_of" = true) (k5 : PySem.W.keepIn K (.ref f5) = true)
    (a6 : PySem.W.nsIn K mainGlobals "lies_below" = some (some (.ref f6))) (l6 : K.lookup f6 = some ⟨oc6, od6, .func (PySem.W.fnOf "lies_below" "lies_below" (defArgs s_lies_below) (defBody s_lies_below) (defScope s_lies_below) .none kV6 dc6 pm6 an6 cd6 ct6), sl6⟩) (c6 : PySem.W.codeIn K cd6 "lies_below" = true) (k6 : PySem.W.keepIn K (.ref f6) = true)
    (a7 : PySem.W.nsIn K mainGlobals "is_chain" = some (some (.ref f7))) (l7 : K.lookup f7 = some ⟨oc7, od7, .func (PySem.W.fnOf "is_chain" "is_chain" (defArgs s_is_chain) (defBody s_is_chain) (defScope s_is_chain) .none kV7 dc7 pm7 an7 cd7 ct7), sl7⟩) (c7 : PySem.W.codeIn K cd7 "is_chain" = true) (k7 : PySem.W.keepIn K (.ref f7) = true)
    (a8 : PySem.W.nsIn K mainGlobals "is_full" = some (some (.ref f8))) (l8 : K.lookup f8 = some ⟨oc8, od8, .func (PySem.W.fnOf "is_full" "is_full" (defArgs s_is_full) (defBody s_is_full) (defScope s_is_full) .none kV8 dc8 pm8 an8 cd8 ct8), sl8⟩) (c8 : PySem.W.codeIn K cd8 "is_full" = true) (k8 : PySem.W.keepIn K (.ref f8) = true)
    (a9 : PySem.W.nsIn K mainGlobals "want_full" = some (some (.ref f9))) (l9 : K.lookup f9 = some ⟨oc9, od9, .func (PySem.W.fnOf "want_full" "want_full" (defArgs s_want_full) (defBody s_want_full) (defScope s_want_full) .none kV9 dc9 pm9 an9 cd9 ct9), sl9⟩) (c9 : PySem.W.codeIn K cd9 "want_full" = true) (k9 : PySem.W.keepIn K (.ref f9) = true)
    (a10 : PySem.W.nsIn K mainGlobals "row_beyond" = some (some (.ref f10))) (l10 : K.lookup f10 = some ⟨oc10, od10, .func (PySem.W.fnOf "row_beyond" "row_beyond" (defArgs s_row_beyond) (defBody s_row_beyond) (defScope s_row_beyond) .none kV10 dc10 pm10 an10 cd10 ct10), sl10⟩) (c10 : PySem.W.codeIn K cd10 "row_beyond" = true) (k10 : PySem.W.keepIn K (.ref f10) = true)
    (a11 : PySem.W.nsIn K mainGlobals "beyond" = some (some (.ref f11))) (l11 : K.lookup f11 = some ⟨oc11, od11, .func (PySem.W.fnOf "beyond" "beyond" (defArgs s_beyond) (defBody s_beyond) (defScope s_beyond) .none kV11 dc11 pm11 an11 cd11 ct11), sl11⟩) (c11 : PySem.W.codeIn K cd11 "beyond" = true) (k11 : PySem.W.keepIn K (.ref f11) = true)
    (a12 : PySem.W.nsIn K mainGlobals "_law_pen" = some (some (.ref f12))) (l12 : K.lookup f12 = some ⟨oc12, od12, .func (PySem.W.fnOf "_law_pen" "_law_pen" (defArgs s__law_pen) (defBody s__law_pen) (defScope s__law_pen) .none kV12 dc12 pm12 an12 cd12 ct12), sl12⟩) (c12 : PySem.W.codeIn K cd12 "_law_pen" = true) (k12 : PySem.W.keepIn K (.ref f12) = true)
    (a13 : PySem.W.nsIn K mainGlobals "_law_draw" = some (some (.ref f13))) (l13 : K.lookup f13 = some ⟨oc13, od13, .func (PySem.W.fnOf "_law_draw" "_law_draw" (defArgs s__law_draw) (defBody s__law_draw) (defScope s__law_draw) .none kV13 dc13 pm13 an13 cd13 ct13), sl13⟩) (c13 : PySem.W.codeIn K cd13 "_law_draw" = true) (k13 : PySem.W.keepIn K (.ref f13) = true)
    (a14 : PySem.W.nsIn K mainGlobals "_law_one_of" = some (some (.ref f14))) (l14 : K.lookup f14 = some ⟨oc14, od14, .func (PySem.W.fnOf "_law_one_of" "_law_one_of" (defArgs s__law_one_of) (defBody s__law_one_of) (defScope s__law_one_of) .none kV14 dc14 pm14 an14 cd14 ct14), sl14⟩) (c14 : PySem.W.codeIn K cd14 "_law_one_of" = true) (k14 : PySem.W.keepIn K (.ref f14) = true)
    (a15 : PySem.W.nsIn K mainGlobals "_law_all_full" = some (some (.ref f15))) (l15 : K.lookup f15 = some ⟨oc15, od15, .func (PySem.W.fnOf "_law_all_full" "_law_all_full" (defArgs s__law_all_full) (defBody s__law_all_full) (defScope s__law_all_full) .none kV15 dc15 pm15 an15 cd15 ct15), sl15⟩) (c15 : PySem.W.codeIn K cd15 "_law_all_full" = true) (k15 : PySem.W.keepIn K (.ref f15) = true)
    (a16 : PySem.W.nsIn K mainGlobals "law" = some (some (.ref f16))) (l16 : K.lookup f16 = some ⟨oc16, od16, .func (PySem.W.fnOf "law" "law" (defArgs s_law) (defBody s_law) (defScope s_law) .none kV16 dc16 pm16 an16 cd16 ct16), sl16⟩) (c16 : PySem.W.codeIn K cd16 "law" = true) (k16 : PySem.W.keepIn K (.ref f16) = true)
    (pa0 : PySem.W.nsIn K mainGlobals "StairError" = some (some (.ref S0))) (pe0 : PySem.W.subIn K (.ref S0) (.type "BaseException") = some true) (pi0 : PySem.W.isClsIn K S0 = true) (pt0 : PySem.W.typeIn K (.ref S0) = some (.type "type"))
    (xa0 : PySem.W.nsIn K mainGlobals "BadNumber" = some (some (.ref C0)))
    (xl0 : K.lookup C0 = some (excClassObj nm0 q0 C0 N0 bs0 [.ref S0, .type "ValueError", .type "Exception", .type "BaseException", .type "object"] true sn0 sub0 ab0 col0 dd0 ma0 mb0 mc0 md0 me0 "ValueError.__new__"))
    (xs0 : PySem.W.findIn K (.ref C0) "__setattr__" = some (some (.builtin "object.__setattr__")))
    (xg0 : PySem.W.findIn K (.ref C0) "__getattribute__" = some (some (.builtin "BaseException.__getattribute__")))
    (xh0 : PySem.W.findIn K (.ref C0) "__getattr__" = some none)
    (xc0 : PySem.W.findIn K (.ref C0) "__class__" = some (some (.builtin "object.__class__")))
    (xn0 : PySem.W.findIn K (.ref C0) "part" = some none)
    (xi0 : PySem.W.findIn K (.ref C0) "__init__" = some (some (.ref g0)))
    (xt0 : PySem.W.typeIn K (.ref g0) = some (.type "function"))
    (xj0 : K.lookup g0 = some ⟨oc_0, od_0, .func (PySem.W.fnOf "__init__" "BadNumber.__init__" (defArgs s_BadNumber_init) (defBody s_BadNumber_init) (defScope s_BadNumber_init) .none kV_0 dc_0 pm_0 an_0 cd_0 ct_0), sl_0⟩)
    (xk0 : PySem.W.codeIn K cd_0 "BadNumber.__init__" = true)
    (xm0 : PySem.W.keepIn K (.ref g0) = true)
    (xe0 : PySem.W.subIn K (.ref C0) (.type "BaseException") = some true)
    (xf0 : PySem.W.typeIn K (.ref C0) = some (.type "type"))
    (xo0 : PySem.W.keepIn K (.ref C0) = true)
    (xd0 : PySem.W.hasDictIn K C0 = true)
    (xp0 : PySem.W.isClsIn K C0 = true)
    (xq0 : PySem.W.subIn K (.ref C0) (.type "object") = some true)
    (xr0 : PySem.W.subIn K (.ref C0) (.ref S0) = some true)
    (xu0 : PySem.W.specialIn K (.builtin "object.__class__") "__get__" = some (some (.builtin "getset_descriptor.__get__")))
    (xv0 : PySem.W.takesIn K (.builtin "object.__class__") = some true)
    (xa1 : PySem.W.nsIn K mainGlobals "BadRow" = some (some (.ref C1)))
    (xl1 : K.lookup C1 = some (excClassObj nm1 q1 C1 N1 bs1 [.ref S0, .type "ValueError", .type "Exception", .type "BaseException", .type "object"] true sn1 sub1 ab1 col1 dd1 ma1 mb1 mc1 md1 me1 "ValueError.__new__"))
    (xs1 : PySem.W.findIn K (.ref C1) "__setattr__" = some (some (.builtin "object.__setattr__")))
    (xg1 : PySem.W.findIn K (.ref C1) "__getattribute__" = some (some (.builtin "BaseException.__getattribute__")))
    (xh1 : PySem.W.findIn K (.ref C1) "__getattr__" = some none)
    (xc1 : PySem.W.findIn K (.ref C1) "__class__" = some (some (.builtin "object.__class__")))
    (xn1 : PySem.W.findIn K (.ref C1) "part" = some none)
    (xi1 : PySem.W.findIn K (.ref C1) "__init__" = some (some (.ref g1)))
    (xt1 : PySem.W.typeIn K (.ref g1) = some (.type "function"))
    (xj1 : K.lookup g1 = some ⟨oc_1, od_1, .func (PySem.W.fnOf "__init__" "BadRow.__init__" (defArgs s_BadRow_init) (defBody s_BadRow_init) (defScope s_BadRow_init) .none kV_1 dc_1 pm_1 an_1 cd_1 ct_1), sl_1⟩)
    (xk1 : PySem.W.codeIn K cd_1 "BadRow.__init__" = true)
    (xm1 : PySem.W.keepIn K (.ref g1) = true)
    (xe1 : PySem.W.subIn K (.ref C1) (.type "BaseException") = some true)
    (xf1 : PySem.W.typeIn K (.ref C1) = some (.type "type"))
    (xo1 : PySem.W.keepIn K (.ref C1) = true)
    (xd1 : PySem.W.hasDictIn K C1 = true)
    (xp1 : PySem.W.isClsIn K C1 = true)
    (xq1 : PySem.W.subIn K (.ref C1) (.type "object") = some true)
    (xr1 : PySem.W.subIn K (.ref C1) (.ref S0) = some true)
    (xu1 : PySem.W.specialIn K (.builtin "object.__class__") "__get__" = some (some (.builtin "getset_descriptor.__get__")))
    (xv1 : PySem.W.takesIn K (.builtin "object.__class__") = some true)
    (xa2 : PySem.W.nsIn K mainGlobals "BadChain" = some (some (.ref C2)))
    (xl2 : K.lookup C2 = some (excClassObj nm2 q2 C2 N2 bs2 [.ref S0, .type "ValueError", .type "Exception", .type "BaseException", .type "object"] true sn2 sub2 ab2 col2 dd2 ma2 mb2 mc2 md2 me2 "ValueError.__new__"))
    (xs2 : PySem.W.findIn K (.ref C2) "__setattr__" = some (some (.builtin "object.__setattr__")))
    (xg2 : PySem.W.findIn K (.ref C2) "__getattribute__" = some (some (.builtin "BaseException.__getattribute__")))
    (xh2 : PySem.W.findIn K (.ref C2) "__getattr__" = some none)
    (xc2 : PySem.W.findIn K (.ref C2) "__class__" = some (some (.builtin "object.__class__")))
    (xn2 : PySem.W.findIn K (.ref C2) "part" = some none)
    (xi2 : PySem.W.findIn K (.ref C2) "__init__" = some (some (.ref g2)))
    (xt2 : PySem.W.typeIn K (.ref g2) = some (.type "function"))
    (xj2 : K.lookup g2 = some ⟨oc_2, od_2, .func (PySem.W.fnOf "__init__" "BadChain.__init__" (defArgs s_BadChain_init) (defBody s_BadChain_init) (defScope s_BadChain_init) .none kV_2 dc_2 pm_2 an_2 cd_2 ct_2), sl_2⟩)
    (xk2 : PySem.W.codeIn K cd_2 "BadChain.__init__" = true)
    (xm2 : PySem.W.keepIn K (.ref g2) = true)
    (xe2 : PySem.W.subIn K (.ref C2) (.type "BaseException") = some true)
    (xf2 : PySem.W.typeIn K (.ref C2) = some (.type "type"))
    (xo2 : PySem.W.keepIn K (.ref C2) = true)
    (xd2 : PySem.W.hasDictIn K C2 = true)
    (xp2 : PySem.W.isClsIn K C2 = true)
    (xq2 : PySem.W.subIn K (.ref C2) (.type "object") = some true)
    (xr2 : PySem.W.subIn K (.ref C2) (.ref S0) = some true)
    (xu2 : PySem.W.specialIn K (.builtin "object.__class__") "__get__" = some (some (.builtin "getset_descriptor.__get__")))
    (xv2 : PySem.W.takesIn K (.builtin "object.__class__") = some true)
    (xa3 : PySem.W.nsIn K mainGlobals "Misfit" = some (some (.ref C3)))
    (xl3 : K.lookup C3 = some (excClassObj nm3 q3 C3 N3 bs3 [.ref S0, .type "ValueError", .type "Exception", .type "BaseException", .type "object"] true sn3 sub3 ab3 col3 dd3 ma3 mb3 mc3 md3 me3 "ValueError.__new__"))
    (xs3 : PySem.W.findIn K (.ref C3) "__setattr__" = some (some (.builtin "object.__setattr__")))
    (xg3 : PySem.W.findIn K (.ref C3) "__getattribute__" = some (some (.builtin "BaseException.__getattribute__")))
    (xh3 : PySem.W.findIn K (.ref C3) "__getattr__" = some none)
    (xc3 : PySem.W.findIn K (.ref C3) "__class__" = some (some (.builtin "object.__class__")))
    (xn3 : PySem.W.findIn K (.ref C3) "part" = some none)
    (xi3 : PySem.W.findIn K (.ref C3) "__init__" = some (some (.ref g3)))
    (xt3 : PySem.W.typeIn K (.ref g3) = some (.type "function"))
    (xj3 : K.lookup g3 = some ⟨oc_3, od_3, .func (PySem.W.fnOf "__init__" "Misfit.__init__" (defArgs s_Misfit_init) (defBody s_Misfit_init) (defScope s_Misfit_init) .none kV_3 dc_3 pm_3 an_3 cd_3 ct_3), sl_3⟩)
    (xk3 : PySem.W.codeIn K cd_3 "Misfit.__init__" = true)
    (xm3 : PySem.W.keepIn K (.ref g3) = true)
    (xe3 : PySem.W.subIn K (.ref C3) (.type "BaseException") = some true)
    (xf3 : PySem.W.typeIn K (.ref C3) = some (.type "type"))
    (xo3 : PySem.W.keepIn K (.ref C3) = true)
    (xd3 : PySem.W.hasDictIn K C3 = true)
    (xp3 : PySem.W.isClsIn K C3 = true)
    (xq3 : PySem.W.subIn K (.ref C3) (.type "object") = some true)
    (xr3 : PySem.W.subIn K (.ref C3) (.ref S0) = some true)
    (xu3 : PySem.W.specialIn K (.builtin "object.__class__") "__get__" = some (some (.builtin "getset_descriptor.__get__")))
    (xv3 : PySem.W.takesIn K (.builtin "object.__class__") = some true)
    {aS aO : Addr} {tM t1 t2 t3 : Tok} {odS : Option Addr} {itsS : Array Value} {nS : Nat} {slS : Array (Option Value)} {esO : Array DictEntry} {nO : Nat}
    (uM : PySem.W.nsIn K mainGlobals "MOST_PLACES" = some (some (.int 12 tM)))
    (uA : PySem.W.nsIn K mainGlobals "SIGNS" = some (some (.ref aS)))
    (uS : K.lookup aS = some ⟨.type "tuple", odS, .seq itsS nS, slS⟩)
    (zS : itsS.size ≤ sizeLine)
    (vS : Vals signs3 itsS.toList)
    (uB : PySem.W.nsIn K mainGlobals "OPPOSITES" = some (some (.ref aO)))
    (uO : K.lookup aO = some ⟨.type "dict", none, .dict esO nO, #[]⟩)
    (kO : PySem.W.KeysLit w.params esO.toList)
    (oP : PySem.W.nsIn K aO (S [43]) = some (some (.str (S [45]) t1)))
    (oM : PySem.W.nsIn K aO (S [45]) = some (some (.str (S [43]) t2)))
    (oZ : PySem.W.nsIn K aO (S [48]) = some (some (.str (S [48]) t3)))
    (z_abs : PySem.W.nsIn K mainGlobals "abs" = some none)
    (z_all : PySem.W.nsIn K mainGlobals "all" = some none)
    (z_bool : PySem.W.nsIn K mainGlobals "bool" = some none)
    (z_int : PySem.W.nsIn K mainGlobals "int" = some none)
    (z_isinstance : PySem.W.nsIn K mainGlobals "isinstance" = some none)
    (z_len : PySem.W.nsIn K mainGlobals "len" = some none)
    (z_list : PySem.W.nsIn K mainGlobals "list" = some none)
    (z_range : PySem.W.nsIn K mainGlobals "range" = some none)
    (z_str : PySem.W.nsIn K mainGlobals "str" = some none)
    (z_tuple : PySem.W.nsIn K mainGlobals "tuple" = some none)
    (z_zip : PySem.W.nsIn K mainGlobals "zip" = some none)
    : ∃ fd : FuncData, (∀ (s : Shared) (v : Value), BindsTo s fd ⟨[v], []⟩ [("script", v)]) ∧ ∀ base : Heap, K.In base → base.Ns mainGlobals mg → HG.FnG l.prog w K mg base CX0 9 fa fd ["script"] (spLaw K) := by
  cases hfa.symm.trans (PySem.W.mg_of X G a16)
  have T_is_integer : { T : HG.Tp K mg "is_integer" s_is_integer ["value"] // T.f = f0 ∧ T.fd = PySem.W.fnOf "is_integer" "is_integer" (defArgs s_is_integer) (defBody s_is_integer) (defScope s_is_integer) .none kV0 dc0 pm0 an0 cd0 ct0 } := ⟨HG.tp_mk X G a0 l0 c0 k0 (fun _ _ _ _ _ _ us hl => match us, hl with | [_], _ => rfl), rfl, rfl⟩
  have T_is_within : { T : HG.Tp K mg "is_within" s_is_within ["value", "least", "most"] // T.f = f1 ∧ T.fd = PySem.W.fnOf "is_within" "is_within" (defArgs s_is_within) (defBody s_is_within) (defScope s_is_within) .none kV1 dc1 pm1 an1 cd1 ct1 } := ⟨HG.tp_mk X G a1 l1 c1 k1 (fun _ _ _ _ _ _ us hl => match us, hl with | [_, _, _], _ => rfl), rfl, rfl⟩
  have T_is_list : { T : HG.Tp K mg "is_list" s_is_list ["value"] // T.f = f2 ∧ T.fd = PySem.W.fnOf "is_list" "is_list" (defArgs s_is_list) (defBody s_is_list) (defScope s_is_list) .none kV2 dc2 pm2 an2 cd2 ct2 } := ⟨HG.tp_mk X G a2 l2 c2 k2 (fun _ _ _ _ _ _ us hl => match us, hl with | [_], _ => rfl), rfl, rfl⟩
  have T_is_row : { T : HG.Tp K mg "is_row" s_is_row ["value"] // T.f = f3 ∧ T.fd = PySem.W.fnOf "is_row" "is_row" (defArgs s_is_row) (defBody s_is_row) (defScope s_is_row) .none kV3 dc3 pm3 an3 cd3 ct3 } := ⟨HG.tp_mk X G a3 l3 c3 k3 (fun _ _ _ _ _ _ us hl => match us, hl with | [_], _ => rfl), rfl, rfl⟩
  have T_want_row : { T : HG.Tp K mg "want_row" s_want_row ["value", "part"] // T.f = f4 ∧ T.fd = PySem.W.fnOf "want_row" "want_row" (defArgs s_want_row) (defBody s_want_row) (defScope s_want_row) .none kV4 dc4 pm4 an4 cd4 ct4 } := ⟨HG.tp_mk X G a4 l4 c4 k4 (fun _ _ _ _ _ _ us hl => match us, hl with | [_, _], _ => rfl), rfl, rfl⟩
  have T_size_of : { T : HG.Tp K mg "size_of" s_size_of ["row"] // T.f = f5 ∧ T.fd = PySem.W.fnOf "size_of" "size_of" (defArgs s_size_of) (defBody s_size_of) (defScope s_size_of) .none kV5 dc5 pm5 an5 cd5 ct5 } := ⟨HG.tp_mk X G a5 l5 c5 k5 (fun _ _ _ _ _ _ us hl => match us, hl with | [_], _ => rfl), rfl, rfl⟩
  have T_lies_below : { T : HG.Tp K mg "lies_below" s_lies_below ["one", "other"] // T.f = f6 ∧ T.fd = PySem.W.fnOf "lies_below" "lies_below" (defArgs s_lies_below) (defBody s_lies_below) (defScope s_lies_below) .none kV6 dc6 pm6 an6 cd6 ct6 } := ⟨HG.tp_mk X G a6 l6 c6 k6 (fun _ _ _ _ _ _ us hl => match us, hl with | [_, _], _ => rfl), rfl, rfl⟩
  have T_is_chain : { T : HG.Tp K mg "is_chain" s_is_chain ["value"] // T.f = f7 ∧ T.fd = PySem.W.fnOf "is_chain" "is_chain" (defArgs s_is_chain) (defBody s_is_chain) (defScope s_is_chain) .none kV7 dc7 pm7 an7 cd7 ct7 } := ⟨HG.tp_mk X G a7 l7 c7 k7 (fun _ _ _ _ _ _ us hl => match us, hl with | [_], _ => rfl), rfl, rfl⟩
  have T_is_full : { T : HG.Tp K mg "is_full" s_is_full ["value"] // T.f = f8 ∧ T.fd = PySem.W.fnOf "is_full" "is_full" (defArgs s_is_full) (defBody s_is_full) (defScope s_is_full) .none kV8 dc8 pm8 an8 cd8 ct8 } := ⟨HG.tp_mk X G a8 l8 c8 k8 (fun _ _ _ _ _ _ us hl => match us, hl with | [_], _ => rfl), rfl, rfl⟩
  have T_want_full : { T : HG.Tp K mg "want_full" s_want_full ["value", "part"] // T.f = f9 ∧ T.fd = PySem.W.fnOf "want_full" "want_full" (defArgs s_want_full) (defBody s_want_full) (defScope s_want_full) .none kV9 dc9 pm9 an9 cd9 ct9 } := ⟨HG.tp_mk X G a9 l9 c9 k9 (fun _ _ _ _ _ _ us hl => match us, hl with | [_, _], _ => rfl), rfl, rfl⟩
  have T_row_beyond : { T : HG.Tp K mg "row_beyond" s_row_beyond ["chain", "index"] // T.f = f10 ∧ T.fd = PySem.W.fnOf "row_beyond" "row_beyond" (defArgs s_row_beyond) (defBody s_row_beyond) (defScope s_row_beyond) .none kV10 dc10 pm10 an10 cd10 ct10 } := ⟨HG.tp_mk X G a10 l10 c10 k10 (fun _ _ _ _ _ _ us hl => match us, hl with | [_, _], _ => rfl), rfl, rfl⟩
  have T_beyond : { T : HG.Tp K mg "beyond" s_beyond ["chain", "index"] // T.f = f11 ∧ T.fd = PySem.W.fnOf "beyond" "beyond" (defArgs s_beyond) (defBody s_beyond) (defScope s_beyond) .none kV11 dc11 pm11 an11 cd11 ct11 } := ⟨HG.tp_mk X G a11 l11 c11 k11 (fun _ _ _ _ _ _ us hl => match us, hl with | [_, _], _ => rfl), rfl, rfl⟩
  have T__law_pen : { T : HG.Tp K mg "_law_pen" s__law_pen ["script"] // T.f = f12 ∧ T.fd = PySem.W.fnOf "_law_pen" "_law_pen" (defArgs s__law_pen) (defBody s__law_pen) (defScope s__law_pen) .none kV12 dc12 pm12 an12 cd12 ct12 } := ⟨HG.tp_mk X G a12 l12 c12 k12 (fun _ _ _ _ _ _ us hl => match us, hl with | [_], _ => rfl), rfl, rfl⟩
  have T__law_draw : { T : HG.Tp K mg "_law_draw" s__law_draw ["pen", "many"] // T.f = f13 ∧ T.fd = PySem.W.fnOf "_law_draw" "_law_draw" (defArgs s__law_draw) (defBody s__law_draw) (defScope s__law_draw) .none kV13 dc13 pm13 an13 cd13 ct13 } := ⟨HG.tp_mk X G a13 l13 c13 k13 (fun _ _ _ _ _ _ us hl => match us, hl with | [_, _], _ => rfl), rfl, rfl⟩
  have T__law_one_of : { T : HG.Tp K mg "_law_one_of" s__law_one_of ["pen", "some"] // T.f = f14 ∧ T.fd = PySem.W.fnOf "_law_one_of" "_law_one_of" (defArgs s__law_one_of) (defBody s__law_one_of) (defScope s__law_one_of) .none kV14 dc14 pm14 an14 cd14 ct14 } := ⟨HG.tp_mk X G a14 l14 c14 k14 (fun _ _ _ _ _ _ us hl => match us, hl with | [_, _], _ => rfl), rfl, rfl⟩
  have T__law_all_full : { T : HG.Tp K mg "_law_all_full" s__law_all_full ["places", "many"] // T.f = f15 ∧ T.fd = PySem.W.fnOf "_law_all_full" "_law_all_full" (defArgs s__law_all_full) (defBody s__law_all_full) (defScope s__law_all_full) .none kV15 dc15 pm15 an15 cd15 ct15 } := ⟨HG.tp_mk X G a15 l15 c15 k15 (fun _ _ _ _ _ _ us hl => match us, hl with | [_, _], _ => rfl), rfl, rfl⟩
  have T_law : { T : HG.Tp K mg "law" s_law ["script"] // T.f = fa ∧ T.fd = PySem.W.fnOf "law" "law" (defArgs s_law) (defBody s_law) (defScope s_law) .none kV16 dc16 pm16 an16 cd16 ct16 } := ⟨HG.tp_mk X G a16 l16 c16 k16 (fun _ _ _ _ _ _ us hl => match us, hl with | [_], _ => rfl), rfl, rfl⟩
  have m_abs := PySem.W.mg_none_of X G z_abs
  have m_all := PySem.W.mg_none_of X G z_all
  have m_bool := PySem.W.mg_none_of X G z_bool
  have m_int := PySem.W.mg_none_of X G z_int
  have m_isinstance := PySem.W.mg_none_of X G z_isinstance
  have m_len := PySem.W.mg_none_of X G z_len
  have m_list := PySem.W.mg_none_of X G z_list
  have m_range := PySem.W.mg_none_of X G z_range
  have m_str := PySem.W.mg_none_of X G z_str
  have m_tuple := PySem.W.mg_none_of X G z_tuple
  have m_zip := PySem.W.mg_none_of X G z_zip
  have m_StairError := PySem.W.mg_of X G pa0
  have R_BadNumber : HX.Row K C0 g0 := ⟨⟨_, _, _, _, _, _, _, _, _, _, _, _, _, _, _, xl0, by rfl⟩, xs0, xg0, xh0, xc0, xn0, xi0, xt0, xe0, xf0, xo0, xd0, xp0, xq0, xu0, xv0⟩
  have I_BadNumber := fun_mk (st := s_BadNumber_init) xj0 xk0 xm0
  have B_BadNumber := I_BadNumber.binds (ps := ["self", "part"]) (fun _ _ _ _ _ _ us hl => match us, hl with | [_, _], _ => rfl)
  have x_BadNumber := HX.exm_of (C := C0) pe0 pi0 pt0 xr0
  have R_BadRow : HX.Row K C1 g1 := ⟨⟨_, _, _, _, _, _, _, _, _, _, _, _, _, _, _, xl1, by rfl⟩, xs1, xg1, xh1, xc1, xn1, xi1, xt1, xe1, xf1, xo1, xd1, xp1, xq1, xu1, xv1⟩
  have I_BadRow := fun_mk (st := s_BadRow_init) xj1 xk1 xm1
  have B_BadRow := I_BadRow.binds (ps := ["self", "part"]) (fun _ _ _ _ _ _ us hl => match us, hl with | [_, _], _ => rfl)
  have x_BadRow := HX.exm_of (C := C1) pe0 pi0 pt0 xr1
  have R_BadChain : HX.Row K C2 g2 := ⟨⟨_, _, _, _, _, _, _, _, _, _, _, _, _, _, _, xl2, by rfl⟩, xs2, xg2, xh2, xc2, xn2, xi2, xt2, xe2, xf2, xo2, xd2, xp2, xq2, xu2, xv2⟩
  have I_BadChain := fun_mk (st := s_BadChain_init) xj2 xk2 xm2
  have B_BadChain := I_BadChain.binds (ps := ["self", "part"]) (fun _ _ _ _ _ _ us hl => match us, hl with | [_, _], _ => rfl)
  have x_BadChain := HX.exm_of (C := C2) pe0 pi0 pt0 xr2
  have R_Misfit : HX.Row K C3 g3 := ⟨⟨_, _, _, _, _, _, _, _, _, _, _, _, _, _, _, xl3, by rfl⟩, xs3, xg3, xh3, xc3, xn3, xi3, xt3, xe3, xf3, xo3, xd3, xp3, xq3, xu3, xv3⟩
  have I_Misfit := fun_mk (st := s_Misfit_init) xj3 xk3 xm3
  have B_Misfit := I_Misfit.binds (ps := ["self", "part"]) (fun _ _ _ _ _ _ us hl => match us, hl with | [_, _], _ => rfl)
  have x_Misfit := HX.exm_of (C := C3) pe0 pi0 pt0 xr3
  refine ⟨PySem.W.fnOf "law" "law" (defArgs s_law) (defBody s_law) (defScope s_law) .none kV16 dc16 pm16 an16 cd16 ct16, fun s v => .of_eq rfl, fun base _ _ => ?_⟩
  let e_BadNumber : HX.Er l.prog w K mg base "BadNumber" := R_BadNumber.er (PySem.W.mg_of X G xa0) B_BadNumber (ok_BadNumber_init I_BadNumber R_BadNumber)
  let e_BadRow : HX.Er l.prog w K mg base "BadRow" := R_BadRow.er (PySem.W.mg_of X G xa1) B_BadRow (ok_BadRow_init I_BadRow R_BadRow)
  let e_BadChain : HX.Er l.prog w K mg base "BadChain" := R_BadChain.er (PySem.W.mg_of X G xa2) B_BadChain (ok_BadChain_init I_BadChain R_BadChain)
  let e_Misfit : HX.Er l.prog w K mg base "Misfit" := R_Misfit.er (PySem.W.mg_of X G xa3) B_Misfit (ok_Misfit_init I_Misfit R_Misfit)
  have k_SIGNS : ∀ H, SqT K H aS signs3 := fun H => .inr ⟨_, itsS, nS, uS, rfl, rfl, zS, vS⟩
  have k_OPP : OppK K w aO := ⟨⟨esO, nO, _, uO, kO, oP, ⟨_, rfl⟩⟩, ⟨esO, nO, _, uO, kO, oM, ⟨_, rfl⟩⟩, ⟨esO, nO, _, uO, kO, oZ, ⟨_, rfl⟩⟩⟩
  have m_MOST_PLACES := PySem.W.mg_of X G uM
  have m_SIGNS := PySem.W.mg_of X G uA
  have m_OPPOSITES := PySem.W.mg_of X G uB
  let o_is_integer := T_is_integer.1.df (base := base) (P := l.prog) (w := w) (ok_is_integer T_is_integer.1 m_isinstance m_int m_bool)
  let o_is_within := T_is_within.1.df (ok_is_within T_is_within.1 o_is_integer)
  let o_is_list := T_is_list.1.df (base := base) (P := l.prog) (w := w) (ok_is_list T_is_list.1 m_isinstance m_list m_tuple)
  let o_is_row := T_is_row.1.df (base := base) (P := l.prog) (w := w) (ok_is_row T_is_row.1 m_MOST_PLACES m_SIGNS k_SIGNS m_isinstance m_str m_len m_all)
  let o_want_row := T_want_row.1.df (ok_want_row T_want_row.1 o_is_row e_BadRow)
  let o_size_of := T_size_of.1.df (ok_size_of T_size_of.1 o_want_row m_len)
  let o_lies_below := T_lies_below.1.df (base := base) (P := l.prog) (w := w) (ok_lies_below T_lies_below.1 m_len m_all m_range)
  let o_is_chain := T_is_chain.1.df (ok_is_chain T_is_chain.1 o_is_list o_is_row o_lies_below m_len m_range)
  let o_is_full := T_is_full.1.df (ok_is_full T_is_full.1 o_is_chain o_size_of m_len m_range m_list)
  let o_want_full := T_want_full.1.df (ok_want_full T_want_full.1 o_is_full e_BadChain)
  let o_row_beyond := T_row_beyond.1.df (base := base) (P := l.prog) (w := w) (ok_row_beyond T_row_beyond.1 m_OPPOSITES k_OPP m_len m_zip)
  let o_beyond := T_beyond.1.df (ok_beyond T_beyond.1 e_BadChain o_want_full o_is_within o_row_beyond e_BadNumber e_Misfit m_len)
  let o__law_pen := T__law_pen.1.df (base := base) (P := l.prog) (w := w) (ok__law_pen T__law_pen.1 m_int)
  let o__law_draw := T__law_draw.1.df (base := base) (P := l.prog) (w := w) (ok__law_draw T__law_draw.1 m_int m_len m_abs)
  let o__law_one_of := T__law_one_of.1.df (ok__law_one_of T__law_one_of.1 o__law_draw m_len)
  let o__law_all_full := T__law_all_full.1.df (base := base) (P := l.prog) (w := w) (ok__law_all_full T__law_all_full.1 m_range)
  have res := ok_law good T_law.1 o_beyond o__law_pen o__law_draw o__law_one_of o__law_all_full m_range m_len m_tuple
  have e := res
  rw [T_law.2.1, T_law.2.2] at e
  exact e
end K19
open PySem PySem.W PyProof.Rows
set_option maxHeartbeats 0 in
theorem PySem.Challenge.cw_roomstair_k19_whole_two_chains_at_each_d_holds : PySem.Challenge.rw_roomstair_k19_whole_two_chains_at_each_d.Holds := by
  w_on; o_law; k_head; (case hw => w_witness2)
  k_fill
  refine HG.walk_g (l := PySem.Challenge.rw_roomstair_k19_whole_two_chains_at_each_d) (n := 63) (k := 9) (x := "script") (CX := fun _ => L2.CX0) (sp := fun w => K19.spLaw _) rfl (by decide) rfl ⟨rfl, by decide, by decide⟩ (fun w h Y => PySem.W.kIn_of Y) ?F (fun _ _ a ns hl _ hS => ⟨a, ns, rfl, hS, hl, fun _ => rfl⟩) (fun _ _ _ _ _ h => h)
  case F =>
    intro w mg fa h KX G hmg
    refine' K19.all_mk KX G hmg ?a0 ?l0 ?c0 ?k0 ?a1 ?l1 ?c1 ?k1 ?a2 ?l2 ?c2 ?k2 ?a3 ?l3 ?c3 ?k3 ?a4 ?l4 ?c4 ?k4 ?a5 ?l5 ?c5 ?k5 ?a6 ?l6 ?c6 ?k6 ?a7 ?l7 ?c7 ?k7 ?a8 ?l8 ?c8 ?k8 ?a9 ?l9 ?c9 ?k9 ?a10 ?l10 ?c10 ?k10 ?a11 ?l11 ?c11 ?k11 ?a12 ?l12 ?c12 ?k12 ?a13 ?l13 ?c13 ?k13 ?a14 ?l14 ?c14 ?k14 ?a15 ?l15 ?c15 ?k15 ?a16 ?l16 ?c16 ?k16 ?pa0 ?pe0 ?pi0 ?pt0 ?xa0 ?xl0 ?xs0 ?xg0 ?xh0 ?xc0 ?xn0 ?xi0 ?xt0 ?xj0 ?xk0 ?xm0 ?xe0 ?xf0 ?xo0 ?xd0 ?xp0 ?xq0 ?xr0 ?xu0 ?xv0 ?xa1 ?xl1 ?xs1 ?xg1 ?xh1 ?xc1 ?xn1 ?xi1 ?xt1 ?xj1 ?xk1 ?xm1 ?xe1 ?xf1 ?xo1 ?xd1 ?xp1 ?xq1 ?xr1 ?xu1 ?xv1 ?xa2 ?xl2 ?xs2 ?xg2 ?xh2 ?xc2 ?xn2 ?xi2 ?xt2 ?xj2 ?xk2 ?xm2 ?xe2 ?xf2 ?xo2 ?xd2 ?xp2 ?xq2 ?xr2 ?xu2 ?xv2 ?xa3 ?xl3 ?xs3 ?xg3 ?xh3 ?xc3 ?xn3 ?xi3 ?xt3 ?xj3 ?xk3 ?xm3 ?xe3 ?xf3 ?xo3 ?xd3 ?xp3 ?xq3 ?xr3 ?xu3 ?xv3 ?uM ?uA ?uS ?zS ?vS ?uB ?uO ?kO ?oP ?oM ?oZ ?z_abs ?z_all ?z_bool ?z_int ?z_isinstance ?z_len ?z_list ?z_range ?z_str ?z_tuple ?z_zip
    (case a0 => k_is); (case l0 => k_is); (case c0 => k_is); (case k0 => k_is); (case a1 => k_is); (case l1 => k_is); (case c1 => k_is); (case k1 => k_is); (case a2 => k_is); (case l2 => k_is); (case c2 => k_is); (case k2 => k_is); (case a3 => k_is); (case l3 => k_is); (case c3 => k_is); (case k3 => k_is); (case a4 => k_is); (case l4 => k_is); (case c4 => k_is); (case k4 => k_is); (case a5 => k_is); (case l5 => k_is); (case c5 => k_is); (case k5 => k_is); (case a6 => k_is); (case l6 => k_is); (case c6 => k_is); (case k6 => k_is); (case a7 => k_is); (case l7 => k_is); (case c7 => k_is); (case k7 => k_is); (case a8 => k_is); (case l8 => k_is); (case c8 => k_is); (case k8 => k_is); (case a9 => k_is); (case l9 => k_is); (case c9 => k_is); (case k9 => k_is); (case a10 => k_is); (case l10 => k_is); (case c10 => k_is); (case k10 => k_is); (case a11 => k_is); (case l11 => k_is); (case c11 => k_is); (case k11 => k_is); (case a12 => k_is); (case l12 => k_is); (case c12 => k_is); (case k12 => k_is); (case a13 => k_is); (case l13 => k_is); (case c13 => k_is); (case k13 => k_is); (case a14 => k_is); (case l14 => k_is); (case c14 => k_is); (case k14 => k_is); (case a15 => k_is); (case l15 => k_is); (case c15 => k_is); (case k15 => k_is); (case a16 => k_is); (case l16 => k_is); (case c16 => k_is); (case k16 => k_is); (case pa0 => first | k_is | rfl); (case pe0 => first | k_is | rfl); (case pi0 => first | k_is | rfl); (case pt0 => first | k_is | rfl); (case xa0 => first | k_is | rfl); (case xl0 => first | k_is | rfl); (case xs0 => first | k_is | rfl); (case xg0 => first | k_is | rfl); (case xh0 => first | k_is | rfl); (case xc0 => first | k_is | rfl); (case xn0 => first | k_is | rfl); (case xi0 => first | k_is | rfl); (case xt0 => first | k_is | rfl); (case xj0 => first | k_is | rfl); (case xk0 => first | k_is | rfl); (case xm0 => first | k_is | rfl); (case xe0 => first | k_is | rfl); (case xf0 => first | k_is | rfl); (case xo0 => first | k_is | rfl); (case xd0 => first | k_is | rfl); (case xp0 => first | k_is | rfl); (case xq0 => first | k_is | rfl); (case xr0 => first | k_is | rfl); (case xu0 => first | k_is | rfl); (case xv0 => first | k_is | rfl); (case xa1 => first | k_is | rfl); (case xl1 => first | k_is | rfl); (case xs1 => first | k_is | rfl); (case xg1 => first | k_is | rfl); (case xh1 => first | k_is | rfl); (case xc1 => first | k_is | rfl); (case xn1 => first | k_is | rfl); (case xi1 => first | k_is | rfl); (case xt1 => first | k_is | rfl); (case xj1 => first | k_is | rfl); (case xk1 => first | k_is | rfl); (case xm1 => first | k_is | rfl); (case xe1 => first | k_is | rfl); (case xf1 => first | k_is | rfl); (case xo1 => first | k_is | rfl); (case xd1 => first | k_is | rfl); (case xp1 => first | k_is | rfl); (case xq1 => first | k_is | rfl); (case xr1 => first | k_is | rfl); (case xu1 => first | k_is | rfl); (case xv1 => first | k_is | rfl); (case xa2 => first | k_is | rfl); (case xl2 => first | k_is | rfl); (case xs2 => first | k_is | rfl); (case xg2 => first | k_is | rfl); (case xh2 => first | k_is | rfl); (case xc2 => first | k_is | rfl); (case xn2 => first | k_is | rfl); (case xi2 => first | k_is | rfl); (case xt2 => first | k_is | rfl); (case xj2 => first | k_is | rfl); (case xk2 => first | k_is | rfl); (case xm2 => first | k_is | rfl); (case xe2 => first | k_is | rfl); (case xf2 => first | k_is | rfl); (case xo2 => first | k_is | rfl); (case xd2 => first | k_is | rfl); (case xp2 => first | k_is | rfl); (case xq2 => first | k_is | rfl); (case xr2 => first | k_is | rfl); (case xu2 => first | k_is | rfl); (case xv2 => first | k_is | rfl); (case xa3 => first | k_is | rfl); (case xl3 => first | k_is | rfl); (case xs3 => first | k_is | rfl); (case xg3 => first | k_is | rfl); (case xh3 => first | k_is | rfl); (case xc3 => first | k_is | rfl); (case xn3 => first | k_is | rfl); (case xi3 => first | k_is | rfl); (case xt3 => first | k_is | rfl); (case xj3 => first | k_is | rfl); (case xk3 => first | k_is | rfl); (case xm3 => first | k_is | rfl); (case xe3 => first | k_is | rfl); (case xf3 => first | k_is | rfl); (case xo3 => first | k_is | rfl); (case xd3 => first | k_is | rfl); (case xp3 => first | k_is | rfl); (case xq3 => first | k_is | rfl); (case xr3 => first | k_is | rfl); (case xu3 => first | k_is | rfl); (case xv3 => first | k_is | rfl); (case uM => k_is); (case uA => k_is); (case uS => k_is); (case zS => (first | decide | (show 3 ≤ sizeLine; decide))); (case vS => exact .cons ⟨_, rfl⟩ (.cons ⟨_, rfl⟩ (.cons ⟨_, rfl⟩ .nil))); (case uB => k_is); (case uO => k_is); (case kO => exact ⟨⟨_, _, rfl, rfl⟩, ⟨_, _, rfl, rfl⟩, ⟨_, _, rfl, rfl⟩, trivial⟩); (case oP => k_is); (case oM => k_is); (case oZ => k_is); (case z_abs => k_is); (case z_all => k_is); (case z_bool => k_is); (case z_int => k_is); (case z_isinstance => k_is); (case z_len => k_is); (case z_list => k_is); (case z_range => k_is); (case z_str => k_is); (case z_tuple => k_is); (case z_zip => k_is)
