import PyProof.Rows.All
import Wide.All
import OpenK.AllK
import Wide.FinOn
import HandS.ForMost
import HandS.ForExc
import HandS.ExcInit
import HandS.ExcIs
import HandS.ExcField
import HandS.IsInst
import HandS.Defaults
import HandS.SortInts
import HandS.SetFor
import HandS.More
import HandS.Conv
import HandS.WideBits
import HandS.TupAny
import HandS.SuiteRaise
import HandS.TryMany
import HandS.Base
import HandS.Call
import HandS.Ends
import HandS.Head0
import HandS.Head1
import HandS.Head2
import HandS.HeadHook1
import HandS.HeadHook2
import HandS.Strs
import KE.GoesMore
import HandS.Walk
import HandS.MakeKw
import HandS.MakeKwOnly
import KE.KExcIs
import HandS.CallSlots
import HandS.SortKw
import KE.KExcInit
import HandS.HotCalls
import HandS.OwnEq
import PyProof.InstNe
import HandS.FStr
import KE.KCallOwn
import PyProof.ReprRoads
import KE.DataEq
import KE.SortData
import KE.SortLaws
import PyProof.Rows.ReprOcc
import HandS.Small
import PySem.Challenge.RW_paritycells_k18_errors_made
set_option Elab.async false
set_option linter.all false
set_option maxRecDepth 100000
set_option maxHeartbeats 4000000
namespace Par
open PySem PySem.Spec PyProof.Rows L2

/-! A def's promise where nothing is being shown by repr around it: the guards are known to be none. -/
structure FnG (P : Program) (w : World) (K : PySem.W.Frag) (mg : Str → Option Value) (base : Heap) (CX : CXT) (k : Nat)
    (f : Addr) (fd : FuncData) (ps : List Str) (sp : Sp) : Prop where
  arity : ∀ vs H Q E, sp vs H Q E → vs.length = ps.length
  go : ∀ (A : Around) (outer : List Env) (s : Shared) (H : Hp) (args : Args) (us : List Value) (vs : List V) (Q : VK) (E : XK),
    A.guards = some [] → Room k A → Env0 P w K mg base A outer s H → BindsTo s fd args (ps.zip us) → Vals vs us →
    sp vs H Q E → codeAny (model P w) A (.call (.ref f) args) (CR CX outer P w H s Q E) s

section
variable {P : Program} {w : World} {K : PySem.W.Frag} {mg : Str → Option Value} {base : Heap}

theorem fnG_of {k : Nat} {x qual : Str} {st : Stmt} {f : Addr} {fd : FuncData} {N ps : List Str} {sp : Sp}
    (F : Fun K x qual st f fd) (S : FnScope N ps (defScope st))
    (arity : ∀ vs H Q E, sp vs H Q E → vs.length = ps.length)
    (body : ∀ (cdv : Value) (A : Around) (outer : List Env) (s : Shared) (H : Hp) (vs : List V) (Q : VK) (E : XK),
      A.guards = some [] → Room k (A.deeper (envOfC qual (defScope st) s.heap.objs.size f cdv)) → sp vs H Q E →
      ∃ t, PSs (cxOf CX0 P w K mg base N qual (defScope st) f cdv A outer s H E).nox (defBody st) t ∧
        t { nx := fun _ H' => Q .non H', rt := Q } (start N vs) H) :
    FnG P w K mg base CX0 (k + 1) f fd ps sp := by
  obtain ⟨oc, od, kV, doc, pm, an, cdv, ct, osl, efd, lk, hcd⟩ := F.ex
  subst efd
  constructor
  · exact arity
  intro A outer s H args us vs Q E gs room e0 bound rel hsp
  have lens := arity _ _ _ _ hsp
  have kin : K.In s.heap := e0.mod.kin.keeps (fun b o z => (e0.bs b o z).1)
  have nolim : s.heap.NoLimit := e0.mod.nolimit.keeps (fun b o z => (e0.bs b o z).1)
  have kinds : ∀ y ∈ ps.zip us, (defScope st).names.lookup y.1 = some .local ∨ ((defScope st).names.lookup y.1 = some .cell ∧
      ((cellsFrom (s.heap.objs.size + 1) (defScope st).names []).lookup y.1).isSome = true) := by
    rintro ⟨n, v⟩ hy
    cases S.par n (List.of_mem_zip hy).1 with
    | inl q => exact Or.inl q
    | inr q => exact Or.inr ⟨q, PySem.W.cellsFrom_some _ _ _ (Or.inl q)⟩
  refine codeAny_call_function room.depth (kin _ _ lk) rfl S.co S.gen rfl (PySem.W.codeRec_of kin hcd) (bound _ _ _ _ ?_)
  refine wpAny_newFunctionEnv_cells S.kind kinds ?_
  intro env he s1 x1
  subst he
  refine ⟨nolim.keeps x1.toInCall.keep, codeAny_func ?_⟩
  obtain ⟨t, ht, hq⟩ := body cdv A outer s H vs Q E gs (room.deeper _) hsp
  have I := inv_start (CX := CX0) (E := E) (w := w) S room.hd e0 lens rel x1
  refine wpAny_mono (ht.nox.run [] s1 (start N vs) H _ I hq) ?_ (fun e s' hs => hs)
  intro fl s' hs
  cases fl with
  | ret u =>
    obtain ⟨v, σ1, H1, J, rv, q⟩ := hs
    exact ⟨v, H1, J.os, J.bare, J.base, J.hok, rv, q⟩
  | next =>
    obtain ⟨σ1, H1, J, q⟩ := hs
    exact ⟨V.non, H1, J.os, J.bare, J.base, J.hok, rfl, q⟩
  | brk => exact (let ⟨_, _, _, q⟩ := hs; False.elim q)
  | cont => exact (let ⟨_, _, _, q⟩ := hs; False.elim q)
end

section
variable {X : Cx} {CX : CXT} {k : Nat} {f : Addr} {fd : FuncData} {ps : List Str} {sp : Sp} {x : Str} {p pos : Pos} {e : Expr} {es : List Expr} {t : TA} {E : XK}

/-- f(e, ..) of such a def, called where the guards are none -/
theorem pe_callG (F : FnG X.prog X.w X.K X.mg X.base CX k f fd ps sp) (gs : X.A.guards = some []) (hr : Room k X.A) (hg : Gl X x)
    (hm : X.mg x = some (.ref f)) (hk : PySem.W.keepIn X.K (.ref f) = true) (hb : Binds X.K fd ps []) (hx : Passes CX X E) (ha : PA X (e :: es) t)
    (hdb : (x == ("__debug__" : Str)) = false := by decide)
    (he : starEach (e :: es) X.env = (false, eval e X.env) :: starEach es X.env := by rfl)
    (hpl : (backTo pos (starEach es X.env)).any (·.1) = false := by rfl) :
    PE X (.Call (.Name x p) (e :: es) [] pos) (tCall sp [] E t) := by
  constructor
  intro pins s σ H Q I h
  refine wpAny_Call_Name_kw (ld_glob I hg hm ?_ hdb)
  refine PySem.W.callWith_K (h₀ := X.base) I.ok.mod.kin hk (thn (ha.run pos pins s σ H _ I h) ?_) he hpl
  rintro us s1 ⟨vs, H1, I1, r, q⟩
  refine ⟨I1.kIn, ?_⟩
  rw [List.append_nil] at q
  have hl : (us ++ []).length = ps.length := by
    rw [List.append_nil, ← r.length]
    exact F.arity _ _ _ _ q
  have hbi := hb s1 us I1.kIn hl
  rw [List.append_nil] at hbi
  refine wpAny_call (codeAny_mono (F.go X.A X.stack s1 H1 ⟨us, []⟩ us vs Q E gs hr I1.env0 hbi r q) ?_)
  intro res s' hq
  cases res with
  | error er => exact hx pins σ H1 s1 er s' I1 hq
  | ok fl =>
    cases fl with
    | ret u => exact I1.after hq
    | next => exact False.elim hq
    | brk => exact False.elim hq
    | cont => exact False.elim hq
end

/-- the law's end over such a promise -/
theorem law_callG {P : Program} {w : World} {K : PySem.W.Frag} {mg mb : Str → Option Value} {k : Nat} {fa a : Addr} {fd : FuncData} {x : Str} {sp : Sp}
    {s1 : Shared} {vs : List Value} {ns : List Int}
    (KX : K.In s1.heap) (hns : s1.heap.Ns mainGlobals mg) (hb : s1.heap.Ns builtinsNs mb)
    (hbb : ∀ x : Str, x ≠ "__name__" → mb x = bootBuiltins x) (hlim : s1.heap.NoLimit) (hg : s1.gens = #[])
    (ha : s1.heap.get? a = some { cls := .type "list", data := .seq vs.toArray }) (hi : IntsAre vs ns) (hl : ns.length ≤ sizeLine) (hr : Room k callerA)
    (F : ∀ base : Heap, K.In base → base.Ns mainGlobals mg → FnG P w K mg base CX0 k fa fd [x] sp)
    (hbind : ∀ (s : Shared) (u : Value), BindsTo s fd ⟨[u], []⟩ [(x, u)])
    (hsp : ∀ H : Hp, Only H → SqL K H a (ns.map V.int) → sp [.ref a] H (fun v _ => v = .bl true) fun _ _ _ => False) :
    codeAny (model P w) callerA (.call (.ref fa) ⟨[.ref a], []⟩)
      (fun r s' => r = .ok (.ret (.bool true)) ∧ OldK s1.heap s'.heap ∧ s'.os = s1.os ∧ AllBare s'.gens) s1 := by
  have rv := vals_ints hi
  have lenV := hi.length
  have core : ∀ H : Hp, Only H → SqL K H a (ns.map V.int) → HOk P w H s1.heap → (∀ b, H b ≠ none → b = a) →
      (H a ≠ none → K.lookup a = none) → codeAny (model P w) callerA (.call (.ref fa) ⟨[.ref a], []⟩)
      (fun r s' => r = .ok (.ret (.bool true)) ∧ OldK s1.heap s'.heap ∧ s'.os = s1.os ∧ AllBare s'.gens) s1 := by
    intro H only sq ok only_a out_a
    have un_dict : ∀ {b : Addr} {o : Obj} {es : Array DictEntry} {ep : Nat}, s1.heap.get? b = some o → o.data = .dict es ep → H b = none := by
      intro b o es ep e d
      cases q : H b with
      | none => rfl
      | some u =>
        have e' : b = a := only_a b (by rw [q]; simp)
        rw [e', ha] at e
        cases e
        exact nomatch d
    have ns_of : ∀ {b : Addr} {m : Str → Option Value}, s1.heap.Ns b m → (hidT s1.heap H).Ns b m := by
      rintro b m ⟨o, es, ep, e, d, r⟩
      exact ⟨o, es, ep, hidT_get e (un_dict e d), d, r⟩
    have kin : K.In (hidT s1.heap H) := by
      intro b o e
      refine hidT_get (KX b o e) ?_
      cases q : H b with
      | none => rfl
      | some u =>
        have e' : b = a := only_a b (by rw [q]; simp)
        rw [e'] at q e
        rw [out_a (by rw [q]; simp)] at e
        cases e
    have md : Mod K mg (hidT s1.heap H) := by
      obtain ⟨mc, h1, h2⟩ := hlim
      exact ⟨kin, ns_of hns, ⟨mb, ns_of hb, hbb⟩, ⟨mc, ns_of h1, h2⟩⟩
    have e0 : Env0 P w K mg (hidT s1.heap H) callerA [] s1 H := by
      refine ⟨rfl, md, fun b o e => of_hidT e, Nat.le_of_eq (hidT_size _ _), trivial, ?_, ok, .of_eq hg⟩
      intro b z
      exact absurd (show b ∈ ([] : List Addr) from z) (by simp)
    refine codeAny_mono ((F _ kin (ns_of hns)).go callerA [] s1 H ⟨[.ref a], []⟩ [.ref a] [.ref a] _ _ rfl hr e0
      (hbind s1 (.ref a)) (.cons rfl .nil) (hsp H only sq)) ?_
    intro r s' h
    cases r with
    | error e => exact False.elim h
    | ok fl =>
      cases fl with
      | next => exact False.elim h
      | brk => exact False.elim h
      | cont => exact False.elim h
      | ret u =>
        obtain ⟨v, H1, os, bare, un, ok1, rel, q⟩ := h
        have q' : v = .bl true := q
        subst q'
        obtain rfl : u = Value.bool true := rel
        refine ⟨rfl, OldK.of_keep ?_, os, bare⟩
        intro b o e
        cases q : H b with
        | none => exact un.keep b o e q (fun z => absurd (show b ∈ ([] : List Addr) from z) (by simp)) (by simp)
        | some u =>
          rcases only b with z | ⟨ob, xs, z⟩
          · rw [q] at z
            cases z
          · have z2 := un.frzs b ob _ z
            have e1 := (ok b _ z).1
            have e2 := (ok1 b _ z2).1
            rw [e] at e1
            cases e1
            exact e2
  cases hk : K.lookup a with
  | some o =>
    have e := KX a o hk
    rw [ha] at e
    cases e
    refine core (fun _ => none) (fun _ => .inl rfl) (.inr ⟨_, vs.toArray, _, hk, rfl, rfl, rfl, ?_, by simpa using rv⟩) ?_ (fun b z => absurd rfl z) (fun z => absurd rfl z)
    · rw [List.size_toArray, lenV]
      exact hl
    · intro b u z
      exact nomatch (show (none : Option HO) = some u from z)
  | none =>
    refine core (fun b => if b = a then some (.frz { cls := .type "list", data := .seq vs.toArray } (.lst (ns.map V.int))) else none) ?_ (.inl (.inr ⟨_, if_pos rfl⟩)) ?_ ?_ (fun _ => hk)
    · intro b
      by_cases hb : b = a
      · exact .inr ⟨_, _, if_pos hb⟩
      · exact .inl (if_neg hb)
    · intro b u z
      by_cases hb : b = a
      · have z1 := (if_pos hb).symm.trans z
        cases z1
        subst hb
        exact ⟨ha, by rw [List.length_map]; exact hl, vs, _, rv, ha⟩
      · have z1 := (if_neg hb).symm.trans z
        cases z1
    · intro b z
      by_cases hb : b = a
      · exact hb
      · exact absurd (if_neg hb) z

theorem walkG {l : PySem.W.OpenLaw} {n k : Nat} {q : Program} {loose : List Str} {XP : (Str → Option Value) → Heap → Prop} {YP : World → Heap → Prop}
    {d : DefRec} {K : Params → PySem.W.Frag} {sp : PySem.W.Frag → Sp} {x : Str}
    (hn : l.most = some n) (hn2 : n ≤ sizeLine) (hdf : d.params.defaults = []) (hr : Room k callerA)
    (hY : ∀ (w : World) (h : Heap), YP w h → (K w.params).In h)
    (F : ∀ (w : World) (mg : Str → Option Value) (fa : Addr) (h : Heap), (K w.params).In h → h.Ns mainGlobals mg → mg d.name = some (.ref fa) →
      ∃ fd : FuncData, (∀ (s : Shared) (u : Value), BindsTo s fd ⟨[u], []⟩ [(x, u)]) ∧
        ∀ base : Heap, (K w.params).In base → base.Ns mainGlobals mg → FnG l.prog w (K w.params) mg base CX0 k fa fd [x] (sp (K w.params)))
    (hsp : ∀ (K : PySem.W.Frag) (H : Hp) (a : Addr) (ns : List Int), ns.length ≤ n → Only H → SqL K H a (ns.map V.int) →
      sp K [.ref a] H (fun v _ => v = .bl true) fun _ _ _ => False) :
    PySem.W.WalkO q loose XP YP l.row.toRowW d [] (fun f vs => PySem.call f vs) := by
  refine Att.attach_call hn hdf ?_
  intro w s0 s1 mg mb fa o pm cd doc a vs ns G Y ho hd hcd hmg hobj hints hlen hg
  have KX := hY w _ Y
  obtain ⟨fd, hb, hF⟩ := F w mg fa _ KX G.T.g hmg
  exact law_callG KX G.T.g G.T.b G.T.builtins G.T.nolimit hg hobj hints (Nat.le_trans hlen hn2) hr hF hb
    (fun H hO hS => hsp _ H a ns hlen hO hS)
end Par
/-! Hk: a head that writes nothing of the top out: facts as Bools over the part of the heap that the module's names reach, functions as data. -/
namespace Hk
open PySem PySem.Spec PyProof.Rows L2
abbrev Fr := PySem.W.Frag
/-- a function: where it stands, its names, its statement -/
structure Fd where
  at_ : Fr → Addr
  name : Str
  qual : Str
  st : Stmt
def fnV (K : Fr) (f : Addr) : He.FnW := match K.lookup f with
  | some ⟨_, _, .func fd, _⟩ => some (fd.name, fd.qualname, fd.params, fd.body, fd.scope, fd.globals, fd.closure, fd.builtins)
  | _ => none
def Fd.val (d : Fd) : He.FnW := some (d.name, d.qual, defArgs d.st, .stmts (defBody d.st), defScope d.st, mainGlobals, [], builtinsNs)
def isN : Value → Bool
  | .none => true
  | _ => false
def fnB (K : Fr) (f : Addr) (q : Str) : Bool := PySem.W.keepIn K (.ref f) && (match K.lookup f with
  | some ⟨_, _, .func fd, _⟩ => PySem.W.codeIn K fd.code q && isN fd.defaults
  | _ => false)
abbrev Al : Type := Bool × List He.FnW
def obs (fs : List (Fr → Bool)) (fn : List Fd) (K : Fr) : Al := ((fs.all fun f => f K) && fn.all fun d => fnB K (d.at_ K) d.qual, fn.map fun d => fnV K (d.at_ K))
def val (fn : List Fd) : Al := (true, fn.map Fd.val)
def Says (fs : List (Fr → Bool)) (fn : List Fd) (K : Fr) : Prop := obs fs fn K = val fn
/-- what the module's names reach in n steps -/
def lev (g : Addr → Option Obj) : Nat → List Addr → List Addr
  | 0, as => as
  | n + 1, as => as ++ lev g n (as.flatMap fun a => match g a with
    | some o => He.refsD o
    | none => [])
def obsG (n : Nat) (fs : List (Fr → Bool)) (fn : List Fd) (g : Addr → Option Obj) : Al := obs fs fn (He.frG g (lev g n [mainGlobals]))
def hook (n : Nat) (fs : List (Fr → Bool)) (fn : List Fd) : PySem.W.Hook where
  α := Al
  obs := fun s => obsG n fs fn s.heap.get?
  val := fun _ => val fn
  says := fun _ h => ∃ K : Fr, K.In h ∧ Says fs fn K
  of := fun _ _ e => ⟨_, He.frG_in, e⟩
  keeps := fun _ _ _ ⟨K, hK, c⟩ k => ⟨K, PySem.W.Frag.In.keeps hK k, c⟩
theorem obsG_eq {n : Nat} {fs : List (Fr → Bool)} {fn : List Fd} {g : Addr → Option Obj} {s : Shared} (h : ∀ a, g a = s.heap.get? a) : obsG n fs fn g = (hook n fs fn).obs s := by
  have e : g = s.heap.get? := funext h
  rw [e] <;> rfl
section
variable {fs : List (Fr → Bool)} {fn : List Fd} {K : Fr}
theorem Says.fact (c : Says fs fn K) (i : Nat) {f : Fr → Bool} (h : fs[i]? = some f) : f K = true := by
  have c1 := (He.ba (show ((fs.all fun f => f K) && fn.all fun d => fnB K (d.at_ K) d.qual) = true from congrArg (fun z : Al => z.1) c)).1
  exact List.all_eq_true.mp c1 f (List.mem_of_getElem? h)
theorem fn_look {f : Addr} {n q : Str} {st : Stmt} (e : fnV K f = some (n, q, defArgs st, .stmts (defBody st), defScope st, mainGlobals, [], builtinsNs)) (c : fnB K f q = true) :
    ∃ oc od kV dc pm an cd ct sl, K.lookup f = some ⟨oc, od, .func (PySem.W.fnOf n q (defArgs st) (defBody st) (defScope st) .none kV dc pm an cd ct), sl⟩ ∧ PySem.W.codeIn K cd q = true ∧ PySem.W.keepIn K (.ref f) = true := by
  obtain ⟨kp, c2⟩ := He.ba c
  unfold fnV at e
  cases l : K.lookup f with
  | none =>
    rw [l] at c2
    cases c2
  | some o =>
    obtain ⟨oc, od, dt, osl⟩ := o
    rw [l] at c2 e
    cases dt with
    | func fd =>
      obtain ⟨n1, n2, n3, n4, n5, n6, n7, n8, n9, n10, n11, n12, n13, n14, n15⟩ := fd
      have e2 : (some (n1, n2, n3, n4, n5, n6, n7, n15) : He.FnW) = some (n, q, defArgs st, .stmts (defBody st), defScope st, mainGlobals, [], builtinsNs) := e
      simp only [Option.some.injEq, Prod.mk.injEq] at e2
      obtain ⟨h1, h2, h3, h4, h5, h6, h7, h8⟩ := e2
      subst h1 h2 h3 h4 h5 h6 h7 h8
      have c3 : (PySem.W.codeIn K n13 n2 && isN n8) = true := c2
      obtain ⟨k1, k2⟩ := He.ba c3
      cases n8 with
      | none => exact ⟨oc, od, n9, n10, n11, n12, n13, n14, osl, rfl, k1, kp⟩
      | _ => cases k2
    | _ => cases c2
theorem Says.def_ (c : Says fs fn K) (i : Nat) {d : Fd} (h : fn[i]? = some d) :
    ∃ oc od kV dc pm an cd ct sl, K.lookup (d.at_ K) = some ⟨oc, od, .func (PySem.W.fnOf d.name d.qual (defArgs d.st) (defBody d.st) (defScope d.st) .none kV dc pm an cd ct), sl⟩ ∧ PySem.W.codeIn K cd d.qual = true ∧ PySem.W.keepIn K (.ref (d.at_ K)) = true := by
  have c2 := (He.ba (show ((fs.all fun f => f K) && fn.all fun d => fnB K (d.at_ K) d.qual) = true from congrArg (fun z : Al => z.1) c)).2
  have e : fn.map (fun d => fnV K (d.at_ K)) = fn.map Fd.val := congrArg (fun z : Al => z.2) c
  have e2 : (fn.map fun d => fnV K (d.at_ K))[i]? = (fn.map Fd.val)[i]? := by rw [e]
  rw [List.getElem?_map, List.getElem?_map, h] at e2
  exact fn_look (Option.some.inj e2) (List.all_eq_true.mp c2 d (List.mem_of_getElem? h))
/-- the keyword-only defaults of the function at f -/
def kwA (K : Fr) (f : Addr) : Addr := match K.lookup f with
  | some ⟨_, _, .func fd, _⟩ => (match fd.kwdefaults with
    | .ref D => D
    | _ => 0)
  | _ => 0
def kwB (K : Fr) (f : Addr) : Bool := match K.lookup f with
  | some ⟨_, _, .func fd, _⟩ => (match fd.kwdefaults with
    | .ref _ => true
    | _ => false)
  | _ => false
theorem kw_look {f : Addr} {n q : Str} {st : Stmt} (k : kwB K f = true)
    (h : ∃ oc od kV dc pm an cd ct sl, K.lookup f = some ⟨oc, od, .func (PySem.W.fnOf n q (defArgs st) (defBody st) (defScope st) .none kV dc pm an cd ct), sl⟩ ∧ PySem.W.codeIn K cd q = true ∧ PySem.W.keepIn K (.ref f) = true) :
    ∃ oc od dc pm an cd ct sl, K.lookup f = some ⟨oc, od, .func (PySem.W.fnOf n q (defArgs st) (defBody st) (defScope st) .none (.ref (kwA K f)) dc pm an cd ct), sl⟩ ∧ PySem.W.codeIn K cd q = true ∧ PySem.W.keepIn K (.ref f) = true := by
  obtain ⟨oc, od, kV, dc, pm, an, cd, ct, sl, l, h1, h2⟩ := h
  unfold kwB at k
  unfold kwA
  rw [l] at k ⊢
  cases kV with
  | ref D => exact ⟨oc, od, dc, pm, an, cd, ct, sl, rfl, h1, h2⟩
  | _ => cases k
/-- a name's int -/
def intB (o : Option (Option Value)) (i : Int) : Bool := match o with
  | some (some (.int j _)) => decide (j = i)
  | _ => false
theorem int_ok {o : Option (Option Value)} {i : Int} (h : intB o i = true) : ∃ t, o = some (some (.int i t)) := by
  unfold intB at h
  split at h
  · rename_i j t
    exact ⟨t, by rw [of_decide_eq_true h]⟩
  · cases h
/-- a name's object -/
def refA (o : Option (Option Value)) : Addr := match o with
  | some (some (.ref a)) => a
  | _ => 0
def refB (o : Option (Option Value)) : Bool := match o with
  | some (some (.ref _)) => true
  | _ => false
theorem ref_ok {o : Option (Option Value)} (h : refB o = true) : o = some (some (.ref (refA o))) := by
  unfold refB at h
  split at h
  · rfl
  · cases h
/-- the empty tuple -/
def nilB (K : Fr) (a : Addr) : Bool := match K.lookup a with
  | some ⟨.type c, _, .seq its _, _⟩ => decide (c = "tuple") && decide (its.toList = [])
  | _ => false
theorem nil_ok {a : Addr} (h : nilB K a = true) : ∃ od n sl, K.lookup a = some ⟨.type "tuple", od, .seq #[] n, sl⟩ := by
  unfold nilB at h
  split at h
  · rename_i c od its n sl e
    obtain ⟨h1, h2⟩ := He.ba h
    obtain ⟨l⟩ := its
    have h3 : l = [] := of_decide_eq_true h2
    rw [e, of_decide_eq_true h1, h3]
    exact ⟨_, _, _, rfl⟩
  · cases h
/-- an own class as an object: its bases behind itself, whether instances have a dict, the builtin that makes it -/
def exB (K : Fr) (C : Addr) (bm : List Value) (hd : Bool) (newId : String) : Bool := match K.lookup C with
  | some ⟨.type c, _, .cls cd, sl⟩ => (match sl.toList with
    | [_, _, _, _, some (.builtin n), _] => decide (c = "type") && (decide (cd.mro = .ref C :: bm) && (decide (cd.hasDict = hd) && (decide (n = newId) && !cd.hasDel)))
    | _ => false)
  | _ => false
theorem ex_ok {C : Addr} {bm : List Value} {hd : Bool} {newId : String} (h : exB K C bm hd newId = true) :
    ∃ N nm qn bs sn sub ab col dd m0 m1 m2 m3 m5, K.lookup C = some (excClassObj nm qn C N bs bm hd sn sub ab col dd m0 m1 m2 m3 m5 newId) := by
  unfold exB at h
  split at h
  · rename_i c dd cd sl e
    split at h
    · rename_i m0 m1 m2 m3 n m5 hs
      obtain ⟨h1, h⟩ := He.ba h
      obtain ⟨h2, h⟩ := He.ba h
      obtain ⟨h3, h⟩ := He.ba h
      obtain ⟨h4, h5⟩ := He.ba h
      obtain ⟨nm, bs, mro, ns, qn, hd', sn, sub, ab, col, del⟩ := cd
      have e1 := of_decide_eq_true h1
      have e2 : mro = .ref C :: bm := of_decide_eq_true h2
      have e3 : hd' = hd := of_decide_eq_true h3
      have e4 := of_decide_eq_true h4
      have e5 : del = false := by simpa using h5
      subst e1 e2 e3 e4 e5
      obtain ⟨l⟩ := sl
      have hs' : l = [m0, m1, m2, m3, some (.builtin n), m5] := hs
      rw [e, hs']
      exact ⟨ns, nm, qn, bs, sn, sub, ab, col, dd, m0, m1, m2, m3, m5, rfl⟩
    · cases h
  · cases h
theorem ns_dict {N : Addr} (h : PySem.W.nsOkIn K N = true) : ∃ (oN : Value) (dN : Option Addr) (es : Array DictEntry) (n : Nat) (sl : Array (Option Value)), K.lookup N = some ⟨oN, dN, .dict es n, sl⟩ ∧ (es.all fun e => match e.key with | .str _ _ => true | _ => false) = true := by
  unfold PySem.W.nsOkIn at h
  split at h
  · rename_i c d es n sl e
    exact ⟨c, d, es, n, sl, e, h⟩
  · cases h
/-- the i-th of a class's line -/
def mroA (K : Fr) (C : Addr) (i : Nat) : Addr := match K.lookup C with
  | some ⟨_, _, .cls cd, _⟩ => (match cd.mro[i]? with
    | some (.ref a) => a
    | _ => 0)
  | _ => 0
/-- the dict of a class -/
def nsA (K : Fr) (C : Addr) : Addr := match K.lookup C with
  | some ⟨_, _, .cls cd, _⟩ => cd.ns
  | _ => 0
theorem ns_eq {nm qn : Str} {C N : Addr} {bs bm : List Value} {hd : Bool} {sn : List Str} {sub : List Value} {ab : Bool} {col : Option Bool} {dd : Option Addr} {m0 m1 m2 m3 m5 : Option Value} {newId : String}
    (l : K.lookup C = some (excClassObj nm qn C N bs bm hd sn sub ab col dd m0 m1 m2 m3 m5 newId)) : nsA K C = N := by
  unfold nsA
  rw [l]
end
/-- a law over such a head -/
theorem walkE {l : PySem.W.OpenLaw} {n k : Nat} {q : Program} {loose : List Str} {XP : (Str → Option Value) → Heap → Prop} {YP : World → Heap → Prop}
    {d : DefRec} {sp : Fr → Sp} {x : Str}
    (hn : l.most = some n) (hn2 : n ≤ sizeLine) (hdf : d.params.defaults = []) (hr : Room k callerA)
    (F : ∀ (w : World) (mg : Str → Option Value) (fa : Addr) (h : Heap), YP w h → h.Ns mainGlobals mg → mg d.name = some (.ref fa) →
      ∃ (K : Fr) (fd : FuncData), K.In h ∧ (∀ (s : Shared) (u : Value), BindsTo s fd ⟨[u], []⟩ [(x, u)]) ∧
        ∀ base : Heap, K.In base → base.Ns mainGlobals mg → Par.FnG l.prog w K mg base CX0 k fa fd [x] (sp K))
    (hsp : ∀ (K : Fr) (H : Hp) (a : Addr) (ns : List Int), ns.length ≤ n → Only H → SqL K H a (ns.map V.int) →
      sp K [.ref a] H (fun v _ => v = .bl true) fun _ _ _ => False) :
    PySem.W.WalkO q loose XP YP l.row.toRowW d [] (fun f vs => PySem.call f vs) := by
  refine Att.attach_call hn hdf ?_
  intro w s0 s1 mg mb fa o pm cd doc a vs ns G Y ho hd hcd hmg hobj hints hlen hg
  obtain ⟨K, fd, KX, hb, hF⟩ := F w mg fa _ Y G.T.g hmg
  exact Par.law_callG KX G.T.g G.T.b G.T.builtins G.T.nolimit hg hobj hints (Nat.le_trans hlen hn2) hr hF hb
    (fun H hO hS => hsp _ H a ns hlen hO hS)
end Hk
/-! Hk2: the head's one run in parts: what is looked at behind the top, piece by piece, each over a run of its own; what the module's names reach, each object once. -/
namespace Hk
open PySem PySem.Spec PyProof.Rows L2
/-- those that were not yet seen -/
def pick {α : Type} : List Addr → List Addr → Nat → (List Addr → Nat → α) → α
  | [], acc, m, k => k acc m
  | a :: r, acc, m, k => HandSHeadRun.frNat a fun a => match Nat.land (Nat.shiftRight m a) 1 with
    | 0 => HandSHeadRun.frNat (Nat.lor m (Nat.shiftLeft 1 a)) fun m' => pick r (a :: acc) m' k
    | _ + 1 => pick r acc m k
def levU (g : Addr → Option Obj) : Nat → List Addr → List Addr → Nat → List Addr
  | 0, _, all, _ => all
  | n + 1, cur, all, m => pick (cur.flatMap fun a => match g a with
    | some o => He.refsD o
    | none => []) [] m fun new m' => levU g n new (all ++ new) m'
def levL (g : Addr → Option Obj) (n : Nat) : List Addr := levU g n [mainGlobals] [mainGlobals] (Nat.shiftLeft 1 mainGlobals)
def obsH (n : Nat) (fs : List (Fr → Bool)) (fn : List Fd) (g : Addr → Option Obj) : Al := obs fs fn (He.frG g (levL g n))
def hookH (n : Nat) (fs : List (Fr → Bool)) (fn : List Fd) : PySem.W.Hook where
  α := Al
  obs := fun s => obsH n fs fn s.heap.get?
  val := fun _ => val fn
  says := fun _ h => ∃ K : Fr, K.In h ∧ Says fs fn K
  of := fun _ _ e => ⟨_, He.frG_in, e⟩
  keeps := fun _ _ _ ⟨K, hK, c⟩ k => ⟨K, PySem.W.Frag.In.keeps hK k, c⟩
theorem obsH_eq {n : Nat} {fs : List (Fr → Bool)} {fn : List Fd} {g : Addr → Option Obj} {s : Shared} (h : ∀ a, g a = s.heap.get? a) : obsH n fs fn g = (hookH n fs fn).obs s := by
  have e : g = s.heap.get? := funext h
  rw [e] <;> rfl
theorem obs_app {fs1 fs2 : List (Fr → Bool)} {fn1 fn2 : List Fd} {K : Fr} (h1 : obs fs1 fn1 K = val fn1) (h2 : obs fs2 fn2 K = val fn2) : obs (fs1 ++ fs2) (fn1 ++ fn2) K = val (fn1 ++ fn2) := by
  unfold obs val at *
  simp only [Prod.mk.injEq, Bool.and_eq_true, List.all_append, List.map_append] at *
  obtain ⟨⟨a1, a2⟩, a3⟩ := h1
  obtain ⟨⟨b1, b2⟩, b3⟩ := h2
  exact ⟨⟨⟨a1, b1⟩, ⟨a2, b2⟩⟩, by rw [a3, b3]⟩
/-- one run with what it leads to -/
noncomputable abbrev End (r : PySem.W.OpenRow) (M : Nat) (w : World) (os : OsState) : Option PySem.W.SharedT := HandSHeadRun.endF (HandSHeadRun.stepQ (HandSHeadRun.denQ HandSHeadRun.tabQ) r.prog w) M r.prog w os
def PartEq (r : PySem.W.OpenRow) (M n : Nat) (fs : List (Fr → Bool)) (fn : List Fd) (w : World) : Prop := ∀ os : OsState, (End r M w os).map (fun s => obsH n fs fn (HandSHeadRun.getT s)) = some (val fn)
theorem part_app {r : PySem.W.OpenRow} {M n : Nat} {fs1 fs2 : List (Fr → Bool)} {fn1 fn2 : List Fd} {w : World} (h1 : PartEq r M n fs1 fn1 w) (h2 : PartEq r M n fs2 fn2 w) : PartEq r M n (fs1 ++ fs2) (fn1 ++ fn2) w := fun os => by
  have e1 := h1 os
  have e2 := h2 os
  cases e : End r M w os with
  | none =>
    rw [e] at e1
    cases e1
  | some s =>
    rw [e] at e1 e2
    exact congrArg some (obs_app (Option.some.inj e1) (Option.some.inj e2))
/-- the looks behind the top -/
def LooksEq (r : PySem.W.OpenRow) (M : Nat) (w : World) : Prop := ∀ os : OsState, (End r M w os).map (fun s => HandSHeadRun.looksF r.prog (PySem.W.boot_heap w.params) s.abs) = some true
def SeenEq (r : PySem.W.OpenRow) (q : Program) (M : Nat) (loose : List Str) (w : World) : Prop := ∀ os : OsState, (End r M w os).map (fun s => HandSHeadRun.seenQ q loose (importedModules r.prog.main.body) (fun s => PySem.W.xlAt q [] s && PySem.W.recOk r.toRowW.records s) s.abs) = some (PySem.W.openGood q loose)
theorem run_of {r : PySem.W.OpenRow} {q : Program} {M n : Nat} {loose : List Str} {fs : List (Fr → Bool)} {fn : List Fd} {w : World} (hl : LooksEq r M w) (hs : SeenEq r q M loose w) (hp : PartEq r M n fs fn w) :
    HandSHeadRun.RunEq r q (hookH n fs fn) (fun s => obsH n fs fn (HandSHeadRun.getT s)) M loose w := fun os => by
  have e1 := hl os
  have e2 := hs os
  have e3 := hp os
  unfold End at e1 e2 e3
  revert e1 e2 e3
  generalize HandSHeadRun.endF (HandSHeadRun.stepQ (HandSHeadRun.denQ HandSHeadRun.tabQ) r.prog w) M r.prog w os = z
  intro e1 e2 e3
  cases z with
  | none => cases e1
  | some s =>
    exact congrArg some (Prod.ext (Option.some.inj e1) (Prod.ext (Option.some.inj e2) (Option.some.inj e3)))
end Hk
namespace Par
open PySem PySem.Spec PyProof.Rows L2

/-! ### how many distinct items there are -/
theorem nodup_le : ∀ {L M : List Int}, L.Nodup → (∀ k ∈ L, k ∈ M) → L.length ≤ M.length
  | [], M, _, _ => Nat.zero_le _
  | a :: L, M, hn, hs => by
    have ha : a ∈ M := hs a (List.mem_cons_self ..)
    have h1 := nodup_le (L := L) (M := M.erase a) (List.nodup_cons.mp hn).2 (fun k hk => by
      have hka : k ≠ a := fun e => (List.nodup_cons.mp hn).1 (e ▸ hk)
      exact (List.mem_erase_of_ne hka).mpr (hs k (List.mem_cons_of_mem _ hk)))
    have h2 := List.length_erase_of_mem ha
    have h3 : 0 < M.length := List.length_pos_of_mem ha
    show L.length + 1 ≤ M.length
    omega
theorem nodup_lt : ∀ {M L : List Int}, L.Nodup → (∀ k ∈ L, k ∈ M) → ¬ M.Nodup → L.length < M.length
  | [], _, _, _, h => absurd List.nodup_nil h
  | a :: M, L, hn, hs, hM => by
    by_cases ha : a ∈ M
    · have h := nodup_le (L := L) (M := M) hn (fun k hk => by
        rcases List.mem_cons.mp (hs k hk) with e | e
        · exact e ▸ ha
        · exact e)
      show L.length < M.length + 1
      omega
    · have hM' : ¬ M.Nodup := fun z => hM (List.nodup_cons.mpr ⟨ha, z⟩)
      have h := nodup_lt (M := M) (L := L.erase a) (hn.erase a) (fun k hk => by
        have hk2 := (hn.mem_erase_iff).mp hk
        rcases List.mem_cons.mp (hs k hk2.2) with e | e
        · exact absurd e hk2.1
        · exact e) hM'
      have h2 : L.length ≤ (L.erase a).length + 1 := by
        by_cases hL : a ∈ L
        · have := List.length_erase_of_mem hL
          omega
        · rw [List.erase_of_not_mem hL]
          omega
      show L.length < M.length + 1
      omega
theorem distinct_iff {L M : List Int} (hn : L.Nodup) (hs : ∀ k, k ∈ L ↔ k ∈ M) : L.length ≤ M.length ∧ (L.length = M.length ↔ M.Nodup) := by
  have h1 := nodup_le hn (fun k hk => (hs k).mp hk)
  refine ⟨h1, fun e => ?_, fun e => ?_⟩
  · by_cases h : M.Nodup
    · exact h
    · have := nodup_lt hn (fun k hk => (hs k).mp hk) h
      omega
  · have := nodup_le e (fun k hk => (hs k).mpr hk)
    omega
theorem firstMet_nodup2 (val : Nat → Int) : ∀ i, (firstMet val i).Nodup
  | 0 => List.nodup_nil
  | i + 1 => by
    rw [firstMet_succ]
    have ih := firstMet_nodup2 val i
    unfold step_dedup
    split
    · exact ih
    · rename_i h
      refine List.nodup_append.mpr ⟨ih, by simp, ?_⟩
      intro a ha b hb e
      have hb' : b = val i := by simpa using hb
      apply h
      rw [List.any_eq_true]
      exact ⟨a, ha, by simp [e, hb']⟩
theorem firstMet_mem (ns : List Int) (k : Int) : k ∈ firstMet (fun i => ns.getD i 0) ns.length ↔ k ∈ ns := by
  have h := firstMet_any (fun i => ns.getD i 0) ns.length k
  have e : (List.range ns.length).map (fun i => ns.getD i 0) = ns := by
    refine List.ext_getElem (by simp) (fun i h1 h2 => ?_)
    simp [List.getD_eq_getElem?_getD, List.getElem?_eq_getElem h2]
  rw [e] at h
  constructor
  · intro z
    have y : (firstMet (fun i => ns.getD i 0) ns.length).any (· == k) = true := List.any_eq_true.mpr ⟨k, z, by simp⟩
    rw [h] at y
    obtain ⟨x, hx, ex⟩ := List.any_eq_true.mp y
    have : x = k := by simpa using ex
    exact this ▸ hx
  · intro z
    have y : ns.any (· == k) = true := List.any_eq_true.mpr ⟨k, z, by simp⟩
    rw [← h] at y
    obtain ⟨x, hx, ex⟩ := List.any_eq_true.mp y
    have : x = k := by simpa using ex
    exact this ▸ hx

/-- len(set(x)), x a list or tuple of ints -/
def tLenSetQ (K : PySem.W.Frag) (ta : TE) : TE := fun σ H Q => ta σ H fun x H1 => ∃ (l : Addr) (ns : List Int), x = .ref l ∧
  (SqL K H1 l (ns.map V.int) ∨ SqT K H1 l (ns.map V.int)) ∧ ns.length ≤ 4000 ∧
  ∀ c : Nat, c ≤ ns.length → (c = ns.length ↔ ns.Nodup) → Q (.int (c : Nat)) H1
theorem numbers_of : ∀ {ns : List Int} {us : List Value}, Vals (ns.map V.int) us → IntsAre us ns
  | [], _, h => by
    cases h
    exact .nil
  | n :: ns, _, h => by
    cases h with
    | cons r t =>
      obtain ⟨tk, rfl⟩ := r
      exact .cons n tk (numbers_of t)
theorem pe_lenSetQ {X : Cx} {a : Expr} {ta : TE} {p p2 q pos : Pos} (hg : Gl X "len") (hm : X.mg "len" = none) (hg2 : Gl X "set") (hm2 : X.mg "set" = none) (ha : PE X a ta)
    (hc : X.calm = true := by rfl) (na : starEach [a] X.env = (false, eval a X.env) :: starEach [] X.env := by rfl) :
    PE X (.Call (.Name "len" p) [.Call (.Name "set" p2) [a] [] q] [] pos) (tLenSetQ X.K ta) := by
  constructor
  intro pins s σ H Q I h
  refine Call_ (ld_blt I hg hm boot_len ?_)
  refine PyProof.Rows.callWith_builtin1 (PyProof.Rows.args_cons (Call_ (ld_blt I hg2 hm2 boot_set ?_)) rfl) rfl rfl
  refine PyProof.Rows.callWith_type1 (PyProof.Rows.args_cons (thn (ha.run pins s σ H _ I h) ?_) na) na rfl
  rintro v s1 ⟨x, H1, I1, r1, l, ns, rfl, hq, hl, q1⟩
  refine PyProof.Rows.args_nil ?_
  cases r1
  rcases hq with hq | hq
  · obtain ⟨its, r, plain, hz⟩ := I1.list hq
    have hlen : its.toArray.size = ns.length := by
      rw [List.size_toArray, ← r.length]
      exact List.length_map ..
    refine call_set_list (I1.ok.hd hc) plain.isList (by simpa using numbers_of r) (by rw [hlen]; unfold scanBound; omega) ?_
    intro h' tk hS hk
    refine PyProof.Rows.args_nil ?_
    rw [hlen] at hS
    obtain ⟨o, es, ep, t, ho, hex, hd, _, _, _, hf, hn⟩ := hS
    have I2 : L2.Inv X pins σ H1 { s1 with heap := h', toks := tk } := I1.kept fun b o e => hk b o (Heap.lt_size e) e
    obtain ⟨d1, d2⟩ := distinct_iff (firstMet_nodup2 (fun i => ns.getD i 0) ns.length) (fun k => firstMet_mem ns k)
    exact call_len_set ho hex hd hf (by rw [hn]; unfold sizeLine at *; omega) ⟨.int _, H1, I2.tok _, ⟨_, by rw [hn]⟩, q1 _ d1 d2⟩
  · obtain ⟨its, r, tup, hz⟩ := I1.tuple hq
    have hlen : its.toArray.size = ns.length := by
      rw [List.size_toArray, ← r.length]
      exact List.length_map ..
    refine L2.call_set_tupI ns (I1.ok.hd hc) tup (by simpa using numbers_of r) (by unfold scanBound; omega) ?_
    intro h' tk c hS hcn hk
    refine PyProof.Rows.args_nil ?_
    obtain ⟨o, es, ep, t, ho, hex, hd, _, nd, mem, _, hf, hn, _, _⟩ := hS
    have I2 : L2.Inv X pins σ H1 { s1 with heap := h', toks := tk } := I1.kept hk
    have hmem : ∀ k, k ∈ es.toList.map keyOf ↔ k ∈ ns := fun k => (mem k).symm.trans (by simp)
    obtain ⟨d1, d2⟩ := distinct_iff nd hmem
    have hc2 : (es.toList.map keyOf).length = c := by rw [List.length_map, Array.length_toList, hn]
    rw [hc2] at d1 d2
    exact call_len_set ho hex hd hf (by rw [hn]; omega) ⟨.int (c : Nat), H1, I2.tok _, ⟨_, by rw [hn]⟩, q1 c d1 d2⟩
end Par
namespace Par
open PySem PySem.Spec PyProof.Rows L2

/-! ### a loop that changes nothing -/
section
variable {M : Model} {A : Around} {E : Value → Shared → Prop} {s : Shared}
theorem wp_forSame {α β : Type} {b : β} {f : α → β → Sem (ForInStep β)} {Q : β → Shared → Prop} : ∀ (l : List α),
    (∀ a ∈ l, ∀ Q' : ForInStep β → Shared → Prop, Q' (.yield b) s → wpAny M A (f a b) Q' E s) → Q b s → wpAny M A (forIn l b f) Q E s
  | [], _, h => by
    rw [List.forIn_nil]
    exact wpAny_pure h
  | a :: l, hf, h => by
    rw [List.forIn_cons]
    refine wpAny_bind (hf a (List.mem_cons_self ..) _ ?_)
    exact wp_forSame l (fun x hx => hf x (List.mem_cons_of_mem _ hx)) h
end
section
variable {P : Program} {w : World} {A : Around} {E : Value → Shared → Prop} {s : Shared} {a f : Addr} {S Sf : Int → Bool} {n nf : Nat}
theorem quiet_sets {sets : List Addr} {Q : Bool → Shared → Prop} (hs : ∀ b ∈ sets, ∃ S n, SetR w s.heap b S n) (h : Q true s) :
    wpAny (model P w) A (setsQuiet sets) Q E s := by
  unfold setsQuiet
  refine wpAny_bind (wp_forSame sets (fun b hb Q' q => ?_) (wpAny_pure h))
  obtain ⟨S, n, o, es, ep, t, ho, hx, hd, g, _, _, _, hf, _⟩ := hs b hb
  refine wpAny_bind (wpAny_setEntries_of ho hd hf ?_)
  rw [← Array.forIn_toList]
  refine wpAny_bind (wp_forSame es.toList (fun e he Q2 q2 => ?_) (wpAny_pure q))
  obtain ⟨k, tk, h1, _⟩ := g e he
  obtain ⟨hh, x⟩ := e
  subst h1
  exact wpAny_pure q2
/-- what a walk that nobody sees gives -/
def Given (S : Int → Bool) (n : Nat) (l : Array (Int × Value)) : Prop :=
  (∀ e ∈ l.toList, GoodE e) ∧ (l.toList.map keyOf).Nodup ∧ (∀ k, S k = true ↔ k ∈ l.toList.map keyOf) ∧ l.size = n
theorem Given.perm {l l' : Array (Int × Value)} (g : Given S n l) (p : l'.toList.Perm l.toList) : Given S n l' :=
  ⟨fun e he => g.1 e (p.mem_iff.mp he), (p.map keyOf).nodup_iff.mpr g.2.1, fun k => (g.2.2.1 k).trans (p.map keyOf).mem_iff.symm, by
    rw [← Array.length_toList, p.length_eq, Array.length_toList]
    exact g.2.2.2⟩
theorem walk_unseen {others : List Addr} {Q : Array (Int × Value) → Shared → Prop} (R : SetR w s.heap a S n) (hs : ∀ b ∈ others, ∃ S n, SetR w s.heap b S n) (Rf : SetR w s.heap f Sf nf)
    (hQ : ∀ l h', Heap.SameBut f s.heap h' → SetR w h' f Sf nf → Given S n l → Q l { s with heap := h' }) :
    wpAny (model P w) A (setWalkUnseen a others (some f)) Q E s := by
  obtain ⟨o, es, ep, t, ho, hx, hd, g, nd, hm, hb, hf, hn, hr, hl⟩ := id R
  have gv : Given S n es := ⟨g, nd, hm, hn⟩
  have same : ∀ l, Given S n l → Q l s := fun l gl => hQ l s.heap (Heap.SameBut.refl f s.heap) Rf gl
  unfold setWalkUnseen
  refine wpAny_bind (wpAny_setState_of ho hd hf ?_)
  dsimp only
  refine wpAny_bind (wpAny_byText ?_)
  cases hbt : w.params.followText "set-order" with
  | true =>
    refine wp_if_pos (by simp) ?_
    unfold setWalk
    refine wpAny_bind (wpAny_setState_of ho hd hf ?_)
    dsimp only
    refine wpAny_bind (wpAny_byText ?_)
    refine wp_if_pos hbt ?_
    exact wpAny_bind (wpAny_askSetting (wpAny_pure (same _ (gv.perm (pick_perm _ es)))))
  | false =>
    have hled : t.led = true := hl.resolve_left (by rw [hbt]; exact Bool.false_ne_true)
    by_cases hc : (false || (t.led && t.plain) || decide (es.size ≤ 1)) = true
    · refine wp_if_pos hc ?_
      unfold setWalk
      refine wpAny_bind (wpAny_setState_of ho hd hf ?_)
      dsimp only
      refine wpAny_bind (wpAny_byText ?_)
      refine wp_if_neg (by rw [hbt]; exact Bool.false_ne_true) ?_
      try refine wpAny_bind (wpAny_pure ?_)
      refine wp_if_neg ?_ ?_
      · show ¬ ((!t.plain && decide (es.size > 1)) = true)
        intro z
        rw [Bool.and_eq_true, decide_eq_true_eq] at z
        rw [hled] at hc
        have hp : t.plain = false := by simpa using z.1
        rw [hp] at hc
        have : es.size ≤ 1 := by simpa using hc
        omega
      · try refine wpAny_bind (wpAny_pure ?_)
        refine wpAny_bind (wpAny_of_eq (a := ()) ?_ ?_)
        · show (if (!t.led && decide (es.size > 1)) = true then unsupported "set:maker-not-led" else pure ()) = pure ()
          rw [hled] <;> rfl
        · exact wpAny_pure (same es gv)
    · refine wp_if_neg hc ?_
      try refine wpAny_bind (wpAny_pure ?_)
      refine wpAny_bind (quiet_sets (fun b hb => ?_) ?_)
      · rcases List.mem_cons.mp hb with z | z
        · exact z ▸ ⟨S, n, R⟩
        · exact hs b z
      refine wp_if_neg (by simp) ?_
      try refine wpAny_bind (wpAny_pure ?_)
      refine wpAny_bind (wpAny_rule ?_)
      obtain ⟨o2, es2, ep2, t2, ho2, hx2, hd2, g2, nd2, hm2, hb2, hf2, hn2, hr2, hl2⟩ := id Rf
      refine wpAny_bind (wpAny_setState_of ho2 hd2 hf2 ?_)
      dsimp only
      split
      · refine wpAny_bind (wpAny_storeSet_of ho2 hd2 ?_ (fits_of_scanBound hb2))
        have ho3 := store_at (es' := es2) (t' := { t2 with led := t2.led && t.led, plain := t2.plain && t.plain }) ho2 hd2
        refine wpAny_pure (hQ es _ (Heap.SameBut.update s.heap f _) ?_ gv)
        exact ⟨_, es2, _, _, ho3, hx2, rfl, g2, nd2, hm2, hb2, hf2, hn2, hr2, hl2.imp id fun z => by show (t2.led && t.led) = true; rw [z, hled]; rfl⟩
      · exact wpAny_pure (same es gv)
end
end Par
namespace Par
open PySem PySem.Spec PyProof.Rows L2
section
variable {P : Program} {w : World} {A : Around} {E : Value → Shared → Prop} {s : Shared} {a : Addr} {S : Int → Bool} {n : Nat}
theorem eraseAt_list {α : Type} (xs : Array α) (i : Nat) : (SetTable.eraseAt xs i).toList = xs.toList.eraseIdx i := by
  unfold SetTable.eraseAt
  rw [Array.toList_append, Array.toList_extract, Array.toList_extract, List.eraseIdx_eq_take_drop_succ]
  simp [List.extract_eq_drop_take]
  rw [List.take_of_length_le (by simp)]
/-- where the member k lies -/
theorem find_at {k : Int} {tk : Tok} {o : Obj} {es : Array (Int × Value)} {ep : Nat} {t : SetTable} {Q : Option Nat → Shared → Prop} (ho : s.heap.get? a = some o) (hd : o.data = .set es ep t) (hf : t.fits es.size = true)
    (g : ∀ e ∈ es.toList, GoodE e) (hb : es.size < scanBound) (h : Q (es.toList.findIdx? fun e => (intKind P w).is k e.2) s) :
    wpAny (model P w) A (setFind a (.int k tk) ((intKind P w).hash k)) Q E s := by
  have hel : ElemsOf (intKind P w) es.toList := good_elems g
  unfold setFind setFindIn
  refine wpAny_bind (wpAny_setState_of ho hd hf ?_)
  dsimp only
  rw [byScan_of (x := .int k tk) rfl hb hel]
  simp only [↓reduceIte]
  refine wpAny_bind (wpAny_rule ?_)
  refine wpAny_bind (wpAny_setScan_of (intKind_is P w k tk) ho hd hf hel ?_)
  cases hr : List.findIdx? (fun e => (intKind P w).is k e.2) es.toList with
  | none =>
    dsimp only
    rw [hr] at h
    exact wpAny_pure h
  | some j =>
    dsimp only
    rw [hr] at h
    rw [Nat.zero_add]
    exact wpAny_pure h
theorem discard_hashed {k : Int} {tk : Tok} {Q : Bool → Shared → Prop} (R : SetR w s.heap a S n)
    (hQ : ∀ h' m, m ≤ n → Heap.SameBut a s.heap h' → SetR w h' a (fun j => S j && !decide (j = k)) m → Q (S k) { s with heap := h' }) :
    wpAny (model P w) A (setDiscardHashed a (.int k tk) ((intKind P w).hash k)) Q E s := by
  obtain ⟨o, es, ep, t, ho, hex, hd, g, nd, hm, hb, hf, hn, hr, hl⟩ := R
  unfold setDiscardHashed
  refine wpAny_bind (find_at ho hd hf g hb ?_)
  cases hwhere : List.findIdx? (fun e => (intKind P w).is k e.2) es.toList with
  | none =>
    dsimp only
    have hnot : k ∉ es.toList.map keyOf := fun z => by
      obtain ⟨e, he, q⟩ := (good_mem (P := P) (w := w) g k).1 z
      have c := List.findIdx?_eq_none_iff.mp hwhere e he
      rw [q] at c
      cases c
    have hyes : S k = false := by
      cases q : S k with
      | false => rfl
      | true => exact absurd ((hm k).1 q) hnot
    have q := hQ s.heap n (Nat.le_refl _) (Heap.SameBut.refl a s.heap) ⟨o, es, ep, t, ho, hex, hd, g, nd, fun i => by
      rw [← hm i, Bool.and_eq_true]
      constructor
      · exact fun z => z.1
      · intro z
        refine ⟨z, ?_⟩
        have : i ≠ k := fun e => by rw [e, hyes] at z; cases z
        simp [this], hb, hf, hn, hr, hl⟩
    rw [hyes] at q
    exact wpAny_pure q
  | some j =>
    dsimp only
    obtain ⟨hj, pj, _⟩ := List.findIdx?_eq_some_iff_getElem.mp hwhere
    have hyes : S k = true := (hm k).2 ((good_mem (P := P) (w := w) g k).2 ⟨es.toList[j], List.getElem_mem hj, pj⟩)
    have hkj : keyOf es.toList[j] = k := (good_is (P := P) (w := w) (g _ (List.getElem_mem hj)) k).1 pj
    have hjs : j < es.size := by rw [Array.length_toList] at hj; exact hj
    obtain ⟨f1, f2⟩ : t.place.size = es.size ∧ t.fill ≤ t.mask := by
      simpa [SetTable.fits] using hf
    have hpl : t.place[j]? = some (t.place[j]'(by omega)) := Array.getElem?_eq_getElem _
    have hdrop : t.drop j = { t with place := SetTable.eraseAt t.place j, dummies := SetTable.insertAt t.dummies (SetTable.below t.dummies (t.place[j]'(by omega))) (t.place[j]'(by omega)) } := by
      unfold SetTable.drop
      rw [hpl]
    have pe := erase_perm es.toList j _ (List.getElem?_eq_getElem hj)
    have pk : (k :: (es.toList.eraseIdx j).map keyOf).Perm (es.toList.map keyOf) := by
      have z := pe.map keyOf
      rw [List.map_cons, hkj] at z
      exact z
    have el : (SetTable.eraseAt es j).toList = es.toList.eraseIdx j := eraseAt_list es j
    have hsz : (SetTable.eraseAt es j).size + 1 = es.size := by
      rw [← Array.length_toList, el, List.length_eraseIdx_of_lt hj, Array.length_toList]
      omega
    have hb1 : (SetTable.eraseAt es j).size < scanBound := by omega
    refine wpAny_bind (wpAny_setState_of ho hd hf ?_)
    dsimp only
    refine wpAny_bind (wpAny_storeSet_of ho hd ?_ (fits_of_scanBound hb1))
    refine wpAny_bind (wpAny_point (wpAny_pure ?_))
    have ho1 := store_at (es' := SetTable.eraseAt es j) (t' := t.drop j) ho hd
    have ndk := pk.nodup_iff.mpr nd
    have q := hQ _ (SetTable.eraseAt es j).size (by omega) (Heap.SameBut.update s.heap a (Obj.putSet (SetTable.eraseAt es j) (t.drop j)))
      ⟨_, SetTable.eraseAt es j, _, t.drop j, ho1, hex, rfl, fun e he => by
        rw [el] at he
        exact g e ((List.eraseIdx_sublist _ _).subset he), by
        rw [el]
        exact (List.nodup_cons.mp ndk).2, fun i => by
        rw [el, Bool.and_eq_true, hm i, ← pk.mem_iff, List.mem_cons]
        constructor
        · rintro ⟨z | z, y⟩
          · simp [z] at y
          · exact z
        · intro z
          refine ⟨.inr z, ?_⟩
          have : i ≠ k := fun e => (List.nodup_cons.mp ndk).1 (e ▸ z)
          simp [this], hb1, by
        rw [hdrop]
        unfold SetTable.fits
        rw [Bool.and_eq_true]
        have h1 : (SetTable.eraseAt t.place j).size + 1 = t.place.size := by
          rw [← Array.length_toList, eraseAt_list, List.length_eraseIdx_of_lt (by rw [Array.length_toList]; omega), Array.length_toList]
          omega
        have h2 : (SetTable.insertAt t.dummies (SetTable.below t.dummies t.place[j]) t.place[j]).size = t.dummies.size + 1 := by
          rw [← Array.length_toList, SetTable.toList_insertAt]
          simp only [List.length_append, List.length_cons, List.length_take, List.length_drop, Array.length_toList]
          omega
        have h3 : t.place.size + t.dummies.size ≤ t.mask := f2
        refine ⟨beq_iff_eq.mpr ?_, decide_eq_true ?_⟩
        · show (SetTable.eraseAt t.place j).size = (SetTable.eraseAt es j).size
          omega
        · show (SetTable.eraseAt t.place j).size + (SetTable.insertAt t.dummies (SetTable.below t.dummies t.place[j]) t.place[j]).size ≤ t.mask
          rw [h2]
          omega, rfl, by
        rw [hdrop]
        show Ris (SetTable.eraseAt t.place j).toList
        rw [eraseAt_list]
        exact List.Pairwise.sublist (List.eraseIdx_sublist _ _) hr, hl.imp id fun z => by
        rw [hdrop]
        exact z⟩
    rw [hyes] at q
    exact q
end
end Par
namespace Par
open PySem PySem.Spec PyProof.Rows L2
/-! ### a clean table has room for few small ints -/
def way (mask : Nat) : Nat → Nat → Nat → List Nat
  | 0, _, _ => []
  | f + 1, i, p => i :: way mask f (SetTable.leap mask i p).1 (SetTable.leap mask i p).2
def marks : List Nat → Nat → Nat
  | [], b => b
  | i :: l, b => marks l (b ||| (1 <<< i))
theorem marks_mem : ∀ (l : List Nat) (b j : Nat), (marks l b).testBit j = true → b.testBit j = true ∨ j ∈ l
  | [], b, j, h => .inl h
  | i :: l, b, j, h => by
    rcases marks_mem l _ j h with z | z
    · rw [Nat.testBit_or, Bool.or_eq_true] at z
      rcases z with z | z
      · exact .inl z
      · right
        rw [Nat.testBit_shiftLeft, Bool.and_eq_true, decide_eq_true_eq] at z
        have : j = i := by
          have z2 : j - i = 0 := by
            cases hji : j - i with
            | zero => rfl
            | succ c =>
              rw [hji] at z
              have y := z.2
              simp [Nat.testBit_succ] at y
          omega
        rw [this]
        exact List.mem_cons_self ..
    · exact .inr (List.mem_cons_of_mem _ z)
def covers : Bool := [7, 15, 31, 63, 127].all fun m => (List.range 40).all fun h => marks (way m (m + 15) (h % (m + 1)) h) 0 == 2 ^ (m + 1) - 1
theorem covers_all : covers = true := by decide +kernel
theorem way_all {m h j : Nat} (hm : m ∈ [7, 15, 31, 63, 127]) (hh : h < 40) (hj : j ≤ m) : j ∈ way m (m + 15) (h % (m + 1)) h := by
  have h1 := List.all_eq_true.mp (List.all_eq_true.mp covers_all m hm) h (List.mem_range.mpr hh)
  have h2 : marks (way m (m + 15) (h % (m + 1)) h) 0 = 2 ^ (m + 1) - 1 := by simpa using h1
  rcases marks_mem (way m (m + 15) (h % (m + 1)) h) 0 j (by rw [h2, Nat.testBit_two_pow_sub_one, decide_eq_true_eq]; omega) with z | z
  · simp at z
  · exact z
theorem free_of {mask : Nat} {owner : Array (Option Nat)} {j : Nat} (hn : owner.getD j (some 0) = none) : ∀ (f i p : Nat), j ∈ way mask f i p →
    ∃ r, SetTable.layClean.free mask owner f i p = some r ∧ owner.getD r (some 0) = none
  | 0, i, p, h => by simp [way] at h
  | f + 1, i, p, h => by
    rw [SetTable.layClean.free]
    cases hf : (List.range (SetTable.runEnd mask i + 1 - i)).find? fun k => (owner.getD (i + k) (some 0)).isNone with
    | some k =>
      refine ⟨i + k, rfl, ?_⟩
      have z := List.find?_some hf
      simpa using z
    | none =>
      dsimp only
      have hrun : i ≤ SetTable.runEnd mask i := by
        unfold SetTable.runEnd
        split <;> omega
      rcases List.mem_cons.mp (show j ∈ i :: way mask f (SetTable.leap mask i p).1 (SetTable.leap mask i p).2 from h) with z | z
      · exfalso
        have := List.find?_eq_none.mp hf 0 (List.mem_range.mpr (by omega))
        rw [Nat.add_zero, ← z, hn] at this
        exact this rfl
      · exact free_of hn f _ _ z
theorem some_none {l : List (Option Nat)} (h : (l.filterMap id).length < l.length) : ∃ j : Nat, l[j]? = some none := by
  induction l with
  | nil => simp at h
  | cons a l ih =>
    cases a with
    | none => exact ⟨0, rfl⟩
    | some x =>
      obtain ⟨j, hj⟩ := ih (by simpa using h)
      exact ⟨j + 1, by simpa using hj⟩
theorem set_none : ∀ {l : List (Option Nat)} {j k : Nat}, l[j]? = some none → ((l.set j (some k)).filterMap id).Perm (k :: l.filterMap id)
  | [], j, k, h => by simp at h
  | a :: l, 0, k, h => by
    have e : a = none := by simpa using h
    subst e
    simp
  | a :: l, j + 1, k, h => by
    have z := set_none (l := l) (j := j) (k := k) (by simpa using h)
    cases a with
    | none => simpa using z
    | some x =>
      rw [List.set_cons_succ]
      simp only [List.filterMap_cons, id_eq]
      exact (z.cons x).trans (List.Perm.swap ..)
/-- one number more, laid into its own place -/
def layStep (mask : Nat) (acc : Option (Array (Option Nat) × Nat)) (h : Int) : Option (Array (Option Nat) × Nat) :=
  acc.bind fun q => (SetTable.layClean.free mask q.1 (mask + 15) (SetTable.bits h % (mask + 1)) (SetTable.bits h)).bind fun j => some (q.1.setIfInBounds j (some q.2), q.2 + 1)
theorem fold_ok {mask : Nat} (hm : mask ∈ [7, 15, 31, 63, 127]) : ∀ (hs : List Int) (owner : Array (Option Nat)) (k : Nat), (∀ h ∈ hs, SetTable.bits h < 40) → owner.size = mask + 1 →
    (owner.toList.filterMap id).Perm (List.range k) → k + hs.length ≤ mask →
    ∃ owner', hs.foldl (layStep mask) (some (owner, k)) = some (owner', k + hs.length) ∧ owner'.size = mask + 1 ∧ (owner'.toList.filterMap id).Perm (List.range (k + hs.length))
  | [], owner, k, _, hz, hp, _ => ⟨owner, rfl, hz, hp⟩
  | h :: hs, owner, k, hb, hz, hp, hk => by
    have hlt : (owner.toList.filterMap id).length < owner.toList.length := by
      rw [hp.length_eq, List.length_range, Array.length_toList, hz]
      simp only [List.length_cons] at hk
      omega
    obtain ⟨j, hj⟩ := some_none hlt
    have hjs : j < owner.size := by
      have := (List.getElem?_eq_some_iff.mp hj).1
      rw [Array.length_toList] at this
      exact this
    have hn : owner.getD j (some 0) = none := by
      rw [Array.getElem?_toList] at hj
      simp [Array.getD_eq_getD_getElem?, hj]
    obtain ⟨r, hr, hrn⟩ := free_of hn (mask + 15) _ _ (way_all (j := j) hm (hb h (List.mem_cons_self ..)) (by omega))
    have hrs : r < owner.size := by
      by_cases c : r < owner.size
      · exact c
      · simp [Array.getD_eq_getD_getElem?, Array.getElem?_eq_none (Nat.le_of_not_lt c)] at hrn
    have hrl : owner.toList[r]? = some none := by
      rw [Array.getElem?_toList, Array.getElem?_eq_getElem hrs]
      simp [Array.getD_eq_getD_getElem?, Array.getElem?_eq_getElem hrs] at hrn
      rw [hrn]
    have hstep : layStep mask (some (owner, k)) h = some (owner.setIfInBounds r (some k), k + 1) := by
      unfold layStep
      show (SetTable.layClean.free mask owner (mask + 15) _ _).bind _ = _
      rw [hr]
      rfl
    obtain ⟨o2, e1, e2, e3⟩ := fold_ok hm hs (owner.setIfInBounds r (some k)) (k + 1) (fun x hx => hb x (List.mem_cons_of_mem _ hx)) (by rw [Array.size_setIfInBounds]; exact hz) (by
      rw [Array.toList_setIfInBounds]
      refine (set_none hrl).trans ?_
      rw [List.range_succ]
      exact (hp.cons k).trans (List.perm_append_singleton _ _).symm) (by simp only [List.length_cons] at hk; omega)
    refine ⟨o2, ?_, e2, ?_⟩
    · rw [List.foldl_cons, hstep, e1, List.length_cons]
      congr 2
      omega
    · rw [List.length_cons]
      have : k + (hs.length + 1) = k + 1 + hs.length := by omega
      rw [this]
      exact e3
theorem owner_list {owner : Array (Option Nat)} {n : Nat} (h : owner.size = n) : (List.range n).filterMap (fun j => owner.getD j none) = owner.toList.filterMap id := by
  have e : (List.range n).map (fun j => owner.getD j none) = owner.toList := by
    refine List.ext_getElem (by simp [h]) (fun i h1 h2 => ?_)
    have hi : i < owner.size := by rw [Array.length_toList] at h2; exact h2
    simp [Array.getD_eq_getD_getElem?, Array.getElem?_eq_getElem hi]
  rw [← e, List.filterMap_map]
  rfl
theorem clean_ok {mask finger moves : Nat} {led plain : Bool} {hashes : Array Int} (hm : mask ∈ [7, 15, 31, 63, 127]) (hb : ∀ h ∈ hashes.toList, SetTable.bits h < 40) (hz : hashes.size ≤ mask) :
    ∃ t order, SetTable.laid mask finger moves led plain hashes = some (t, order) ∧ order.toList.Perm (List.range hashes.size) ∧ Ris t.place.toList ∧ t.led = led ∧ t.place.size = hashes.size ∧ t.dummies = #[] ∧ t.mask = mask := by
  obtain ⟨owner, e1, e2, e3⟩ := fold_ok hm hashes.toList (Array.replicate (mask + 1) none) 0 hb (by simp) (by simp) (by rw [Array.length_toList]; omega)
  have e : SetTable.layClean mask hashes = some owner := by
    unfold SetTable.layClean
    rw [← Array.foldl_toList]
    show Option.map _ (hashes.toList.foldl (layStep mask) (some (Array.replicate (mask + 1) none, 0))) = _
    rw [e1]
    rfl
  have p2 : (((List.range (mask + 1)).filterMap fun j => (owner.getD j none).map (j, ·)).map (·.2)).Perm (List.range hashes.size) := by
    have : ((List.range (mask + 1)).filterMap fun j => (owner.getD j none).map (j, ·)).map (·.2) = (List.range (mask + 1)).filterMap fun j => owner.getD j none := by
      rw [List.map_filterMap]
      congr 1
      funext j
      cases owner.getD j none <;> rfl
    rw [this, owner_list e2]
    rw [Nat.zero_add, Array.length_toList] at e3
    exact e3
  unfold SetTable.laid
  rw [e]
  refine ⟨_, _, rfl, p2, ?_, rfl, ?_, rfl, rfl⟩
  · exact (ris_live (fun j => owner.getD j none) (List.range (mask + 1)) (by unfold Ris; first | exact List.pairwise_lt_range | exact List.pairwise_lt_range _)).1
  · show (((List.range (mask + 1)).filterMap fun j => (owner.getD j none).map (j, ·)).map (·.1)).toArray.size = _
    have := p2.length_eq
    rw [List.length_map, List.length_range] at this
    rw [List.size_toArray, List.length_map]
    exact this
end Par
namespace Par
open PySem PySem.Spec PyProof.Rows L2
def Cell (k : Int) : Prop := 0 ≤ k ∧ k < 40
theorem cells_few {L : List Int} (hn : L.Nodup) (h : ∀ k ∈ L, Cell k) : L.length ≤ 40 := by
  have := nodup_le (M := (List.range 40).map Int.ofNat) hn (fun k hk => by
    obtain ⟨h1, h2⟩ := h k hk
    exact List.mem_map.mpr ⟨k.toNat, List.mem_range.mpr (by omega), by simp; omega⟩)
  simpa using this
theorem bits_small : ∀ k : Nat, k < 40 → SetTable.bits (hashInt (k : Int)) < 40 := by decide +kernel
theorem bits_cell {k : Int} (h : Cell k) : SetTable.bits (hashInt k) < 40 := by
  have := bits_small k.toNat (by have := h.1; have := h.2; omega)
  rwa [Int.toNat_of_nonneg h.1] at this
theorem wide_enough : ∀ n : Nat, n ≤ 40 → SetTable.sizeAbove (n * 2) - 1 ∈ [7, 15, 31, 63, 127] ∧ n ≤ SetTable.sizeAbove (n * 2) - 1 ∧ SetTable.sizeAbove (n * 2) ≤ 128 := by decide +kernel
section
variable {P : Program} {w : World} {A : Around} {E : Value → Shared → Prop} {s : Shared} {a : Addr} {S : Int → Bool} {n : Nat}
theorem SetR.few (R : SetR w s.heap a S n) (h : ∀ k, S k = true → Cell k) : n ≤ 40 := by
  obtain ⟨o, es, ep, t, ho, hx, hd, g, nd, hm, hb, hf, hn, hr, hl⟩ := R
  have := cells_few nd (fun k hk => h k ((hm k).2 hk))
  rw [List.length_map, Array.length_toList, hn] at this
  exact this
/-- a set that is still empty, its table -/
def NewSet (w : World) (h : Heap) (r : Addr) (n : Nat) : Prop := ∃ o ep t, h.get? r = some o ∧ o.ExactSet ∧ o.data = .set #[] ep t ∧ t.place = #[] ∧ t.dummies = #[] ∧ (w.params.followText "set-order" = true ∨ t.led = true) ∧
  t.mask ∈ [7, 15, 31, 63, 127] ∧ n ≤ t.mask
theorem room_new {r : Addr} {Q : Unit → Shared → Prop} (hn : n ≤ 40)
    (hr : s.heap.get? r = some { cls := .type "set", dict := none, data := .set #[] 0 (.fresh 0 0 (!w.params.followText "set-order")) })
    (hQ : ∀ h', Heap.SameBut r s.heap h' → NewSet w h' r n → Q () { s with heap := h' }) : wpAny (model P w) A (setRoomFor r n) Q E s := by
  have led : w.params.followText "set-order" = true ∨ (!w.params.followText "set-order") = true := by
    cases w.params.followText "set-order"
    · exact .inr rfl
    · exact .inl rfl
  unfold setRoomFor
  refine wpAny_bind (wpAny_setState_of hr rfl rfl ?_)
  dsimp only
  by_cases h5 : n * 5 ≥ 21
  · have e : (SetTable.fresh 0 0 (!w.params.followText "set-order")).roomFor n = some (n * 2) := by
      unfold SetTable.roomFor SetTable.fill SetTable.fresh
      simp [h5]
    rw [e]
    dsimp only
    unfold setRelay
    refine wpAny_bind (wpAny_setState_of hr rfl rfl ?_)
    dsimp only
    obtain ⟨w1, w2, w3⟩ := wide_enough n hn
    refine wp_if_neg (by rw [sizeLine_eq]; omega) ?_
    try refine wpAny_bind (wpAny_pure ?_)
    obtain ⟨t, order, e1, e2, e3, e4, e5, e6, e7⟩ := clean_ok (finger := 0) (moves := (SetTable.fresh 0 0 (!w.params.followText "set-order")).movedTo (SetTable.sizeAbove (n * 2) - 1)) (led := !w.params.followText "set-order") (plain := true) (hashes := #[]) w1 (by simp) (by simp)
    have e8 : (SetTable.fresh 0 0 (!w.params.followText "set-order")).relaid ((#[] : Array (Int × Value)).map (·.1)) (n * 2) = some (t, order) := by
      have q : ((#[] : Array (Int × Value)).map (·.1)) = #[] := by simp
      rw [q]
      exact e1
    rw [e8]
    have eo : order = #[] := by
      have : order.toList = [] := List.length_eq_zero_iff.mp (by rw [e2.length_eq]; simp)
      exact Array.toList_eq_nil_iff.mp this
    subst eo
    refine wpAny_bind (wpAny_pure ?_)
    refine wpAny_storeSet_of hr rfl ?_ (by simp)
    have ho1 := store_at (es' := #[]) (t' := t) hr rfl
    refine hQ _ (Heap.SameBut.update s.heap r _) ⟨_, _, t, ho1, ⟨rfl, rfl, rfl⟩, rfl, by simpa using e5, e6, by rw [e4]; exact led, by rw [e7]; exact w1, by rw [e7]; exact w2⟩
  · have e : (SetTable.fresh 0 0 (!w.params.followText "set-order")).roomFor n = none := by
      unfold SetTable.roomFor SetTable.fill SetTable.fresh
      simp [h5]
    rw [e]
    dsimp only
    exact wpAny_pure (hQ s.heap (Heap.SameBut.refl r s.heap) ⟨_, _, _, hr, ⟨rfl, rfl, rfl⟩, rfl, rfl, rfl, led, by simp [SetTable.fresh], by show n ≤ 7; omega⟩)
theorem merge_new {r o : Addr} {each : Sem Unit} {Q : Unit → Shared → Prop}
    (hr : s.heap.get? r = some { cls := .type "set", dict := none, data := .set #[] 0 (.fresh 0 0 (!w.params.followText "set-order")) })
    (R : SetR w s.heap o S n) (hne : r ≠ o) (hS : ∀ k, S k = true → Cell k)
    (hQ : ∀ h', Heap.SameBut r s.heap h' → SetR w h' r S n → Q () { s with heap := h' }) : wpAny (model P w) A (setMerge r o each) Q E s := by
  have hn40 := SetR.few R hS
  obtain ⟨oo, es, ep, t, ho, hx, hd, g, nd, hm, hb, hf, hn, hrs, hl⟩ := id R
  have led : w.params.followText "set-order" = true ∨ (!w.params.followText "set-order") = true := by
    cases w.params.followText "set-order"
    · exact .inr rfl
    · exact .inl rfl
  unfold setMerge
  refine wp_if_neg (by simpa using hne) ?_
  try refine wpAny_bind (wpAny_pure ?_)
  refine wpAny_bind (wpAny_setState_of ho hd hf ?_)
  dsimp only
  by_cases he : es.isEmpty = true
  · refine wp_if_pos he ?_
    have e0 : es = #[] := by simpa using he
    subst e0
    refine wpAny_pure (hQ s.heap (Heap.SameBut.refl r s.heap) ⟨_, #[], _, _, hr, ⟨rfl, rfl, rfl⟩, rfl, g, nd, hm, hb, rfl, hn, List.Pairwise.nil, led⟩)
  · refine wp_if_neg he ?_
    try refine wpAny_bind (wpAny_pure ?_)
    rw [hn]
    refine wpAny_bind (room_new hn40 hr fun h1 sb1 new => ?_)
    obtain ⟨o1, ep1, t1, ho1, hx1, hd1, hp1, hdm1, hl1, hm1, hk1⟩ := new
    have hf1 : t1.fits (#[] : Array (Int × Value)).size = true := by
      simp [SetTable.fits, SetTable.fill, hp1, hdm1]
    refine wpAny_bind (wpAny_setState_of (es := #[]) ho1 hd1 hf1 ?_)
    dsimp only
    have hfill : t1.fill = 0 := by simp [SetTable.fill, hp1, hdm1]
    cases hroad : t1.road t with
    | oneByOne =>
      exfalso
      unfold SetTable.road at hroad
      rw [hfill] at hroad
      simp at hroad
      split at hroad <;> simp at hroad
    | slotForSlot =>
      dsimp only
      refine wpAny_storeSet_of ho1 hd1 ?_ (fits_of_scanBound hb)
      have ho2 := store_at (es' := es) (t' := { t with finger := t1.finger, led := t1.led && t.led, moves := t1.moves, plain := t1.plain && t.plain }) ho1 hd1
      refine hQ _ (sb1.trans (Heap.SameBut.update h1 r _)) ⟨_, es, _, _, ho2, hx1, rfl, g, nd, hm, hb, hf, hn, hrs, ?_⟩
      rcases hl with z | z
      · exact .inl z
      · rcases hl1 with y | y
        · exact .inl y
        · exact .inr (by show (t1.led && t.led) = true; rw [z, y]; rfl)
    | clean =>
      dsimp only
      have hsm : (es.map (·.1)).size = es.size := Array.size_map ..
      obtain ⟨t2, order, e1, e2, e3, e4, e5, e6, e7⟩ := clean_ok (finger := t1.finger) (moves := t1.moves) (led := t1.led && t.led) (plain := t1.plain && t.plain) (hashes := es.map (·.1)) hm1 (fun h hh => by
        rw [Array.toList_map] at hh
        obtain ⟨e, he, rfl⟩ := List.mem_map.mp hh
        obtain ⟨k, tk, q1, q2⟩ := g e he
        rw [q2]
        refine bits_cell (hS k ((hm k).2 (List.mem_map.mpr ⟨e, he, ?_⟩)))
        unfold keyOf
        rw [q1]) (by rw [hsm]; omega)
      rw [e1]
      rw [hsm] at e2 e5
      have pm : (order.filterMap (es[·]?)).toList.Perm es.toList := by
        rw [Array.toList_filterMap]
        exact (e2.filterMap _).trans (by rw [filterMap_getElem?_range])
      have hsz : (order.filterMap (es[·]?)).size = es.size := by rw [← Array.length_toList, pm.length_eq, Array.length_toList]
      refine wpAny_bind (wpAny_of_eq (a := (order.filterMap (es[·]?), t2)) ?_ ?_)
      · show (do
          if ((order.filterMap (es[·]?)).size != es.size) = true then unsupported "internal:set-table-lost-an-element"
          pure (order.filterMap (es[·]?), t2)) = _
        rw [if_neg (by rw [hsz]; simp)]
        try rfl
      · dsimp only
        refine wpAny_storeSet_of ho1 hd1 ?_ (by rw [hsz]; exact fits_of_scanBound hb)
        have ho2 := store_at (es' := order.filterMap (es[·]?)) (t' := t2) ho1 hd1
        refine hQ _ (sb1.trans (Heap.SameBut.update h1 r _)) ⟨_, _, _, t2, ho2, hx1, rfl, fun e he => g e (pm.mem_iff.mp he), (pm.map keyOf).nodup_iff.mpr nd, fun k => (hm k).trans (pm.map keyOf).mem_iff.symm, by rw [hsz]; exact hb, ?_, by rw [hsz]; exact hn, e3, ?_⟩
        · rw [hsz]
          have : t2.place.size + t2.dummies.size ≤ t2.mask := by
            rw [e5, e6, e7]
            simp
            omega
          simp [SetTable.fits, SetTable.fill, e5, e6, e7]
          omega
        · rw [e4]
          rcases hl with z | z
          · exact .inl z
          · rcases hl1 with y | y
            · exact .inl y
            · exact .inr (by rw [z, y]; rfl)
end
end Par
namespace Par
open PySem PySem.Spec PyProof.Rows L2
theorem entry_set_xor : entryFor table "set.__xor__" = some Builtin.«frozenset.__xor__» :=
  entryFor_alias (id' := "frozenset.__xor__") (by kernel_rfl) rfl (by decide +kernel) (by kernel_rfl)
theorem entry_set_and : entryFor table "set.__and__" = some Builtin.«frozenset.__and__» :=
  entryFor_alias (id' := "frozenset.__and__") (by kernel_rfl) rfl (by decide +kernel) (by kernel_rfl)
section
variable {P : Program} {w : World} {A : Around} {E : Value → Shared → Prop} {s : Shared} {a : Addr} {S : Int → Bool} {n : Nat}
theorem set_typ (R : SetR w s.heap a S n) : s.TypeIs (.ref a) "set" := by
  obtain ⟨o, es, ep, t, ho, hx, _⟩ := R
  exact ⟨o, ho, hx.1⟩
theorem any_set {Q : Bool → Shared → Prop} (hT : s.TypeIs (.ref a) "set") (h : Q true s) : wpAny (model P w) A (Builtin.Frozenset.isAnySet (.ref a)) Q E s := by
  unfold Builtin.Frozenset.isAnySet
  refine wpAny_bind (wpAny_isInstance hT sub_set_self ?_)
  exact wpAny_pure h
theorem base_set {Q : Value → Shared → Prop} (hT : s.TypeIs (.ref a) "set") (h : Q (.type "set") s) : wpAny (model P w) A (Builtin.Frozenset.baseOf a) Q E s := by
  unfold Builtin.Frozenset.baseOf
  refine wpAny_bind (wpAny_isInstance hT sub_set_self ?_)
  exact wpAny_pure h
theorem new_set {Q : Value → Shared → Prop} (h : Q (.ref s.heap.objs.size) { s with heap := s.heap.push { cls := .type "set", dict := none, data := .set #[] 0 (.fresh 0 0 (!w.params.followText "set-order")) } }) :
    wpAny (model P w) A (newSet (.type "set")) Q E s := by
  unfold newSet
  refine wpAny_bind (wpAny_byText ?_)
  dsimp only
  simp only [newObj]
  refine wpAny_bind (wpAny_alloc (wpAny_pure ?_))
  exact h
theorem flip_one {k : Int} {tk : Tok} {Q : Unit → Shared → Prop} (R : SetR w s.heap a S n) (room : n + 1 < scanBound)
    (hQ : ∀ h' m, m ≤ n + 1 → Heap.SameBut a s.heap h' → SetR w h' a (fun j => xor (S j) (decide (j = k))) m → Q () { s with heap := h' }) :
    wpAny (model P w) A (holding [.int k tk] (do
      if !(← setDiscardHashed a (.int k tk) ((intKind P w).hash k)) then
        let _ ← setAddHashed a (.int k tk) ((intKind P w).hash k))) Q E s := by
  refine wpAny_holding (wpAny_bind (discard_hashed R fun h1 m hm sb1 R1 => ?_))
  cases hk : S k with
  | true =>
    refine wp_if_neg (by simp) ?_
    refine wpAny_pure (hQ h1 m (by omega) sb1 (R1.congr fun j => ?_))
    by_cases e : j = k
    · subst e
      rw [hk]
      simp
    · simp [e]
  | false =>
    refine wp_if_pos (by simp) ?_
    refine wpAny_bind (setR_add_hashed (s := { s with heap := h1 }) R1 (by omega) fun h2 sb2 R2 => ?_)
    refine wpAny_pure (hQ h2 _ (by split <;> omega) (sb1.trans sb2) (R2.congr fun j => ?_))
    by_cases e : j = k
    · subst e
      rw [hk]
      simp
    · simp [e]
theorem flip_all {body : Int × Value → PUnit → Sem (ForInStep PUnit)} {o : Addr} {oo : Obj} (hne : o ≠ a)
    (hb : ∀ (e : Int × Value) (s : Shared) (S : Int → Bool) (n : Nat) (Q : ForInStep PUnit → Shared → Prop), GoodE e → s.heap.get? o = some oo → SetR w s.heap a S n → n + 1 < scanBound →
      (∀ h' m, m ≤ n + 1 → Heap.SameBut a s.heap h' → SetR w h' a (fun j => xor (S j) (decide (j = keyOf e))) m → Q (.yield ⟨⟩) { s with heap := h' }) → wpAny (model P w) A (body e ⟨⟩) Q E s) :
    ∀ (l : List (Int × Value)) (s : Shared) (S : Int → Bool) (n : Nat) (Q : PUnit → Shared → Prop), (∀ e ∈ l, GoodE e) → (l.map keyOf).Nodup → s.heap.get? o = some oo → SetR w s.heap a S n → n + l.length + 1 < scanBound →
      (∀ h' m, Heap.SameBut a s.heap h' → SetR w h' a (fun j => xor (S j) (decide (j ∈ l.map keyOf))) m → Q ⟨⟩ { s with heap := h' }) → wpAny (model P w) A (forIn l ⟨⟩ body) Q E s
  | [], s, S, n, Q, _, _, _, R, _, hQ => by
    rw [List.forIn_nil]
    exact wpAny_pure (hQ s.heap n (Heap.SameBut.refl a s.heap) (R.congr fun j => by simp))
  | e :: l, s, S, n, Q, g, nd, Ro, R, room, hQ => by
    rw [List.forIn_cons]
    simp only [List.length_cons] at room
    refine wpAny_bind (hb e s S n _ (g e (List.mem_cons_self ..)) Ro R (by omega) fun h1 m hm sb1 R1 => ?_)
    have nd' := List.nodup_cons.mp (show (keyOf e :: l.map keyOf).Nodup from nd)
    refine flip_all hne hb l { s with heap := h1 } _ m Q (fun x hx => g x (List.mem_cons_of_mem _ hx)) nd'.2 ((sb1.2 o hne).trans Ro) R1 (by omega) fun h2 m2 sb2 R2 => ?_
    refine hQ h2 m2 (sb1.trans sb2) (R2.congr fun j => ?_)
    show xor (S j) (decide (j ∈ keyOf e :: l.map keyOf)) = xor (xor (S j) (decide (j = keyOf e))) (decide (j ∈ l.map keyOf))
    by_cases e1 : j = keyOf e
    · have : j ∉ l.map keyOf := fun z => nd'.1 (e1 ▸ z)
      have hin : j ∈ keyOf e :: l.map keyOf := by
        rw [e1]
        exact List.mem_cons_self ..
      rw [decide_eq_true hin, decide_eq_true e1, decide_eq_false this]
      simp
    · by_cases e2 : j ∈ l.map keyOf
      · rw [decide_eq_true (List.mem_cons_of_mem _ e2), decide_eq_true e2, decide_eq_false e1]
        simp
      · have hout : j ∉ keyOf e :: l.map keyOf := fun z => by
          rcases List.mem_cons.mp z with z | z
          · exact e1 z
          · exact e2 z
        rw [decide_eq_false hout, decide_eq_false e2, decide_eq_false e1]
        simp
def symOf (id : String) (l : Addr) (r : Value) : Sem Value := do
  let result ← Builtin.Frozenset.newFrom id (← Builtin.Frozenset.baseOf l) r
  holding [result] (Builtin.Frozenset.symmetricDifferenceUpdate id (← Builtin.Frozenset.addrOf result) (.ref l))
  return result
theorem call_xor {b : Addr} {T : Int → Bool} {m : Nat} {Q : Value → Shared → Prop} (Ra : SetR w s.heap a S n) (Rb : SetR w s.heap b T m) (hS : ∀ k, S k = true → Cell k) (hT : ∀ k, T k = true → Cell k)
    (hQ : ∀ h' c, (∀ x u, s.heap.get? x = some u → h'.get? x = some u) → SetR w h' s.heap.objs.size (fun k => xor (S k) (T k)) c → c ≤ 40 → Q (.ref s.heap.objs.size) { s with heap := h' }) :
    wpAny (model P w) A (call (.builtin "set.__xor__") [.ref a, .ref b]) Q E s := by
  have ta : s.TypeIs (.ref a) "set" := set_typ Ra
  have tb : s.TypeIs (.ref b) "set" := set_typ Rb
  have la := Ra.lt
  have lb := Rb.lt
  refine wpAny_call_entry F.slot_set_xor ta entry_set_xor ?_ (F.args_set_xor_2 _ _)
  unfold Builtin.«frozenset.__xor__»
  show wpAny _ _ (do
    let (self, other) ← Builtin.Frozenset.slot1 "__xor__" ⟨[.ref a, .ref b], []⟩
    let (l, r) := if false = true then (other, self) else (self, other)
    if !(← Builtin.Frozenset.isAnySet l <&&> Builtin.Frozenset.isAnySet r) then rule s!"frozenset.{"__xor__"}.declined"; return ← ret .notImplemented
    ret (← symOf s!"frozenset.{"__xor__"}" (← Builtin.Frozenset.addrOf l) r)) _ _ s
  refine wpAny_bind (wpAny_of_eq (a := (Value.ref a, Value.ref b)) (by rfl) ?_)
  dsimp only
  rw [if_neg Bool.false_ne_true]
  dsimp only
  refine wpAny_bind (wpAny_bind (any_set ta ?_))
  show wpAny _ _ (Builtin.Frozenset.isAnySet (.ref b)) _ _ s
  refine any_set tb ?_
  refine wp_if_neg (by simp) ?_
  refine wpAny_bind (m := Builtin.Frozenset.addrOf (.ref a)) (wpAny_pure ?_)
  refine wpAny_bind ?_
  unfold symOf
  refine wpAny_bind (base_set ta ?_)
  refine wpAny_bind ?_
  unfold Builtin.Frozenset.newFrom
  refine wpAny_bind (new_set ?_)
  generalize hr : s.heap.objs.size = r at *
  have hget : (s.heap.push { cls := .type "set", dict := none, data := .set #[] 0 (.fresh 0 0 (!w.params.followText "set-order")) }).get? s.heap.objs.size = some { cls := .type "set", dict := none, data := .set #[] 0 (.fresh 0 0 (!w.params.followText "set-order")) } := Heap.get?_push_size _ rfl
  generalize hg : s.heap.push { cls := .type "set", dict := none, data := .set #[] 0 (.fresh 0 0 (!w.params.followText "set-order")) } = g at *
  have keep : ∀ x u, s.heap.get? x = some u → g.get? x = some u := fun x u e => by
    rw [← hg]
    exact Heap.get?_push_of_some _ e
  have Ra1 : SetR w g a S n := Ra.at fun u e => keep a u e
  have Rb1 : SetR w g b T m := Rb.at fun u e => keep b u e
  refine wpAny_bind (m := Builtin.Frozenset.addrOf (.ref r)) (wpAny_pure ?_)
  refine wpAny_bind (wpAny_holding ?_)
  unfold Builtin.Frozenset.updateFrom
  refine wpAny_bind (any_set (s := { s with heap := g }) (set_typ Rb1) ?_)
  refine wp_if_pos rfl ?_
  refine wpAny_bind (m := Builtin.Frozenset.addrOf (.ref b)) (wpAny_pure ?_)
  unfold Builtin.Frozenset.merge
  obtain ⟨ob, esb, epb, tb2, hob, hxb, hdb, _, _, _, _, hfb, _⟩ := id Rb1
  refine wpAny_bind (wpAny_setEpoch_of hob hdb hfb ?_)
  rw [hr] at hget
  refine merge_new (s := { s with heap := g }) hget Rb1 (Nat.ne_of_gt lb) hT fun h1 sb1 R1 => ?_
  refine wpAny_pure ?_
  refine wpAny_bind (m := Builtin.Frozenset.addrOf (.ref r)) (wpAny_pure ?_)
  refine wpAny_bind (wpAny_holding ?_)
  have hra : a ≠ r := Nat.ne_of_lt la
  have Ra2 : SetR w h1 a S n := Ra1.at fun u e => (sb1.2 a hra).trans e
  unfold Builtin.Frozenset.symmetricDifferenceUpdate
  refine wp_if_neg (by simpa using hra) ?_
  try refine wpAny_bind (wpAny_pure ?_)
  dsimp only
  refine wpAny_bind (wpAny_typeOf (s := { s with heap := h1 }) (set_typ Ra2) ?_)
  refine wp_if_neg (by decide) ?_
  try refine wpAny_bind (wpAny_pure ?_)
  refine wpAny_bind (any_set (s := { s with heap := h1 }) (set_typ Ra2) ?_)
  refine wp_if_pos rfl ?_
  refine wpAny_bind (wpAny_pure ?_)
  refine wpAny_bind (m := Builtin.Frozenset.addrOf (.ref a)) (wpAny_pure ?_)
  obtain ⟨oa, esa, epa, ta2, hoa, hxa, hda, _, _, _, _, hfa, _⟩ := id Ra2
  refine wpAny_bind (wpAny_setEpoch_of hoa hda hfa ?_)
  refine wpAny_holding ?_
  refine wpAny_bind (walk_unseen (s := { s with heap := h1 }) (f := r) Ra2 (fun x hx => by rw [List.mem_singleton.mp hx]; exact ⟨T, m, R1⟩) R1 fun l h2 sb2 R2 gl => ?_)
  obtain ⟨gl1, gl2, gl3, gl4⟩ := gl
  have n40 : n ≤ 40 := SetR.few (s := { s with heap := h1 }) Ra2 hS
  have m40 : m ≤ 40 := SetR.few (s := { s with heap := h1 }) R1 hT
  rw [← Array.forIn_toList]
  refine wpAny_bind (flip_all (a := r) (o := a) (oo := oa) hra ?_ l.toList { s with heap := h2 } T m _ gl1 gl2 ((sb2.2 a hra).trans hoa) R2 (by rw [Array.length_toList, gl4]; unfold scanBound; omega) fun h3 c sb3 R3 => ?_)
  · intro e s0 S0 n0 Q0 ge ho0 R0 room q0
    obtain ⟨k, tk, e1, e2⟩ := ge
    obtain ⟨eh, ev⟩ := e
    dsimp only at e1 e2
    subst e1
    subst e2
    refine wpAny_bind (flip_one R0 room fun h' m' hm' sb' R' => ?_)
    refine wpAny_bind ?_
    unfold Builtin.Frozenset.unchanged
    refine wpAny_bind (wpAny_setEpoch_of ((sb'.2 a hra).trans ho0) hda hfa ?_)
    refine wp_if_neg (by simp) ?_
    exact wpAny_pure (wpAny_pure (q0 h' m' hm' sb' R'))
  refine wpAny_pure (wpAny_pure (wpAny_pure ⟨_, rfl, ?_⟩))
  have Rf : SetR w h3 r (fun k => xor (S k) (T k)) c := R3.congr fun k => by
    have : S k = decide (k ∈ l.toList.map keyOf) := by
      cases h : S k with
      | true => rw [decide_eq_true ((gl3 k).1 h)]
      | false =>
        have : k ∉ l.toList.map keyOf := fun z => by
          have := (gl3 k).2 z
          rw [h] at this
          cases this
        rw [decide_eq_false this]
    rw [this]
    exact Bool.xor_comm _ _
  refine hQ h3 c (fun x u e => ?_) Rf (SetR.few (s := { s with heap := h3 }) Rf fun k hk => ?_)
  · have hxr : x ≠ r := by
      rw [← hr]
      exact Nat.ne_of_lt (Heap.lt_size e)
    exact (sb3.2 x hxr).trans ((sb2.2 x hxr).trans ((sb1.2 x hxr).trans (keep x u e)))
  · cases h : S k with
    | true => exact hS k h
    | false =>
      rw [h] at hk
      exact hT k (by simpa using hk)
end
end Par
namespace Par
open PySem PySem.Spec PyProof.Rows L2
section
variable {X : Cx}
/-- set(t), t a tuple of ints -/
def rSetTup (K : PySem.W.Frag) (w : World) : List V → Hp → VK → Prop := fun xs H Q => ∃ (l : Addr) (ns : List Int), xs = [V.ref l] ∧ SqT K H l (ns.map V.int) ∧ ns.length ≤ 4000 ∧
  ∀ p c, H p = none → Q (.ref p) (upd H p (SetO w p (fun j => decide (j ∈ ns)) c))
theorem cr_setTup (hc : X.calm = true) : CallR X (.type "set") (rSetTup X.K X.w) := by
  intro pins s σ H xs us Q I r h
  obtain ⟨l, ns, rfl, hq, hl, q⟩ := h
  rw [Vals.ref1 r]
  obtain ⟨its, rv, tup, hz⟩ := I.tuple hq
  refine L2.call_set_tupI ns (I.ok.hd hc) tup (by simpa using numbers_of rv) (by unfold scanBound; omega) ?_
  intro h' tk c hS hcn hk
  exact ⟨.ref _, _, I.laid (t' := tk) hk (Nat.le_refl _) (setO_new hS), rfl, q _ c (I.hok.fresh (Nat.le_refl _))⟩
/-- one ^ other, sets of cells -/
def rXor (w : World) : V → V → Hp → VK → Prop := fun x y H Q => ∃ (a b : Addr) (S T : Int → Bool) (n m : Nat), x = V.ref a ∧ y = V.ref b ∧ H a = some (SetO w a S n) ∧ H b = some (SetO w b T m) ∧
  (∀ k, S k = true → Cell k) ∧ (∀ k, T k = true → Cell k) ∧ ∀ p c, H p = none → c ≤ 40 → Q (.ref p) (upd H p (SetO w p (fun k => xor (S k) (T k)) c))
theorem op_xorS : OpR X (binaryOp .BitXor) (rXor X.w) := by
  intro pins s σ H x y v u Q I rx ry h
  obtain ⟨a, b, S, T, n, m, rfl, rfl, ha, hb, hS, hT, q⟩ := h
  cases rx
  cases ry
  have Ra := setO_get I ha
  have Rb := setO_get I hb
  refine wpAny_binaryOp_same (op := .BitXor) (T := "set") (set_typ Ra) (set_typ Rb) F.fills_set_xor F.slot_set_xor ?_
  refine call_xor Ra Rb hS hT fun h' c k R c40 => ⟨by simp, ?_⟩
  exact ⟨.ref _, _, I.laid (t' := s.toks) k (Nat.le_refl _) (setO_new R), rfl, q _ c (I.hok.fresh (Nat.le_refl _)) c40⟩
end
end Par
namespace Par
open PySem PySem.Spec PyProof.Rows L2
section
variable {prog : Program} {w : World} {A : Around} {E : Value → Shared → Prop} {s : Shared}
theorem collect_tup {tp : Addr} {vs : List Value} {Q : List Value → Shared → Prop} (htp : IsTup s.heap tp vs.toArray)
    (h : Q vs { s with heap := (s.heap.push (seqObj "list" #[] 0)).update s.heap.objs.size (Obj.mapSeq (· ++ vs.toArray)) })
    (len : vs.length ≤ sizeLine) : wpAny (model prog w) A (collect (.ref tp)) Q E s := by
  obtain ⟨o, hob, hcl, n, hdt⟩ := id htp
  unfold collect
  refine wpAny_bind (wpAny_runValue ?_)
  refine codeAny_builtin entry_proto_collect' ?_
  show wpAny _ _ (do again (.builtin "list.__iadd__" ⟨[← newList [], .ref tp], []⟩)) _ _ s
  refine wpAny_bind (wpAny_newList (wpAny_pure ?_))
  refine ⟨Code.quiet_builtin _ (by decide +kernel), codeAny_builtin entry_list_iadd' ?_⟩
  show wpAny _ _ (Builtin.List.listExtendWith (.ref s.heap.objs.size) (.ref tp) (.ref s.heap.objs.size)) _ _ { s with heap := s.heap.push (seqObj "list" #[] 0) }
  unfold Builtin.List.listExtendWith -- a tuple's items go over at once
  have ho2 : (s.heap.push (seqObj "list" #[] 0)).get? tp = some o := Heap.get?_push_of_some _ hob
  refine wpAny_bind (wpAny_typeOf (T := "tuple") ⟨o, ho2, hcl⟩ ?_)
  have ht : (Value.type "tuple" == Value.type "tuple") = true := by rfl
  rw [if_pos (by simp [ht])]
  refine wpAny_bind (listItems_at ho2 hdt ?_)
  refine wpAny_bind (listItems_at (n := 0) (xs := #[]) (Heap.get?_push_size _ rfl) rfl ?_)
  rw [if_neg (by simp)]
  have room : (#[] ++ vs.toArray).size ≤ sizeLine + 1 := by
    simp only [Array.size_append, List.size_toArray, List.length_nil]
    omega
  refine wpAny_bind (listUpdate_at (xs := #[]) (n := 0) (Heap.get?_push_size _ rfl) rfl ?_ (Nat.zero_le _) room)
  refine wpAny_pure ?_
  have flat : ((#[] : Array Value) ++ vs.toArray).toList = vs := by simp
  refine wpAny_bind (wpAny_load (get?_update_seq (Heap.get?_push_size s.heap rfl) _) ?_)
  show wpAny _ _ (pure (#[] ++ vs.toArray).toList) Q E _
  rw [flat]
  exact wpAny_pure h
theorem sorted_tupOrd {tp : Addr} {vs : List Value} {ltv : Value → Value → Bool} {Q : Value → Shared → Prop} (O : SrtO.Swo ltv) (htp : IsTup s.heap tp vs.toArray) (hz : vs.length ≤ sizeLine)
    (can : 2 ≤ vs.length → ∀ (h1 : Heap) (a : Addr), h1.get? a = some (seqObj "list" vs.toArray 0) → (∀ b o, s.heap.get? b = some o → b ≠ a ∧ h1.get? b = some o) → SrtO.SortableO prog w A.in1.in1 { s with heap := h1 } a vs ltv)
    (h : ∀ out : List Value, SrtO.Srtd ltv out → SrtO.Stb ltv out vs → Q (.ref (s.heap.objs.size + 1)) { s with heap := sortedAll s.heap vs out.toArray }) :
    wpAny (model prog w) A (call (.builtin "sorted") [.ref tp]) Q E s := by
  refine Calls.call_function_entry kind_sorted plain_sorted entry_sorted (args_sorted1 (.ref tp)) ?_
  unfold Builtin.«sorted»
  refine wpAny_bind (m := checkCount "sorted" 1 1 _) ?_
  refine wpAny_pure ?_
  refine wpAny_bind (collect_tup htp ?_ hz)
  refine wpAny_bind (wpAny_newList (s := _) ?_ hz)
  generalize eg : (s.heap.push (seqObj "list" #[] 0)).update s.heap.objs.size (Obj.mapSeq (· ++ vs.toArray)) = g
  have hsz : g.objs.size = s.heap.objs.size + 1 := by rw [← eg, Heap.size_update, size_push']
  have hoL : (g.push (seqObj "list" vs.toArray 0)).get? (s.heap.objs.size + 1) = some (seqObj "list" vs.toArray 0) := by
    rw [← hsz]
    exact Heap.get?_push_size g rfl
  have keep : ∀ b o, s.heap.get? b = some o → b ≠ s.heap.objs.size + 1 ∧ (g.push (seqObj "list" vs.toArray 0)).get? b = some o := by
    intro b o q
    have hbl : b < s.heap.objs.size := Heap.lt_size q
    refine ⟨Nat.ne_of_lt (Nat.lt_succ_of_lt hbl), Heap.get?_push_of_some (seqObj "list" vs.toArray 0) ?_⟩
    rw [← eg, Heap.get?_update_ne _ _ _ _ (Nat.ne_of_lt hbl)]
    exact Heap.get?_push_of_some (seqObj "list" #[] 0) q
  show wpAny _ _ _ _ _ { s with heap := g.push (seqObj "list" vs.toArray 0) }
  rw [hsz]
  refine wpAny_bind (wpAny_holding (wpAny_call_entry slot_list_sort ⟨_, hoL, rfl⟩ entry_list_sort (SrtO.list_sort_ord O hoL hz (fun h2 => can h2 _ _ hoL keep) ?_) (args_list_sort _)))
  intro out hs hb
  refine ⟨_, rfl, ?_⟩
  subst eg
  exact wpAny_pure ⟨.ref (s.heap.objs.size + 1), rfl, h out hs hb⟩
end
/-- sorted(t), t a tuple of ints -/
theorem cr_sortedTup {X : Cx} : CallR X (.builtin "sorted") (fun vs H Q => ∃ (a : Addr) (ns : List Int), vs = [V.ref a] ∧ SqT X.K H a (ns.map V.int) ∧
    ∀ (ms : List Int) (p : Addr), ms.Perm ns → ms.Pairwise (· ≤ ·) → H p = none → Q (.ref p) (upd H p (.lst (ms.map V.int)))) := by
  intro pins s σ H vs us Q I r h
  obtain ⟨a, ns, rfl, hs, q⟩ := h
  obtain ⟨its, rv, htp, hz⟩ := I.tuple hs
  rw [Vals.ref1 r]
  have hi := rv.ints
  refine sorted_tupOrd SrtO.swo_int htp (by rw [← rv.length]; exact hz) (fun h2 h1 a2 _ _ => SrtO.ints_sortable hi h2) ?_
  intro out h1 h2
  obtain ⟨o1, o2, o3⟩ := SrtO.ints_out hi h1 h2
  obtain ⟨ep, he⟩ := PyProof.Rows.sortedAll_at s.heap its out.toArray
  have hshort : ((out.map SrtO.iv).map V.int).length ≤ sizeLine := by
    rw [List.length_map, o2.length_eq]
    rw [List.length_map] at hz
    exact hz
  have lay := I.laid (t' := s.toks) (a := s.heap.objs.size + 1) (o := .lst ((out.map SrtO.iv).map V.int)) (fun _ _ => PyProof.Rows.sortedAll_old) (Nat.le_succ _)
    ⟨hshort, out, ep, vals_of_ints o1, he⟩
  exact ⟨.ref _, _, lay, rfl, q _ _ o2 o3 (I.hok.fresh (Nat.le_succ _))⟩
end Par
namespace Par
open PySem PySem.Spec PyProof.Rows L2
theorem meets_enumT (l : Addr) (items : Array Value) :
    Meets (Builtin.«enumerate.__new__» ⟨[.type "enumerate", .ref l], []⟩) (fun _ R s => s.heap.IsTuple l items ∧
      R (.ok (.ret (.ref (s.heap.push { cls := .type "tuple_iterator", data := .fields #[.ref l, .int 0 0] }).objs.size)))
        { s with heap := (s.heap.push { cls := .type "tuple_iterator", data := .fields #[.ref l, .int 0 0] }).push { cls := .type "enumerate", data := .fields #[.none, .bool false, .ref s.heap.objs.size, rawInt 0, .none, .none] } }) := by
  refine .of_wp ?_
  rintro prog w A R ⟨hp, g, d, tk, os⟩ ⟨h1, h⟩
  have sub1 := sub_enumerate
  have it1 : ∀ {B : Around} {E : Value → Shared → Prop} {Q : Value → Shared → Prop},
      Q (.ref hp.objs.size) ⟨hp.push { cls := .type "tuple_iterator", data := .fields #[.ref l, .int 0 0] }, g, d, tk, os⟩ → wpAny (model prog w) B (pyIter (.ref l)) Q E ⟨hp, g, d, tk, os⟩ :=
    fun q => (begins_tuple l items).iter prog w _ _ ⟨hp, g, d, tk, os⟩ _ h1 q
  wp_walk using it1
  refine wpAny_stack_any (fun st => wpAny_pure ?_)
  split
  · rename_i c _ _ _ _ _
    cases (c == Value.type "enumerate") <;> (wp_walk using it1; exact ⟨_, rfl, h⟩)
  · wp_walk using it1
    exact ⟨_, rfl, h⟩
section
variable {prog : Program} {w : World} {A : Around} {E : Value → Shared → Prop} {s : Shared}
theorem call_enumT {l : Addr} {items : Array Value} {Q : Value → Shared → Prop} (hL : s.heap.IsTuple l items)
    (h : ∀ h', IsEnum h' (s.heap.objs.size + 1) s.heap.objs.size 0 .none → h'.IsTupleIter s.heap.objs.size l 0 → (∀ b o, s.heap.get? b = some o → h'.get? b = some o) →
      Q (.ref (s.heap.objs.size + 1)) { s with heap := h' }) : wpAny (model prog w) A (call (.type "enumerate") [.ref l]) Q E s := by
  refine callType_new F.called_enumerate (by decide) (F.typeCall_enumerate_1 _) (F.newCall_enumerate_1 _) (fun obj => F.args_object_init_2 obj _) F.entry_enumerate_new (meets_enumT l items) ⟨hL, ?_⟩
  generalize eg : s.heap.push { cls := .type "tuple_iterator", data := .fields #[.ref l, .int 0 0] } = g
  have hz : g.objs.size = s.heap.objs.size + 1 := by rw [← eg]; exact Heap.size_push ..
  have hi : g.get? s.heap.objs.size = some { cls := .type "tuple_iterator", data := .fields #[.ref l, .int 0 0] } := by rw [← eg]; exact Heap.get?_push_size _ rfl
  have hk : ∀ b o, s.heap.get? b = some o → g.get? b = some o := by rw [← eg]; exact fun b o x => Heap.get?_push_of_some _ x
  show _ ∧ _
  have he := Heap.get?_push_size g (o := { cls := .type "enumerate", data := .fields #[.none, .bool false, .ref s.heap.objs.size, rawInt 0, .none, .none] }) rfl
  rw [hz] at he ⊢
  exact ⟨⟨_, he, rfl⟩, h _ he ⟨_, Heap.get?_push_of_some _ hi, rfl, rfl⟩ fun b o x => Heap.get?_push_of_some _ (hk b o x)⟩
end
/-- the tuple at a, each item in a new pair -/
def ItEnT (K : PySem.W.Frag) (a : Addr) : It where
  go := fun i H => ∃ (xs : List V) (x : V), SqT K H a xs ∧ xs[i]? = some x
  yld := fun i H v H' => ∃ T x, v = .ref T ∧ H T = none ∧ H' = upd H T (.tup [.int (i : Nat), x]) ∧ ∀ xs, SqT K H a xs → xs[i]? = some x
  stop := fun i H => ∃ xs : List V, SqT K H a xs ∧ xs.length ≤ i
theorem turn_enumT {P : Program} {w : World} {K : PySem.W.Frag} {elts : List Expr} {kk : Nat} {tpos : Pos} (a e it : Addr) :
    Turn P w K (.Tuple elts kk tpos) (ItEnT K a) [e, it] e (fun i h => (∃ old, IsEnum h e it ((i : Nat) : Int) old) ∧ h.IsTupleIter it a i ∧ e ≠ it ∧ a ≠ it ∧ a ≠ e) where
  mem := by simp
  obj := by
    rintro i h ⟨⟨old, he⟩, ⟨o, ho, hc, hd⟩, _⟩ b hb
    rcases (show b = e ∨ b = it by simpa using hb) with rfl | rfl
    · exact ⟨_, he, fun v q => nomatch q⟩
    · exact ⟨o, ho, fun v q => by rw [hd] at q; cases q⟩
  keep := by
    rintro i h h' ⟨⟨old, he⟩, ⟨o, ho, r⟩, ne⟩ k
    exact ⟨⟨old, k e (by simp) _ he⟩, ⟨o, k it (by simp) o ho, r⟩, ne⟩
  item := by
    intro X hP hw hK hc i pins s σ H E I hf st hg
    subst hP hw hK
    obtain ⟨⟨old, he⟩, hit, hne, n1, n2⟩ := st
    obtain ⟨xs, x, hq, hx⟩ := hg
    obtain ⟨its, rv, p, hz⟩ := I.tuple hq
    obtain ⟨u, hu, ru⟩ := rv.get hx
    have hel : e < s.heap.objs.size := Heap.lt_size he
    have hil : it < s.heap.objs.size := let ⟨_, q, _⟩ := hit; Heap.lt_size q
    have hlt : i < its.toArray.size := by
      rcases Nat.lt_or_ge i its.length with z | z
      · simpa using z
      · rw [List.getElem?_eq_none z] at hu
        cases hu
    have hh : X.A.in1.handled = none := I.ok.hd hc
    refine wpAny_pyNext_enum_itemD (Draws.tuple hh it a n1 its.toArray) he ⟨hit, p⟩ hlt hne (by simp [hne, Ne.symm n2]) ?_
    intro y h1 tk hy ho hit1 hT hsz hk
    have ey : y = u := by
      have q : its.toArray[i]? = some u := by simpa using hu
      rw [hy] at q
      exact Option.some.inj q
    subst ey
    refine ⟨_, rfl, wpAny_letOwnedTupleGo_enum (s := { s with heap := h1, toks := tk + 1 }) ho ?_⟩
    intro h2 he2 sb
    have hT2 : h2.get? s.heap.objs.size = some { cls := .type "tuple", data := .seq #[.int i tk, y] } := (sb.2 _ (Nat.ne_of_gt hel)).trans hT
    have new : ObjOk X.prog X.w (upd H s.heap.objs.size (.tup [.int (i : Nat), x])) h2 s.heap.objs.size (.tup [.int (i : Nat), x]) :=
      ⟨by show 2 ≤ sizeLine; decide, [.int i tk, y], .cons ⟨_, rfl⟩ (.cons ru .nil), ⟨_, hT2, rfl, _, rfl⟩⟩
    have I1 : L2.Inv X pins σ (upd H s.heap.objs.size (.tup [.int (i : Nat), x])) { s with heap := h2, toks := tk + 1 } := by
      refine I.turnedNew (ch := [e, it]) ?_ hf (Nat.le_refl _) new
      intro b ob hb q
      have b1 : b ≠ e := fun z => hb (by simp [z])
      exact (sb.2 b b1).trans (hk b ob b1 (fun z => hb (by simp [z])) q)
    refine ⟨.ref s.heap.objs.size, _, I1, rfl, ⟨_, x, rfl, I.hok.fresh (Nat.le_refl _), rfl, ?_⟩, ⟨⟨y, ?_⟩, ?_, hne, n1, n2⟩, ?_⟩
    · intro ys hy
      rw [I.tuple_inj hy hq]
      exact hx
    · have e1 : ((i + 1 : Nat) : Int) = (i : Int) + 1 := by omega
      rw [e1]
      exact he2
    · obtain ⟨o, q, r⟩ := hit1.1
      exact ⟨o, (sb.2 it (Ne.symm hne)).trans q, r⟩
    · intro b hb
      have hb2 : b < s.heap.objs.size := by
        rcases (show b = e ∨ b = it by simpa using hb) with rfl | rfl
        · exact hel
        · exact hil
      rw [upd_ne (Nat.ne_of_lt hb2)]
      exact (hf b hb).1
  done := by
    intro X hP hw hK hc i pins s σ H E I hf st hg
    subst hP hw hK
    obtain ⟨⟨old, he⟩, hit, hne, n1, n2⟩ := st
    obtain ⟨xs, hq, hx⟩ := hg
    obtain ⟨its, rv, p, hz⟩ := I.tuple hq
    obtain ⟨f0, f1, f2, f3, f4, f5⟩ := hf it (by simp)
    have hh : X.A.in1.handled = none := I.ok.hd hc
    by_cases hi : i = its.toArray.size
    · subst hi
      refine wpAny_pyNext_enum_endD (Draws.tuple hh it a n1 its.toArray) he ⟨hit, p⟩ ?_
      intro h1 ex
      exact ⟨rfl, I.turned (t' := s.toks) (fun b o hb q => ex b o hb q) f0 f1 f3 f4 f5⟩
    · refine wpAny_bind (wpAny_attempt (wpAny_callSpecial?_slot (s := s) (name := Str.ofString "__next__") ⟨_, he, rfl⟩ F.slot_enumerate_next
        (wpAny_call_entry (s := s) F.slot_enumerate_next ⟨_, he, rfl⟩ F.entry_enumerate_next ?_ (F.args_enumerate_next_1 _))))
      show wpAny _ _ (field (Value.ref e) 2 >>= _) _ _ s
      refine wpAny_bind (wpAny_field (s := s) he rfl (x := .ref it) rfl ?_)
      refine wpAny_bind (wpAny_nextOf_tuple_end hh hit p (by simp; have := rv.length; omega) ?_)
      rintro h1 z ex ⟨o, ho, hcl⟩
      refine wpAny_bind (wpAny_isInstance (T := "StopIteration") (b := true) ⟨o, ho, hcl⟩ isSubtype_stop ?_)
      exact wpAny_pure ⟨rfl, I.turned (t' := s.toks) (fun b o hb q => ex b o hb q) f0 f1 f3 f4 f5⟩
  self := by
    rintro A i s Q E ⟨⟨_, he⟩, _⟩ h
    exact wpAny_pyIter_enum he h
def iEnumT (K : PySem.W.Frag) (ta : TA) : TI := fun σ H R => ta σ H fun vs H1 => ∃ a xs, vs = [.ref a] ∧ SqT K H1 a xs ∧ R (ItEnT K a) H1
/-- for i, x in enumerate(t), t a tuple -/
theorem pi_enumT {X : Cx} {e : Expr} {ta : TA} {p pos tpos : Pos} {elts : List Expr} {kk : Nat} (hg : Gl X "enumerate") (hm : X.mg "enumerate" = none) (ha : PA X [e] ta)
    (hs : starEach [e] X.env = [(false, eval e X.env)] := by rfl) : PI X (.Tuple elts kk tpos) (.Call (.Name "enumerate" p) [e] [] pos) (iEnumT X.K ta) := by
  constructor
  intro pins s σ H R I h
  refine Call_ (ld_blt I hg hm boot_enumerate (PyProof.Rows.callWith_type1 (thn (ha.run pos pins s σ H _ I h) ?_) hs rfl))
  rintro us s1 ⟨vs, H1, I1, r1, a, xs, rfl, hq, q⟩
  cases r1 with
  | cons r rr =>
    cases rr
    cases r
    obtain ⟨its, rv, pl, hz⟩ := I1.tuple hq
    refine call_enumT pl ?_
    intro h1 he hit hk
    refine wpAny_pyIter_enum he ?_
    have I2 : L2.Inv X pins σ H1 { s1 with heap := h1 } := I1.kept (t' := s1.toks) hk
    have al : a < s1.heap.objs.size := pl.lt
    refine ⟨s1.heap.objs.size + 1, [s1.heap.objs.size + 1, s1.heap.objs.size], _, _, H1, rfl, I2, turn_enumT a (s1.heap.objs.size + 1) s1.heap.objs.size,
      ⟨⟨.none, he⟩, hit, Nat.succ_ne_self _, Nat.ne_of_lt al, Nat.ne_of_lt (Nat.lt_succ_of_lt al)⟩, ?_, q⟩
    intro b hb
    have hle : s1.heap.objs.size ≤ b := by
      rcases (show b = s1.heap.objs.size + 1 ∨ b = s1.heap.objs.size by simpa using hb) with z | z
      · rw [z]
        exact Nat.le_succ _
      · rw [z]
        exact Nat.le_refl _
    exact I1.fpOk hle (I1.hok.fresh hle)
theorem walk_enumT {K : PySem.W.Frag} {a : Addr} {xs : List V} :
    Walk (ItEnT K a) xs.length (fun H => SqT K H a xs) (YPair (fun i => some (.int (i : Nat))) (fun i => xs[i]?)) where
  goes := fun i H hi h => ⟨xs, xs[i], h, by simp [hi]⟩
  stops := fun H h => ⟨xs, h, Nat.le_refl _⟩
  yields := by
    rintro i H v H' hi h ⟨T, x, rfl, hn, rfl, hx⟩
    exact ⟨T, _, x, rfl, hn, rfl, rfl, hx xs h⟩
end Par
namespace Par
open PySem PySem.Spec PyProof.Rows L2

section
variable {X : Cx} {CX : CXT} {k : Nat} {f : Addr} {fd : FuncData} {ps ks : List Str} {sp : Sp} {E : XK} {x : Str} {p pos : Pos} {kws : List Keyword} {tk : TA}
  {g : List Value → List Value → List Value} {gV : List V → List V → List V}
/-- f(k = v, ..), no positional argument -/
theorem pe_callN0 (F : FnOk X.prog X.w X.K X.mg X.base CX k f fd ps sp) (hr : Room k X.A) (hg : Gl X x) (hm : X.mg x = some (.ref f))
    (hk : PySem.W.keepIn X.K (.ref f) = true) (hb : KBn X.K fd ps 0 ks g gV) (hx : Passes CX X E) (hkw : PK X kws tk)
    (hall : (backToKw pos (keywordEach kws X.env)).all (·.1.isSome) = true := by rfl)
    (hks : (backToKw pos (keywordEach kws X.env)).filterMap (·.1) = ks := by rfl)
    (hdb : (x == ("__debug__" : Str)) = false := by decide)
    (hpl : ((backTo pos (starEach [] X.env)).any (·.1) || (backToKw pos (keywordEach kws X.env)).any (·.1.isNone)) = false := by rfl) :
    PE X (.Call (.Name x p) [] kws pos) (tCallN 0 ks.length sp gV E tNil tk) := by
  constructor
  intro pins s σ H Q I h
  refine wpAny_Call_Name_kw (ld_glob I hg hm ?_ hdb)
  refine PySem.W.callWith_KW0 (h₀ := X.base) I.ok.mod.kin hk hall ?_ hpl
  refine thn (hkw.run pos pins s σ H _ I h) ?_
  rintro ws s2 ⟨zs, H2, I2, rz, l1, l2, q2⟩
  refine ⟨I2.kIn, ?_⟩
  rw [hks]
  exact run_fnN F hr hb hx I2 .nil rz l1 l2 q2
end

/-! ### a new list whose place is not that of sys.modules -/
def tLstS (t : TA) : TE := fun σ H Q => t σ H fun xs H1 => xs.length ≤ sizeLine ∧ ∀ p, H1 p = none → p ≠ sysModules → Q (.ref p) (upd H1 p (.lst xs))
theorem new_ne_sys {X : Cx} {pins : List (Addr × Obj)} {σ : L2.St} {H : Hp} {s : Shared} (I : Inv X pins σ H s) : s.heap.objs.size ≠ sysModules := by
  obtain ⟨o, _, _, e, _⟩ := I.ok.mod.glob
  have h1 := Heap.lt_size (I.bk _ _ e)
  intro z
  rw [z] at h1
  exact absurd h1 (by decide)
theorem pe_lstS {X : Cx} {es : List Expr} {t : TA} {pos : Pos} (h : PA X es t) : PE X (.List es pos) (tLstS t) := by
  constructor
  intro pins s σ H Q I hq
  refine wpAny_List_spliced (thn (h.run pos pins s σ H _ I hq) ?_)
  rintro us s1 ⟨xs, H1, I1, r, z, q⟩
  refine ⟨by rw [← r.length]; exact z, ?_⟩
  have free : H1 s1.heap.objs.size = none := I1.hok.fresh (Nat.le_refl _)
  have lay := I1.laid (t' := s1.toks) (o := .lst xs) (h' := s1.heap.push { cls := .type "list", data := .seq us.toArray 0 })
    (fun b u e => Heap.get?_push_of_some _ e) (Nat.le_refl _) ⟨z, us, 0, r, Heap.get?_push_size _ rfl⟩
  exact ⟨V.ref s1.heap.objs.size, _, lay, rfl, q _ free (new_ne_sys I1)⟩

/-! ### repr -/
/-- a value that is no container, or a dict with keys and values that are none -/
inductive Fl (H : Hp) : V → PyData → Prop
  | non : Fl H .non .none
  | bl (b : Bool) : Fl H (.bl b) (.bool b)
  | int (i : Int) : Fl H (.int i) (.int i)
  | str (x : Str) : Fl H (.str x) (.str x)
  | dic0 {a : Addr} : H a = some (.dK []) → Fl H (.ref a) (.dict [])
  | dic1 {a : Addr} {i j : Int} : H a = some (.dK [(Sum.inl i, .int j)]) → Fl H (.ref a) (.dict [(.int i, .int j)])
inductive FlAll (H : Hp) : List V → List PyData → Prop
  | nil : FlAll H [] []
  | cons {v : V} {vs : List V} {d : PyData} {ds : List PyData} : Fl H v d → FlAll H vs ds → FlAll H (v :: vs) (d :: ds)
/-- what repr is asked of: data without a dict, a flat thing, a list of flat things -/
inductive Dx (K : PySem.W.Frag) (H : Hp) : V → PyData → Prop
  | dp {v : V} {d : PyData} : Dp K H v d → Dx K H v d
  | fl {v : V} {d : PyData} : Fl H v d → Dx K H v d
  | lst {a : Addr} {xs : List V} {ds : List PyData} : H a = some (.lst xs) → a ≠ sysModules → FlAll H xs ds → Dx K H (.ref a) (.list ds)

mutual
theorem dp_nodict {K : PySem.W.Frag} {H : Hp} : ∀ (d : PyData) (v : V), Dp K H v d → d.hasDict = false
  | .none, _, _ => rfl
  | .bool _, _, _ => rfl
  | .int _, _, _ => rfl
  | .str _, _, _ => rfl
  | .list ds, _, h => by
    cases h with
    | lst _ ha => exact dps_nodict ds _ ha
  | .tuple ds, _, h => by
    cases h with
    | tup _ ha => exact dps_nodict ds _ ha
  | .dict _, _, h => by cases h
theorem dps_nodict {K : PySem.W.Frag} {H : Hp} : ∀ (ds : List PyData) (vs : List V), DpAll K H vs ds → PyData.hasDictAll ds = false
  | [], _, _ => rfl
  | d :: ds, _, h => by
    cases h with
    | cons h1 h2 =>
      show (d.hasDict || PyData.hasDictAll ds) = false
      rw [dp_nodict d _ h1, dps_nodict ds _ h2]
      rfl
end

section
variable {X : Cx} {pins : List (Addr × Obj)} {σ : L2.St} {H : Hp} {s : Shared}
theorem fl_reads (I : Inv X pins σ H s) {v : V} {d : PyData} {u : Value} (h : Fl H v d) (r : RelV v u) : ∃ as, Reads s.heap u d as ∧ sysModules ∉ as := by
  cases h with
  | non =>
    cases r
    exact ⟨_, Reads.none, by simp⟩
  | bl b =>
    cases r
    exact ⟨_, Reads.bool b, by simp⟩
  | int i =>
    obtain ⟨t, rfl⟩ := r
    exact ⟨_, Reads.int i t, by simp⟩
  | str x =>
    obtain ⟨t, rfl⟩ := r
    exact ⟨_, Reads.str x t, by simp⟩
  | @dic0 a e =>
    cases r
    obtain ⟨_, ns, vs, kv, o, es, ep, ho, hx, hd, hk, hp, _⟩ := dk_of I.hok e
    cases kv
    have ne : sysModules ≠ a := fun z => by rw [← z] at ns; exact absurd ns (by decide)
    cases hes : es.toList with
    | cons e1 t1 => rw [hes] at hp; cases hp
    | nil =>
      refine ⟨_, Reads.dict (kvs := []) (as := []) (bs := []) ho hx.1 hd (by rw [hes]; exact ReadsAll.nil) (by rw [hes]; exact ReadsAll.nil), ?_⟩
      simpa using ne
  | @dic1 a i j e =>
    cases r
    obtain ⟨_, ns, vs, kv, o, es, ep, ho, hx, hd, hk, hp, _⟩ := dk_of I.hok e
    have ne : sysModules ≠ a := fun z => by rw [← z] at ns; exact absurd ns (by decide)
    cases kv with
    | @cons _ q _ _ k1 k2 =>
      cases k2
      obtain ⟨k, u⟩ := q
      obtain ⟨e1, t, e2⟩ := k1
      have e1' : Sum.inl i = k := e1
      have e2' : u = Value.int j t := e2
      subst e1' e2'
      cases hes : es.toList with
      | nil => rw [hes] at hp; cases hp
      | cons e1 t1 =>
        rw [hes] at hp
        cases hp with
        | cons p1 p3 p2 =>
          cases p2
          have p1' : keyIs (Sum.inl i) e1.key = true := p1
          rcases keyIs_shape p1' with ⟨i2, t2, w1, w2⟩ | ⟨x2, t2, w1, w2⟩
          · cases w1
            have p3' : e1.val = Value.int j t := p3
            refine ⟨_, Reads.dict (kvs := [(.int i, .int j)]) ho hx.1 hd (as := [] ++ []) (bs := [] ++ []) ?_ ?_, ?_⟩
            · rw [hes]
              show ReadsAll s.heap [e1.key] [PyData.int i] ([] ++ [])
              rw [w2]
              exact ReadsAll.cons (Reads.int i t2) ReadsAll.nil
            · rw [hes]
              show ReadsAll s.heap [e1.val] [PyData.int j] ([] ++ [])
              rw [p3']
              exact ReadsAll.cons (Reads.int j t) ReadsAll.nil
            · simpa using ne
          · cases w1
theorem flAll_reads (I : L2.Inv X pins σ H s) : ∀ {vs : List V} {ds : List PyData} {us : List Value}, FlAll H vs ds → Vals vs us → ∃ as, ReadsAll s.heap us ds as ∧ sysModules ∉ as
  | _, _, _, .nil, .nil => ⟨_, ReadsAll.nil, by simp⟩
  | _, _, _, .cons h1 h2, .cons r1 r2 => by
    obtain ⟨as, q1, n1⟩ := fl_reads I h1 r1
    obtain ⟨bs, q2, n2⟩ := flAll_reads I h2 r2
    refine ⟨_, ReadsAll.cons q1 q2, ?_⟩
    intro z
    rcases List.mem_append.mp z with z | z
    · exact n1 z
    · exact n2 z
theorem dx_reads (I : L2.Inv X pins σ H s) {v : V} {d : PyData} {u : Value} (h : Dx X.K H v d) (r : RelV v u) :
    ∃ as, Reads s.heap u d as ∧ (d.hasDict = true → sysModules ∉ as) := by
  cases h with
  | dp h =>
    obtain ⟨as, q⟩ := Dp.reads I d v u h r
    refine ⟨as, q, fun z => ?_⟩
    rw [dp_nodict d v h] at z
    cases z
  | fl h =>
    obtain ⟨as, q, n⟩ := fl_reads I h r
    exact ⟨as, q, fun _ => n⟩
  | @lst a xs ds e ne h =>
    cases r
    obtain ⟨its, rv, ⟨o, n, ho, hc, _, hd⟩, _⟩ := I.list (a := a) (xs := xs) (SqL.of e)
    obtain ⟨as, q, nn⟩ := flAll_reads I h rv
    refine ⟨_, Reads.list ho hc hd q, fun _ z => ?_⟩
    rcases List.mem_cons.mp z with z | z
    · exact ne z.symm
    · exact nn z
end

section
variable {X : Cx}
/-- repr(x) where the guards are none -/
theorem cr_repr (gs : X.A.guards = some []) (hu : X.A.units + 64 < cLine) : CallR X (.builtin "repr") (fun xs H Q => ∃ v d, xs = [v] ∧ Dx X.K H v d ∧
    d.showable = true ∧ d.depth ≤ 40 ∧ d.shown.length ≤ sizeLine ∧ Q (.str d.shown) H) := by
  intro pins s σ H xs us Q I r h
  obtain ⟨v, d, rfl, hd, sh, dep, len, q⟩ := h
  cases r with
  | @cons _ u _ _ r1 r2 =>
    cases r2
    obtain ⟨as, rd, ns⟩ := dx_reads I hd r1
    have fin : ∀ (h' : Heap) (tk u' : Nat), (∀ b o, s.heap.get? b = some o → h'.get? b = some o) → EP X pins σ Q (.str d.shown u') { s with heap := h', toks := tk } :=
      fun h' tk u' k => ⟨.str d.shown, H, I.un (t' := tk) (Un.kept k) (I.hok.kept k), ⟨_, rfl⟩, q⟩
    cases u with
    | ref a => exact repr_of_reads' rd sh ns gs (by omega) (fun _ _ z => z) (fun h' u tk k => fin h' tk u k) len
    | none => cases rd; exact PySem.P.repr_of_none (fin s.heap _ _ fun _ _ z => z)
    | bool b => cases rd; exact PySem.P.repr_of_bool (fin s.heap _ _ fun _ _ z => z)
    | int i t => cases rd; exact PySem.P.repr_of_int (by simpa [PyData.showable] using sh) (fin s.heap _ _ fun _ _ z => z)
    | str x t => cases rd; exact PySem.P.repr_of_str (fin s.heap _ _ fun _ _ z => z) len
    | _ => cases rd
end
end Par
namespace Par
open PySem PySem.Spec PyProof.Rows L2
/-! ### data stays data -/
theorem sqL_same {K : PySem.W.Frag} {H H' : Hp} {a : Addr} {xs : List V} (s : Same H H') (h : SqL K H a xs) : SqL K H' a xs := s.seq h
theorem sqT_same {K : PySem.W.Frag} {H H' : Hp} {a : Addr} {xs : List V} (s : Same H H') (h : SqT K H a xs) : SqT K H' a xs := by
  rcases h with (h | ⟨o, h⟩) | h
  · exact .inl (.inl (s _ _ h))
  · exact .inl (.inr ⟨o, s _ _ h⟩)
  · exact .inr h
mutual
theorem dp_same {K : PySem.W.Frag} {H H' : Hp} (s : Same H H') : ∀ (d : PyData) (v : V), Dp K H v d → Dp K H' v d
  | .none, _, h => by cases h; exact .non
  | .bool b, _, h => by cases h; exact .bl b
  | .int i, _, h => by cases h; exact .int i
  | .str x, _, h => by cases h; exact .str x
  | .list ds, _, h => by
    cases h with
    | lst q ha => exact .lst (sqL_same s q) (dps_same s ds _ ha)
  | .tuple ds, _, h => by
    cases h with
    | tup q ha => exact .tup (sqT_same s q) (dps_same s ds _ ha)
  | .dict _, _, h => by cases h
theorem dps_same {K : PySem.W.Frag} {H H' : Hp} (s : Same H H') : ∀ (ds : List PyData) (vs : List V), DpAll K H vs ds → DpAll K H' vs ds
  | [], _, h => by cases h; exact .nil
  | d :: ds, _, h => by
    cases h with
    | cons h1 h2 => exact .cons (dp_same s d _ h1) (dps_same s ds _ h2)
end
theorem fl_same {H H' : Hp} (s : Same H H') {v : V} {d : PyData} (h : Fl H v d) : Fl H' v d := by
  cases h with
  | non => exact .non
  | bl b => exact .bl b
  | int i => exact .int i
  | str x => exact .str x
  | dic0 e => exact .dic0 (s _ _ e)
  | dic1 e => exact .dic1 (s _ _ e)
/-- a thing that is handed in: flat, a dict, or a list or tuple of data -/
inductive Giv (K : PySem.W.Frag) (H : Hp) : V → PyData → Prop
  | fl {v : V} {d : PyData} : Fl H v d → Giv K H v d
  | lst {a : Addr} {xs : List V} {ds : List PyData} : H a = some (.lst xs) → DpAll K H xs ds → xs.length ≤ 200 → Giv K H (.ref a) (.list ds)
  | tup {a : Addr} {xs : List V} {ds : List PyData} : H a = some (.tup xs) → DpAll K H xs ds → xs.length ≤ 200 → Giv K H (.ref a) (.tuple ds)
theorem giv_same {K : PySem.W.Frag} {H H' : Hp} (s : Same H H') {v : V} {d : PyData} (h : Giv K H v d) : Giv K H' v d := by
  cases h with
  | fl f => exact .fl (fl_same s f)
  | lst e q l => exact .lst (s _ _ e) (dps_same s _ _ q) l
  | tup e q l => exact .tup (s _ _ e) (dps_same s _ _ q) l
theorem giv_dx {K : PySem.W.Frag} {H : Hp} {v : V} {d : PyData} (h : Giv K H v d) : Dx K H v d := by
  cases h with
  | fl f => exact .fl f
  | lst e q _ => exact .dp (.lst (SqL.of e) q)
  | tup e q _ => exact .dp (.tup (SqT.of e) q)
theorem dps_ints {K : PySem.W.Frag} {H : Hp} : ∀ ns : List Int, DpAll K H (ns.map V.int) (ns.map PyData.int)
  | [] => .nil
  | n :: ns => .cons (.int n) (dps_ints ns)
theorem dps_bools {K : PySem.W.Frag} {H : Hp} : ∀ bs : List Bool, DpAll K H (bs.map V.bl) (bs.map PyData.bool)
  | [] => .nil
  | n :: ns => .cons (.bl n) (dps_bools ns)
theorem dps_append {K : PySem.W.Frag} {H : Hp} : ∀ {xs ys : List V} {ds es : List PyData}, DpAll K H xs ds → DpAll K H ys es → DpAll K H (xs ++ ys) (ds ++ es)
  | _, _, _, _, .nil, h => h
  | _, _, _, _, .cons h1 h2, h => .cons h1 (dps_append h2 h)

/-! ### what is shown is short -/
def small (d : PyData) : Prop := d.showable = true ∧ d.depth ≤ 4 ∧ d.shown.length ≤ 200
def good (d : PyData) : Prop := d.showable = true ∧ d.depth ≤ 8 ∧ d.shown.length ≤ 200000
theorem log_lt {n k : Nat} (h : n < 2 ^ k) (hk : 0 < k) : n.log2 < k := by
  by_cases h0 : n = 0
  · subst h0
    exact hk
  · exact (Nat.log2_lt h0).mpr h
theorem small_int {i : Int} (h : i.natAbs < 2 ^ 100) : small (.int i) := by
  have h1 := log_lt h (by decide)
  refine ⟨?_, Nat.zero_le _, ?_⟩
  · show decide (i.natAbs.log2 < 1920) = true
    exact decide_eq_true (by omega)
  · show (Str.ofString (toString i)).length ≤ 200
    have h2 := int_text_length_le (a := i) (k := 100) (by decide) h1
    rw [PySem.ofString_length]
    omega
theorem small_bool (b : Bool) : small (.bool b) := by cases b <;> exact ⟨by decide, by decide, by decide +kernel⟩
theorem small_good {d : PyData} (h : small d) : good d := ⟨h.1, by have := h.2.1; omega, by have := h.2.2; omega⟩
theorem showAll {ds : List PyData} : (∀ d ∈ ds, d.showable = true) → PyData.showableAll ds = true := by
  induction ds with
  | nil => intro _; rfl
  | cons d ds ih =>
    intro h
    show (d.showable && PyData.showableAll ds) = true
    rw [h d (List.mem_cons_self ..), ih fun e he => h e (List.mem_cons_of_mem _ he)]
    rfl
theorem depthAll {ds : List PyData} {n : Nat} : (∀ d ∈ ds, d.depth ≤ n) → PyData.depthAll ds ≤ n := by
  induction ds with
  | nil => intro _; exact Nat.zero_le _
  | cons d ds ih =>
    intro h
    show max d.depth (PyData.depthAll ds) ≤ n
    have h1 := h d (List.mem_cons_self ..)
    have h2 := ih fun e he => h e (List.mem_cons_of_mem _ he)
    omega
theorem piledAll {ds : List PyData} {n : Nat} : (∀ d ∈ ds, d.shown.length ≤ n) → piled (PyData.shownAll ds) ≤ ds.length * (n + 2) := by
  induction ds with
  | nil => intro _; show 0 ≤ _; exact Nat.zero_le _
  | cons d ds ih =>
    intro h
    show piled (d.shown :: PyData.shownAll ds) ≤ _
    rw [piled_cons, List.length_cons, Nat.add_mul]
    have h1 := h d (List.mem_cons_self ..)
    have h2 := ih fun e he => h e (List.mem_cons_of_mem _ he)
    omega
theorem listText_le : ∀ ts : List Str, (listText ts).length ≤ piled ts + 2
  | [] => by
    rw [listText_nil]
    show Str.length (Str.ofString "[]") ≤ 2
    decide +kernel
  | t :: ts => by
    have h := textFrom_length_pos ts 1 (Str.ofString "[" ++ Str.ofString "" ++ t) (by decide)
    have e1 : (Str.ofString "[" ++ Str.ofString "" ++ t).length = 1 + t.length := by
      rw [strLen_append, strLen_append]
      rfl
    have e2 : (listText (t :: ts)).length = (textFrom 1 (Str.ofString "[" ++ Str.ofString "" ++ t) ts).length + 1 := strLen_append _ _
    rw [e2, h, e1, piled_cons]
    omega
theorem tupleText_le (ts : List Str) : (tupleText ts).length ≤ piled ts + 4 := by
  have e1 : (Str.ofString "(").length = 1 := by decide +kernel
  have e3 : (Str.ofString (if ts.length == 1 then ",)" else ")")).length ≤ 2 := by split <;> decide +kernel
  have e4 : (tupleText ts).length = (Str.ofString "(").length + (Str.join ", " ts).length + (Str.ofString (if ts.length == 1 then ",)" else ")")).length := by
    unfold tupleText
    rw [strLen_append, strLen_append]
  by_cases h : ts = []
  · subst h
    decide +kernel
  · have := join_length_add ts h
    omega
theorem good_list {ds : List PyData} (h : ∀ d ∈ ds, small d) (hl : ds.length ≤ 300) : good (.list ds) := by
  refine ⟨showAll fun d hd => (h d hd).1, ?_, ?_⟩
  · show PyData.depthAll ds + 1 ≤ 8
    have := depthAll (n := 4) fun d hd => (h d hd).2.1
    omega
  · show (listText (PyData.shownAll ds)).length ≤ 200000
    have h1 := listText_le (PyData.shownAll ds)
    have h2 := piledAll (n := 200) fun d hd => (h d hd).2.2
    have h3 : ds.length * (200 + 2) ≤ 300 * (200 + 2) := Nat.mul_le_mul_right _ hl
    omega
theorem good_tuple {ds : List PyData} (h : ∀ d ∈ ds, small d) (hl : ds.length ≤ 300) : good (.tuple ds) := by
  refine ⟨showAll fun d hd => (h d hd).1, ?_, ?_⟩
  · show PyData.depthAll ds + 1 ≤ 8
    have := depthAll (n := 4) fun d hd => (h d hd).2.1
    omega
  · show (tupleText (PyData.shownAll ds)).length ≤ 200000
    have h1 := tupleText_le (PyData.shownAll ds)
    have h2 := piledAll (n := 200) fun d hd => (h d hd).2.2
    have h3 : ds.length * (200 + 2) ≤ 300 * (200 + 2) := Nat.mul_le_mul_right _ hl
    omega
/-- a short list of good things can be shown -/
theorem shown_list {ds : List PyData} (h : ∀ d ∈ ds, good d) (hl : ds.length ≤ 8) : (PyData.list ds).showable = true ∧ (PyData.list ds).depth ≤ 40 ∧ (PyData.list ds).shown.length ≤ sizeLine := by
  refine ⟨showAll fun d hd => (h d hd).1, ?_, ?_⟩
  · show PyData.depthAll ds + 1 ≤ 40
    have := depthAll (n := 8) fun d hd => (h d hd).2.1
    omega
  · show (listText (PyData.shownAll ds)).length ≤ sizeLine
    have h1 := listText_le (PyData.shownAll ds)
    have h2 := piledAll (n := 200000) fun d hd => (h d hd).2.2
    have h3 : ds.length * (200000 + 2) ≤ 8 * (200000 + 2) := Nat.mul_le_mul_right _ hl
    rw [sizeLine_eq]
    omega
theorem shown_good {d : PyData} (h : good d) : d.showable = true ∧ d.depth ≤ 40 ∧ d.shown.length ≤ sizeLine := by
  obtain ⟨h1, h2, h3⟩ := h
  refine ⟨h1, by omega, ?_⟩
  rw [sizeLine_eq]
  omega
end Par
namespace Par
open PySem PySem.Spec PyProof.Rows L2
/-- a statement that is never reached -/
theorem ps_off {X : Cx} {st : Stmt} : PS X st (fun _ _ _ => False) := ⟨fun _ _ _ _ _ _ h => h.elim⟩
/-- o.m(k = v, ..) -/
def tMethK (C : Addr) (m : Str) (n : Nat) (sp : Sp) (gV : List V → List V → List V) (E : XK) (ta : TE) (tk : TA) : TE := fun σ H Q => ta σ H fun x H1 => ∃ a dx fs, x = .ref a ∧ H1 a = some (.ins C dx fs) ∧ fs.lookup m = none ∧
  tk σ H1 fun zs H2 => zs.length = n ∧ sp (gV [x] zs) H2 Q E
section
variable {X : Cx} {CX : CXT} {k : Nat} {f C : Addr} {fd : FuncData} {ps ks : List Str} {sp : Sp} {E : XK} {x m : Str} {p pos apos : Pos} {e o : Expr} {es : List Expr} {kws : List Keyword} {ta : TE} {t tk : TA}
  {g : List Value → List Value → List Value} {gV : List V → List V → List V}
theorem pe_methK {pl : Sem Bool} (he : PE X o ta) (c : Cls X.K C) (hm : Meth X.K C m f) (F : FnOk X.prog X.w X.K X.mg X.base CX k f fd ps sp) (hr : Room k X.A) (hb : KBn X.K fd ps 1 ks g gV) (hx : Passes CX X E) (hkw : PK X kws tk)
    (hall : (backToKw pos (keywordEach kws X.env)).all (·.1.isSome) = true := by rfl) (hks : (backToKw pos (keywordEach kws X.env)).filterMap (·.1) = ks := by rfl)
    (hpl : ((backTo pos (starEach [] X.env)).any (·.1) || (backToKw pos (keywordEach kws X.env)).any (·.1.isNone)) = false := by rfl)
    (ht : eval (.Call (.Attribute o m apos) [] kws pos) X.env = (do
      let ov ← eval o X.env
      standAt apos.atName
      let (f, first) ← holding [ov] (getMethod ov m pl)
      callWith pos f first (backTo pos (starEach [] X.env)) (backToKw pos (keywordEach kws X.env))) := by rfl) :
    PE X (.Call (.Attribute o m apos) [] kws pos) (tMethK C m ks.length sp gV E ta tk) := by
  refine ⟨fun pins s σ H Q I h => ?_⟩
  refine PySem.W.methodCall_KW (pl := pl) (thn (he.run pins s σ H _ I h) ?_) ht
  rintro u s1 ⟨x, H1, I1, rx, a, dx, fs, ex, ea, l, q⟩
  subst ex
  obtain rfl : u = Value.ref a := rx
  refine getmeth_ok I1 ea c hm l ?_
  refine PySem.W.callWith_KW0 (first := [.ref a]) (h₀ := X.base) I.ok.mod.kin hm.kp hall ?_ hpl
  refine thn (hkw.run pos pins s1 σ H1 _ I1 q) ?_
  rintro ws s2 ⟨zs, H2, I2, rz, l2, q2⟩
  refine ⟨I2.kIn, ?_⟩
  rw [hks]
  have r1 : Vals [V.ref a] ([.ref a] ++ []) := .cons rfl .nil
  refine wpAny_call (codeAny_mono (F.run X.A X.stack s2 H2 ⟨[.ref a] ++ [], ks.zip ws⟩ (g [.ref a] ws) (gV [.ref a] zs) Q E hr I2.env0
    (hb.to s2 [.ref a] ws I2.kIn rfl (rz.length.symm.trans l2)) (hb.rel r1 rz) q2) ?_)
  intro res s3 hq
  cases res with
  | error er => exact hx pins σ H2 s2 er s3 I2 hq
  | ok fl =>
    cases fl with
    | ret u => exact I2.after hq
    | next => exact False.elim hq
    | brk => exact False.elim hq
    | cont => exact False.elim hq
/-- len(o), o an own instance whose class has __len__ -/
theorem cr_lenOwn (c : PySem.W.findIn X.K (.ref C) "__len__" = some (some (.ref f))) (hf : PySem.W.isFn X.K (.ref f) = true) (F : FnOk X.prog X.w X.K X.mg X.base CX k f fd ps sp) (hr : Room (k + 1) X.A) (hb : Binds X.K fd ps []) (hx : Passes CX X E) :
    CallR X (.builtin "len") (fun vs H Q => ∃ a dx fs, vs = [.ref a] ∧ H a = some (.ins C dx fs) ∧ sp [.ref a] H (fun v H2 => ∃ n : Int, v = .int n ∧ 0 ≤ n ∧ n < 2 ^ 63 ∧ Q (.int n) H2) E) := by
  intro pins s σ H vs us Q I r h
  obtain ⟨a, dx, fs, rfl, ha, q⟩ := h
  rw [Vals.ref1 r]
  obtain ⟨mA, O, _⟩ := ins_get I.hok ha
  obtain ⟨od, J, hl⟩ := O.look
  refine Calls.call_function_entry kind_len plain_len entry_len (args_len1 _) ?_
  unfold Builtin.«len»
  refine wpAny_bind (m := oneArg "len" _) (wpAny_pure ?_)
  refine wpAny_bind (m := callSpecial? (.ref a) (Str.ofString "__len__")) (PySem.W.special_fn I.kIn J c (beq_iff_eq.mp hf) ?_)
  have hlen : ([Value.ref a] ++ []).length = ps.length := F.len _ _ _ _ q
  refine wpAny_call (codeAny_mono (F.run X.A.in1 X.stack s H ⟨[.ref a], []⟩ [.ref a] [.ref a] _ E hr.in1 I.env0.in1 (hb s [.ref a] I.kIn hlen) (.cons rfl .nil) q) ?_)
  intro res s3 hq
  cases res with
  | error er => exact hx pins σ H s er s3 I hq
  | ok fl =>
    cases fl with
    | next => exact False.elim hq
    | brk => exact False.elim hq
    | cont => exact False.elim hq
    | ret u =>
      obtain ⟨v, H3, I3, rv, n, rfl, n0, n1, q3⟩ := I.after hq
      obtain ⟨tk, rfl⟩ := rv
      refine wpAny_bind (wpAny_holding (wpAny_pure ?_))
      refine wpAny_bind (wpAny_letGo ?_)
      show wpAny _ _ (if n < 0 then _ else _) _ _ _
      rw [if_neg (by omega)]
      show wpAny _ _ (if n ≥ 2 ^ 63 then _ else _) _ _ _
      rw [if_neg (by omega)]
      exact wpAny_bind (wpAny_mkInt (wpAny_pure ⟨_, rfl, .int n, H3, I3.tok _, ⟨_, rfl⟩, q3⟩))
end
end Par
namespace K18
open PySem PySem.Spec PyProof.Rows L2 Par
def topS (i : Nat) : Stmt := PySem.Challenge.pw_paritycells_k18_errors_made.main.body.getD i (.Pass ⟨0, 0, 0, 0⟩)
abbrev sInteger : Stmt := topS 40
abbrev sBetween : Stmt := topS 41
abbrev sIsSize : Stmt := topS 44
abbrev sIsCell : Stmt := topS 45
abbrev sAre : Stmt := topS 46
abbrev sCells : Stmt := topS 47
abbrev sAdded : Stmt := topS 48
abbrev sPot : Stmt := topS 52
abbrev sDraw : Stmt := topS 53
abbrev sSpots : Stmt := topS 54
abbrev sLaw : Stmt := topS 68
abbrev slAnyThing : Stmt := topS 55
abbrev slBase : Stmt := topS 56
abbrev slFirstWords : Stmt := topS 57
abbrev slLastWords : Stmt := topS 58
abbrev slWords : Stmt := topS 59
abbrev slPart0 : Stmt := topS 60
abbrev slPart1 : Stmt := topS 61
abbrev slPart2 : Stmt := topS 62
abbrev slPart3 : Stmt := topS 63
abbrev slPart4 : Stmt := topS 64
abbrev slPart5 : Stmt := topS 65
abbrev slGiven : Stmt := topS 66
abbrev slAllRight : Stmt := topS 67
abbrev mInit : Stmt := inClass (topS 50) 0
abbrev mEq : Stmt := inClass (topS 50) 1
abbrev mLen : Stmt := inClass (topS 50) 2
abbrev mRepr : Stmt := inClass (topS 50) 3
abbrev mStr : Stmt := inClass (topS 50) 4
abbrev mSize : Stmt := inClass (topS 50) 5
abbrev mUps : Stmt := inClass (topS 50) 6
abbrev mIsUp : Stmt := inClass (topS 50) 7
abbrev mPar : Stmt := inClass (topS 50) 8
abbrev mTog : Stmt := inClass (topS 50) 9
abbrev sWIni : Stmt := inClass (topS 36) 0
/-- the built-in names that the module leaves alone -/
structure Bl (mg : Str → Option Value) : Prop where
  len : mg "len" = none
  abs : mg "abs" = none
  max : mg "max" = none
  min : mg "min" = none
  divmod : mg "divmod" = none
  list : mg "list" = none
  tuple : mg "tuple" = none
  range : mg "range" = none
  isinstance : mg "isinstance" = none
  bool : mg "bool" = none
  int : mg "int" = none
  sorted : mg "sorted" = none
  set : mg "set" = none
  all : mg "all" = none
  enumerate : mg "enumerate" = none
  repr : mg "repr" = none
  sum : mg "sum" = none

/-! ### the pot: two numbers that are not negative, the second one small -/
def PotAt (H : Hp) (p : Addr) : Prop := ∃ a b : Int, H p = some (.lst [.int a, .int b]) ∧ 0 ≤ a ∧ 0 ≤ b ∧ b < 2147483648
/-- all but what stands at p is as it was -/
def But (p : Addr) (H H' : Hp) : Prop := ∀ b o, b ≠ p → H b = some o → H' b = some o
theorem But.refl (p : Addr) (H : Hp) : But p H H := fun _ _ _ h => h
theorem But.trans {p : Addr} {H H1 H2 : Hp} (a : But p H H1) (b : But p H1 H2) : But p H H2 := fun c o n h => b c o n (a c o n h)
theorem But.upd {p : Addr} {H : Hp} (o : HO) : But p H (L2.upd H p o) := fun b u n h => by rw [upd_ne n]; exact h
theorem But.new {p q : Addr} {H : Hp} {o : HO} (n : H q = none) : But p H (L2.upd H q o) := fun b u _ h => by rw [upd_ne (ne_of_none h n)]; exact h
theorem But.same {p : Addr} {H H' : Hp} (h : Same H H') : But p H H' := fun b o _ e => h b o e
theorem PotAt.same {p : Addr} {H H' : Hp} (x : PotAt H p) (s : Same H H') : PotAt H' p := by
  obtain ⟨a, b, e, r⟩ := x
  exact ⟨a, b, s _ _ e, r⟩
theorem same_new {H : Hp} {q : Addr} {o : HO} (n : H q = none) : Same H (upd H q o) := fun b u h => by
  rw [upd_ne (ne_of_none h n)]
  exact h
theorem But.free {p q : Addr} {H H' : Hp} (h : But p H H') (x : PotAt H p) (n : H' q = none) (x' : PotAt H' p) : H q = none := by
  cases e : H q with
  | none => rfl
  | some o =>
    by_cases z : q = p
    · subst z
      obtain ⟨_, _, e', _⟩ := x'
      rw [n] at e'
      cases e'
    · rw [h q o z e] at n
      cases n

section
variable {P : Program} {w : World} {K : PySem.W.Frag} {mg : Str → Option Value} {base : Heap}

def spPot (K : PySem.W.Frag) : Sp := fun vs H Q _ => ∃ (a : Addr) (ns : List Int) (k : Nat), vs = [.ref a, .int (k : Int)] ∧ SqL K H a (ns.map V.int) ∧ k ≤ 1000 ∧
  ∀ p H', H p = none → Same H H' → PotAt H' p → Q (.ref p) H'
theorem scPot : FnScope ["_law_script", "_law_k", "_law_digits"] ["_law_script", "_law_k"] (defScope sPot) := ⟨rfl, rfl, rfl, by decide +kernel, rfl, by decide +kernel, by decide +kernel⟩
theorem ok_pot {f : Addr} {fd : FuncData} (F : Fun K "_law_pot" "_law_pot" sPot f fd) (B : Bl mg) : FnOk P w K mg base CX0 2 f fd ["_law_script", "_law_k"] (spPot K) := by
  refine F.ok scPot (fun vs H Q E h => ?_) (fun cdv A outer s H vs Q E hr h => ?_)
  · obtain ⟨a, ns, k, rfl, _⟩ := h
    rfl
  · obtain ⟨a, ns, k, rfl, hS, hk, out⟩ := h
    refine ⟨_, pss_cons (ps_set (i := 2) scPot.nd rfl (Or.inl rfl) (pe_ifExp (pt_cmpR op_lt (pv 1) (pe_callB call_len_seq (by rfl) B.len PySem.boot_len (pa_cons (pv 0) pa_nil)) (nomark _)) (pe_ix ix_list (pv 0) (pv 1) (fun _ _ => rfl)) pe_int))
      (pss_one (ps_ret (pe_lst (pa_cons
        (pe_callB (call_max2 rfl) (by rfl) B.max (by decide +kernel) (pa_cons pe_int (pa_cons (pe_op op_sub (pe_callB call_abs (by rfl) B.abs (by decide +kernel) (pa_cons (pv 2) pa_nil)) (pe_op op_pow pe_int pe_int)) pa_nil)))
        (pa_cons (pe_op op_mod (pe_op op_add (pe_op op_add (pe_op op_mul (pe_op op_mod (pe_callB call_abs (by rfl) B.abs (by decide +kernel) (pa_cons (pv 2) pa_nil)) pe_int) pe_int) (pe_op op_mul pe_int (pv 1))) pe_int) pe_int) pa_nil))))), ?_⟩
    have hm : ∀ d : Int, (0 : Int) ≤ (if d < 0 then -d else d) % 2147483587 ∧ (if d < 0 then -d else d) % 2147483587 < 2147483587 := fun d => ⟨Int.emod_nonneg _ (by decide), Int.emod_lt_of_pos _ (by decide)⟩
    have two : ∀ x : Int, 0 ≤ (if x > 0 then x else 0) := fun x => by split <;> omega
    have fin : ∀ d : Int, ∀ p, H p = none → Q (.ref p) (upd H p (.lst [.int (if (if d < 0 then -d else d) - 10 ^ 18 > 0 then (if d < 0 then -d else d) - 10 ^ 18 else 0),
        .int (((if d < 0 then -d else d) % 2147483587 * 48271 + 60013 * (k : Int) + 29) % 2147483647)])) := by
      intro d p hp
      refine out p _ hp (same_new hp) ⟨_, _, upd_same, two _, Int.emod_nonneg _ (by decide), ?_⟩
      have := Int.emod_lt_of_pos ((if d < 0 then -d else d) % 2147483587 * 48271 + 60013 * (k : Int) + 29) (b := 2147483647) (by decide)
      omega
    refine ⟨_, rfl, _, rfl, a, _, rfl, .inl hS, _, _, rfl, rfl, _, rfl, ?_⟩
    refine ite2 (fun hlt => ?_) (fun _ => ?_)
    · have hlt2 : (k : Int) < ((ns.map V.int).length : Int) := of_decide_eq_true hlt
      rw [List.length_map] at hlt2
      have hk2 : k < ns.length := by omega
      refine ⟨_, rfl, _, rfl, a, _, _, .int ns[k], rfl, rfl, hS, atI_nat (by simp [hk2]), ?_⟩
      refine ⟨_, rfl, _, rfl, 10, 18, rfl, rfl, ⟨by decide, by decide, by decide⟩, _, _, rfl, rfl, 0, _, rfl, ?_⟩
      refine ⟨_, rfl, _, rfl, _, _, rfl, rfl, (by show (0 : Int) < _; decide), _, _, rfl, rfl, .inl ⟨by have := hm ns[k]; omega, by have := hm ns[k]; omega⟩, _, rfl, 60013, _, rfl, rfl, .inl ⟨by decide, by decide⟩, _, _, rfl, rfl, _, _, rfl, rfl, _, _, rfl, rfl, (by show (0 : Int) < _; decide), ?_⟩
      exact ⟨(by show 2 ≤ sizeLine; decide), fin ns[k]⟩
    · refine ⟨_, rfl, _, rfl, 10, 18, rfl, rfl, ⟨by decide, by decide, by decide⟩, _, _, rfl, rfl, 0, _, rfl, ?_⟩
      refine ⟨_, rfl, _, rfl, _, _, rfl, rfl, (by show (0 : Int) < _; decide), _, _, rfl, rfl, .inl ⟨by have := hm 0; omega, by have := hm 0; omega⟩, _, rfl, 60013, _, rfl, rfl, .inl ⟨by decide, by decide⟩, _, _, rfl, rfl, _, _, rfl, rfl, _, _, rfl, rfl, (by show (0 : Int) < _; decide), ?_⟩
      exact ⟨(by show 2 ≤ sizeLine; decide), fin 0⟩

/-- one draw: a digit below many; the pot goes on -/
def spDraw : Sp := fun vs H Q _ => ∃ (p : Addr) (m : Int), vs = [.ref p, .int m] ∧ PotAt H p ∧ 0 < m ∧ m < 1073741824 ∧
  ∀ d H', 0 ≤ d → d < m → But p H H' → PotAt H' p → Q (.int d) H'
theorem scDraw : FnScope ["_law_pot_here", "_law_many", "_law_digit"] ["_law_pot_here", "_law_many"] (defScope sDraw) := ⟨rfl, rfl, rfl, by decide +kernel, rfl, by decide +kernel, by decide +kernel⟩
theorem ok_draw {f : Addr} {fd : FuncData} (F : Fun K "_law_draw" "_law_draw" sDraw f fd) (B : Bl mg) : FnOk P w K mg base CX0 2 f fd ["_law_pot_here", "_law_many"] spDraw := by
  refine F.ok scDraw (fun vs H Q E h => ?_) (fun cdv A outer s H vs Q E hr h => ?_)
  · obtain ⟨p, m, rfl, _⟩ := h
    rfl
  · obtain ⟨p, m, rfl, ⟨a, b, hp, ha, hb, hb2⟩, hm, hm2, out⟩ := h
    refine ⟨_, pss_cons (ps_if (pt_cmpR op_gt (pe_ix ix_list (pv 0) pe_int (fun _ _ => rfl)) pe_int (nomark _))
        (pss_cons (ps_asg (pe_callB call_divmod (by rfl) B.divmod (by decide +kernel) (pa_cons (pe_ix ix_list (pv 0) pe_int (fun _ _ => rfl)) (pa_cons (pv 1) pa_nil))) (pg_tup rfl (pgs_cons (pg_sub (pv 0) pe_int set_list) (pgs_cons (pg_name (i := 2) scDraw.nd rfl (Or.inl rfl)) pgs_nil))))
          (pss_one (ps_ret (pv 2)))) pss_nil)
      (pss_cons (ps_asg (pe_op op_mod (pe_op op_add (pe_op op_mul (pe_ix ix_list (pv 0) pe_int (fun _ _ => rfl)) pe_int) pe_int) pe_int) (pg_sub (pv 0) pe_int set_list))
      (pss_one (ps_ret (pe_op op_mod (pe_op op_fdiv (pe_op op_mod (pe_op op_mul (pe_ix ix_list (pv 0) pe_int (fun _ _ => rfl)) (pe_ix ix_list (pv 0) pe_int (fun _ _ => rfl))) pe_int) pe_int) (pv 1))))), ?_⟩
    have hL : SqL K H p [.int a, .int b] := SqL.of hp
    refine ⟨_, rfl, p, _, 0, .int a, rfl, rfl, hL, rfl, a, 0, rfl, rfl, _, rfl, ?_⟩
    refine ite2 (fun hpos => ?_) (fun hneg => ?_)
    · refine ⟨_, rfl, p, _, 0, .int a, rfl, rfl, hL, rfl, _, rfl, a, m, rfl, ⟨hm, hm2⟩, fun q hq => ?_⟩
      have hne : p ≠ q := ne_of_none hp hq
      have hT : SqT K (upd H q (.tup [.int (a / m), .int (a % m)])) q [.int (a / m), .int (a % m)] := SqT.of upd_same
      have hp2 : (upd H q (.tup [.int (a / m), .int (a % m)])) p = some (.lst [.int a, .int b]) := by
        rw [upd_ne hne]
        exact hp
      refine ⟨q, _, rfl, hT, rfl, _, _, rfl, _, rfl, p, _, 0, 0, rfl, rfl, hp2, rfl, _, _, rfl, rfl, _, rfl, ?_⟩
      exact out (a % m) _ (Int.emod_nonneg _ (by omega)) (Int.emod_lt_of_pos _ hm) ((But.new hq).trans (But.upd _)) ⟨a / m, b, upd_same, Int.ediv_nonneg ha (by omega), hb, hb2⟩
    · have h0 : (0 : Int) ≤ (b * 39373 + 12227) % 2147483629 := Int.emod_nonneg _ (by decide)
      have h1 : (b * 39373 + 12227) % 2147483629 < 2147483629 := Int.emod_lt_of_pos _ (by decide)
      refine ⟨_, rfl, p, _, 1, .int b, rfl, rfl, hL, rfl, b, 39373, rfl, rfl, .inl ⟨by omega, by omega⟩, _, _, rfl, rfl, _, _, rfl, rfl, (by show (0 : Int) < _; decide), _, rfl, p, _, 1, 1, rfl, rfl, hp, rfl, ?_⟩
      have hL2 : SqL K (upd H p (.lst [.int a, .int ((b * 39373 + 12227) % 2147483629)])) p [.int a, .int ((b * 39373 + 12227) % 2147483629)] := SqL.of upd_same
      refine ⟨_, rfl, p, _, 1, _, rfl, rfl, hL2, rfl, _, rfl, p, _, 1, _, rfl, rfl, hL2, rfl, _, _, rfl, rfl, .inl ⟨by omega, by omega⟩, _, _, rfl, rfl, (by show (0 : Int) < _; decide), _, _, rfl, rfl, ⟨by decide, by decide⟩, _, rfl, _, m, rfl, rfl, hm, ?_⟩
      exact out _ _ (Int.emod_nonneg _ (by omega)) (Int.emod_lt_of_pos _ hm) (But.upd _) ⟨a, _, upd_same, ha, h0, by omega⟩
end
end K18
/-! Rzc: an own exception is made by a call with keywords: type.__call__, BaseException.__new__, the own __init__. -/
namespace PySem
namespace Ekw
open PySem.W PySem.Calls PyProof.Rows PySem.HandSPX
section
variable {M : Model} {A : Around} {E : Value → Shared → Prop} {h : Heap} {g : Array GenState} {d : Drawn} {t : Nat} {os : OsState}
variable {nm q : Str} {C N : Addr} {bs bm bmB : List Value} {hdct : Bool} {sn : List Str} {sub : List Value} {ab : Bool} {col : Option Bool} {dd : Option Addr} {k0 k1 k2 k3 k5 : Option Value} {B newId initId : String}
theorem check_new_kw (F : ExcBaseFacts B newId initId bmB) (hT : ∀ X : String, bm.contains (.type X) = bmB.contains (.type X)) {rest : List Value} {kw : List (Str × Value)} {Q : Unit → Shared → Prop}
    (hC : h.get? C = some (excClassObj nm q C N bs bm hdct sn sub ab col dd k0 k1 k2 k3 k5 newId)) (hq : Q () ⟨h, g, d, t, os⟩) : wpAny M A (checkBuiltinCall newId ⟨.ref C :: rest, kw⟩) Q E ⟨h, g, d, t, os⟩ := by
  have hcont : (Value.ref C :: bm).contains (.type B) = true := by rw [List.contains_cons, hT, F.hasB, Bool.or_true]
  have hstar := F.noStar
  simp only [checkBuiltinCall, F.newKind, F.newSplit, F.newRow]
  repeat (first | refine wpAny_loadPart_at hC ?_ | (refine wpAny_isSubtype_exc hC ?_; rw [hcont]) | refine wpAny_staticBase_exc hC ?_ | refine wpAny_madeBy_exc hC ?_ | simp only [bne_self_eq_false, Bool.false_eq_true, if_false] | wp_step)
  exact hq
theorem check_type_kw {rest : List Value} {kw : List (Str × Value)} {Q : Unit → Shared → Prop} (hC : h.get? C = some (excClassObj nm q C N bs bm hdct sn sub ab col dd k0 k1 k2 k3 k5 newId))
    (hq : Q () ⟨h, g, d, t, os⟩) : wpAny M A (checkBuiltinCall "type.__call__" ⟨.ref C :: rest, kw⟩) Q E ⟨h, g, d, t, os⟩ := by
  have f3 := tc_sub
  have hT : (⟨h, g, d, t, os⟩ : Shared).TypeIs (.ref C) "type" := ⟨_, hC, rfl⟩
  simp only [checkBuiltinCall, tc_kind, tc_split]
  repeat (any_goals (first | assumption | with_reducible refine wpAny_loadPart_at hC ?_ | with_reducible refine wpAny_onRaise ?_ | with_reducible refine wpAny_map ?_ | wp_step))
end
section
variable {prog : Program} {w : World} {A : Around} {E : Value → Shared → Prop} {R : Result → Shared → Prop} {h : Heap} {g : Array GenState} {d : Drawn} {t : Nat} {os : OsState}
variable {nm q : Str} {C N : Addr} {bs bm bmB : List Value} {hdct : Bool} {sn : List Str} {sub : List Value} {ab : Bool} {col : Option Bool} {dd : Option Addr} {k0 k1 k2 k3 k5 : Option Value} {B newId initId : String}
theorem new_kw (F : ExcBaseFacts B newId initId bmB) (hT : ∀ X : String, bm.contains (.type X) = bmB.contains (.type X)) {rest : List Value} {kw : List (Str × Value)}
    (hC : h.get? C = some (excClassObj nm q C N bs bm hdct sn sub ab col dd k0 k1 k2 k3 k5 newId))
    (hq : R (.ok (.ret (.ref (h.objs.size + 1)))) ⟨(h.push { cls := .type "tuple", data := .seq rest.toArray }).push
      { cls := .ref C, data := .fields #[.ref h.objs.size, .none, .none, .none, .bool false, .none] }, g, d, t, os⟩) (hrest : rest.length ≤ sizeLine) :
    codeAny (model prog w) A (.builtin newId ⟨.ref C :: rest, kw⟩) R ⟨h, g, d, t, os⟩ := by
  have hends := F.ends
  have hcB : (Value.ref C :: bm).contains (.type B) = true := by rw [List.contains_cons, hT, F.hasB, Bool.or_true]
  have hcA : (Value.ref C :: bm).contains (.type "AttributeError") = false := by rw [List.contains_cons, hT, F.noAttr]; rfl
  have hcN : (Value.ref C :: bm).contains (.type "NameError") = false := by rw [List.contains_cons, hT, F.noName]; rfl
  refine codeAny_builtinAt F.entry ?_
  unfold Builtin.«BaseException.__new__»
  refine wpAt_bind ?_
  show wpAt _ _ _ (stack >>= _) _ _ _
  refine wpAt_bind (wpAt_stack fun p below => wpAt_of_wpAny ?_)
  wp_walk
  refine wpAt_of_wpAny ?_
  rw [F.owner]
  repeat (first | with_reducible refine wpAny_madeHere_exc F.canon hC ?_ | with_reducible refine wpAny_loadPart_at hC ?_ | (with_reducible refine wpAny_isSubtype_exc hC ?_; first | rw [hcB] | rw [hcA] | rw [hcN]) | wp_step)
  show R _ _
  rw [Heap.size_push]
  exact hq
theorem type_call_kw (F : ExcBaseFacts B newId initId bmB) (hT : ∀ X : String, bm.contains (.type X) = bmB.contains (.type X)) {rest : List Value} {kw : List (Str × Value)} {fI : Addr} {Q : Fin → Shared → Prop}
    (hC : h.get? C = some (excClassObj nm q C N bs bm hdct sn sub ab col dd k0 k1 k2 k3 k5 newId))
    (hi : W.Looks (model prog w) h (typeLookup (.ref C) "__init__") (some (.ref fI))) (hb : ∀ self, W.Looks (model prog w) h (bindSpecial (.ref fI) self) (.ref fI, [self])) (hrest : rest.length ≤ sizeLine)
    (hq : codeAny (model prog w) A (.call (.ref fI) ⟨.ref (h.objs.size + 1) :: rest, kw⟩)
      (fun r s' => match r with | .ok (.ret v) => v = .none ∧ Q (.done (.ret (.ref (h.objs.size + 1)))) s' | .ok _ => False | .error e => E e s')
      ⟨(h.push (W.kdv_tup rest)).push (excO C h.objs.size), g, d, t, os⟩) :
    wpAny (model prog w) A (Builtin.«type.__call__» ⟨.ref C :: rest, kw⟩) Q E ⟨h, g, d, t, os⟩ := by
  repeat (first | with_reducible refine wpAny_loadPart_at hC ?_ | with_reducible refine wpAny_madeBy_exc hC ?_ | wp_step)
  refine codeAny_call_builtin_code (Code.quiet_builtin _ F.quiet) (check_new_kw F hT hC ?_)
  refine new_kw F hT hC ?_ hrest
  show wpAny _ _ _ _ _ _
  have k : ∀ b o, h.get? b = some o → ((h.push (W.kdv_tup rest)).push (excO C h.objs.size)).get? b = some o := fun b o e => Heap.get?_push_of_some _ (Heap.get?_push_of_some _ e)
  have hC₁ := k _ _ hC
  have hget : ((h.push (W.kdv_tup rest)).push (excO C h.objs.size)).get? (h.objs.size + 1) = some (excO C h.objs.size) := by heap_get
  have hcC : (Value.ref C :: bm).contains (.ref C) = true := by simp
  have i1 := hi.keeps k
  have b1 := (hb (.ref (h.objs.size + 1))).keeps k
  unfold isInstance
  repeat (first | with_reducible refine wpAny_loadPart_at hget ?_ | (with_reducible refine wpAny_isSubtype_exc hC₁ ?_; rw [hcC]) | wp_step)
  show wpAny _ _ (typeLookup (.ref C) _) _ _ _
  refine i1.at ?_
  refine wpAny_holding (wpAny_bind (b1.at ?_))
  refine wpAny_bind (wpAny_call (codeAny_mono hq fun r s' z => ?_))
  rcases r with e | (v | _ | _ | _) <;> first | exact z | exact z.elim | skip
  obtain ⟨rfl, z⟩ := z
  first
    | exact wpAny_pure (wpAny_pure z)
    | (wp_walk; exact z)
theorem call_kw (F : ExcBaseFacts B newId initId bmB) (hT : ∀ X : String, bm.contains (.type X) = bmB.contains (.type X)) {rest : List Value} {kw : List (Str × Value)} {fI : Addr}
    (hC : h.get? C = some (excClassObj nm q C N bs bm hdct sn sub ab col dd k0 k1 k2 k3 k5 newId))
    (hi : W.Looks (model prog w) h (typeLookup (.ref C) "__init__") (some (.ref fI))) (hb : ∀ self, W.Looks (model prog w) h (bindSpecial (.ref fI) self) (.ref fI, [self])) (hrest : rest.length ≤ sizeLine)
    (hq : codeAny (model prog w) (A.under (.builtin "type.__call__" ⟨.ref C :: rest, kw⟩)) (.call (.ref fI) ⟨.ref (h.objs.size + 1) :: rest, kw⟩) (W.InitBack (h.objs.size + 1) R)
      ⟨(h.push (W.kdv_tup rest)).push (excO C h.objs.size), g, d, t, os⟩) :
    codeAny (model prog w) A (.call (.ref C) ⟨rest, kw⟩) R ⟨h, g, d, t, os⟩ := by
  have f1 := tc_lookup
  have f2 := tc_bind (.ref C)
  have hTy : (⟨h, g, d, t, os⟩ : Shared).TypeIs (.ref C) "type" := ⟨_, hC, rfl⟩
  refine codeAny_of_tree ?_
  show wpAny _ _ (callAny (.ref C) _) _ _ _
  repeat (any_goals (first | assumption | with_reducible refine wpAny_loadPart_at hC ?_ | wp_step))
  refine ⟨rfl, ?_⟩
  refine codeAny_call_builtin_at (Code.quiet_builtin _ (by decide +kernel)) entry_typeCall (check_type_kw hC (type_call_kw F hT hC hi hb hrest ?_))
  refine codeAny_mono hq fun r s' z => ?_
  rcases r with e | (v | _ | _ | _) <;> exact z
end
end Ekw
end PySem
namespace Par
open PySem PySem.Spec PyProof.Rows L2
/-- f(e, .., k = v, ..), what is raised wished for at the slots -/
def tCallNS (n m : Nat) (sp : Sp) (gV : List V → List V → List V) (E : L2.St → XK) (t tk : TA) : TE := fun σ H Q =>
  t σ H fun vs H1 => tk σ H1 fun zs H2 => vs.length = n ∧ zs.length = m ∧ sp (gV vs zs) H2 Q (E σ)
section
variable {X : Cx} {CX : CXT} {k n : Nat} {f : Addr} {fd : FuncData} {ps ks : List Str} {sp : Sp} {E : L2.St → XK} {x : Str} {p pos : Pos} {e : Expr} {es : List Expr} {kws : List Keyword} {t tk : TA}
  {g : List Value → List Value → List Value} {gV : List V → List V → List V}
theorem pe_callNS (F : FnOk X.prog X.w X.K X.mg X.base CX k f fd ps sp) (hr : Room k X.A) (hg : Gl X x) (hm : X.mg x = some (.ref f)) (hk : PySem.W.keepIn X.K (.ref f) = true)
    (hb : KBn X.K fd ps n ks g gV) (hx : ∀ σ, PassesAt CX X σ (E σ)) (ha : PA X (e :: es) t) (hkw : PK X kws tk)
    (hall : (backToKw pos (keywordEach kws X.env)).all (·.1.isSome) = true := by rfl)
    (hks : (backToKw pos (keywordEach kws X.env)).filterMap (·.1) = ks := by rfl)
    (hdb : (x == ("__debug__" : Str)) = false := by decide)
    (he : starEach (e :: es) X.env = (false, eval e X.env) :: starEach es X.env := by rfl)
    (hpl : ((backTo pos (starEach (e :: es) X.env)).any (·.1) || (backToKw pos (keywordEach kws X.env)).any (·.1.isNone)) = false := by rfl) :
    PE X (.Call (.Name x p) (e :: es) kws pos) (tCallNS n ks.length sp gV E t tk) := by
  constructor
  intro pins s σ H Q I h
  refine wpAny_Call_Name_kw (ld_glob I hg hm ?_ hdb)
  refine PySem.W.callWith_KW (h₀ := X.base) I.ok.mod.kin hk hall (thn (ha.run pos pins s σ H _ I h) ?_) hpl he
  rintro us s1 ⟨vs, H1, I1, r, q⟩
  refine thn (hkw.run pos pins s1 σ H1 _ I1 q) ?_
  rintro ws s2 ⟨zs, H2, I2, rz, l1, l2, q2⟩
  refine ⟨I2.kIn, ?_⟩
  rw [hks]
  refine wpAny_call (codeAny_mono (F.run X.A X.stack s2 H2 ⟨us, ks.zip ws⟩ (g us ws) (gV vs zs) Q (E σ) hr I2.env0
    (hb.to s2 us ws I2.kIn (r.length.symm.trans l1) (rz.length.symm.trans l2)) (hb.rel r rz) q2) ?_)
  intro res s3 hq
  cases res with
  | error er => exact hx σ pins H2 s2 er s3 I2 hq
  | ok fl =>
    cases fl with
    | ret u => exact I2.after hq
    | next => exact False.elim hq
    | brk => exact False.elim hq
    | cont => exact False.elim hq
end
section
variable {X : Cx} {a D : Addr} {oe : Obj} {cls : Value} {d : Option Addr} {pn : List (Addr × Obj)}
theorem held_inst {pins : List (Addr × Obj)} {σ : L2.St} {H : Hp} {s : Shared} {dd : Addr} {fs : List (Str × V)} (hz : Zc cls d oe) (hf : ∃ vs, oe.data = .fields vs)
    (I : L2.Inv (X.suite a ((a, oe) :: pn)) pins σ H s) (ec : cls = .ref D) (ed : d = some dd) (ea : H dd = some (.xd fs)) : ∃ od, PySem.W.InstAt s.heap a oe D (some od) := by
  subst ec ed
  have ha := (I.pin (a, oe) (List.mem_append_left _ List.mem_cons_self)).1
  obtain ⟨vs, hd⟩ := hf
  obtain ⟨mA, hns, hr⟩ := (show ObjOk X.prog X.w H s.heap dd (.xd fs) from I.hok dd _ ea)
  obtain ⟨od, ho, hl⟩ := lookIn_ns hns
  exact ⟨od, ha, hz.1, by unfold PySem.W.notCls; rw [hd] <;> rfl, by rw [hz.2]; exact ho⟩
theorem kit_held (C : ExcC X.K D) {od : Option Obj} : PySem.W.KitX X.K (.ref a) (.ref D) (fun h => PySem.W.InstAt h a oe D od) := by
  refine PySem.W.kitx_exc ?_ C.hg C.hk C.hs C.ha C.hn C.ht C.hm
  obtain ⟨cd, hc, _⟩ := PySem.W.any_some C.hd
  rw [hc]
  rfl
/-- isinstance(e, c), e the error that the suite holds, with its own dict -/
theorem call_isX (C : ExcC X.K D) (hz : Zc cls d oe) (hf : ∃ vs, oe.data = .fields vs) : CallR (X.suite a ((a, oe) :: pn)) (.builtin "isinstance")
    (fun xs H Q => ∃ (c : V) (u : Value) (b : Bool) (dd : Addr) (fs : List (Str × V)), xs = [.ref a, c] ∧ cls = .ref D ∧ d = some dd ∧ H dd = some (.xd fs) ∧ ClsV c u ∧ PySem.W.kitOne X.K (.ref D) u = some b ∧ Q (.bl b) H) := by
  intro pins s σ H xs us Q I r h
  obtain ⟨c, u, b, dd, fs, rfl, ec, ed, ea, k, e, q⟩ := h
  obtain ⟨u1, u2, rfl, r1, r2⟩ := vals2 r
  cases (show u1 = Value.ref a from r1)
  have e2 := k.eq r2
  subst e2
  obtain ⟨od, J⟩ := held_inst hz hf I ec ed ea
  exact PySem.W.kia_one (kit_held C) I.kIn J e (fun z => nomatch z) fun tk => ⟨.bl b, H, I.tok tk, rfl, q⟩
theorem call_isXT (C : ExcC X.K D) (hz : Zc cls d oe) (hf : ∃ vs, oe.data = .fields vs) : CallR (X.suite a ((a, oe) :: pn)) (.builtin "isinstance")
    (fun xs H Q => ∃ (tp : Addr) (cs : List V) (ws : List Value) (b : Bool) (dd : Addr) (fs : List (Str × V)), xs = [.ref a, .ref tp] ∧ H tp = some (.tup cs) ∧ Paired ClsV cs ws ∧ cls = .ref D ∧ d = some dd ∧ H dd = some (.xd fs) ∧
      PySem.W.kitAny X.K (.ref D) ws = some b ∧ Q (.bl b) H) := by
  intro pins s σ H xs us Q I r h
  obtain ⟨tp, cs, ws, b, dd, fs, rfl, hT, k, ec, ed, ea, e, q⟩ := h
  obtain ⟨u1, u2, rfl, r1, r2⟩ := vals2 r
  cases (show u1 = Value.ref a from r1)
  cases (show u2 = Value.ref tp from r2)
  obtain ⟨od, J⟩ := held_inst hz hf I ec ed ea
  obtain ⟨_, its, rv, o, h1, h2, n, h3⟩ := (show ObjOk X.prog X.w H s.heap tp (.tup cs) from I.hok tp _ hT)
  have e3 := ClsV.all k rv
  subst e3
  obtain ⟨oc, ood, dt, sl⟩ := o
  simp only at h2 h3
  subst h2 h3
  exact PySem.W.kia_tup (kit_held C) I.kIn J h1 e (fun z => nomatch z) fun tk => ⟨.bl b, H, I.tok tk, rfl, q⟩
end
end Par
namespace Par
open PySem PySem.Spec PyProof.Rows L2
section
variable {P : Program} {w : World} {A : Around} {E : Value → Shared → Prop} {s : Shared} {a : Addr} {S : Int → Bool} {n : Nat}
/-- how many members a set has -/
theorem SetR.count (R : SetR w s.heap a S n) {L : List Int} (hn : L.Nodup) (hm : ∀ k, k ∈ L ↔ S k = true) : n = L.length := by
  obtain ⟨o, es, ep, t, ho, hx, hd, g, nd, hs, hb, hf, hz, hr, hl⟩ := R
  have h1 := nodup_le nd (fun k hk => (hm k).mpr ((hs k).2 hk))
  have h2 := nodup_le hn (fun k hk => (hs k).1 ((hm k).mp hk))
  have h3 : (es.toList.map keyOf).length = n := by rw [List.length_map, Array.length_toList, hz]
  rw [h3] at h1 h2
  omega
theorem both_one {q : Addr} {T : Int → Bool} {nq : Nat} {k : Int} {tk : Tok} {Q : Unit → Shared → Prop} (Rq : SetR w s.heap q T nq) (R : SetR w s.heap a S n) (room : n + 1 < scanBound)
    (hQ : ∀ h' m, m ≤ n + 1 → Heap.SameBut a s.heap h' → SetR w h' a (fun j => S j || (T j && decide (j = k))) m → Q () { s with heap := h' }) :
    wpAny (model P w) A (holding [.int k tk] (do
      if (← setFind q (.int k tk) ((intKind P w).hash k)).isSome then
        let _ ← setAddHashed a (.int k tk) ((intKind P w).hash k))) Q E s := by
  refine wpAny_holding (wpAny_bind (wpAny_setFind_of (knd := intKind P w) (intKind_is P w k tk) rfl Rq.setOf fun r hr => ?_))
  cases hT : T k with
  | true =>
    rw [hT] at hr
    refine wp_if_pos hr ?_
    refine wpAny_bind (setR_add_hashed R room fun h2 sb2 R2 => ?_)
    refine wpAny_pure (hQ h2 _ (by split <;> omega) sb2 (R2.congr fun j => ?_))
    by_cases e : j = k
    · subst e
      rw [hT]
      simp
    · simp [e]
  | false =>
    rw [hT] at hr
    refine wp_if_neg (by rw [hr]; exact Bool.false_ne_true) ?_
    refine wpAny_pure (hQ s.heap n (by omega) (Heap.SameBut.refl a s.heap) (R.congr fun j => ?_))
    by_cases e : j = k
    · subst e
      rw [hT]
      simp
    · simp [e]
theorem both_all {body : Int × Value → PUnit → Sem (ForInStep PUnit)} {o q : Addr} {oo : Obj} {T : Int → Bool} {nq : Nat} (hne : o ≠ a) (hnq : q ≠ a)
    (hb : ∀ (e : Int × Value) (s : Shared) (S : Int → Bool) (n : Nat) (Q : ForInStep PUnit → Shared → Prop), GoodE e → s.heap.get? o = some oo → SetR w s.heap q T nq → SetR w s.heap a S n → n + 1 < scanBound →
      (∀ h' m, m ≤ n + 1 → Heap.SameBut a s.heap h' → SetR w h' a (fun j => S j || (T j && decide (j = keyOf e))) m → Q (.yield ⟨⟩) { s with heap := h' }) → wpAny (model P w) A (body e ⟨⟩) Q E s) :
    ∀ (l : List (Int × Value)) (s : Shared) (S : Int → Bool) (n : Nat) (Q : PUnit → Shared → Prop), (∀ e ∈ l, GoodE e) → s.heap.get? o = some oo → SetR w s.heap q T nq → SetR w s.heap a S n → n + l.length + 1 < scanBound →
      (∀ h' m, Heap.SameBut a s.heap h' → SetR w h' a (fun j => S j || (T j && decide (j ∈ l.map keyOf))) m → Q ⟨⟩ { s with heap := h' }) → wpAny (model P w) A (forIn l ⟨⟩ body) Q E s
  | [], s, S, n, Q, _, _, _, R, _, hQ => by
    rw [List.forIn_nil]
    exact wpAny_pure (hQ s.heap n (Heap.SameBut.refl a s.heap) (R.congr fun j => by simp))
  | e :: l, s, S, n, Q, g, Ro, Rq, R, room, hQ => by
    rw [List.forIn_cons]
    simp only [List.length_cons] at room
    refine wpAny_bind (hb e s S n _ (g e (List.mem_cons_self ..)) Ro Rq R (by omega) fun h1 m hm sb1 R1 => ?_)
    refine both_all hne hnq hb l { s with heap := h1 } _ m Q (fun x hx => g x (List.mem_cons_of_mem _ hx)) ((sb1.2 o hne).trans Ro) (Rq.at fun u e' => (sb1.2 q hnq).trans e') R1 (by omega) fun h2 m2 sb2 R2 => ?_
    refine hQ h2 m2 (sb1.trans sb2) (R2.congr fun j => ?_)
    show (S j || (T j && decide (j ∈ keyOf e :: l.map keyOf))) = ((S j || (T j && decide (j = keyOf e))) || (T j && decide (j ∈ l.map keyOf)))
    have hd : decide (j ∈ keyOf e :: l.map keyOf) = (decide (j = keyOf e) || decide (j ∈ l.map keyOf)) := by
      rw [Bool.eq_iff_iff]
      simp only [decide_eq_true_eq, Bool.or_eq_true, List.mem_cons]
    rw [hd]
    cases S j <;> cases T j <;> simp
theorem call_and {b : Addr} {T : Int → Bool} {m : Nat} {Q : Value → Shared → Prop} (Ra : SetR w s.heap a S n) (Rb : SetR w s.heap b T m) (nab : a ≠ b) (hS : ∀ k, S k = true → Cell k) (hT : ∀ k, T k = true → Cell k)
    (hQ : ∀ h' c, (∀ x u, s.heap.get? x = some u → h'.get? x = some u) → SetR w h' s.heap.objs.size (fun k => S k && T k) c → Q (.ref s.heap.objs.size) { s with heap := h' }) :
    wpAny (model P w) A (call (.builtin "set.__and__") [.ref a, .ref b]) Q E s := by
  have ta : s.TypeIs (.ref a) "set" := set_typ Ra
  have tb : s.TypeIs (.ref b) "set" := set_typ Rb
  have la := Ra.lt
  have lb := Rb.lt
  have n40 : n ≤ 40 := SetR.few Ra hS
  have m40 : m ≤ 40 := SetR.few Rb hT
  refine wpAny_call_entry F.slot_set_and ta entry_set_and ?_ (F.args_set_and_2 _ _)
  unfold Builtin.«frozenset.__and__»
  show wpAny _ _ (do
    let (self, other) ← Builtin.Frozenset.slot1 "__and__" ⟨[.ref a, .ref b], []⟩
    let (l, r) := if false = true then (other, self) else (self, other)
    if !(← Builtin.Frozenset.isAnySet l <&&> Builtin.Frozenset.isAnySet r) then rule s!"frozenset.{"__and__"}.declined"; return ← ret .notImplemented
    ret (← Builtin.Frozenset.intersection s!"frozenset.{"__and__"}" (← Builtin.Frozenset.addrOf l) r)) _ _ s
  refine wpAny_bind (wpAny_of_eq (a := (Value.ref a, Value.ref b)) (by rfl) ?_)
  dsimp only
  rw [if_neg Bool.false_ne_true]
  dsimp only
  refine wpAny_bind (wpAny_bind (any_set ta ?_))
  show wpAny _ _ (Builtin.Frozenset.isAnySet (.ref b)) _ _ s
  refine any_set tb ?_
  refine wp_if_neg (by simp) ?_
  refine wpAny_bind (m := Builtin.Frozenset.addrOf (.ref a)) (wpAny_pure ?_)
  refine wpAny_bind ?_
  unfold Builtin.Frozenset.intersection
  refine wp_if_neg (by simpa using Ne.symm nab) ?_
  try refine wpAny_bind (wpAny_pure ?_)
  refine wpAny_bind (base_set ta ?_)
  refine wpAny_bind (new_set ?_)
  have fr := setR_fresh (h := s.heap) w
  generalize hr : s.heap.objs.size = r at *
  generalize hg : s.heap.push { cls := .type "set", dict := none, data := .set #[] 0 (.fresh 0 0 (!w.params.followText "set-order")) } = g at *
  have keep : ∀ x u, s.heap.get? x = some u → g.get? x = some u := fun x u e => by
    rw [← hg]
    exact Heap.get?_push_of_some _ e
  have Ra1 : SetR w g a S n := Ra.at fun u e => keep a u e
  have Rb1 : SetR w g b T m := Rb.at fun u e => keep b u e
  have hra : a ≠ r := Nat.ne_of_lt la
  have hrb : b ≠ r := Nat.ne_of_lt lb
  refine wpAny_bind (m := Builtin.Frozenset.addrOf (.ref r)) (wpAny_pure ?_)
  refine wpAny_bind (wpAny_holding ?_)
  refine wpAny_bind (any_set (s := { s with heap := g }) (set_typ Rb1) ?_)
  refine wp_if_pos rfl ?_
  refine wpAny_bind (m := Builtin.Frozenset.addrOf (.ref b)) (wpAny_pure ?_)
  obtain ⟨oa, esa, epa, ta2, hoa, hxa, hda, _, _, _, _, hfa, hna, _⟩ := id Ra1
  obtain ⟨ob, esb, epb, tb2, hob, hxb, hdb, _, _, _, _, hfb, hnb, _⟩ := id Rb1
  refine wpAny_bind (m := Builtin.Frozenset.sizeOf b) ?_
  unfold Builtin.Frozenset.sizeOf
  refine wpAny_bind (wpAny_setEntries_of hob hdb hfb (wpAny_pure ?_))
  refine wpAny_bind (m := do return (← setEntries a).size) ?_
  refine wpAny_bind (wpAny_setEntries_of hoa hda hfa (wpAny_pure ?_))
  by_cases hc : esb.size > esa.size
  all_goals first | rw [if_pos hc] | rw [if_neg hc]
  · dsimp only
    refine wpAny_bind (wpAny_setEpoch_of hoa hda hfa ?_)
    refine wpAny_bind (walk_unseen (s := { s with heap := g }) (f := r) Ra1 (fun x hx => by
      rcases List.mem_cons.mp hx with z | z
      · rw [z]
        exact ⟨_, _, Rb1⟩
      · rw [List.mem_singleton.mp z]
        exact ⟨_, _, fr⟩) fr fun l h2 sb2 R2 gl => ?_)
    obtain ⟨gl1, gl2, gl3, gl4⟩ := gl
    rw [← Array.forIn_toList]
    refine wpAny_bind (both_all (a := r) (o := a) (q := b) (oo := oa) hra hrb ?_ l.toList { s with heap := h2 } (fun _ => false) 0 _ gl1 ((sb2.2 a hra).trans hoa) (Rb1.at fun u e => (sb2.2 b hrb).trans e) R2 (by rw [Array.length_toList, gl4]; unfold scanBound; omega) fun h3 c sb3 R3 => ?_)
    · intro e s0 S0 n0 Q0 ge ho0 Rq0 R0 room q0
      obtain ⟨k, tk, e1, e2⟩ := ge
      obtain ⟨eh, ev⟩ := e
      dsimp only at e1 e2
      subst e1
      subst e2
      refine wpAny_bind (both_one Rq0 R0 room fun h' m' hm' sb' R' => ?_)
      refine wpAny_bind ?_
      unfold Builtin.Frozenset.unchanged
      refine wpAny_bind (wpAny_setEpoch_of ((sb'.2 a hra).trans ho0) hda hfa ?_)
      refine wp_if_neg (by simp) ?_
      exact wpAny_pure (wpAny_pure (q0 h' m' hm' sb' R'))
    refine wpAny_pure (wpAny_pure (wpAny_pure ⟨_, rfl, ?_⟩))
    have Rf : SetR w h3 r (fun k => S k && T k) c := R3.congr fun k => by
      have : S k = decide (k ∈ l.toList.map keyOf) := by
        cases h : S k with
        | true => rw [decide_eq_true ((gl3 k).1 h)]
        | false =>
          have : k ∉ l.toList.map keyOf := fun z => by
            have := (gl3 k).2 z
            rw [h] at this
            cases this
          rw [decide_eq_false this]
      rw [this]
      show _ = (false || _)
      rw [Bool.false_or]
      exact Bool.and_comm _ _
    refine hQ h3 c (fun x u e => ?_) Rf
    have hxr : x ≠ r := by
      rw [← hr]
      exact Nat.ne_of_lt (Heap.lt_size e)
    exact (sb3.2 x hxr).trans ((sb2.2 x hxr).trans (keep x u e))
  · dsimp only
    refine wpAny_bind (wpAny_setEpoch_of hob hdb hfb ?_)
    refine wpAny_bind (walk_unseen (s := { s with heap := g }) (f := r) Rb1 (fun x hx => by
      rcases List.mem_cons.mp hx with z | z
      · rw [z]
        exact ⟨_, _, Ra1⟩
      · rw [List.mem_singleton.mp z]
        exact ⟨_, _, fr⟩) fr fun l h2 sb2 R2 gl => ?_)
    obtain ⟨gl1, gl2, gl3, gl4⟩ := gl
    rw [← Array.forIn_toList]
    refine wpAny_bind (both_all (a := r) (o := b) (q := a) (oo := ob) hrb hra ?_ l.toList { s with heap := h2 } (fun _ => false) 0 _ gl1 ((sb2.2 b hrb).trans hob) (Ra1.at fun u e => (sb2.2 a hra).trans e) R2 (by rw [Array.length_toList, gl4]; unfold scanBound; omega) fun h3 c sb3 R3 => ?_)
    · intro e s0 S0 n0 Q0 ge ho0 Rq0 R0 room q0
      obtain ⟨k, tk, e1, e2⟩ := ge
      obtain ⟨eh, ev⟩ := e
      dsimp only at e1 e2
      subst e1
      subst e2
      refine wpAny_bind (both_one Rq0 R0 room fun h' m' hm' sb' R' => ?_)
      refine wpAny_bind ?_
      unfold Builtin.Frozenset.unchanged
      refine wpAny_bind (wpAny_setEpoch_of ((sb'.2 b hrb).trans ho0) hdb hfb ?_)
      refine wp_if_neg (by simp) ?_
      exact wpAny_pure (wpAny_pure (q0 h' m' hm' sb' R'))
    refine wpAny_pure (wpAny_pure (wpAny_pure ⟨_, rfl, ?_⟩))
    have Rf : SetR w h3 r (fun k => S k && T k) c := R3.congr fun k => by
      have : T k = decide (k ∈ l.toList.map keyOf) := by
        cases h : T k with
        | true => rw [decide_eq_true ((gl3 k).1 h)]
        | false =>
          have : k ∉ l.toList.map keyOf := fun z => by
            have := (gl3 k).2 z
            rw [h] at this
            cases this
          rw [decide_eq_false this]
      rw [this]
      show _ = (false || _)
      rw [Bool.false_or]
      skip
    refine hQ h3 c (fun x u e => ?_) Rf
    have hxr : x ≠ r := by
      rw [← hr]
      exact Nat.ne_of_lt (Heap.lt_size e)
    exact (sb3.2 x hxr).trans ((sb2.2 x hxr).trans (keep x u e))
/-- len of a set -/
theorem cr_lenSet {X : Cx} : CallR X (.builtin "len") (fun vs H Q => ∃ (a : Addr) (S : Int → Bool) (n : Nat), vs = [.ref a] ∧ H a = some (SetO X.w a S n) ∧ n ≤ 4000 ∧ Q (.int (n : Nat)) H) := by
  intro pins s σ H vs us Q I r h
  obtain ⟨a, S, n, rfl, ha, hn, q⟩ := h
  rw [Vals.ref1 r]
  obtain ⟨o, es, ep, t, ho, hex, hd, _, _, _, _, hf, hz, _, _⟩ := setO_get I ha
  exact call_len_set ho hex hd hf (by rw [hz]; omega) ⟨.int (n : Nat), H, I.tok _, ⟨_, by rw [hz]⟩, q⟩
/-- one & other, sets of cells -/
def rAnd (w : World) : V → V → Hp → VK → Prop := fun x y H Q => ∃ (a b : Addr) (S T : Int → Bool) (n m : Nat), x = V.ref a ∧ y = V.ref b ∧ a ≠ b ∧ H a = some (SetO w a S n) ∧ H b = some (SetO w b T m) ∧
  (∀ k, S k = true → Cell k) ∧ (∀ k, T k = true → Cell k) ∧ ∀ p c, H p = none → (∀ L : List Int, L.Nodup → (∀ k, k ∈ L ↔ (S k && T k) = true) → c = L.length) → Q (.ref p) (upd H p (SetO w p (fun k => S k && T k) c))
theorem op_andS {X : Cx} : OpR X (binaryOp .BitAnd) (rAnd X.w) := by
  intro pins s σ H x y v u Q I rx ry h
  obtain ⟨a, b, S, T, n, m, rfl, rfl, nab, ha, hb, hS, hT, q⟩ := h
  cases rx
  cases ry
  have Ra := setO_get I ha
  have Rb := setO_get I hb
  refine wpAny_binaryOp_same (op := .BitAnd) (T := "set") (set_typ Ra) (set_typ Rb) F.fills_set_and F.slot_set_and ?_
  refine call_and Ra Rb nab hS hT fun h' c k R => ⟨by simp, ?_⟩
  exact ⟨.ref _, _, I.laid (t' := s.toks) k (Nat.le_refl _) (setO_new R), rfl, q _ c (I.hok.fresh (Nat.le_refl _)) fun L hn hm => SetR.count (s := { s with heap := h' }) R hn hm⟩
end
end Par
namespace Par
open PySem PySem.Spec PyProof.Rows L2
/-! ### max(t, default = d), t a tuple of ints -/
/-- M is the greatest of the first i numbers -/
def Top (val : Nat → Int) (i : Nat) (M : Int) : Prop := (∃ j, j < i ∧ val j = M) ∧ ∀ j, j < i → val j ≤ M
def Cur (val : Nat → Int) (i : Nat) : Option Value → Prop
  | none => i = 0
  | some v => ∃ M t, v = .int M t ∧ Top val i M
def pair2 : Option Value → Array Value
  | none => #[]
  | some v => #[v, v]
section
variable {prog : Program} {w : World} {A : Around} {E : Value → Shared → Prop} {R : Result → Shared → Prop} {I : Addr} {fp wr : List Addr} {n : Nat} {P : Nat → Value → Prop} {St : Nat → Heap → Prop}
theorem gt_two {a b : Int} {t u : Tok} {s : Shared} {Q : Value → Shared → Prop} (h : Q (.bool (decide (a > b))) s) : wpAny (model prog w) A (richCompare .Gt (.int a t) (.int b u)) Q E s :=
  (CmpOf.ints_gt (prog := prog) (w := w) (A := A) (P := fun i v => if i = 0 then v = .int a t else v = .int b u) (fun i => if i = 0 then a else b) (fun i v hv => by
    by_cases z : i = 0
    · rw [if_pos z] at hv ⊢
      exact ⟨t, hv⟩
    · rw [if_neg z] at hv ⊢
      exact ⟨u, hv⟩)) 0 1 _ _ s Q E rfl rfl h
theorem maxD_loop (W : Walks prog w A.in1 I fp wr n P St) (val : Nat → Int) (hval : ∀ i v, P i v → ∃ t, v = .int (val i) t) (S : Addr) (far : S ∉ fp) (d : Value) :
    ∀ (k i : Nat) (s : Shared) (cur : Option Value) (c : Nat), n - i = k → i ≤ n → St i s.heap → Cur val i cur →
    s.heap.get? S = some { cls := .type "list", dict := none, data := .seq (pair2 cur) c, slots := #[] } →
    (∀ v h' tk, (n = 0 → v = d) → (0 < n → ∃ M t, v = .int M t ∧ Top val n M) → (∀ b o, b ∉ wr → b ≠ S → s.heap.get? b = some o → h'.get? b = some o) → R (.ok (.ret v)) { s with heap := h', toks := tk }) →
    codeAny (model prog w) A (.builtin "max.loop" ⟨[.ref I, .none, .ref S], [("default", d)]⟩) R s := by
  have farw : S ∉ wr := fun h => far (W.sub _ h)
  have nm : (toString "max" ++ toString ".loop" : String) = "max.loop" := by decide
  intro k
  induction k with
  | zero =>
    intro i s cur c hk hi hst hc hS out
    have hin : i = n := by omega
    subst hin
    refine codeAny_builtin F.entry_max_loop ?_
    rw [Around.under_plainId F.plain_max_loop _]
    show wpAny _ A.in1 (seqItems? (.ref S) >>= _) _ _ s
    refine wpAny_bind (wpAny_seqItems hS rfl ?_)
    show wpAny _ A.in1 (tryCatch (pyNext (.ref I)) _ >>= _) _ _ s
    refine wpAny_bind (wpAny_tryCatch (W.done s _ _ hst fun h' tk kp => ?_))
    have hS2 := kp S _ farw hS
    cases cur with
    | none =>
      have h0 : i = 0 := hc
      refine wpAny_bind (wpAny_rule (wpAny_pure ?_))
      exact out d h' tk (fun _ => rfl) (fun z => absurd h0 (by omega)) fun b o hb _ e => kp b o hb e
    | some v =>
      obtain ⟨M, t, ev, top⟩ := hc
      show wpAny _ A.in1 (updateSeq S (fun _ => #[]) >>= _) _ _ _
      refine wpAny_bind ?_
      refine wpAny_updateSeq hS2 rfl (wpAny_bind (wpAny_letGo (wpAny_pure ?_))) (hz := by show 2 ≤ sizeLine; decide)
      have h0 : 0 < i := by
        obtain ⟨j, hj, _⟩ := top.1
        omega
      exact out v _ tk (fun z => absurd z (by omega)) (fun _ => ⟨M, t, ev, top⟩) fun b o hb nb e => (Heap.get?_update_other _ _ (Ne.symm nb)).trans (kp b o hb e)
  | succ k ih =>
    intro i s cur c hk hi hst hc hS out
    have hlt : i < n := by omega
    refine codeAny_builtin F.entry_max_loop ?_
    rw [Around.under_plainId F.plain_max_loop _]
    show wpAny _ A.in1 (seqItems? (.ref S) >>= _) _ _ s
    refine wpAny_bind (wpAny_seqItems hS rfl ?_)
    show wpAny _ A.in1 (tryCatch (pyNext (.ref I)) _ >>= _) _ _ s
    refine wpAny_bind (wpAny_tryCatch (W.item i s _ _ hlt hst fun v h' tk hP hst2 kp => ?_))
    have hS2 := kp S _ farw hS
    obtain ⟨u, rfl⟩ := hval i v hP
    have go : ∀ (nv : Value) (g : Heap) (c2 : Nat), g.get? S = some { cls := .type "list", dict := none, data := .seq #[nv, nv] c2, slots := #[] } → (∀ b o, b ≠ S → h'.get? b = some o → g.get? b = some o) →
        (∃ M t, nv = .int M t ∧ Top val (i + 1) M) → codeAny (model prog w) A (.builtin "max.loop" ⟨[.ref I, .none, .ref S], [("default", d)]⟩) R { s with heap := g, toks := tk } := by
      intro nv g c2 hg kg top
      refine ih (i + 1) { s with heap := g, toks := tk } (some nv) c2 (by omega) hlt (W.frame _ _ _ hst2 fun b hb o e => kg b o (fun z => far (z ▸ hb)) e) top hg fun v2 h2 tk2 z1 z2 k2 => ?_
      exact out v2 h2 tk2 z1 z2 fun b o hb nb e => k2 b o hb nb (kg b o nb (kp b o hb e))
    cases cur with
    | none =>
      have h0 : i = 0 := hc
      subst h0
      show wpAny _ A.in1 (updateSeq S (fun _ => #[Value.int (val 0) u, Value.int (val 0) u]) >>= _) _ _ _
      refine wpAny_bind ?_
      refine wpAny_updateSeq hS2 rfl ?_
      rw [nm]
      refine wpAny_pure ⟨plainId_quiet F.plain_max_loop _, go _ _ _ (Heap.get?_update_self _ hS2 rfl) (fun b o nb e => (Heap.get?_update_other _ _ (Ne.symm nb)).trans e) ⟨_, u, rfl, ⟨0, by omega, rfl⟩, fun j hj => ?_⟩⟩
      have : j = 0 := by omega
      rw [this]
      exact Int.le_refl _
    | some b0 =>
      obtain ⟨M, t, rfl, top⟩ := hc
      show wpAny _ A.in1 (tryCatch (holding [Value.int (val i) u, Value.int (val i) u] (richCompare .Gt (.int (val i) u) (.int M t) >>= _)) _ >>= _) _ _ _
      refine wpAny_bind (wpAny_tryCatch (wpAny_holding (wpAny_bind (gt_two ?_))))
      refine wpAny_bind (wpAny_holding (wpAny_truthy_bool ?_))
      refine wpAny_bind (wpAny_letGo (wpAny_pure ?_))
      by_cases hb : val i > M
      · rw [decide_eq_true hb]
        simp only [if_true]
        refine wpAny_bind ?_
        refine wpAny_updateSeq hS2 rfl (wpAny_bind (wpAny_letGo ?_)) (hz := by show 2 ≤ sizeLine; decide)
        rw [nm]
        refine wpAny_pure ⟨plainId_quiet F.plain_max_loop _, go _ _ _ (Heap.get?_update_self _ hS2 rfl) (fun b o nb e => (Heap.get?_update_other _ _ (Ne.symm nb)).trans e) ⟨_, u, rfl, ⟨i, by omega, rfl⟩, fun j hj => ?_⟩⟩
        rcases (show j < i ∨ j = i by omega) with z | z
        · have := top.2 j z
          omega
        · rw [z]
          exact Int.le_refl _
      · rw [decide_eq_false hb]
        simp only [Bool.false_eq_true, if_false]
        refine wpAny_bind (wpAny_letGo ?_)
        rw [nm]
        refine wpAny_pure ⟨plainId_quiet F.plain_max_loop _, go _ _ _ hS2 (fun b o nb e => e) ⟨M, t, rfl, ?_, fun j hj => ?_⟩⟩
        · obtain ⟨j, hj, e⟩ := top.1
          exact ⟨j, by omega, e⟩
        · rcases (show j < i ∨ j = i by omega) with z | z
          · exact top.2 j z
          · rw [z]
            omega
end
theorem args_maxD (a d : Value) : argsOk "max" ⟨[a], [("default", d)]⟩ := by
  unfold argsOk
  kernel_rfl
section
variable {prog : Program} {w : World} {A : Around} {E : Value → Shared → Prop} {s : Shared}
/-- a built-in function called with a keyword, its code going on in another one -/
theorem tree_kw {id : String} {b : Builtin} {us : List Value} {kw : List (Str × Value)} {Q : Value → Shared → Prop} (hk : builtinKind id = none) (hp : plainId id = true) (hb : entryFor table id = some b) (ok : argsOk id ⟨us, kw⟩)
    (run : wpAny (model prog w) A.in1 (b ⟨us, kw⟩) (fun fin s' => match fin with
      | .done f => (match (Except.ok f : Result) with | .ok (.ret v) => Q v s' | .ok _ => False | .error e => E e s')
      | .again c' => c'.quiet = true ∧ codeAny (model prog w) A c' (fun r s' => match r with | .ok (.ret v) => Q v s' | .ok _ => False | .error e => E e s') s') E s) :
    wpAny (model prog w) A (call (.builtin id) us kw) Q E s := by
  refine wpAny_call (codeAny_call_builtin hp hb ?_)
  simp only [checkBuiltinCall, hk]
  cases sg : Manifest.signature? id with
  | none => exact wpAny_pure run
  | some z =>
    simp only [argsOk, sg] at ok
    have ok2 : Bind.checkArgs id z ⟨us, kw⟩ = pure () := ok
    show wpAny _ A.in1 (Bind.checkArgs id z ⟨us, kw⟩) _ _ s
    rw [ok2]
    exact wpAny_pure run
theorem max_tupD {l : Addr} {its : List Value} {ns : List Int} {d : Value} {Q : Value → Shared → Prop} (hh : A.handled = none) (hl : s.heap.IsTuple l its.toArray) (hi : IntsAre its ns)
    (h : ∀ v h' tk, (ns = [] → v = d) → (ns ≠ [] → ∃ M t, v = .int M t ∧ M ∈ ns ∧ ∀ y ∈ ns, y ≤ M) → (∀ b o, s.heap.get? b = some o → h'.get? b = some o) → Q v { s with heap := h', toks := tk }) :
    wpAny (model prog w) A (call (.builtin "max") [.ref l] [("default", d)]) Q E s := by
  have nm : (toString "max" ++ toString ".loop" : String) = "max.loop" := by decide
  have len := IntsAre.length hi
  have lt : l < s.heap.objs.size := by
    obtain ⟨_, e, _⟩ := hl
    exact Heap.lt_size e
  refine tree_kw F.kind_max F.plain_max F.entry_max (args_maxD _ _) ?_
  show wpAny _ A.in1 (Builtin.Builtins.bindParams "max" ["key", "default"] 0 ⟨[], [("default", d)]⟩ >>= _) _ _ s
  refine wpAny_bind (wpAny_of_eq (show Builtin.Builtins.bindParams "max" ["key", "default"] 0 ⟨[], [("default", d)]⟩ = pure [none, some d] from rfl) ?_)
  refine wpAny_bind (wpAny_pure ?_)
  refine wpAny_bind (wpAny_pyIter_tuple hl ?_)
  refine wpAny_bind (wpAny_newObj_type ?_)
  rw [nm]
  have hne : l ≠ s.heap.objs.size := Nat.ne_of_lt lt
  have h1z : (s.heap.push { cls := .type "tuple_iterator", data := .fields #[.ref l, .int 0 0] }).objs.size = s.heap.objs.size + 1 := Heap.size_push ..
  have far : (s.heap.push { cls := .type "tuple_iterator", data := .fields #[.ref l, .int 0 0] }).objs.size ∉ [s.heap.objs.size, l] := by
    rw [h1z]
    intro z
    rcases List.mem_cons.mp z with z | z
    · exact absurd z (Nat.succ_ne_self _)
    · have z2 := List.mem_singleton.mp z
      rw [← z2] at lt
      exact Nat.lt_irrefl _ (Nat.lt_trans (Nat.lt_succ_self _) lt)
  refine wpAny_pure ⟨plainId_quiet F.plain_max_loop _, maxD_loop (W := Walks.tuple (A := A.in1) hh s.heap.objs.size l hne its.toArray) (fun i => ns.getD i 0) (fun i v hv => ?_) _ far d its.length 0 _ none 0 (by simp) (Nat.zero_le _) ⟨⟨_, Heap.get?_push_of_some _ (Heap.get?_push_size _ rfl), rfl, rfl⟩, (hl.push _).push _⟩ rfl (Heap.get?_push_size _ rfl) fun v h' tk z1 z2 kp => ?_⟩
  · obtain ⟨t, e⟩ := PyProof.Rows.IntsAre.int_at hi i v (by simpa using hv)
    exact ⟨t, e⟩
  · have esz : its.toArray.size = ns.length := by simpa using len
    rw [esz] at z1 z2
    refine h v h' tk (fun e => z1 (by rw [e]; rfl)) (fun ne => ?_) fun b o e => ?_
    · obtain ⟨M, t, ev, ⟨j, hj, ej⟩, up⟩ := z2 (List.length_pos_iff.mpr ne)
      refine ⟨M, t, ev, ?_, fun y hy => ?_⟩
      · have ej2 : ns.getD j 0 = M := ej
        rw [← ej2, List.getD_eq_getElem?_getD, List.getElem?_eq_getElem hj]
        exact List.getElem_mem hj
      · obtain ⟨k, hk, e⟩ := List.getElem_of_mem hy
        have : ns.getD k 0 ≤ M := up k hk
        rw [List.getD_eq_getElem?_getD, List.getElem?_eq_getElem hk] at this
        rw [← e]
        exact this
    · have lb := Heap.lt_size e
      refine kp b o (fun z => ?_) (fun z => ?_) (Heap.get?_push_of_some _ (Heap.get?_push_of_some _ e))
      · rw [List.mem_singleton.mp z] at lb
        exact Nat.lt_irrefl _ lb
      · rw [z, h1z] at lb
        exact Nat.lt_irrefl _ (Nat.lt_trans (Nat.lt_succ_self _) lb)
end
/-- max(t, default = d) -/
def rMaxD (K : PySem.W.Frag) : List V → List V → Hp → VK → Prop := fun xs zs H Q => ∃ (a : Addr) (ns : List Int) (d : Int), xs = [.ref a] ∧ zs = [.int d] ∧ SqT K H a (ns.map V.int) ∧
  ∀ M, (ns = [] → M = d) → (ns ≠ [] → M ∈ ns ∧ ∀ y ∈ ns, y ≤ M) → Q (.int M) H
theorem cr_maxD {X : Cx} (hc : X.calm = true) : CallRK X (.builtin "max") ["default"] (rMaxD X.K) := by
  intro pins s σ H xs zs us ws Q I r rz h
  obtain ⟨a, ns, d, rfl, rfl, hq, q⟩ := h
  obtain ⟨its, rv, tup, hz⟩ := I.tuple hq
  rw [Vals.ref1 r]
  cases rz with
  | cons r1 r2 =>
    cases r2
    obtain ⟨tk0, rfl⟩ := r1
    refine max_tupD (ns := ns) (d := .int d tk0) (I.ok.hd hc) tup (by simpa using numbers_of rv) fun v h' tk z1 z2 kp => ?_
    by_cases hn : ns = []
    · have ev := z1 hn
      subst ev
      exact ⟨.int d, H, I.kept kp, ⟨_, rfl⟩, q d (fun _ => rfl) (fun z => absurd hn z)⟩
    · obtain ⟨M, t, rfl, m1, m2⟩ := z2 hn
      exact ⟨.int M, H, I.kept kp, ⟨_, rfl⟩, q M (fun z => absurd z hn) (fun _ => ⟨m1, m2⟩)⟩
end Par
namespace Par
open PySem PySem.Spec PyProof.Rows L2
/-! ### errors over any built-in base -/
/-- own classes, then the base's own line -/
def Over (tail l : List Value) : Prop := tail ≠ [] ∧ ∃ cs : List Addr, l = cs.map Value.ref ++ tail
theorem Over.cons {tail l : List Value} (h : Over tail l) (c : Addr) : Over tail (.ref c :: l) := by
  obtain ⟨h1, cs, e⟩ := h
  exact ⟨h1, c :: cs, by rw [e]; rfl⟩
theorem Over.nonempty {tail l : List Value} (h : Over tail l) : l.isEmpty = false := by
  obtain ⟨h1, cs, e⟩ := h
  subst e
  cases cs with
  | cons c cs => rfl
  | nil =>
    cases tail with
    | nil => exact absurd rfl h1
    | cons _ _ => rfl
theorem Over.has {tail l : List Value} (h : Over tail l) (T : String) : l.contains (.type T) = tail.contains (.type T) := by
  obtain ⟨_, cs, e⟩ := h
  subst e
  induction cs with
  | nil => rfl
  | cons c cs ih =>
    show ((Value.type T == Value.ref c) || _) = _
    rw [show (Value.type T == Value.ref c) = false from rfl, Bool.false_or]
    exact ih
theorem Over.lets {tail l : List Value} (h : Over tail l) (ok : ∀ self, refuseLoop self "__setattr__" tail = pure ()) (self : Value) : refuseLoop self "__setattr__" l = pure () := by
  obtain ⟨_, cs, e⟩ := h
  subst e
  induction cs with
  | nil => exact ok self
  | cons c cs ih =>
    show refuseLoop self "__setattr__" (Value.ref c :: (cs.map Value.ref ++ tail)) = pure ()
    rw [refuseLoop_ref]
    exact ih
section
variable {prog : Program} {w : World} {A : Around} {R : Result → Shared → Prop} {hp : Heap} {g : Array GenState} {d : Drawn} {t : Nat} {os : OsState}
open Builtin Builtin.ObjectAttr PySem.W PySem.HandSPX in
/-- the first field of an error -/
theorem first_field {K : PySem.W.Frag} {fld : Str} {tk : Tok} {v : Value} {x C : Addr} {fv : Array Value} {cd : ClassData} {tail : List Value} (X : K.In hp)
    (at_ : hp.get? x = some { cls := .ref C, data := .fields fv }) (isC : clsIn K C = some cd) (ov : Over tail cd.mro) (objd : tail.contains (.type "object") = true)
    (ok : ∀ self, refuseLoop self "__setattr__" tail = pure ()) (own : cd.hasDict = true) (no : findIn K (.ref C) fld = some none)
    (out : ∀ h' tk' dx, (∀ b o, b ≠ x → hp.get? b = some o → h'.get? b = some o) → hp.objs.size ≤ dx → dx ≠ x → h'.get? x = some { cls := .ref C, dict := some dx, data := .fields fv } →
      h'.Ns1 dx (fun y => if y = fld then some v else none) → R (.ok (.ret .none)) ⟨h', g, d, tk', os⟩) :
    codeAny (model prog w) A (.call (.builtin "object.__setattr__") ⟨[.ref x, .str fld tk, v], []⟩) R ⟨hp, g, d, t, os⟩ := by
  have inst : InstAt hp x { cls := .ref C, data := .fields fv } C none := ⟨at_, rfl, rfl, trivial⟩
  have st := F.store_object
  have hObj : cd.mro.contains (.type "object") = true := (ov.has "object").trans objd
  have far : x ≠ hp.objs.size := Nat.ne_of_lt (Heap.lt_size at_)
  have isObj : Looks (model prog w) hp (isInstance (.ref x) (.type "object")) true :=
    inst.type.andThen (looks_mroIn X (by unfold mroIn; rw [isC, Option.bind_some, if_neg (by rw [ov.nonempty]; decide), hObj]))
  refine codeAny_call_builtin st.slot.plain st.entry (@check_slot (model prog w) _ _ ⟨hp, g, d, t, os⟩ "object.__setattr__" "object" "__setattr__"
    (.ref x) [.str fld tk, v] [] _ st.kind st.split isObj (st.args (.ref x) (.str fld tk) v) ?_)
  have lm : Looks (model prog w) hp (mroOf (.ref C)) cd.mro := (looks_clsIn X isC).andThen .now
  have ln : Looks (model prog w) hp (storeTaker? none) none := .now
  have lc : Looks (model prog w) hp (classData C) cd := looks_clsIn X isC
  rw [osa_eq, refuse_eq]
  refine wpAny_bind (wpAny_bind (inst.type.at (wpAny_bind (lm.at ?_))))
  rw [ov.lets ok]
  refine wpAny_pure (wpAny_bind (inst.type.at (wpAny_bind ((looks_findIn X no).at (wpAny_bind (ln.at ?_))))))
  show wpAny _ _ (storeInOwnDict (.ref x) (.ref C) (.str fld tk) fld v false) _ _ _
  obtain ⟨nm, bs, mro, ns, qn, hd, sn, sb, ab, col, dl⟩ := cd
  dsimp only at own
  subst own
  unfold storeInOwnDict ownDictForStores
  repeat (first | with_reducible refine store_in_new ?_ ?_ | with_reducible refine wpAny_loadPart_at at_ ?_ | with_reducible refine lc.at ?_ | wp_step)
  · exact ⟨_, #[], _, (Heap.get?_update_ne _ _ _ _ far.symm).trans (Heap.get?_push_at rfl rfl), rfl, fun e z => absurd z (by simp), fun _ => rfl⟩
  · intro h' tk' made kept
    have old : (hp.push { cls := .type "dict", data := .dict #[] }).get? x = some { cls := .ref C, data := .fields fv } := Heap.get?_push_of_some _ at_
    refine out h' tk' hp.objs.size (fun b o nb e => ?_) (Nat.le_refl _) far.symm ?_ made
    · exact (kept.2 b (Nat.ne_of_lt (Heap.lt_size e))).trans ((Heap.get?_update_ne _ _ _ _ nb).trans (Heap.get?_push_of_some _ e))
    · exact (kept.2 x far).trans (Heap.get?_update_self _ old rfl)
open Builtin Builtin.ObjectAttr PySem.W PySem.HandSPX PySem.OEX in
/-- a further field of an error -/
theorem more_field {K : PySem.W.Frag} {fld : Str} {tk : Tok} {v : Value} {x C dx : Addr} {fv : Array Value} {cd : ClassData} {tail : List Value} {m0 : Str → Option Value} {nl : List Str} (X : K.In hp)
    (at_ : hp.get? x = some { cls := .ref C, dict := some dx, data := .fields fv }) (names : hp.Ns1 dx m0) (win : Within m0 nl) (few : nl.length ≤ 1000) (isC : clsIn K C = some cd) (ov : Over tail cd.mro)
    (objd : tail.contains (.type "object") = true) (ok : ∀ self, refuseLoop self "__setattr__" tail = pure ()) (own : cd.hasDict = true) (no : findIn K (.ref C) fld = some none)
    (out : ∀ h' tk', (∀ b o, b ≠ dx → hp.get? b = some o → h'.get? b = some o) → h'.Ns1 dx (fun y => if y = fld then some v else m0 y) → R (.ok (.ret .none)) ⟨h', g, d, tk', os⟩) :
    codeAny (model prog w) A (.call (.builtin "object.__setattr__") ⟨[.ref x, .str fld tk, v], []⟩) R ⟨hp, g, d, t, os⟩ := by
  obtain ⟨od, esd, epd, atD, dtD, _⟩ := names.count win
  have inst : InstAt hp x { cls := .ref C, dict := some dx, data := .fields fv } C (some od) := ⟨at_, rfl, rfl, atD⟩
  have st := F.store_object
  have hObj : cd.mro.contains (.type "object") = true := (ov.has "object").trans objd
  have isObj : Looks (model prog w) hp (isInstance (.ref x) (.type "object")) true :=
    inst.type.andThen (looks_mroIn X (by unfold mroIn; rw [isC, Option.bind_some, if_neg (by rw [ov.nonempty]; decide), hObj]))
  refine codeAny_call_builtin st.slot.plain st.entry (@check_slot (model prog w) _ _ ⟨hp, g, d, t, os⟩ "object.__setattr__" "object" "__setattr__"
    (.ref x) [.str fld tk, v] [] _ st.kind st.split isObj (st.args (.ref x) (.str fld tk) v) ?_)
  have lm : Looks (model prog w) hp (mroOf (.ref C)) cd.mro := (looks_clsIn X isC).andThen .now
  have ln : Looks (model prog w) hp (storeTaker? none) none := .now
  have lc : Looks (model prog w) hp (classData C) cd := looks_clsIn X isC
  rw [osa_eq, refuse_eq]
  refine wpAny_bind (wpAny_bind (inst.type.at (wpAny_bind (lm.at ?_))))
  rw [ov.lets ok]
  refine wpAny_pure (wpAny_bind (inst.type.at (wpAny_bind ((looks_findIn X no).at (wpAny_bind (ln.at ?_))))))
  show wpAny _ _ (storeInOwnDict (.ref x) (.ref C) (.str fld tk) fld v false) _ _ _
  obtain ⟨nm, bs, mro, ns, qn, hd, sn, sb, ab, col, dl⟩ := cd
  dsimp only at own
  subst own
  unfold storeInOwnDict ownDictForStores
  repeat (first | with_reducible refine store_in_old names win few ?_ | with_reducible refine wpAny_loadPart_at at_ ?_ | with_reducible refine lc.at ?_ | wp_step)
  intro h' tk' made kept
  exact out h' tk' (fun b o nb e => (kept.2 b nb).trans e) made
end
/-- what is known of a built-in base -/
structure Bas (newId : String) (tail : List Value) : Prop where
  base : ∃ B initId, ExcBaseFacts B newId initId tail
  full : tail ≠ []
  objd : tail.contains (.type "object") = true
  lets : ∀ self, refuseLoop self "__setattr__" tail = pure ()
theorem bas_value : Bas "ValueError.__new__" [.type "ValueError", .type "Exception", .type "BaseException", .type "object"] := ⟨⟨_, _, F.excBase_ValueError⟩, by simp, by decide +kernel, F.store_ValueError.passes⟩
theorem bas_lookup : Bas "LookupError.__new__" [.type "LookupError", .type "Exception", .type "BaseException", .type "object"] := ⟨⟨_, _, F.excBase_LookupError⟩, by simp, by decide +kernel, F.store_LookupError.passes⟩
theorem bas_runtime : Bas "RuntimeError.__new__" [.type "RuntimeError", .type "Exception", .type "BaseException", .type "object"] := ⟨⟨_, _, F.excBase_RuntimeError⟩, by simp, by decide +kernel, F.store_RuntimeError.passes⟩
theorem bas_arith : Bas "ArithmeticError.__new__" [.type "ArithmeticError", .type "Exception", .type "BaseException", .type "object"] := ⟨⟨_, _, F.excBase_ArithmeticError⟩, by simp, by decide +kernel, F.store_ArithmeticError.passes⟩
/-- an own class of errors over such a base -/
structure ErrC (K : PySem.W.Frag) (C : Addr) : Prop where
  is : ∃ newId tail nm q N bs bm sn sub ab col dd k0 k1 k2 k3 k5, Bas newId tail ∧ K.lookup C = some (excClassObj nm q C N bs bm true sn sub ab col dd k0 k1 k2 k3 k5 newId) ∧ ∃ cs : List Addr, bm = cs.map Value.ref ++ tail
  sets : PySem.W.findIn K (.ref C) "__setattr__" = some (some (.builtin "object.__setattr__"))
  exc : PySem.W.subIn K (.ref C) (.type "BaseException") = some true
  typ : PySem.W.typeIn K (.ref C) = some (.type "type")
  kept : PySem.W.keepIn K (.ref C) = true
section
variable {X : Cx} {pins : List (Addr × Obj)} {σ : L2.St} {H : Hp} {s : Shared} {a C dx : Addr} {f : Str} {y : V} {u : Value} {fs : List (Str × V)} {Q : Unit → Shared → Prop} {E : Value → Shared → Prop} {A : Around}
theorem err_first (T : ErrC X.K C) (I : L2.Inv X pins σ H s) (e : H a = some (exo a C none)) (no : PySem.W.findIn X.K (.ref C) f = some none) (ry : RelV y u)
    (out : ∀ dx s', H dx = none → dx ≠ a → L2.Inv X pins σ (upd (upd H dx (exd dx [(f, y)])) a (exo a C (some dx))) s' → Q () s') : wpAny (model X.prog X.w) A (setAttr (.ref a) f u) Q E s := by
  obtain ⟨newId, tail, nm, q, N, bs, bm, sn, sub, ab, col, dd, k0, k1, k2, k3, k5, bas, atC, cs, ebm⟩ := T.is
  have isC : PySem.W.clsIn X.K C = some { name := nm, bases := bs, mro := .ref C :: bm, ns := N, qualname := q, hasDict := true, slotNames := sn, subclasses := sub, abstract := ab, collection := col, hasDel := false } := by
    unfold PySem.W.clsIn
    rw [atC]
  have ov : Over tail (.ref C :: bm) := Over.cons ⟨bas.full, cs, ebm⟩ C
  obtain ⟨t1, ho⟩ := exo_at I.hok e
  obtain ⟨hp, g, d, t, os⟩ := s
  refine PySem.W.set_plain I.kIn (ox := { cls := .ref C, dict := none, data := .fields #[.ref t1, .none, .none, .none, .bool false, .none] }) (od := none) ⟨ho, rfl, rfl, trivial⟩ T.sets ?_
  refine first_field I.kIn ho isC ov bas.objd bas.lets rfl no fun h' tk' dx k dn dne hx hn => ?_
  have free : H dx = none := I.hok.fresh dn
  have apart : ∀ {b : Addr} {o : Obj}, hp.get? b = some o → b ≠ dx := fun {b o} z => Nat.ne_of_lt (Nat.lt_of_lt_of_le (Heap.lt_size z) dn)
  have else_ : ∀ {b : Addr}, H b = none → b ≠ a := fun {b} n z => by
    rw [z, e] at n
    cases n
  have un : Un X.fs [] H (upd (upd H dx (exd dx [(f, y)])) a (exo a C (some dx))) hp h' := {
    keep := fun b o z n _ _ => k b o (else_ n) z
    slot := fun b o z n _ _ => ⟨o.slots, k b o (else_ n) z⟩
    free := fun b o z n _ => by
      rw [upd_ne (else_ n), upd_ne (apart z)]
      exact n
    there := fun b o z _ => by
      by_cases hb : b = a
      · exact ⟨_, by rw [hb]; exact hx⟩
      · exact ⟨o, k b o hb z⟩
    tups := fun b xs z => by
      rw [upd_ne (at_ne e z exo_tup), upd_ne (ne_of_none z free)]
      exact z
    frzs := fun b o v z => by
      rw [upd_ne (at_ne e z exo_frz), upd_ne (ne_of_none z free)]
      exact z
    tbls := fun b ps z => ⟨#[], by
      rw [upd_ne (at_ne e z exo_tbl), upd_ne (ne_of_none z free), z]
      simp⟩ }
  refine out dx _ free dne (I.un (t' := tk') un fun b o z => ?_)
  by_cases hb : b = a
  · subst hb
    rw [upd_same] at z
    cases z
    exact exo_ok hx
  · rw [upd_ne hb] at z
    by_cases hd : b = dx
    · subst hd
      rw [upd_same] at z
      cases z
      exact exd_ok hn (relO_put (fs := []) ry fun g => True.intro)
    · rw [upd_ne hd] at z
      refine (I.hok b o z).stay (fun c v hc z2 => k c v ?_ z2) (fun c hc => ?_) (fun c xs hc => ?_)
      · rcases hc with hc | hc
        · rw [hc]
          exact hb
        · exact at_ne e hc exo_own
      · rw [upd_ne (at_ne e hc exo_own), upd_ne (ne_of_none hc free)]
        exact hc
      · rw [upd_ne (at_ne e hc exo_tup), upd_ne (ne_of_none hc free)]
        exact hc
theorem err_more (T : ErrC X.K C) (I : L2.Inv X pins σ H s) (e : H a = some (exo a C (some dx))) (ed : H dx = some (exd dx fs)) (few : fs.length ≤ 900) (no : PySem.W.findIn X.K (.ref C) f = some none) (ry : RelV y u)
    (out : ∀ s', L2.Inv X pins σ (upd H dx (exd dx ((f, y) :: fs))) s' → Q () s') : wpAny (model X.prog X.w) A (setAttr (.ref a) f u) Q E s := by
  obtain ⟨newId, tail, nm, q, N, bs, bm, sn, sub, ab, col, dd, k0, k1, k2, k3, k5, bas, atC, cs, ebm⟩ := T.is
  have isC : PySem.W.clsIn X.K C = some { name := nm, bases := bs, mro := .ref C :: bm, ns := N, qualname := q, hasDict := true, slotNames := sn, subclasses := sub, abstract := ab, collection := col, hasDel := false } := by
    unfold PySem.W.clsIn
    rw [atC]
  have ov : Over tail (.ref C :: bm) := Over.cons ⟨bas.full, cs, ebm⟩ C
  obtain ⟨t1, ho⟩ := exo_at I.hok e
  obtain ⟨mA, names, rel⟩ := exd_at I.hok ed
  have win := within_of rel
  obtain ⟨hp, g, d, t, os⟩ := s
  obtain ⟨oD, _, _, atD, _, _⟩ := names.count win
  refine PySem.W.set_plain I.kIn (ox := { cls := .ref C, dict := some dx, data := .fields #[.ref t1, .none, .none, .none, .bool false, .none] }) (od := some oD) ⟨ho, rfl, rfl, atD⟩ T.sets ?_
  refine more_field I.kIn ho names win (by rw [List.length_map]; omega) isC ov bas.objd bas.lets rfl no fun h' tk' k hn => ?_
  have stands : ∃ o, h'.get? dx = some o := by
    obtain ⟨o, _, _, z, _⟩ := hn
    exact ⟨o, z⟩
  exact out _ (I.write (t' := tk') (x := dx) (e := dx) (o := exd dx ((f, y) :: fs)) (by rw [ed]; exact True.intro) (.inl rfl) k stands (exd_ok hn (relO_put ry rel)))
end
/-- self.f = e in an error's __init__ -/
def tErrS (K : PySem.W.Frag) (f : Str) (to te : TE) : TS := fun D σ H => te σ H fun y H1 => to σ H1 fun x H2 => ∃ a C : Addr, x = .ref a ∧ ErrC K C ∧ PySem.W.findIn K (.ref C) f = some none ∧
  ((H2 a = some (exo a C none) ∧ ∀ dx, H2 dx = none → dx ≠ a → D.nx σ (upd (upd H2 dx (exd dx [(f, y)])) a (exo a C (some dx)))) ∨
    ∃ (dx : Addr) (fs : List (Str × V)), H2 a = some (exo a C (some dx)) ∧ H2 dx = some (exd dx fs) ∧ fs.length ≤ 900 ∧ D.nx σ (upd H2 dx (exd dx ((f, y) :: fs))))
section
variable {X : Cx} {o e : Expr} {es : List Expr} {to te : TE} {ta : TA} {f : Str} {p p' pos : Pos}
theorem ps_errS (ho : PE X o to) (he : PE X e te) (hs : swapsWith e (some (.Attribute o f p')) pos.line X.env = pure false := by rfl) : PS X (.Assign [.Attribute o f p'] e pos) (tErrS X.K f to te) := by
  refine ⟨fun pins s σ H D I h => ?_⟩
  refine plainObj_wpAny_Assign_Attribute (thn (he.run pins s σ H _ I h) ?_) hs
  rintro v s1 ⟨y, H1, I1, r1, q1⟩
  refine thn (ho.run pins s1 σ H1 _ I1 q1) ?_
  rintro u s2 ⟨x, H2, I2, r2, a, C, ex, T, no, q⟩
  subst ex
  obtain rfl : u = Value.ref a := r2
  rcases q with ⟨ea, q⟩ | ⟨dx, fs, ea, ed, few, q⟩
  · exact err_first T I2 ea no r1 fun dx s' n ne J => ⟨σ, _, J, q dx n ne⟩
  · exact err_more T I2 ea ed few no r1 fun s' J => ⟨σ, _, J, q⟩
/-- C(e, ..) of an error whose own __init__ keeps its promise -/
theorem pmk_err {CX : CXT} {x : Str} {C fI : Addr} {k : Nat} {fd : FuncData} {ps : List Str} {sp : Sp} {ds : List Value} {dvs : List V} (T : ErrC X.K C) (ini : PySem.W.findIn X.K (.ref C) "__init__" = some (some (.ref fI)))
    (isF : PySem.W.typeIn X.K (.ref fI) = some (.type "function")) (G : FnOk X.prog X.w X.K X.mg X.base CX k fI fd ps sp) (hr : Room (k + 1) X.A) (hb : Binds X.K fd ps ds) (hd : Vals dvs ds) (hx : Passes CX X (fun _ _ _ => False))
    (hg : Gl X x) (hm : X.mg x = some (.ref C)) (ha : PA X (e :: es) ta)
    (hdb : (x == ("__debug__" : Str)) = false := by decide) (he : starEach (e :: es) X.env = (false, eval e X.env) :: starEach es X.env := by rfl) (hpl : (backTo pos (starEach es X.env)).any (·.1) = false := by rfl) :
    PMk X (.Call (.Name x p) (e :: es) [] pos) (tMkO C sp dvs ta) := by
  intro pins s σ H Q I h
  obtain ⟨newId, tail, nm, q, N, bs, bm, sn, sub, ab, col, dd, k0, k1, k2, k3, k5, bas, atC, cs, ebm⟩ := T.is
  obtain ⟨B, initId, facts⟩ := bas.base
  have ov : Over tail bm := ⟨bas.full, cs, ebm⟩
  refine wpAny_Call_Name_kw (ld_glob I hg hm ?_ hdb)
  refine PySem.W.callWith_K (h₀ := X.base) I.ok.mod.kin T.kept (thn (ha.run pos pins s σ H _ I h) ?_) he hpl
  rintro us s1 ⟨vs, H1, I1, r1, few, q1⟩
  refine ⟨I1.kIn, ?_⟩
  show wpAny _ _ (call (.ref C) us) _ _ _
  obtain ⟨hp, g, dr, tk, os⟩ := s1
  have up : hp.objs.size ≤ hp.objs.size + 1 := Nat.le_succ _
  have want := q1 (hp.objs.size + 1) (I1.hok.fresh up)
  have old : ∀ b o, hp.get? b = some o → ((hp.push (PySem.W.kdv_tup us)).push (PySem.HandSPX.excO C hp.objs.size)).get? b = some o := fun b o z => Heap.get?_push_of_some _ (Heap.get?_push_of_some _ z)
  have made : ((hp.push (PySem.W.kdv_tup us)).push (PySem.HandSPX.excO C hp.objs.size)).get? (hp.objs.size + 1) = some (PySem.HandSPX.excO C hp.objs.size) := by heap_get
  have I2 : L2.Inv X pins σ (upd H1 (hp.objs.size + 1) (exo (hp.objs.size + 1) C none)) ⟨(hp.push (PySem.W.kdv_tup us)).push (PySem.HandSPX.excO C hp.objs.size), g, dr, tk, os⟩ :=
    I1.laid (t' := tk) (a := hp.objs.size + 1) (o := exo (hp.objs.size + 1) C none) (h' := (hp.push (PySem.W.kdv_tup us)).push (PySem.HandSPX.excO C hp.objs.size)) old up (exo_ok made)
  have rel : Vals (V.ref (hp.objs.size + 1) :: (vs ++ dvs)) (Value.ref (hp.objs.size + 1) :: (us ++ ds)) := .cons rfl (r1.append hd)
  have len : (Value.ref (hp.objs.size + 1) :: us ++ ds).length = ps.length := by
    have z := rel.length
    rw [G.len _ _ _ _ want] at z
    exact z.symm
  have short : us.length ≤ sizeLine := by
    rw [← Paired.length r1, sizeLine_eq]
    omega
  refine wpAny_call (PySem.HandSPX.call_own facts (fun Y => ov.has Y) (I1.kIn _ _ atC) (PySem.W.looks_findIn I1.kIn ini) (fun self => PySem.W.bind_fn I1.kIn self isF) short (codeAny_mono
    (G.run _ X.stack _ _ ⟨Value.ref (hp.objs.size + 1) :: us, []⟩ (Value.ref (hp.objs.size + 1) :: (us ++ ds)) _ _ (fun _ _ _ => False) (hr.make C us []) (I2.env0.make C us []) (hb _ (Value.ref (hp.objs.size + 1) :: us) I2.kIn len) rel want) ?_))
  intro r s' z
  cases r with
  | error er => exact hx pins σ _ _ er s' I2 z
  | ok fl =>
    cases fl with
    | next => exact False.elim z
    | brk => exact False.elim z
    | cont => exact False.elim z
    | ret u =>
      obtain ⟨v, H2, os2, bare2, un2, hok2, rv, ev, d, fs, ea, ed, hd1, q2⟩ := z
      subst ev
      obtain ⟨h2, g2, d2, t2, os'⟩ := s'
      exact ⟨rv, mk_end (raises_own T.exc T.typ) I1 up old un2 hok2 os2 bare2 ea ed hd1 q2⟩
end
end Par
namespace Par
open PySem PySem.Spec PyProof.Rows L2
/-- C(e, ..), what __init__ raises wished for at the slots -/
def tMakeS (C : Addr) (sp : Sp) (E : L2.St → XK) (t : TA) : TE := fun σ H Q => t σ H fun vs H1 =>
  ∀ y dy, H1 y = none → H1 dy = none → dy ≠ y → sp (.ref y :: vs) (upd (upd H1 dy (.own y)) y (.ins C dy [])) (fun v H2 => v = .non ∧ Q (.ref y) H2) (E σ)
section
variable {X : Cx} {CX : CXT} {k : Nat} {f C : Addr} {fd : FuncData} {ps : List Str} {sp : Sp} {E : L2.St → XK} {x : Str} {p pos : Pos} {e : Expr} {es : List Expr} {t : TA}
theorem run_makeS {pins : List (Addr × Obj)} {τ : L2.St} {G : Hp} {s0 : Shared} {Z : VK} {as : List Value} {xs : List V} (M : Mk X.K C f) (F : FnOk X.prog X.w X.K X.mg X.base CX k f fd ps sp)
    (hr : Room (k + 1) X.A) (hb : Binds X.K fd ps []) (hx : PassesAt CX X τ (E τ)) (J : L2.Inv X pins τ G s0) (rr : Vals xs as)
    (h : ∀ y dy, G y = none → G dy = none → dy ≠ y → sp (.ref y :: xs) (upd (upd G dy (.own y)) y (.ins C dy [])) (fun v H2 => v = .non ∧ Z (.ref y) H2) (E τ)) :
    wpAny (model X.prog X.w) X.A (call (.ref C) as) (EP X pins τ Z) X.xe s0 := by
  have here := h (s0.heap.objs.size + 1) s0.heap.objs.size (J.hok.fresh (by omega)) (J.hok.fresh (by omega)) (show s0.heap.objs.size ≠ s0.heap.objs.size + 1 by omega)
  have J2 := Inv.made (C := C) J
  have all : Vals (V.ref (s0.heap.objs.size + 1) :: xs) (Value.ref (s0.heap.objs.size + 1) :: as) := .cons rfl rr
  have len : (Value.ref (s0.heap.objs.size + 1) :: as).length = ps.length := by rw [← all.length]; exact F.len _ _ _ _ here
  have bd := hb _ (Value.ref (s0.heap.objs.size + 1) :: as) J2.kIn (by rw [List.append_nil]; exact len)
  rw [List.append_nil] at bd
  have ran := F.run _ X.stack _ _ ⟨Value.ref (s0.heap.objs.size + 1) :: as, []⟩ (Value.ref (s0.heap.objs.size + 1) :: as) _ _ (E τ) (hr.make C as []) (J2.env0.make C as []) bd all here
  refine wpAny_call (make_map (f := f) J.kIn M.makes M.init (beq_iff_eq.mp M.fn) (codeAny_mono ran ?_))
  intro res s1 got
  cases res with
  | error er => exact hx pins _ _ er s1 J2 got
  | ok fl =>
    cases fl with
    | ret u =>
      obtain ⟨v, G1, J3, rv, ev, z3⟩ := J2.after got
      subst ev
      exact ⟨rv, V.ref (s0.heap.objs.size + 1), G1, J3, rfl, z3⟩
    | next => exact got.elim
    | brk => exact got.elim
    | cont => exact got.elim
theorem pe_makeS (M : Mk X.K C f) (F : FnOk X.prog X.w X.K X.mg X.base CX k f fd ps sp) (hr : Room (k + 1) X.A) (hg : Gl X x) (hm : X.mg x = some (.ref C)) (hb : Binds X.K fd ps [])
    (hx : ∀ σ, PassesAt CX X σ (E σ)) (ha : PA X (e :: es) t) (hdb : (x == ("__debug__" : Str)) = false := by decide)
    (he : starEach (e :: es) X.env = (false, eval e X.env) :: starEach es X.env := by rfl) (hpl : (backTo pos (starEach es X.env)).any (·.1) = false := by rfl) :
    PE X (.Call (.Name x p) (e :: es) [] pos) (tMakeS C sp E t) := by
  constructor
  intro pins s σ H Q I h
  refine wpAny_Call_Name_kw (ld_glob I hg hm ?_ hdb)
  refine PySem.W.callWith_K (h₀ := X.base) I.ok.mod.kin M.kp (thn (ha.run pos pins s σ H _ I h) ?_) he hpl
  rintro us s1 ⟨vs, H1, I1, r, q⟩
  exact ⟨I1.kIn, run_makeS M F hr hb (hx σ) I1 r q⟩
end
/-- what the clauses 'except c as n', slot i being n's, wish of an error of the body, one after the other -/
def wSeq (K : PySem.W.Frag) (i : Nat) (Wout : WX) (D : Ends) : List (Value × (Addr → Value → Option Addr → TS)) → WX
  | [] => Wout
  | (c, ts) :: r => wAs K c i ts (wSeq K i Wout D r) D
inductive HdsAs (X : Cx) (n : Str) : List ExceptHandler → List (Value × (Addr → Value → Option Addr → TS)) → Prop
  | nil : HdsAs X n [] []
  | cons {x : Str} {c : Value} {ts : Addr → Value → Option Addr → TS} {st : Stmt} {sts : List Stmt} {np cp : Pos} {more : List ExceptHandler} {l : List (Value × (Addr → Value → Option Addr → TS))} (hc : Names X x c)
      (hsu : ∀ (a : Addr) (oe : Obj) (cls : Value) (d : Option Addr) (pn : List (Addr × Obj)), Zc cls d oe → (∃ vs, oe.data = .fields vs) → PSs (X.suite a ((a, oe) :: pn)) (st :: sts) (ts a cls d))
      (r : HdsAs X n more l) : HdsAs X n (.ExceptHandler (some (.Name x np)) (some n) (st :: sts) cp :: more) ((c, ts) :: l)
section
variable {X : Cx} {body : List Stmt} {g : ExceptHandler} {gs : List ExceptHandler} {l : List (Value × (Addr → Value → Option Addr → TS))} {pos : Pos} {tb : WX → TS} {Wout : WX} {n : Str} {i : Nat}
theorem ps_try_ases (hs : X.stack = X.env :: X.outer) (hf : X.env.frame = some X.env.locals) (hN : X.N.Nodup) (hi : X.N[i]? = some n) (hln : X.env.kindOf n = some .local) (tk : L2.Takes X Wout)
    (hb : ∀ (W : WX) (pn : List (Addr × Obj)) (xe : Value → Shared → Prop), L2.Takes (X.tr pn xe) W → PassesOwn (model X.prog X.w) X.A X.env xe → PSs (X.tr pn xe) body (tb W))
    (hh : HdsAs X n (g :: gs) l) : PS X (.Try body (g :: gs) [] [] pos) (fun D σ H => tb (wSeq X.K i Wout D l) D σ H) := by
  constructor
  intro pins s σ H D I h
  have okX := I.ok
  have frm : X.A.frames = some (X.env :: X.outer) := hs ▸ okX.frames
  have isLoc : Loc X.env.scope n := Or.inl hln
  refine wpAny_Try_except ?_
  let back : Value → Shared → Prop := fun e t1 => wpAny (model X.prog X.w) X.A (noteFrame e X.env) (fun _ t2 =>
    wpAny (model X.prog X.w) X.A (setFlight e none) (fun _ t3 => wpAny (model X.prog X.w) X.A (handleBy e X.env (g :: gs)) (SP X pins D) X.xe t3) X.xe t2) X.xe t1
  have caught : L2.Takes (X.tr (X.pn ++ pins) back) (wSeq X.K i Wout D l) := by
    intro u s' xx
    obtain ⟨a, B, t0, pins', τ, G, cls, d, rfl, J', nb, up, sky, na, os, ag, w⟩ := xx
    have J : L2.Inv X pins τ G t0 := J'.ofTry okX
    rw [show (X.tr (X.pn ++ pins) back).stack = X.env :: X.outer from hs] at sky
    refine Sky.land Zc.steady frm hf sky fun k3 fl3 up3 => ?_
    have J3 : L2.Inv X pins τ G { s' with heap := k3 } := J.landed nb fl3.1 (up.trans up3) os ag
    obtain ⟨oe3, vs3, he3, hz3, hd3⟩ := fl3.there
    have far : a ∉ frs (X.env :: X.outer) := by
      intro hm
      obtain ⟨_, o', e', hnf⟩ := fl3.2.2.1.mem hm
      rw [he3] at e'
      cases e'
      exact hnf _ hd3
    have nLoc : a ≠ X.env.locals := by
      intro z
      exact far (List.mem_filterMap.mpr ⟨X.env, List.mem_cons_self, by rw [hf, z]⟩)
    have nFs : a ∉ X.fs := by
      intro hm
      obtain ⟨e, he, q⟩ := List.mem_filterMap.mp hm
      exact far (List.mem_filterMap.mpr ⟨e, List.mem_cons_of_mem _ he, q⟩)
    have S3 := J3.suite he3 hd3 na nLoc nFs
    have go : ∀ {cs : List ExceptHandler} {m : List (Value × (Addr → Value → Option Addr → TS))}, HdsAs X n cs m → wSeq X.K i Wout D m cls d τ G →
        wpAny (model X.prog X.w) X.A (handleBy (.ref a) X.env cs) (SP X pins D) X.xe { s' with heap := k3 } := by
      intro cs m hk
      induction hk with
      | nil =>
        intro w
        refine wpAny_handleBy_nil ?_
        obtain ⟨_, _, _, oe, vs, T, oT, ts', he, hz, hd, h1, hr⟩ := id fl3
        unfold PySem.passOn
        refine wpAny_bind (wpAny_field he hd h1 ?_)
        have nn : ¬ ((Value.ref T == Value.none) = true) := by simp
        rw [if_neg nn]
        have on : wpAny (model X.prog X.w) X.A (setFlight (.ref a) X.env.frame) (fun _ t4 => wpAny (model X.prog X.w) X.A (throw (.ref a) : Sem Flow) (SP X pins D) X.xe t4) X.xe { s' with heap := k3 } := by
          rw [hf]
          refine HandSPX.setFlight_upZ fl3 fun k4 hh4 up4 => wpAny_throw (tk _ _ ?_)
          refine ⟨a, B, t0, pins, τ, G, cls, d, rfl, J, nb, (up.trans up3).trans up4, .inr (.inr ?_), na, os, ag, w⟩
          rw [hs]
          exact hh4
        first
          | exact wpAny_bind (wpAny_pure (wpAny_bind on))
          | exact wpAny_bind on
      | @cons x c ts st sts np cp more l2 hc hsu r ih =>
        intro w
        obtain ⟨b, hb1, hyes, hno⟩ := w
        refine wpAny_handleBy_cons (codeAny_handlers_test ?_) (by intro q; cases q)
        have LT : PySem.W.Looks (model X.prog X.w) k3 (typeOf (.ref a)) cls := by
          intro A Q E t kk q
          exact wpAny_typeOf_ref (kk _ _ he3) (by rw [hz3.1]; exact q)
        have LM := PySem.W.exm_one (M := model X.prog X.w) J3.kIn LT hb1
        have asks : ∀ {Q E : Value → Shared → Prop}, Q c { s' with heap := k3 } → wpAny (model X.prog X.w) (X.A.mark (some (.ref a))) (eval (.Name x np) X.env) Q E { s' with heap := k3 } := by
          intro Q E q
          obtain ⟨hg, hdbg, hm | ⟨hm, hv, hnn⟩⟩ := hc
          · exact ld_glob (X := X.suite a ((a, oe3) :: (X.pn ++ pins))) S3 hg hm q hdbg
          · exact ld_blt (X := X.suite a ((a, oe3) :: (X.pn ++ pins))) S3 hg hm hv q hnn hdbg
        refine asks (LM.here ?_)
        cases b with
        | true =>
          refine codeAny_handlers_suite_as ?_
          refine HandSPX.lands_againZ fl3 fun k4 fl4 up4 => ?_
          have J4 : L2.Inv X pins τ G { s' with heap := k4 } := J.landed nb fl4.1 ((up.trans up3).trans up4) os ag
          obtain ⟨oe4, vs4, he4, hz4, hd4⟩ := fl4.there
          have S4 := J4.suite he4 hd4 na nLoc nFs
          refine store_ok (X := X.suite a ((a, oe4) :: (X.pn ++ pins))) (v := .ref a) S4 hN hi isLoc rfl ?_ (.inr hln)
          intro s5 S5
          refine wpAny_mono ((hsu a oe4 cls d (X.pn ++ pins) hz4 ⟨_, hd4⟩).run [] s5 _ G _ S5 (hyes rfl a na)) ?_ (fun _ _ z => z.elim)
          intro fl s6 hsp
          have off : ∀ {σ6 : L2.St} {H6 : Hp} {Q : Shared → Prop}, L2.Inv (X.suite a ((a, oe4) :: (X.pn ++ pins))) [] σ6 H6 s6 → (∀ s7, L2.Inv X pins (σ6.set i none) H6 s7 → Q s7) →
              wpAny (model X.prog X.w) X.A (do bindName X.env n .none; unbindBehindTheSuite X.env n cp) (fun _ s7 => Q s7) X.xe s6 := by
            intro σ6 H6 Q S6 hq
            exact gone_ok (S6.unsuite okX) hN hi hln hq
          cases fl with
          | next =>
            obtain ⟨_, _, S6, q6⟩ := hsp
            exact off S6 fun _ J7 => ⟨_, _, J7, q6⟩
          | brk =>
            obtain ⟨_, _, S6, q6⟩ := hsp
            exact off S6 fun _ J7 => ⟨_, _, J7, q6⟩
          | cont =>
            obtain ⟨_, _, S6, q6⟩ := hsp
            exact off S6 fun _ J7 => ⟨_, _, J7, q6⟩
          | ret u =>
            obtain ⟨_, _, _, S6, r6, q6⟩ := hsp
            exact off S6 fun _ J7 => ⟨_, _, _, J7, r6, q6⟩
        | false =>
          show wpAny _ X.A (handleBy (.ref a) X.env more) _ _ _
          exact ih (hno rfl)
    exact go hh w
  refine wpAny_mono ((hb (wSeq X.K i Wout D l) (X.pn ++ pins) back caught PassesOwn.looking).run [] s σ H D (I.toTry _) h) ?_ (fun _ _ he => he)
  intro fl s1 hsp
  cases fl with
  | next =>
    obtain ⟨_, _, J', q⟩ := hsp
    exact wpAny_execs_nil ⟨_, _, J'.ofTry okX, q⟩
  | brk =>
    obtain ⟨_, _, J', q⟩ := hsp
    exact ⟨_, _, J'.ofTry okX, q⟩
  | cont =>
    obtain ⟨_, _, J', q⟩ := hsp
    exact ⟨_, _, J'.ofTry okX, q⟩
  | ret u =>
    obtain ⟨_, _, _, J', r, q⟩ := hsp
    exact ⟨_, _, _, J'.ofTry okX, r, q⟩
end
end Par
namespace Par
open PySem PySem.Spec PyProof.Rows L2
/-! ### a def that is handed the error that its caller's suite holds; it raises nothing -/
/-- what such a def promises: it may speak of the error, at p.1, and of its object, p.2 -/
structure FnP (P : Program) (w : World) (K : PySem.W.Frag) (mg : Str → Option Value) (base : Heap) (k : Nat) (f : Addr) (fd : FuncData) (ps : List Str) (sp : Addr × Obj → Sp) : Prop where
  len : ∀ p vs H Q E, sp p vs H Q E → vs.length = ps.length
  run : ∀ (A : Around) (outer : List Env) (s : Shared) (H : Hp) (args : Args) (us : List Value) (vs : List V) (Q : VK) (p : Addr × Obj), L2H.RoomH k A → L2H.PinOk outer H s p → Env0 P w K mg base A outer s H → BindsTo s fd args (ps.zip us) → Vals vs us → sp p vs H Q E0 →
    codeAny (model P w) A (.call (.ref f) args) (CR CX0 outer P w H s Q E0) s
section
variable {P : Program} {w : World} {K : PySem.W.Frag} {mg : Str → Option Value} {base : Heap}
theorem fnP_of {k : Nat} {x qual : Str} {st : Stmt} {f : Addr} {fd : FuncData} {N ps : List Str} {sp : Addr × Obj → Sp} (F : Fun K x qual st f fd) (S : FnScope N ps (defScope st))
    (len : ∀ p vs H Q E, sp p vs H Q E → vs.length = ps.length)
    (hbody : ∀ (cdv : Value) (A : Around) (outer : List Env) (s : Shared) (H : Hp) (vs : List V) (Q : VK) (p : Addr × Obj), L2H.RoomH k (A.deeper (envOfC qual (defScope st) s.heap.objs.size f cdv)) → sp p vs H Q E0 →
      ∃ t, PSs (L2H.cxH CX0 P w K mg base N qual (defScope st) f cdv A outer s H E0 p) (defBody st) t ∧ t { nx := fun _ H' => Q .non H', rt := Q } (L2.start N vs) H) :
    FnP P w K mg base (k + 1) f fd ps sp := by
  obtain ⟨oc, od, kV, doc, pm, an, cdv, ct, osl, efd, lk, hcd⟩ := F.ex
  subst efd
  refine ⟨len, fun A outer s H args us vs Q p hr hpin e0 hb r hsp => ?_⟩
  have hl := len _ _ _ _ _ hsp
  have KX : K.In s.heap := e0.mod.kin.keeps fun b o e => (e0.bs b o e).1
  have lim : s.heap.NoLimit := e0.mod.nolimit.keeps fun b o e => (e0.bs b o e).1
  have hkind : ∀ y ∈ ps.zip us, (defScope st).names.lookup y.1 = some .local ∨ ((defScope st).names.lookup y.1 = some .cell ∧ ((cellsFrom (s.heap.objs.size + 1) (defScope st).names []).lookup y.1).isSome = true) := fun ⟨n, v⟩ hy => by
    rcases S.par n (List.of_mem_zip hy).1 with q | q
    · exact .inl q
    · exact .inr ⟨q, PySem.W.cellsFrom_some _ _ _ (.inl q)⟩
  refine codeAny_call_function hr.depth (KX _ _ lk) rfl S.co S.gen rfl (PySem.W.codeRec_of KX hcd) (hb _ _ _ _ ?_)
  refine wpAny_newFunctionEnv_cells S.kind hkind fun env he s1 x => ?_
  subst he
  refine ⟨lim.keeps x.toInCall.keep, codeAny_func ?_⟩
  obtain ⟨t, ht, hq⟩ := hbody cdv A outer s H vs Q p (hr.deeper _) hsp
  have I := L2H.inv_startH (CX := CX0) (E := E0) S hpin e0 hl r x
  refine wpAny_mono (ht.run [] s1 (L2.start N vs) H _ I hq) (fun fl s' hs => ?_) fun e s' hs => hs
  cases fl with
  | ret u =>
    obtain ⟨v, σ', H', J, rv, q⟩ := hs
    exact ⟨v, H', J.os, J.bare, J.base, J.hok, rv, q⟩
  | next =>
    obtain ⟨σ', H', J, q⟩ := hs
    exact ⟨V.non, H', J.os, J.bare, J.base, J.hok, rfl, q⟩
  | brk =>
    obtain ⟨_, _, _, q⟩ := hs
    exact False.elim q
  | cont =>
    obtain ⟨_, _, _, q⟩ := hs
    exact False.elim q
end
section
variable {X : Cx} {k : Nat} {f a : Addr} {oe : Obj} {fd : FuncData} {q : Str} {sp : Addr × Obj → Sp} {x : Str} {p pos : Pos} {e : Expr} {te : TE} {pn : List (Addr × Obj)} {cls : Value} {d : Option Addr}
def tHeld (a : Addr) (cls : Value) (d : Option Addr) (sp : Addr × Obj → Sp) (te : TE) : TE := fun σ H Q => te σ H fun v H1 => v = .ref a ∧ ∀ oe : Obj, Zc cls d oe → (∃ vs, oe.data = .fields vs) → sp (a, oe) [.ref a] H1 Q E0
/-- f(e), where e is the error that the suite holds -/
theorem pe_callHeld (hz : Zc cls d oe) (hf : ∃ vs, oe.data = .fields vs) (F : FnP X.prog X.w X.K X.mg X.base k f fd [q] sp) (hr : Room k X.A) (hg : Gl X x) (hm : X.mg x = some (.ref f)) (hk : PySem.W.keepIn X.K (.ref f) = true)
    (hb : Binds X.K fd [q] []) (he : PE (X.suite a ((a, oe) :: pn)) e te) (hdb : (x == ("__debug__" : Str)) = false := by decide)
    (hst : starEach [e] X.env = (false, eval e X.env) :: starEach [] X.env := by rfl) (hpl : (backTo pos (starEach [] X.env)).any (·.1) = false := by rfl) :
    PE (X.suite a ((a, oe) :: pn)) (.Call (.Name x p) [e] [] pos) (tHeld a cls d sp te) := by
  constructor
  intro pins s σ H Q I h
  refine wpAny_Call_Name_kw (ld_glob (X := X.suite a ((a, oe) :: pn)) I hg hm ?_ hdb)
  have one : PA (X.suite a ((a, oe) :: pn)) [e] (tCons te tNil) := pa_cons he pa_nil (hs := hst)
  refine PySem.W.callWith_K (h₀ := X.base) I.ok.mod.kin hk (thn (one.run pos pins s σ H (fun vs H1 => match vs with
    | [v] => v = .ref a ∧ ∀ oe : Obj, Zc cls d oe → (∃ vs, oe.data = .fields vs) → sp (a, oe) [.ref a] H1 Q E0
    | _ => False) I h) ?_) hst hpl
  rintro us s1 ⟨vs, H1, I1, r, q0⟩
  obtain ⟨rfl, q1⟩ : vs = [.ref a] ∧ sp (a, oe) [.ref a] H1 Q E0 := by
    match vs, q0 with
    | [v], ⟨e, z⟩ => exact ⟨by rw [e], z oe hz hf⟩
  refine ⟨I1.kIn, ?_⟩
  obtain ⟨h1, h2, h3, h4, h5⟩ := I1.pin (a, oe) (List.mem_append_left _ List.mem_cons_self)
  have nfs : a ∉ frs X.stack := fun z => by
    rcases List.mem_cons.mp (I1.stkSub a z) with y | y
    · exact h3 y
    · exact h4 y
  have hl : us.length = 1 := r.length.symm
  have hbi := hb s1 us I1.kIn (by rw [List.append_nil]; exact hl)
  rw [List.append_nil] at hbi
  refine wpAny_call (codeAny_mono (F.run (X.A.mark (some (.ref a))) X.stack s1 H1 ⟨us, []⟩ us [.ref a] Q (a, oe) ⟨hr.dp, hr.un⟩ ⟨h1, h2, nfs, h5⟩ I1.env0 hbi r q1) ?_)
  intro res s' hq
  cases res with
  | error er => exact False.elim hq
  | ok fl =>
    cases fl with
    | next => exact False.elim hq
    | brk => exact False.elim hq
    | cont => exact False.elim hq
    | ret u => exact I1.after hq
end
section
variable {X : Cx}
/-- isinstance(e, c), e an error that was handed on -/
theorem call_isQ {p : Addr × Obj} (hp : p ∈ X.pn) : CallR X (.builtin "isinstance")
    (fun xs H Q => ∃ (D dd : Addr) (c : V) (u : Value) (b : Bool) (fs : List (Str × V)), xs = [.ref p.1, c] ∧ ExcC X.K D ∧ Zc (.ref D) (some dd) p.2 ∧ (∃ vs, p.2.data = .fields vs) ∧ H dd = some (.xd fs) ∧ ClsV c u ∧ PySem.W.kitOne X.K (.ref D) u = some b ∧ Q (.bl b) H) := by
  intro pins s σ H xs us Q I r h
  obtain ⟨D, dd, c, u, b, fs, rfl, C, hz, ⟨vs, hd⟩, ea, k, e, q⟩ := h
  obtain ⟨u1, u2, rfl, r1, r2⟩ := vals2 r
  cases (show u1 = Value.ref p.1 from r1)
  have e2 := k.eq r2
  subst e2
  have hg := (I.pin p (List.mem_append_left _ hp)).1
  obtain ⟨mA, hns, hr⟩ := (show ObjOk X.prog X.w H s.heap dd (.xd fs) from I.hok dd _ ea)
  obtain ⟨od, ho, hl⟩ := lookIn_ns hns
  have J : PySem.W.InstAt s.heap p.1 p.2 D (some od) := ⟨hg, hz.1, by unfold PySem.W.notCls; rw [hd] <;> rfl, by rw [hz.2]; exact ho⟩
  exact PySem.W.kia_one (kit_held C) I.kIn J e (fun z => nomatch z) fun tk => ⟨.bl b, H, I.tok tk, rfl, q⟩
/-- xs.count(y), flat items -/
def rCountV (K : PySem.W.Frag) : V → List V → Hp → VK → Prop := fun x xs H Q => ∃ (a : Addr) (ys : List V) (y : V), x = V.ref a ∧ xs = [y] ∧ SqL K H a ys ∧ flatV y = true ∧ ys.all flatV = true ∧ Q (.int ((ys.countP fun z => eqV z y : Nat) : Int)) H
theorem count_vals {y : V} : ∀ {ys : List V} {us : List Value}, Vals ys us → ys.all flatV = true → us.countP (eqU y) = ys.countP fun z => eqV z y
  | _, _, .nil, _ => rfl
  | _, _, .cons (a := v) r rs, f => by
    have f2 := List.all_eq_true.mp f v (List.mem_cons_self ..)
    have ih := count_vals (y := y) rs (List.all_eq_true.mpr fun z hz => List.all_eq_true.mp f z (List.mem_cons_of_mem _ hz))
    rw [List.countP_cons, List.countP_cons, ih, eqU_of r f2]
theorem mt_countV : MtR X "list.count" (rCountV X.K) := by
  intro pins s σ H x xs v us Q I rx rxs h
  obtain ⟨a, ys, y, rfl, rfl, hs, fy, fys, q⟩ := h
  cases rx
  cases rxs with
  | cons ry rt =>
    rename_i uy ut
    cases rt
    obtain ⟨its, rv, ⟨⟨cls, dd, data, sl⟩, n, ho, hc, hdn, hd⟩, hlen⟩ := I.list hs
    simp only at hc hd
    subst hc hd
    refine call_meets PySem.F.slot_list_count ⟨_, ho, rfl⟩ PySem.F.entry_list_count (PySem.F.args_list_count_2 _ _)
      (SeqAt.list_countAt a its.toArray n dd sl uy (eqU y)) ⟨ho, fun u' hu' => mem_eqAt ry fy rv fys u' (by simpa using hu'), ?_⟩
    have ec : its.toArray.toList.countP (eqU y) = ys.countP fun z => eqV z y := count_vals rv fys
    refine ⟨.int ((ys.countP fun z => eqV z y : Nat) : Int), H, I.tok _, ⟨s.toks, ?_⟩, q⟩
    show Value.int ((its.toArray.toList.countP (eqU y) : Nat) : Int) s.toks = Value.int ((ys.countP fun z => eqV z y : Nat) : Int) s.toks
    rw [ec]
end
end Par
/-! Rzb: an own exception as a thing: C(e, ..), C(k = e, ..), isinstance(e, c), e.f. -/
namespace Par
open PySem PySem.Spec PyProof.Rows L2
/-- at a: an exception of the class at C with these fields -/
def Er (H : Hp) (a C : Addr) (fs : List (Str × V)) : Prop := ∃ dx, H a = some (exo a C (some dx)) ∧ H dx = some (exd dx fs)
theorem Er.same {H H' : Hp} {a C : Addr} {fs : List (Str × V)} (s : Same H H') (h : Er H a C fs) : Er H' a C fs := let ⟨dx, e1, e2⟩ := h; ⟨dx, s _ _ e1, s _ _ e2⟩
/-- C(e, ..) -/
def tMkEr (C : Addr) (sp : Sp) (ta : TA) : TE := fun σ H Q => ta σ H fun vs H1 => vs.length ≤ 1000 ∧ ∀ a, H1 a = none → sp (.ref a :: vs) (upd H1 a (exo a C none)) (fun v H2 => v = .non ∧ Q (.ref a) H2) (fun _ _ _ => False)
/-- C(k = e, ..) -/
def tMkEk (C : Addr) (m : Nat) (sp : Sp) (gV : List V → List V → List V) (tk : TA) : TE := fun σ H Q => tk σ H fun zs H1 => zs.length = m ∧ ∀ a, H1 a = none → sp (gV [.ref a] zs) (upd H1 a (exo a C none)) (fun v H2 => v = .non ∧ Q (.ref a) H2) (fun _ _ _ => False)
/-- e.f -/
def tFe (K : PySem.W.Frag) (f : Str) (te : TE) : TE := fun σ H Q => te σ H fun x H1 => ∃ (a C : Addr) (fs : List (Str × V)) (v : V), x = .ref a ∧ Er H1 a C fs ∧ XfC K C ∧ PySem.W.findIn K (.ref C) f = some none ∧ fs.lookup f = some v ∧ Q v H1
section
variable {X : Cx} {CX : CXT} {k : Nat} {C fI : Addr} {fd : FuncData} {ps ks : List Str} {sp : Sp} {x : Str} {p pos : Pos} {e : Expr} {es : List Expr} {kws : List Keyword} {ta tk : TA} {te : TE} {g : List Value → List Value → List Value} {gV : List V → List V → List V}
theorem run_mkEr {pins : List (Addr × Obj)} {σ : L2.St} {H : Hp} {s : Shared} {Q : VK} {us : List Value} {kw : List (Str × Value)} {bs : Addr → List Value} {vs : Addr → List V} (T : ErrC X.K C) (ini : PySem.W.findIn X.K (.ref C) "__init__" = some (some (.ref fI)))
    (isF : PySem.W.typeIn X.K (.ref fI) = some (.type "function")) (G : FnOk X.prog X.w X.K X.mg X.base CX k fI fd ps sp) (hr : Room (k + 1) X.A) (hx : Passes CX X (fun _ _ _ => False)) (I : L2.Inv X pins σ H s) (short : us.length ≤ sizeLine)
    (hb : ∀ (a : Addr) (s' : Shared), X.K.In s'.heap → BindsTo s' fd ⟨Value.ref a :: us, kw⟩ (ps.zip (bs a))) (rel : ∀ a, Vals (vs a) (bs a))
    (h : ∀ a, H a = none → sp (vs a) (upd H a (exo a C none)) (fun v H2 => v = .non ∧ Q (.ref a) H2) (fun _ _ _ => False)) :
    wpAny (model X.prog X.w) X.A (call (.ref C) us kw) (EP X pins σ Q) X.xe s := by
  obtain ⟨newId, tail, nm, q, N, cbs, bm, sn, sub, ab, col, dd, k0, k1, k2, k3, k5, bas, atC, cs, ebm⟩ := T.is
  obtain ⟨B, initId, facts⟩ := bas.base
  have ov : Over tail bm := ⟨bas.full, cs, ebm⟩
  obtain ⟨hp, gn, dr, tk, os⟩ := s
  have up : hp.objs.size ≤ hp.objs.size + 1 := Nat.le_succ _
  have want := h (hp.objs.size + 1) (I.hok.fresh up)
  have old : ∀ b o, hp.get? b = some o → ((hp.push (PySem.W.kdv_tup us)).push (PySem.HandSPX.excO C hp.objs.size)).get? b = some o := fun b o z => Heap.get?_push_of_some _ (Heap.get?_push_of_some _ z)
  have made : ((hp.push (PySem.W.kdv_tup us)).push (PySem.HandSPX.excO C hp.objs.size)).get? (hp.objs.size + 1) = some (PySem.HandSPX.excO C hp.objs.size) := by heap_get
  have I2 : L2.Inv X pins σ (upd H (hp.objs.size + 1) (exo (hp.objs.size + 1) C none)) ⟨(hp.push (PySem.W.kdv_tup us)).push (PySem.HandSPX.excO C hp.objs.size), gn, dr, tk, os⟩ :=
    I.laid (t' := tk) (a := hp.objs.size + 1) (o := exo (hp.objs.size + 1) C none) (h' := (hp.push (PySem.W.kdv_tup us)).push (PySem.HandSPX.excO C hp.objs.size)) old up (exo_ok made)
  refine wpAny_call (PySem.Ekw.call_kw facts (fun Y => ov.has Y) (I.kIn _ _ atC) (PySem.W.looks_findIn I.kIn ini) (fun self => PySem.W.bind_fn I.kIn self isF) short (codeAny_mono
    (G.run _ X.stack _ _ ⟨Value.ref (hp.objs.size + 1) :: us, kw⟩ (bs (hp.objs.size + 1)) _ _ (fun _ _ _ => False) (hr.make C us kw) (I2.env0.make C us kw) (hb _ _ I2.kIn) (rel _) want) ?_))
  intro r s' z
  cases r with
  | error er => exact hx pins σ _ _ er s' I2 z
  | ok fl =>
    cases fl with
    | next => exact False.elim z
    | brk => exact False.elim z
    | cont => exact False.elim z
    | ret u =>
      obtain ⟨v, H', I3, rv, ev, q3⟩ := I2.after z
      subst ev
      exact ⟨rv, V.ref (hp.objs.size + 1), H', I3, rfl, q3⟩
theorem pe_mkEr (T : ErrC X.K C) (ini : PySem.W.findIn X.K (.ref C) "__init__" = some (some (.ref fI))) (isF : PySem.W.typeIn X.K (.ref fI) = some (.type "function")) (G : FnOk X.prog X.w X.K X.mg X.base CX k fI fd ps sp) (hr : Room (k + 1) X.A)
    (hb : Binds X.K fd ps []) (hx : Passes CX X (fun _ _ _ => False)) (hg : Gl X x) (hm : X.mg x = some (.ref C)) (ha : PA X (e :: es) ta)
    (hdb : (x == ("__debug__" : Str)) = false := by decide) (he : starEach (e :: es) X.env = (false, eval e X.env) :: starEach es X.env := by rfl) (hpl : (backTo pos (starEach es X.env)).any (·.1) = false := by rfl) :
    PE X (.Call (.Name x p) (e :: es) [] pos) (tMkEr C sp ta) := by
  refine ⟨fun pins s σ H Q I h => ?_⟩
  refine wpAny_Call_Name_kw (ld_glob I hg hm ?_ hdb)
  refine PySem.W.callWith_K (h₀ := X.base) I.ok.mod.kin T.kept (thn (ha.run pos pins s σ H _ I h) ?_) he hpl
  rintro us s1 ⟨vs, H1, I1, r1, few, q1⟩
  refine ⟨I1.kIn, ?_⟩
  have l1 := G.len _ _ _ _ (q1 s1.heap.objs.size (I1.hok.fresh (Nat.le_refl _)))
  refine run_mkEr (bs := fun a => Value.ref a :: us) (vs := fun a => V.ref a :: vs) T ini isF G hr hx I1 ?_ (fun a s' X' => ?_) (fun a => .cons rfl r1) q1
  · show us.length ≤ sizeLine
    rw [← Paired.length r1, sizeLine_eq]
    omega
  · have z := hb s' (Value.ref a :: us) X' (by rw [List.append_nil, List.length_cons, ← Paired.length r1]; exact l1)
    rwa [List.append_nil] at z
theorem pe_mkEk (T : ErrC X.K C) (ini : PySem.W.findIn X.K (.ref C) "__init__" = some (some (.ref fI))) (isF : PySem.W.typeIn X.K (.ref fI) = some (.type "function")) (G : FnOk X.prog X.w X.K X.mg X.base CX k fI fd ps sp) (hr : Room (k + 1) X.A)
    (hb : KBn X.K fd ps 1 ks g gV) (hx : Passes CX X (fun _ _ _ => False)) (hg : Gl X x) (hm : X.mg x = some (.ref C)) (hkw : PK X kws tk)
    (hall : (backToKw pos (keywordEach kws X.env)).all (·.1.isSome) = true := by rfl)
    (hks : (backToKw pos (keywordEach kws X.env)).filterMap (·.1) = ks := by rfl)
    (hdb : (x == ("__debug__" : Str)) = false := by decide)
    (hpl : ((backTo pos (starEach [] X.env)).any (·.1) || (backToKw pos (keywordEach kws X.env)).any (·.1.isNone)) = false := by rfl) :
    PE X (.Call (.Name x p) [] kws pos) (tMkEk C ks.length sp gV tk) := by
  refine ⟨fun pins s σ H Q I h => ?_⟩
  refine wpAny_Call_Name_kw (ld_glob I hg hm ?_ hdb)
  refine PySem.W.callWith_KW0 (h₀ := X.base) I.ok.mod.kin T.kept hall ?_ hpl
  refine thn (hkw.run pos pins s σ H _ I h) ?_
  rintro ws s2 ⟨zs, H2, I2, rz, l2, q2⟩
  refine ⟨I2.kIn, ?_⟩
  rw [hks]
  exact run_mkEr (us := []) (kw := ks.zip ws) (bs := fun a => g [Value.ref a] ws) (vs := fun a => gV [V.ref a] zs) T ini isF G hr hx I2 (Nat.zero_le _) (fun a s' X' => hb.to s' [Value.ref a] ws X' rfl (rz.length.symm.trans l2)) (fun a => hb.rel (.cons rfl .nil) rz) q2
end
section
variable {X : Cx} {pins : List (Addr × Obj)} {σ : L2.St} {H : Hp} {s : Shared} {a C : Addr} {fs : List (Str × V)}
theorem er_inst (I : L2.Inv X pins σ H s) (h : Er H a C fs) : ∃ oe od, PySem.W.InstAt s.heap a oe C (some od) ∧ ∀ n, ∃ u, RelO (fs.lookup n) u ∧ PySem.W.lookIn n od = some u := by
  obtain ⟨dx, e1, e2⟩ := h
  obtain ⟨t1, ho⟩ := exo_at I.hok e1
  obtain ⟨mA, hns, hr⟩ := exd_at I.hok e2
  obtain ⟨od, hod, hl⟩ := lookIn_ns hns
  exact ⟨_, od, ⟨ho, rfl, rfl, hod⟩, fun n => ⟨mA n, hr n, hl n⟩⟩
/-- isinstance(e, c) -/
theorem call_isEr : CallR X (.builtin "isinstance") (fun xs H Q => ∃ (a C : Addr) (c : V) (u : Value) (b : Bool) (fs : List (Str × V)), xs = [.ref a, c] ∧ Er H a C fs ∧ ExcC X.K C ∧ ClsV c u ∧ PySem.W.kitOne X.K (.ref C) u = some b ∧ Q (.bl b) H) := by
  intro pins s σ H xs us Q I r h
  obtain ⟨a, C, c, u, b, fs, rfl, he, T, k, e, q⟩ := h
  obtain ⟨u1, u2, rfl, r1, r2⟩ := vals2 r
  cases (show u1 = Value.ref a from r1)
  have e2 := k.eq r2
  subst e2
  obtain ⟨oe, od, J, _⟩ := er_inst I he
  exact PySem.W.kia_one (kit_held (oe := oe) T) I.kIn J e (fun z => nomatch z) fun tk => ⟨.bl b, H, I.tok tk, rfl, q⟩
theorem pe_fe {e : Expr} {te : TE} {n : Str} {pos : Pos} (he : PE X e te) (hb : attributeBase e n X.env (eval e X.env) = eval e X.env := by rfl) : PE X (.Attribute e n pos) (tFe X.K n te) := by
  refine ⟨fun pins s σ H Q I h => ?_⟩
  refine attr_of hb (thn (he.run pins s σ H _ I h) fun u s1 hh => ?_)
  obtain ⟨x, H1, I1, rx, a, C, fs, v, ex, hE, T, hno, l, q⟩ := hh
  subst ex
  obtain rfl : u = Value.ref a := rx
  obtain ⟨oe, od, J, hl⟩ := er_inst I1 hE
  obtain ⟨mo, hr, hl⟩ := hl n
  obtain ⟨u, hu, ru⟩ := RelO.some_of (v := v) (o := mo) (by rw [← l]; exact hr)
  exact HandSPX.exc_get I1.kIn J T.ga T.gg T.exC (PySem.W.findObj_own T.hdC hno rfl (by rw [hl, hu])) (handed_of ru) ⟨v, H1, I1.tok _, ru, q⟩
end
end Par
namespace K18
open PySem PySem.Spec PyProof.Rows L2 Par
/-- the class of this name -/
abbrev Ea (K : PySem.W.Frag) (n : Str) : Addr := He.ga K n
/-- the classes of errors and which base each has -/
def exP : List (Str × Nat) := [(("NoSize" : Str), 0), (("NoCell" : Str), 0), (("NoCells" : Str), 0), (("NoFlip" : Str), 0), (("NoTable" : Str), 0), (("NoTime" : Str), 0), (("NoStamp" : Str), 0), (("NoCount" : Str), 0), (("NoProgram" : Str), 0), (("NoHands" : Str), 0), (("NoEntries" : Str), 0), (("NoName" : Str), 0), (("NoText" : Str), 0), (("NoCommand" : Str), 0), (("Halted" : Str), 0), (("NoEntry" : Str), 1), (("NoProcedure" : Str), 1), (("NoHand" : Str), 1), (("NoHistory" : Str), 1), (("Taken" : Str), 2), (("Standing" : Str), 2), (("Removed" : Str), 2), (("Folded" : Str), 2), (("Clash" : Str), 2), (("NotOwn" : Str), 2), (("NotHeard" : Str), 2), (("Behind" : Str), 2), (("Unchanged" : Str), 2), (("Known" : Str), 2), (("Unknown" : Str), 2), (("TooWide" : Str), 3), (("TooMany" : Str), 3), (("Unlike" : Str), 3)]
def baP : List (Str × Nat) := [(("CellError" : Str), 0), (("MissingError" : Str), 1), (("StateError" : Str), 2), (("LimitError" : Str), 3)]
def blP : List (String × Nat) := [("ValueError", 0), ("LookupError", 1), ("RuntimeError", 2), ("ArithmeticError", 3)]
def exF : List (Str × List Str) := [(("NoSize" : Str), (["value"] : List Str)), (("NoCell" : Str), (["cell"] : List Str)), (("NoCells" : Str), (["cells"] : List Str)), (("NoFlip" : Str), (["why"] : List Str)), (("NoTable" : Str), (["why"] : List Str)), (("NoTime" : Str), (["time"] : List Str)), (("NoStamp" : Str), (["stamp"] : List Str)), (("NoCount" : Str), (["count"] : List Str)), (("NoProgram" : Str), (["why", "where"] : List Str)), (("NoHands" : Str), (["value"] : List Str)), (("NoEntries" : Str), (["index"] : List Str)), (("NoName" : Str), (["name"] : List Str)), (("NoText" : Str), (["line"] : List Str)), (("NoCommand" : Str), (["command"] : List Str)), (("Halted" : Str), (["index", "answers"] : List Str)), (("NoEntry" : Str), (["stamp"] : List Str)), (("NoProcedure" : Str), (["name"] : List Str)), (("NoHand" : Str), (["hand"] : List Str)), (("NoHistory" : Str), (["name"] : List Str)), (("Taken" : Str), (["stamp"] : List Str)), (("Standing" : Str), (["stamp"] : List Str)), (("Removed" : Str), (["stamp"] : List Str)), (("Folded" : Str), (["stamp"] : List Str)), (("Clash" : Str), (["stamp"] : List Str)), (("NotOwn" : Str), (["stamp"] : List Str)), (("NotHeard" : Str), (["hand"] : List Str)), (("Behind" : Str), (["time"] : List Str)), (("Unchanged" : Str), (["value"] : List Str)), (("Known" : Str), (["cells"] : List Str)), (("Unknown" : Str), (["cells"] : List Str)), (("TooWide" : Str), (["needed"] : List Str)), (("TooMany" : Str), (["limit"] : List Str)), (("Unlike" : Str), (["one", "other"] : List Str))]
def tailOf (b : Nat) : List Value := [.type ((blP[b]?.getD ("", 0)).1), .type "Exception", .type "BaseException", .type "object"]
def newOf (b : Nat) : String := (["ValueError.__new__", "LookupError.__new__", "RuntimeError.__new__", "ArithmeticError.__new__"] : List String)[b]?.getD ""
/-- the class at C is an own error over the b-th base -/
def erB (K : PySem.W.Frag) (C : Addr) (b : Nat) : Bool :=
  Hk.exB K C (.ref (Hk.mroA K C 1) :: tailOf b) true (newOf b) && (decide (PySem.W.findIn K (.ref C) "__setattr__" = some (some (.builtin "object.__setattr__"))) && (decide (PySem.W.subIn K (.ref C) (.type "BaseException") = some true) &&
    (decide (PySem.W.typeIn K (.ref C) = some (.type "type")) && (PySem.W.keepIn K (.ref C) && (decide (PySem.W.findIn K (.ref C) "__getattribute__" = some (some (.builtin "BaseException.__getattribute__"))) &&
    (decide (PySem.W.findIn K (.ref C) "__getattr__" = some none) && (PySem.W.hasDictIn K C && (decide (PySem.W.findIn K (.ref C) "__class__" = some (some (.builtin "object.__class__"))) && decide (PySem.W.mroIn K C (.type "object") = some true)))))))))
theorem bas_of {b : Nat} (h : b < 4) : Bas (newOf b) (tailOf b) := by
  rcases (show b = 0 ∨ b = 1 ∨ b = 2 ∨ b = 3 by omega) with rfl | rfl | rfl | rfl
  · exact bas_value
  · exact bas_lookup
  · exact bas_runtime
  · exact bas_arith
theorem erB_ok {K : PySem.W.Frag} {C : Addr} {b : Nat} (hb : b < 4) (hn : PySem.W.specialIn K (.builtin "object.__class__") "__get__" = some (some (.builtin "getset_descriptor.__get__"))) (ht : PySem.W.takesIn K (.builtin "object.__class__") = some true)
    (h : erB K C b = true) : ErrC K C ∧ XfC K C ∧ ExcC K C := by
  obtain ⟨h1, h⟩ := He.ba h
  obtain ⟨h2, h⟩ := He.ba h
  obtain ⟨h3, h⟩ := He.ba h
  obtain ⟨h4, h⟩ := He.ba h
  obtain ⟨h5, h⟩ := He.ba h
  obtain ⟨h6, h⟩ := He.ba h
  obtain ⟨h7, h⟩ := He.ba h
  obtain ⟨h8, h⟩ := He.ba h
  obtain ⟨h9, h10⟩ := He.ba h
  obtain ⟨N, nm, qn, bs, sn, sub, ab, col, dd, m0, m1, m2, m3, m5, lk⟩ := Hk.ex_ok h1
  exact ⟨⟨⟨newOf b, tailOf b, nm, qn, N, bs, _, sn, sub, ab, col, dd, m0, m1, m2, m3, m5, bas_of hb, lk, [Hk.mroA K C 1], rfl⟩, of_decide_eq_true h2, of_decide_eq_true h3, of_decide_eq_true h4, h5⟩,
    ⟨of_decide_eq_true h6, of_decide_eq_true h7, of_decide_eq_true h3, h8⟩, ⟨of_decide_eq_true h6, of_decide_eq_true h7, of_decide_eq_true h3, h8, of_decide_eq_true h9, hn, ht, of_decide_eq_true h10⟩⟩
def glB (K : PySem.W.Frag) (n : Str) : Bool := decide (PySem.W.nsIn K mainGlobals n = some (some (.ref (Ea K n))))
def prA (K : PySem.W.Frag) : Bool := (exP.all fun p => glB K p.1 && erB K (Ea K p.1) p.2) && ((baP.all fun p => glB K p.1) && (exF.all fun p => p.2.all fun f => decide (PySem.W.findIn K (.ref (Ea K p.1)) f = some none)))
def prB (K : PySem.W.Frag) : Bool := exP.all fun p => exP.all fun q => decide (PySem.W.kitOne K (.ref (Ea K p.1)) (.ref (Ea K q.1)) = some (p.1 == q.1))
def prC (K : PySem.W.Frag) : Bool := exP.all fun p => (baP.all fun q => decide (PySem.W.kitOne K (.ref (Ea K p.1)) (.ref (Ea K q.1)) = some (p.2 == q.2))) && blP.all fun q => decide (PySem.W.kitOne K (.ref (Ea K p.1)) (.type q.1) = some (p.2 == q.2))
theorem ga_eq {K : PySem.W.Frag} {n : Str} {C : Addr} (h : PySem.W.nsIn K mainGlobals n = some (some (.ref C))) : He.ga K n = C := by
  unfold He.ga
  rw [h]
end K18
namespace K18
open PySem PySem.Spec PyProof.Rows L2 Par
/-! the facts of the row as Bools, its functions as data, the top run once for each part -/
def hkF0_0 : List (Hk.Fr → Bool) := [fun K => decide (PySem.W.nsIn K mainGlobals "is_integer" = some (some (.ref (He.ga K "is_integer")))),
  fun K => decide (PySem.W.nsIn K mainGlobals "is_integer_between" = some (some (.ref (He.ga K "is_integer_between")))),
  fun K => decide (PySem.W.nsIn K mainGlobals "is_size" = some (some (.ref (He.ga K "is_size")))),
  fun K => decide (PySem.W.nsIn K mainGlobals "are_cells" = some (some (.ref (He.ga K "are_cells")))),
  fun K => decide (PySem.W.nsIn K mainGlobals "_law_pot" = some (some (.ref (He.ga K "_law_pot")))),
  fun K => decide (PySem.W.nsIn K mainGlobals "_law_draw" = some (some (.ref (He.ga K "_law_draw")))),
  fun K => decide (PySem.W.nsIn K mainGlobals "_law_spots" = some (some (.ref (He.ga K "_law_spots")))),
  fun K => decide (PySem.W.nsIn K mainGlobals "_law_any_thing" = some (some (.ref (He.ga K "_law_any_thing")))),
  fun K => decide (PySem.W.nsIn K mainGlobals "_law_base" = some (some (.ref (He.ga K "_law_base")))),
  fun K => decide (PySem.W.nsIn K mainGlobals "_law_first_words" = some (some (.ref (He.ga K "_law_first_words")))),
  fun K => decide (PySem.W.nsIn K mainGlobals "_law_last_words" = some (some (.ref (He.ga K "_law_last_words")))),
  fun K => decide (PySem.W.nsIn K mainGlobals "_law_words" = some (some (.ref (He.ga K "_law_words")))),
  fun K => decide (PySem.W.nsIn K mainGlobals "_law_part_0" = some (some (.ref (He.ga K "_law_part_0")))),
  fun K => decide (PySem.W.nsIn K mainGlobals "_law_part_1" = some (some (.ref (He.ga K "_law_part_1")))),
  fun K => decide (PySem.W.nsIn K mainGlobals "_law_part_2" = some (some (.ref (He.ga K "_law_part_2")))),
  fun K => decide (PySem.W.nsIn K mainGlobals "_law_part_3" = some (some (.ref (He.ga K "_law_part_3")))),
  fun K => decide (PySem.W.nsIn K mainGlobals "_law_part_4" = some (some (.ref (He.ga K "_law_part_4")))),
  fun K => decide (PySem.W.nsIn K mainGlobals "_law_part_5" = some (some (.ref (He.ga K "_law_part_5")))),
  fun K => decide (PySem.W.nsIn K mainGlobals "_law_given" = some (some (.ref (He.ga K "_law_given")))),
  fun K => decide (PySem.W.nsIn K mainGlobals "_law_all_right" = some (some (.ref (He.ga K "_law_all_right")))),
  fun K => decide (PySem.W.nsIn K mainGlobals "law" = some (some (.ref (He.ga K "law")))),
  fun K => decide (PySem.W.nsIn K mainGlobals "is_cell" = some (some (.ref (He.ga K "is_cell")))),
  fun K => Hk.kwB K (He.ga K "is_cell"),
  fun K => Hk.intB (PySem.W.nsIn K (Hk.kwA K (He.ga K "is_cell")) "size") (40),
  fun K => decide (PySem.W.nsIn K mainGlobals "cell_tuple" = some (some (.ref (He.ga K "cell_tuple")))),
  fun K => Hk.kwB K (He.ga K "cell_tuple"),
  fun K => Hk.intB (PySem.W.nsIn K (Hk.kwA K (He.ga K "cell_tuple")) "size") (40),
  fun K => decide (PySem.W.nsIn K mainGlobals "Board" = some (some (.ref (He.ga K "Board")))),
  fun K => PySem.W.plainGet K (He.ga K "Board") Str.empty,
  fun K => PySem.W.hasDictIn K (He.ga K "Board"),
  fun K => PySem.W.plainOver K (He.ga K "Board"),
  fun K => decide (PySem.W.findIn K (.ref (He.ga K "Board")) "__setattr__" = some (some (.builtin "object.__setattr__"))),
  fun K => PySem.W.makesIn K (He.ga K "Board"),
  fun K => PySem.W.keepIn K (.ref (He.ga K "Board")),
  fun K => decide (PySem.W.findIn K (.ref (He.ga K "Board")) "states" = some none),
  fun K => decide (PySem.W.findIn K (.ref (He.ga K "Board")) "__init__" = some (some (.ref (He.ma K (He.ga K "Board") "__init__")))),
  fun K => PySem.W.isFn K (.ref (He.ma K (He.ga K "Board") "__init__")),
  fun K => Hk.kwB K (He.ma K (He.ga K "Board") "__init__"),
  fun K => Hk.refB (PySem.W.nsIn K (Hk.kwA K (He.ma K (He.ga K "Board") "__init__")) "up"),
  fun K => Hk.nilB K (Hk.refA (PySem.W.nsIn K (Hk.kwA K (He.ma K (He.ga K "Board") "__init__")) "up"))]
def hkF0_1 : List (Hk.Fr → Bool) := [fun K => Hk.intB (PySem.W.nsIn K mainGlobals "MOST_CELLS") (40),
  fun K => decide (PySem.W.nsIn K mainGlobals "NoSize" = some (some (.ref (He.ga K "NoSize")))),
  fun K => decide (PySem.W.findIn K (.ref (He.ga K "NoSize")) "__init__" = some (some (.ref (He.ma K (He.ga K "NoSize") "__init__")))),
  fun K => decide (PySem.W.typeIn K (.ref (He.ma K (He.ga K "NoSize") "__init__")) = some (.type "function")),
  fun K => decide (PySem.W.nsIn K mainGlobals "NoCell" = some (some (.ref (He.ga K "NoCell")))),
  fun K => decide (PySem.W.findIn K (.ref (He.ga K "NoCell")) "__init__" = some (some (.ref (He.ma K (He.ga K "NoCell") "__init__")))),
  fun K => decide (PySem.W.typeIn K (.ref (He.ma K (He.ga K "NoCell") "__init__")) = some (.type "function")),
  fun K => decide (PySem.W.nsIn K mainGlobals "NoCells" = some (some (.ref (He.ga K "NoCells")))),
  fun K => decide (PySem.W.findIn K (.ref (He.ga K "NoCells")) "__init__" = some (some (.ref (He.ma K (He.ga K "NoCells") "__init__")))),
  fun K => decide (PySem.W.typeIn K (.ref (He.ma K (He.ga K "NoCells") "__init__")) = some (.type "function")),
  fun K => decide (PySem.W.nsIn K mainGlobals "NoFlip" = some (some (.ref (He.ga K "NoFlip")))),
  fun K => decide (PySem.W.findIn K (.ref (He.ga K "NoFlip")) "__init__" = some (some (.ref (He.ma K (He.ga K "NoFlip") "__init__")))),
  fun K => decide (PySem.W.typeIn K (.ref (He.ma K (He.ga K "NoFlip") "__init__")) = some (.type "function")),
  fun K => decide (PySem.W.nsIn K mainGlobals "NoTable" = some (some (.ref (He.ga K "NoTable")))),
  fun K => decide (PySem.W.findIn K (.ref (He.ga K "NoTable")) "__init__" = some (some (.ref (He.ma K (He.ga K "NoTable") "__init__")))),
  fun K => decide (PySem.W.typeIn K (.ref (He.ma K (He.ga K "NoTable") "__init__")) = some (.type "function"))]
def hkF0_ : List (Hk.Fr → Bool) := hkF0_0 ++ (hkF0_1)
def hkD0_0 : List (Hk.Fd) := [⟨fun K => (He.ga K "is_integer"), "is_integer", "is_integer", (topS 40)⟩,
  ⟨fun K => (He.ga K "is_integer_between"), "is_integer_between", "is_integer_between", (topS 41)⟩,
  ⟨fun K => (He.ga K "is_size"), "is_size", "is_size", (topS 44)⟩,
  ⟨fun K => (He.ga K "are_cells"), "are_cells", "are_cells", (topS 46)⟩,
  ⟨fun K => (He.ga K "_law_pot"), "_law_pot", "_law_pot", (topS 52)⟩,
  ⟨fun K => (He.ga K "_law_draw"), "_law_draw", "_law_draw", (topS 53)⟩,
  ⟨fun K => (He.ga K "_law_spots"), "_law_spots", "_law_spots", (topS 54)⟩,
  ⟨fun K => (He.ga K "_law_any_thing"), "_law_any_thing", "_law_any_thing", (topS 55)⟩,
  ⟨fun K => (He.ga K "_law_base"), "_law_base", "_law_base", (topS 56)⟩,
  ⟨fun K => (He.ga K "_law_first_words"), "_law_first_words", "_law_first_words", (topS 57)⟩,
  ⟨fun K => (He.ga K "_law_last_words"), "_law_last_words", "_law_last_words", (topS 58)⟩,
  ⟨fun K => (He.ga K "_law_words"), "_law_words", "_law_words", (topS 59)⟩,
  ⟨fun K => (He.ga K "_law_part_0"), "_law_part_0", "_law_part_0", (topS 60)⟩,
  ⟨fun K => (He.ga K "_law_part_1"), "_law_part_1", "_law_part_1", (topS 61)⟩,
  ⟨fun K => (He.ga K "_law_part_2"), "_law_part_2", "_law_part_2", (topS 62)⟩,
  ⟨fun K => (He.ga K "_law_part_3"), "_law_part_3", "_law_part_3", (topS 63)⟩,
  ⟨fun K => (He.ga K "_law_part_4"), "_law_part_4", "_law_part_4", (topS 64)⟩,
  ⟨fun K => (He.ga K "_law_part_5"), "_law_part_5", "_law_part_5", (topS 65)⟩,
  ⟨fun K => (He.ga K "_law_given"), "_law_given", "_law_given", (topS 66)⟩]
def hkD0_ : List (Hk.Fd) := hkD0_0
def hkF1_0 : List (Hk.Fr → Bool) := [fun K => decide (PySem.W.nsIn K mainGlobals "NoTime" = some (some (.ref (He.ga K "NoTime")))),
  fun K => decide (PySem.W.findIn K (.ref (He.ga K "NoTime")) "__init__" = some (some (.ref (He.ma K (He.ga K "NoTime") "__init__")))),
  fun K => decide (PySem.W.typeIn K (.ref (He.ma K (He.ga K "NoTime") "__init__")) = some (.type "function")),
  fun K => decide (PySem.W.nsIn K mainGlobals "NoStamp" = some (some (.ref (He.ga K "NoStamp")))),
  fun K => decide (PySem.W.findIn K (.ref (He.ga K "NoStamp")) "__init__" = some (some (.ref (He.ma K (He.ga K "NoStamp") "__init__")))),
  fun K => decide (PySem.W.typeIn K (.ref (He.ma K (He.ga K "NoStamp") "__init__")) = some (.type "function")),
  fun K => decide (PySem.W.nsIn K mainGlobals "NoCount" = some (some (.ref (He.ga K "NoCount")))),
  fun K => decide (PySem.W.findIn K (.ref (He.ga K "NoCount")) "__init__" = some (some (.ref (He.ma K (He.ga K "NoCount") "__init__")))),
  fun K => decide (PySem.W.typeIn K (.ref (He.ma K (He.ga K "NoCount") "__init__")) = some (.type "function")),
  fun K => decide (PySem.W.nsIn K mainGlobals "NoProgram" = some (some (.ref (He.ga K "NoProgram")))),
  fun K => decide (PySem.W.findIn K (.ref (He.ga K "NoProgram")) "__init__" = some (some (.ref (He.ma K (He.ga K "NoProgram") "__init__")))),
  fun K => decide (PySem.W.typeIn K (.ref (He.ma K (He.ga K "NoProgram") "__init__")) = some (.type "function")),
  fun K => decide (PySem.W.nsIn K mainGlobals "NoHands" = some (some (.ref (He.ga K "NoHands")))),
  fun K => decide (PySem.W.findIn K (.ref (He.ga K "NoHands")) "__init__" = some (some (.ref (He.ma K (He.ga K "NoHands") "__init__")))),
  fun K => decide (PySem.W.typeIn K (.ref (He.ma K (He.ga K "NoHands") "__init__")) = some (.type "function")),
  fun K => decide (PySem.W.nsIn K mainGlobals "NoEntries" = some (some (.ref (He.ga K "NoEntries")))),
  fun K => decide (PySem.W.findIn K (.ref (He.ga K "NoEntries")) "__init__" = some (some (.ref (He.ma K (He.ga K "NoEntries") "__init__")))),
  fun K => decide (PySem.W.typeIn K (.ref (He.ma K (He.ga K "NoEntries") "__init__")) = some (.type "function")),
  fun K => decide (PySem.W.nsIn K mainGlobals "NoName" = some (some (.ref (He.ga K "NoName")))),
  fun K => decide (PySem.W.findIn K (.ref (He.ga K "NoName")) "__init__" = some (some (.ref (He.ma K (He.ga K "NoName") "__init__")))),
  fun K => decide (PySem.W.typeIn K (.ref (He.ma K (He.ga K "NoName") "__init__")) = some (.type "function")),
  fun K => decide (PySem.W.nsIn K mainGlobals "NoText" = some (some (.ref (He.ga K "NoText")))),
  fun K => decide (PySem.W.findIn K (.ref (He.ga K "NoText")) "__init__" = some (some (.ref (He.ma K (He.ga K "NoText") "__init__")))),
  fun K => decide (PySem.W.typeIn K (.ref (He.ma K (He.ga K "NoText") "__init__")) = some (.type "function")),
  fun K => decide (PySem.W.nsIn K mainGlobals "NoCommand" = some (some (.ref (He.ga K "NoCommand")))),
  fun K => decide (PySem.W.findIn K (.ref (He.ga K "NoCommand")) "__init__" = some (some (.ref (He.ma K (He.ga K "NoCommand") "__init__")))),
  fun K => decide (PySem.W.typeIn K (.ref (He.ma K (He.ga K "NoCommand") "__init__")) = some (.type "function")),
  fun K => decide (PySem.W.nsIn K mainGlobals "Halted" = some (some (.ref (He.ga K "Halted")))),
  fun K => decide (PySem.W.findIn K (.ref (He.ga K "Halted")) "__init__" = some (some (.ref (He.ma K (He.ga K "Halted") "__init__")))),
  fun K => decide (PySem.W.typeIn K (.ref (He.ma K (He.ga K "Halted") "__init__")) = some (.type "function")),
  fun K => decide (PySem.W.nsIn K mainGlobals "NoEntry" = some (some (.ref (He.ga K "NoEntry")))),
  fun K => decide (PySem.W.findIn K (.ref (He.ga K "NoEntry")) "__init__" = some (some (.ref (He.ma K (He.ga K "NoEntry") "__init__")))),
  fun K => decide (PySem.W.typeIn K (.ref (He.ma K (He.ga K "NoEntry") "__init__")) = some (.type "function")),
  fun K => decide (PySem.W.nsIn K mainGlobals "NoProcedure" = some (some (.ref (He.ga K "NoProcedure")))),
  fun K => decide (PySem.W.findIn K (.ref (He.ga K "NoProcedure")) "__init__" = some (some (.ref (He.ma K (He.ga K "NoProcedure") "__init__")))),
  fun K => decide (PySem.W.typeIn K (.ref (He.ma K (He.ga K "NoProcedure") "__init__")) = some (.type "function")),
  fun K => decide (PySem.W.nsIn K mainGlobals "NoHand" = some (some (.ref (He.ga K "NoHand")))),
  fun K => decide (PySem.W.findIn K (.ref (He.ga K "NoHand")) "__init__" = some (some (.ref (He.ma K (He.ga K "NoHand") "__init__")))),
  fun K => decide (PySem.W.typeIn K (.ref (He.ma K (He.ga K "NoHand") "__init__")) = some (.type "function")),
  fun K => decide (PySem.W.nsIn K mainGlobals "NoHistory" = some (some (.ref (He.ga K "NoHistory"))))]
def hkF1_1 : List (Hk.Fr → Bool) := [fun K => decide (PySem.W.findIn K (.ref (He.ga K "NoHistory")) "__init__" = some (some (.ref (He.ma K (He.ga K "NoHistory") "__init__")))),
  fun K => decide (PySem.W.typeIn K (.ref (He.ma K (He.ga K "NoHistory") "__init__")) = some (.type "function")),
  fun K => decide (PySem.W.nsIn K mainGlobals "Taken" = some (some (.ref (He.ga K "Taken")))),
  fun K => decide (PySem.W.findIn K (.ref (He.ga K "Taken")) "__init__" = some (some (.ref (He.ma K (He.ga K "Taken") "__init__")))),
  fun K => decide (PySem.W.typeIn K (.ref (He.ma K (He.ga K "Taken") "__init__")) = some (.type "function")),
  fun K => decide (PySem.W.nsIn K mainGlobals "Standing" = some (some (.ref (He.ga K "Standing")))),
  fun K => decide (PySem.W.findIn K (.ref (He.ga K "Standing")) "__init__" = some (some (.ref (He.ma K (He.ga K "Standing") "__init__")))),
  fun K => decide (PySem.W.typeIn K (.ref (He.ma K (He.ga K "Standing") "__init__")) = some (.type "function")),
  fun K => decide (PySem.W.nsIn K mainGlobals "Removed" = some (some (.ref (He.ga K "Removed")))),
  fun K => decide (PySem.W.findIn K (.ref (He.ga K "Removed")) "__init__" = some (some (.ref (He.ma K (He.ga K "Removed") "__init__")))),
  fun K => decide (PySem.W.typeIn K (.ref (He.ma K (He.ga K "Removed") "__init__")) = some (.type "function")),
  fun K => decide (PySem.W.nsIn K mainGlobals "Folded" = some (some (.ref (He.ga K "Folded")))),
  fun K => decide (PySem.W.findIn K (.ref (He.ga K "Folded")) "__init__" = some (some (.ref (He.ma K (He.ga K "Folded") "__init__")))),
  fun K => decide (PySem.W.typeIn K (.ref (He.ma K (He.ga K "Folded") "__init__")) = some (.type "function")),
  fun K => decide (PySem.W.nsIn K mainGlobals "Clash" = some (some (.ref (He.ga K "Clash")))),
  fun K => decide (PySem.W.findIn K (.ref (He.ga K "Clash")) "__init__" = some (some (.ref (He.ma K (He.ga K "Clash") "__init__"))))]
def hkF1_ : List (Hk.Fr → Bool) := hkF1_0 ++ (hkF1_1)
def hkD1_0 : List (Hk.Fd) := [⟨fun K => (He.ga K "_law_all_right"), "_law_all_right", "_law_all_right", (topS 67)⟩,
  ⟨fun K => (He.ga K "law"), "law", "law", (topS 68)⟩,
  ⟨fun K => (He.ga K "is_cell"), "is_cell", "is_cell", (topS 45)⟩,
  ⟨fun K => (He.ga K "cell_tuple"), "cell_tuple", "cell_tuple", (topS 47)⟩,
  ⟨fun K => (He.ma K (He.ga K "Board") "__init__"), "__init__", "Board.__init__", (inClass (topS 50) 0)⟩,
  ⟨fun K => (He.ma K (He.ga K "NoSize") "__init__"), "__init__", "NoSize.__init__", (inClass (topS 3) 0)⟩,
  ⟨fun K => (He.ma K (He.ga K "NoCell") "__init__"), "__init__", "NoCell.__init__", (inClass (topS 4) 0)⟩,
  ⟨fun K => (He.ma K (He.ga K "NoCells") "__init__"), "__init__", "NoCells.__init__", (inClass (topS 5) 0)⟩,
  ⟨fun K => (He.ma K (He.ga K "NoFlip") "__init__"), "__init__", "NoFlip.__init__", (inClass (topS 6) 0)⟩,
  ⟨fun K => (He.ma K (He.ga K "NoTable") "__init__"), "__init__", "NoTable.__init__", (inClass (topS 7) 0)⟩,
  ⟨fun K => (He.ma K (He.ga K "NoTime") "__init__"), "__init__", "NoTime.__init__", (inClass (topS 8) 0)⟩,
  ⟨fun K => (He.ma K (He.ga K "NoStamp") "__init__"), "__init__", "NoStamp.__init__", (inClass (topS 9) 0)⟩,
  ⟨fun K => (He.ma K (He.ga K "NoCount") "__init__"), "__init__", "NoCount.__init__", (inClass (topS 10) 0)⟩,
  ⟨fun K => (He.ma K (He.ga K "NoProgram") "__init__"), "__init__", "NoProgram.__init__", (inClass (topS 11) 0)⟩,
  ⟨fun K => (He.ma K (He.ga K "NoHands") "__init__"), "__init__", "NoHands.__init__", (inClass (topS 12) 0)⟩,
  ⟨fun K => (He.ma K (He.ga K "NoEntries") "__init__"), "__init__", "NoEntries.__init__", (inClass (topS 13) 0)⟩,
  ⟨fun K => (He.ma K (He.ga K "NoName") "__init__"), "__init__", "NoName.__init__", (inClass (topS 14) 0)⟩,
  ⟨fun K => (He.ma K (He.ga K "NoText") "__init__"), "__init__", "NoText.__init__", (inClass (topS 15) 0)⟩,
  ⟨fun K => (He.ma K (He.ga K "NoCommand") "__init__"), "__init__", "NoCommand.__init__", (inClass (topS 16) 0)⟩]
def hkD1_ : List (Hk.Fd) := hkD1_0
def hkF2_0 : List (Hk.Fr → Bool) := [fun K => decide (PySem.W.typeIn K (.ref (He.ma K (He.ga K "Clash") "__init__")) = some (.type "function")),
  fun K => decide (PySem.W.nsIn K mainGlobals "NotOwn" = some (some (.ref (He.ga K "NotOwn")))),
  fun K => decide (PySem.W.findIn K (.ref (He.ga K "NotOwn")) "__init__" = some (some (.ref (He.ma K (He.ga K "NotOwn") "__init__")))),
  fun K => decide (PySem.W.typeIn K (.ref (He.ma K (He.ga K "NotOwn") "__init__")) = some (.type "function")),
  fun K => decide (PySem.W.nsIn K mainGlobals "NotHeard" = some (some (.ref (He.ga K "NotHeard")))),
  fun K => decide (PySem.W.findIn K (.ref (He.ga K "NotHeard")) "__init__" = some (some (.ref (He.ma K (He.ga K "NotHeard") "__init__")))),
  fun K => decide (PySem.W.typeIn K (.ref (He.ma K (He.ga K "NotHeard") "__init__")) = some (.type "function")),
  fun K => decide (PySem.W.nsIn K mainGlobals "Behind" = some (some (.ref (He.ga K "Behind")))),
  fun K => decide (PySem.W.findIn K (.ref (He.ga K "Behind")) "__init__" = some (some (.ref (He.ma K (He.ga K "Behind") "__init__")))),
  fun K => decide (PySem.W.typeIn K (.ref (He.ma K (He.ga K "Behind") "__init__")) = some (.type "function")),
  fun K => decide (PySem.W.nsIn K mainGlobals "Unchanged" = some (some (.ref (He.ga K "Unchanged")))),
  fun K => decide (PySem.W.findIn K (.ref (He.ga K "Unchanged")) "__init__" = some (some (.ref (He.ma K (He.ga K "Unchanged") "__init__")))),
  fun K => decide (PySem.W.typeIn K (.ref (He.ma K (He.ga K "Unchanged") "__init__")) = some (.type "function")),
  fun K => decide (PySem.W.nsIn K mainGlobals "Known" = some (some (.ref (He.ga K "Known")))),
  fun K => decide (PySem.W.findIn K (.ref (He.ga K "Known")) "__init__" = some (some (.ref (He.ma K (He.ga K "Known") "__init__")))),
  fun K => decide (PySem.W.typeIn K (.ref (He.ma K (He.ga K "Known") "__init__")) = some (.type "function")),
  fun K => decide (PySem.W.nsIn K mainGlobals "Unknown" = some (some (.ref (He.ga K "Unknown")))),
  fun K => decide (PySem.W.findIn K (.ref (He.ga K "Unknown")) "__init__" = some (some (.ref (He.ma K (He.ga K "Unknown") "__init__")))),
  fun K => decide (PySem.W.typeIn K (.ref (He.ma K (He.ga K "Unknown") "__init__")) = some (.type "function")),
  fun K => decide (PySem.W.nsIn K mainGlobals "TooWide" = some (some (.ref (He.ga K "TooWide")))),
  fun K => decide (PySem.W.findIn K (.ref (He.ga K "TooWide")) "__init__" = some (some (.ref (He.ma K (He.ga K "TooWide") "__init__")))),
  fun K => decide (PySem.W.typeIn K (.ref (He.ma K (He.ga K "TooWide") "__init__")) = some (.type "function")),
  fun K => decide (PySem.W.nsIn K mainGlobals "TooMany" = some (some (.ref (He.ga K "TooMany")))),
  fun K => decide (PySem.W.findIn K (.ref (He.ga K "TooMany")) "__init__" = some (some (.ref (He.ma K (He.ga K "TooMany") "__init__")))),
  fun K => decide (PySem.W.typeIn K (.ref (He.ma K (He.ga K "TooMany") "__init__")) = some (.type "function")),
  fun K => decide (PySem.W.nsIn K mainGlobals "Unlike" = some (some (.ref (He.ga K "Unlike")))),
  fun K => decide (PySem.W.findIn K (.ref (He.ga K "Unlike")) "__init__" = some (some (.ref (He.ma K (He.ga K "Unlike") "__init__")))),
  fun K => decide (PySem.W.typeIn K (.ref (He.ma K (He.ga K "Unlike") "__init__")) = some (.type "function")),
  fun K => prA K,
  fun K => prB K,
  fun K => prC K,
  fun K => decide (PySem.W.specialIn K (.builtin "object.__class__") "__get__" = some (some (.builtin "getset_descriptor.__get__"))),
  fun K => decide (PySem.W.takesIn K (.builtin "object.__class__") = some true),
  fun K => decide (PySem.W.nsIn K mainGlobals "len" = some none),
  fun K => decide (PySem.W.nsIn K mainGlobals "abs" = some none),
  fun K => decide (PySem.W.nsIn K mainGlobals "max" = some none),
  fun K => decide (PySem.W.nsIn K mainGlobals "min" = some none),
  fun K => decide (PySem.W.nsIn K mainGlobals "divmod" = some none),
  fun K => decide (PySem.W.nsIn K mainGlobals "list" = some none),
  fun K => decide (PySem.W.nsIn K mainGlobals "tuple" = some none)]
def hkF2_1 : List (Hk.Fr → Bool) := [fun K => decide (PySem.W.nsIn K mainGlobals "range" = some none),
  fun K => decide (PySem.W.nsIn K mainGlobals "isinstance" = some none),
  fun K => decide (PySem.W.nsIn K mainGlobals "bool" = some none),
  fun K => decide (PySem.W.nsIn K mainGlobals "int" = some none),
  fun K => decide (PySem.W.nsIn K mainGlobals "sorted" = some none),
  fun K => decide (PySem.W.nsIn K mainGlobals "set" = some none),
  fun K => decide (PySem.W.nsIn K mainGlobals "all" = some none),
  fun K => decide (PySem.W.nsIn K mainGlobals "enumerate" = some none),
  fun K => decide (PySem.W.nsIn K mainGlobals "repr" = some none),
  fun K => decide (PySem.W.nsIn K mainGlobals "sum" = some none),
  fun K => decide (PySem.W.nsIn K mainGlobals "str" = some none),
  fun K => decide (PySem.W.nsIn K mainGlobals "ValueError" = some none),
  fun K => decide (PySem.W.nsIn K mainGlobals "LookupError" = some none),
  fun K => decide (PySem.W.nsIn K mainGlobals "RuntimeError" = some none),
  fun K => decide (PySem.W.nsIn K mainGlobals "ArithmeticError" = some none)]
def hkF2_ : List (Hk.Fr → Bool) := hkF2_0 ++ (hkF2_1)
def hkD2_0 : List (Hk.Fd) := [⟨fun K => (He.ma K (He.ga K "Halted") "__init__"), "__init__", "Halted.__init__", (inClass (topS 17) 0)⟩,
  ⟨fun K => (He.ma K (He.ga K "NoEntry") "__init__"), "__init__", "NoEntry.__init__", (inClass (topS 19) 0)⟩,
  ⟨fun K => (He.ma K (He.ga K "NoProcedure") "__init__"), "__init__", "NoProcedure.__init__", (inClass (topS 20) 0)⟩,
  ⟨fun K => (He.ma K (He.ga K "NoHand") "__init__"), "__init__", "NoHand.__init__", (inClass (topS 21) 0)⟩,
  ⟨fun K => (He.ma K (He.ga K "NoHistory") "__init__"), "__init__", "NoHistory.__init__", (inClass (topS 22) 0)⟩,
  ⟨fun K => (He.ma K (He.ga K "Taken") "__init__"), "__init__", "Taken.__init__", (inClass (topS 24) 0)⟩,
  ⟨fun K => (He.ma K (He.ga K "Standing") "__init__"), "__init__", "Standing.__init__", (inClass (topS 25) 0)⟩,
  ⟨fun K => (He.ma K (He.ga K "Removed") "__init__"), "__init__", "Removed.__init__", (inClass (topS 26) 0)⟩,
  ⟨fun K => (He.ma K (He.ga K "Folded") "__init__"), "__init__", "Folded.__init__", (inClass (topS 27) 0)⟩,
  ⟨fun K => (He.ma K (He.ga K "Clash") "__init__"), "__init__", "Clash.__init__", (inClass (topS 28) 0)⟩,
  ⟨fun K => (He.ma K (He.ga K "NotOwn") "__init__"), "__init__", "NotOwn.__init__", (inClass (topS 29) 0)⟩,
  ⟨fun K => (He.ma K (He.ga K "NotHeard") "__init__"), "__init__", "NotHeard.__init__", (inClass (topS 30) 0)⟩,
  ⟨fun K => (He.ma K (He.ga K "Behind") "__init__"), "__init__", "Behind.__init__", (inClass (topS 31) 0)⟩,
  ⟨fun K => (He.ma K (He.ga K "Unchanged") "__init__"), "__init__", "Unchanged.__init__", (inClass (topS 32) 0)⟩,
  ⟨fun K => (He.ma K (He.ga K "Known") "__init__"), "__init__", "Known.__init__", (inClass (topS 33) 0)⟩,
  ⟨fun K => (He.ma K (He.ga K "Unknown") "__init__"), "__init__", "Unknown.__init__", (inClass (topS 34) 0)⟩,
  ⟨fun K => (He.ma K (He.ga K "TooWide") "__init__"), "__init__", "TooWide.__init__", (inClass (topS 36) 0)⟩,
  ⟨fun K => (He.ma K (He.ga K "TooMany") "__init__"), "__init__", "TooMany.__init__", (inClass (topS 37) 0)⟩,
  ⟨fun K => (He.ma K (He.ga K "Unlike") "__init__"), "__init__", "Unlike.__init__", (inClass (topS 38) 0)⟩]
def hkD2_ : List (Hk.Fd) := hkD2_0
def hkF : List (Hk.Fr → Bool) := hkF0_ ++ (hkF1_ ++ (hkF2_))
def hkD : List Hk.Fd := hkD0_ ++ (hkD1_ ++ (hkD2_))
def hkN0 : List (Str) := ["_wall",
  "__name__",
  "CellError",
  "NoSize",
  "NoCell",
  "NoCells",
  "NoFlip",
  "NoTable",
  "NoTime",
  "NoStamp",
  "NoCount",
  "NoProgram",
  "NoHands",
  "NoEntries",
  "NoName",
  "NoText",
  "NoCommand",
  "Halted",
  "MissingError",
  "NoEntry",
  "NoProcedure",
  "NoHand",
  "NoHistory",
  "StateError"]
def hkN1 : List (Str) := ["Taken",
  "Standing",
  "Removed",
  "Folded",
  "Clash",
  "NotOwn",
  "NotHeard",
  "Behind",
  "Unchanged",
  "Known",
  "Unknown",
  "LimitError",
  "TooWide",
  "TooMany",
  "Unlike",
  "__name__",
  "is_integer",
  "is_integer_between",
  "__name__",
  "MOST_CELLS",
  "is_size",
  "is_cell",
  "are_cells",
  "cell_tuple"]
def hkN2 : List (Str) := ["added_cells",
  "__name__",
  "Board",
  "__name__",
  "_law_pot",
  "_law_draw",
  "_law_spots",
  "_law_any_thing",
  "_law_base",
  "_law_first_words",
  "_law_last_words",
  "_law_words",
  "_law_part_0",
  "_law_part_1",
  "_law_part_2",
  "_law_part_3",
  "_law_part_4",
  "_law_part_5",
  "_law_given",
  "_law_all_right"]
def hkN : List (Str) := hkN0 ++ (hkN1 ++ (hkN2))
abbrev hkR : PySem.W.OpenRow := PySem.W.OpenLaw.row PySem.Challenge.rw_paritycells_k18_errors_made
abbrev hkH : PySem.W.Hook := Hk.hookH 5 hkF hkD
def hkO (s : PySem.W.SharedT) : Hk.Al := Hk.obsH 5 hkF hkD (HandSHeadRun.getT s)
theorem hkO_eq (s : PySem.W.SharedT) : hkO s = hkH.obs s.abs := Hk.obsH_eq (HandSHeadRun.getT_eq s)
set_option maxHeartbeats 0 in
theorem hkLooks (w : World) : Hk.LooksEq hkR 14000 w := by
  intro os
  kernel_rfl
set_option maxHeartbeats 0 in
theorem hkSeen (w : World) : Hk.SeenEq hkR (PySem.W.view hkR.prog [68]) 14000 hkN w := by
  intro os
  kernel_rfl
set_option maxHeartbeats 0 in
theorem hkPart0 (w : World) : Hk.PartEq hkR 14000 5 hkF0_ hkD0_ w := by
  intro os
  kernel_rfl
set_option maxHeartbeats 0 in
theorem hkPart1 (w : World) : Hk.PartEq hkR 14000 5 hkF1_ hkD1_ w := by
  intro os
  kernel_rfl
set_option maxHeartbeats 0 in
theorem hkPart2 (w : World) : Hk.PartEq hkR 14000 5 hkF2_ hkD2_ w := by
  intro os
  kernel_rfl
theorem hkRun (w : World) : HandSHeadRun.RunEq hkR (PySem.W.view hkR.prog [68]) hkH hkO 14000 hkN w := Hk.run_of (hkLooks w) (hkSeen w) (Hk.part_app (hkPart0 w) (Hk.part_app (hkPart1 w) (hkPart2 w)))
end K18
namespace K18
open PySem PySem.Spec PyProof.Rows L2 Par
section
variable {P : Program} {w : World} {K : PySem.W.Frag} {mg : Str → Option Value} {base : Heap}
/-- a def of the module that raises nothing -/
def Has (P : Program) (w : World) (K : PySem.W.Frag) (mg : Str → Option Value) (base : Heap) (x : Str) (lv : Nat) (ps : List Str) (sp : Sp) : Prop :=
  ∃ f fd, FnOk P w K mg base CX0 lv f fd ps sp ∧ mg x = some (.ref f) ∧ PySem.W.keepIn K (.ref f) = true ∧ Binds K fd ps []

/-- a new list of rising numbers from least to width - 1 -/
def spSpots : Sp := fun vs H Q _ => ∃ (p : Addr) (l m : Int), vs = [.ref p, .int l, .int m] ∧ PotAt H p ∧ 0 ≤ l ∧ l ≤ 1000 ∧ 0 ≤ m ∧ m ≤ 1000 ∧
  ∀ q (ns : List Int) H', H q = none → ns.Pairwise (· < ·) → (∀ n ∈ ns, l ≤ n ∧ n < m) → But p H H' → PotAt H' p → H' q = some (.lst (ns.map V.int)) → Q (.ref q) H'
abbrev nSpots : List Str := ["_law_pot_here", "_law_least", "_law_width", "_law_way", "_law_spot"]
theorem scSpots : FnScope nSpots ["_law_pot_here", "_law_least", "_law_width"] (defScope sSpots) := ⟨rfl, rfl, rfl, by decide +kernel, rfl, by decide +kernel, by decide +kernel⟩
theorem rgV_ints (a : Int) (n : Nat) : ∃ ns : List Int, rgV a (a + n) = ns.map V.int ∧ ns.Pairwise (· < ·) ∧ ∀ k ∈ ns, a ≤ k ∧ k < a + n := by
  refine ⟨(List.range n).map fun i => a + (i : Nat), ?_, ?_, ?_⟩
  · unfold rgV
    rw [List.map_map, show (a + (n : Int) - a).toNat = n by omega]
    rfl
  · rw [List.pairwise_map]
    exact List.pairwise_lt_range.imp (fun h => by omega)
  · intro k hk
    obtain ⟨i, hi, rfl⟩ := List.mem_map.mp hk
    have := List.mem_range.mp hi
    omega
theorem ok_spots {f : Addr} {fd : FuncData} (F : Fun K "_law_spots" "_law_spots" sSpots f fd) (B : Bl mg) (D : Has P w K mg base "_law_draw" 2 ["_law_pot_here", "_law_many"] spDraw) :
    FnOk P w K mg base CX0 3 f fd ["_law_pot_here", "_law_least", "_law_width"] spSpots := by
  obtain ⟨fD, fdD, GD, mD, kD, bD⟩ := D
  refine F.ok scSpots (fun vs H Q E h => ?_) (fun cdv A outer s H vs Q E hr h => ?_)
  · obtain ⟨p, l, m, rfl, _⟩ := h
    rfl
  · obtain ⟨p, l, m, rfl, hp, l0, l1, m0, m1, out⟩ := h
    refine ⟨_, pss_cons (ps_set (i := 3) scSpots.nd rfl (Or.inl rfl) (pe_call GD hr (by rfl) mD kD bD .nil pass0 (pa_cons (pv 0) (pa_cons pe_int pa_nil))))
      (pss_cons (ps_if (PW.pt (pw_or (pt_cmpR op_eq (pv 3) pe_int (nomark _)) (pw_or1 (pt_cmpR op_le (pv 2) (pv 1) (nomark _))))) (pss_one (ps_ret (pe_lst pa_nil))) pss_nil)
      (pss_cons (ps_if (pt_cmpR op_eq (pv 3) pe_int (nomark _)) (pss_one (ps_ret (pe_lst (pa_cons (pe_op op_add (pv 1) (pe_call GD hr (by rfl) mD kD bD .nil pass0 (pa_cons (pv 0) (pa_cons (pe_op op_sub (pv 2) (pv 1)) pa_nil)))) pa_nil)))) pss_nil)
      (pss_cons (ps_if (pt_cmpR op_eq (pv 3) pe_int (nomark _)) (pss_one (ps_ret (pe_listRg rfl (by rfl) B.list (prg_2 (by rfl) B.range (pv 1) (pv 2))))) pss_nil)
      (pss_one (ps_ret (pe_lc (own := [("_law_spot", 4)]) (g := gName 4) rfl scSpots.nd (pi_range2 (by rfl) B.range (pa_cons (pv 1) (pa_cons (pv 2) pa_nil))) (blkOk_by (own := [("_law_spot", 4)]) (N := nSpots) (sc := defScope sSpots) (by decide +kernel))
        (fun _ _ _ _ _ => pg_name (i := 4) scSpots.nd rfl (Or.inl rfl))
        (fun _ _ _ _ _ => pts_one (pt_cmpR op_eq (pe_call GD hr (by rfl) mD kD bD .nil pass0 (pa_cons (pv 0) (pa_cons pe_int pa_nil))) pe_int (nomark _)))
        (fun _ _ _ _ _ => pv 4))))))), ?_⟩
    refine ⟨_, rfl, p, 5, rfl, hp, by decide, by decide, ?_⟩
    intro d H1 d0 d1 b1 hp1
    have fr : ∀ q, H1 q = none → H q = none := fun q hq => b1.free hp hq hp1
    refine ⟨_, rfl, rfl, _, rfl, ?_⟩
    have nil : ∀ q, H1 q = none → Q (.ref q) (upd H1 q (.lst [])) := by
      intro q hq
      refine out q [] _ (fr q hq) List.Pairwise.nil (fun n hn => nomatch hn) (b1.trans (But.new hq)) (hp1.same (same_new hq)) upd_same
    refine ite2 (fun _ => ?_) (fun _ => ?_)
    · refine iteT ⟨by decide, nil⟩
    refine ⟨_, rfl, _, rfl, _, _, rfl, rfl, _, rfl, ?_⟩
    refine ite2 (fun _ => ?_) (fun hlt => ?_)
    · exact ⟨by decide, nil⟩
    have hlt2 : l < m := by
      have := of_decide_eq_false (by simpa using hlt : decide (m ≤ l) = false)
      omega
    refine ⟨_, rfl, rfl, _, rfl, ?_⟩
    refine ite2 (fun _ => ?_) (fun _ => ?_)
    · refine ⟨_, rfl, _, rfl, _, rfl, _, rfl, m, l, rfl, rfl, p, m - l, rfl, hp1, by omega, by omega, ?_⟩
      intro d2 H2 e0 e1 b2 hp2
      refine ⟨l, d2, rfl, rfl, (by show 1 ≤ sizeLine; decide), ?_⟩
      intro q hq
      refine out q [l + d2] _ (fr q (b2.free hp1 hq hp2)) (by simp) (fun n hn => by
        have : n = l + d2 := by simpa using hn
        omega) ((b1.trans b2).trans (But.new hq)) (hp2.same (same_new hq)) upd_same
    refine ⟨_, rfl, rfl, _, rfl, ?_⟩
    refine ite2 (fun _ => ?_) (fun _ => ?_)
    · refine ⟨_, rfl, _, rfl, l, m, rfl, rfl, RgOk.of_le l0 (by omega) (by omega) m0, ?_⟩
      intro q hq
      obtain ⟨ns, e, h1, h2⟩ := rgV_ints l (m - l).toNat
      have em : l + ((m - l).toNat : Int) = m := by omega
      rw [em] at e h2
      rw [e]
      exact out q ns _ (fr q hq) h1 h2 (b1.trans (But.new hq)) (hp1.same (same_new hq)) upd_same
    · refine ⟨_, rfl, _, rfl, l, m, rfl, ⟨by omega, by omega, by omega, by omega⟩, ?_⟩
      intro D hD
      have hDH := fr D hD
      have hDp : D ≠ p := fun z => by
        subst z
        obtain ⟨_, _, e, _⟩ := hp1
        rw [hD] at e
        cases e
      refine lc_range (lo := l) (n := (m - l).toNat) (fun i H' => ∃ ns : List Int, H' D = some (.lst (ns.map V.int)) ∧ ns.length ≤ i ∧ ns.Pairwise (· < ·) ∧ (∀ n ∈ ns, l ≤ n ∧ n < l + i) ∧ But p H H' ∧ PotAt H' p)
        ⟨[], upd_same, Nat.le_refl _, List.Pairwise.nil, fun n hn => (by cases hn), b1.trans (But.new hD), hp1.same (same_new hD)⟩ ?_ ?_
      · rintro i H2 hi ⟨ns, hns, hlen, pw, bd, b2, hp2⟩
        refine ⟨rfl, ?_⟩
        refine ⟨_, rfl, p, 2, rfl, hp2, by decide, by decide, ?_⟩
        intro d2 H3 e0 e1 b3 hp3
        have hD3 : H3 D = some (.lst (ns.map V.int)) := b3 D _ hDp hns
        refine ⟨rfl, _, rfl, ?_⟩
        refine ite2 (fun _ => ?_) (fun _ => ?_)
        · refine ⟨_, rfl, _, hD3, (by rw [List.length_map]; exact small1000 (by omega)), ns ++ [l + (i : Int)], ?_, ?_, ?_, ?_, ?_, ?_⟩
          · rw [upd_same, List.map_append]
            rfl
          · rw [List.length_append]
            show ns.length + 1 ≤ i + 1
            omega
          · refine List.pairwise_append.mpr ⟨pw, by simp, fun a ha b hb => ?_⟩
            have hb2 : b = l + (i : Int) := by simpa using hb
            have := bd a ha
            omega
          · intro n hn
            rcases List.mem_append.mp hn with hn | hn
            · have := bd n hn
              omega
            · have : n = l + (i : Int) := by simpa using hn
              omega
          · exact fun b o n e => by
              have e2 := b2.trans b3 b o n e
              rw [upd_ne (ne_of_none e hDH)]
              exact e2
          · obtain ⟨x, y, e, r⟩ := hp3
            exact ⟨x, y, by rw [upd_ne (Ne.symm hDp)]; exact e, r⟩
        · exact ⟨ns, hD3, by omega, pw, fun n hn => by have := bd n hn; omega, b2.trans b3, hp3⟩
      · rintro H2 ⟨ns, hns, hlen, pw, bd, b2, hp2⟩
        exact out D ns H2 hDH pw (fun n hn => by have := bd n hn; omega) b2 hp2 hns
end
end K18
namespace K18
open PySem PySem.Spec PyProof.Rows L2 Par
theorem perm_erase : ∀ {l : List Int} {i : Nat} {x : Int}, l[i]? = some x → (x :: l.eraseIdx i).Perm l
  | [], i, x, h => by simp at h
  | a :: l, 0, x, h => by
    have e : a = x := by simpa using h
    subst e
    exact List.Perm.refl _
  | a :: l, i + 1, x, h => by
    have h2 : l[i]? = some x := by simpa using h
    have ih := perm_erase h2
    show (x :: a :: l.eraseIdx i).Perm (a :: l)
    exact (List.Perm.swap a x _).trans (ih.cons a)
/-- what len of a list or tuple asks -/
def rLenQ (K : PySem.W.Frag) : List V → Hp → VK → Prop := fun xs H Q => ∃ p ys, xs = [.ref p] ∧ (SqL K H p ys ∨ SqT K H p ys) ∧ Q (.int ys.length) H
theorem map_eraseIdx : ∀ (l : List Int) (i : Nat), (l.map V.int).eraseIdx i = (l.eraseIdx i).map V.int
  | [], _ => rfl
  | _ :: _, 0 => rfl
  | a :: l, i + 1 => by
    show V.int a :: (l.map V.int).eraseIdx i = V.int a :: (l.eraseIdx i).map V.int
    rw [map_eraseIdx l i]
theorem yesT {σ : L2.St} {H : Hp} {A B : Hp → Prop} (h : A H) : tYes σ H (fun b H3 => if b = true then A H3 else B H3) := by
  unfold tYes
  show (if true = true then A H else B H)
  rw [if_pos rfl]
  exact h
section
variable {P : Program} {w : World} {K : PySem.W.Frag} {mg : Str → Option Value} {base : Heap}
end
end K18
namespace K18
open PySem PySem.Spec PyProof.Rows L2 Par
theorem sq_ty {K : PySem.W.Frag} {H : Hp} {a : Addr} {xs : List V} (h : SqL K H a xs) : TyX K H (.ref a) (.type "list") := by
  rcases h with (h | ⟨o, h⟩) | ⟨o, its, n, hk, hc, _⟩
  · exact .base (.lst h)
  · exact .base (.frz h)
  · exact .kList hk hc
theorem sqt_ty {K : PySem.W.Frag} {H : Hp} {a : Addr} {xs : List V} (h : SqT K H a xs) : TyX K H (.ref a) (.type "tuple") := by
  rcases h with (h | ⟨o, h⟩) | ⟨o, its, n, hk, hc, _⟩
  · exact .base (.tup h)
  · exact .fTuple h
  · exact .kTuple hk hc
/-- a list or tuple of xs -/
def Sq (K : PySem.W.Frag) (H : Hp) (a : Addr) (xs : List V) : Prop := SqL K H a xs ∨ SqT K H a xs
section
variable {P : Program} {w : World} {K : PySem.W.Frag} {mg : Str → Option Value} {base : Heap}
theorem kit_seq {n : String} (h : n = "list" ∨ n = "tuple") : PySem.W.kitAny K (.type n) [.type "list", .type "tuple"] = some true := by
  rcases h with rfl | rfl
  · exact kitAny_cons (b := true) (kit_ty (by decide +kernel)) (fun z => nomatch z) (fun _ => rfl)
  · exact kitAny_cons (b := false) (kit_ty (by decide +kernel)) (fun _ => kitAny_cons (b := true) (kit_ty (by decide +kernel)) (fun z => nomatch z) (fun _ => rfl)) (fun z => nomatch z)
theorem same_sq {H H' : Hp} {a : Addr} {xs : List V} (s : Same H H') (h : SqL K H a xs) : SqL K H' a xs := s.seq h
theorem same_sqt {H H' : Hp} {a : Addr} {xs : List V} (s : Same H H') (h : SqT K H a xs) : SqT K H' a xs := by
  rcases h with (h | ⟨o, h⟩) | h
  · exact .inl (.inl (s _ _ h))
  · exact .inl (.inr ⟨o, s _ _ h⟩)
  · exact .inr h
theorem same_tyx {H H' : Hp} {v : V} {t : Value} (s : Same H H') (h : TyX K H v t) : TyX K H' v t := by
  cases h with
  | base b =>
    refine .base ?_
    cases b with
    | non => exact .non
    | bl y => exact .bl y
    | int i => exact .int i
    | str y => exact .str y
    | flt y => exact .flt y
    | lst e => exact .lst (s _ _ e)
    | frz e => exact .frz (s _ _ e)
    | tup e => exact .tup (s _ _ e)
    | dK e => exact .dK (s _ _ e)
    | dT e => exact .dT (s _ _ e)
    | ins e cl ha hn htk hm => exact .ins (s _ _ e) cl ha hn htk hm
  | byt y => exact .byt y
  | set e => exact .set (s _ _ e)
  | kList e c => exact .kList e c
  | kTuple e c => exact .kTuple e c
  | kDict e c => exact .kDict e c
  | fTuple e => exact .fTuple (s _ _ e)
  | fDict e => exact .fDict (s _ _ e)
theorem Sq.same {H H' : Hp} {a : Addr} {xs : List V} (s : Same H H') (h : Sq K H a xs) : Sq K H' a xs := h.imp (same_sq s) (same_sqt s)
/-- is_integer -/
def spInteger : Sp := fun vs H Q _ => ∃ i : Int, vs = [.int i] ∧ Q (.bl true) H
theorem scInteger : FnScope ["thing"] ["thing"] (defScope sInteger) := ⟨rfl, rfl, rfl, by decide +kernel, rfl, by decide +kernel, by decide +kernel⟩
theorem ok_integer {f : Addr} {fd : FuncData} (F : Fun K "is_integer" "is_integer" sInteger f fd) (B : Bl mg) : FnOk P w K mg base CX0 1 f fd ["thing"] spInteger := by
  refine F.ok scInteger (fun vs H Q E h => ?_) (fun cdv A outer s H vs Q E hr h => ?_)
  · obtain ⟨i, rfl, _⟩ := h
    rfl
  · obtain ⟨i, rfl, out⟩ := h
    refine ⟨_, pss_one (ps_ret (pe_and (pe_callB call_isi (by rfl) B.isinstance (by decide +kernel) (pa_cons (pv 0) (pa_cons (pe_bltn (v := .ty "int") (by rfl) B.int (by decide +kernel) rfl) pa_nil))) (pe_one (pe_not (pe_callB call_isi (by rfl) B.isinstance (by decide +kernel) (pa_cons (pv 0) (pa_cons (pe_bltn (v := .ty "bool") (by rfl) B.bool (by decide +kernel) rfl) pa_nil))))))), ?_⟩
    refine ⟨_, rfl, _, _, _, _, true, rfl, .ty "int", .base (.int i), kit_ty (by decide +kernel), _, rfl, iteT ?_⟩
    exact ⟨_, rfl, _, _, _, _, false, rfl, .ty "bool", .base (.int i), kit_ty (by decide +kernel), _, rfl, out⟩
/-- is_integer_between, of whole numbers -/
def spBetween : Sp := fun vs H Q _ => ∃ i lo hi : Int, vs = [.int i, .int lo, .int hi] ∧ Q (.bl (decide (lo ≤ i) && decide (i ≤ hi))) H
theorem scBetween : FnScope ["thing", "low", "high"] ["thing", "low", "high"] (defScope sBetween) := ⟨rfl, rfl, rfl, by decide +kernel, rfl, by decide +kernel, by decide +kernel⟩
theorem ok_between {f : Addr} {fd : FuncData} (F : Fun K "is_integer_between" "is_integer_between" sBetween f fd) (B : Bl mg) (D : Has P w K mg base "is_integer" 1 ["thing"] spInteger) : FnOk P w K mg base CX0 2 f fd ["thing", "low", "high"] spBetween := by
  obtain ⟨fD, fdD, GD, mD, kD, bD⟩ := D
  refine F.ok scBetween (fun vs H Q E h => ?_) (fun cdv A outer s H vs Q E hr h => ?_)
  · obtain ⟨i, lo, hi, rfl, _⟩ := h
    rfl
  · obtain ⟨i, lo, hi, rfl, out⟩ := h
    refine ⟨_, pss_one (ps_ret (pe_and (pe_call GD hr (by rfl) mD kD bD .nil pass0 (pa_cons (pv 0) pa_nil)) (pe_one (pe_chain op_le op_le (pv 1) (pv 0) (pv 2))))), ?_⟩
    refine ⟨_, rfl, i, rfl, _, rfl, iteT ?_⟩
    refine ⟨_, rfl, _, rfl, lo, i, rfl, rfl, _, rfl, ite2 (fun h1 => ?_) (fun h1 => ?_)⟩
    · refine ⟨_, rfl, i, hi, rfl, rfl, ?_⟩
      rw [h1, Bool.true_and] at out
      exact out
    · have e : decide (lo ≤ i) = false := by simpa using h1
      rw [e, Bool.false_and] at out
      exact out
def spIsSize : Sp := fun vs H Q _ => ∃ i : Int, vs = [.int i] ∧ Q (.bl (decide (1 ≤ i) && decide (i ≤ 40))) H
theorem scIsSize : FnScope ["thing"] ["thing"] (defScope sIsSize) := ⟨rfl, rfl, rfl, by decide +kernel, rfl, by decide +kernel, by decide +kernel⟩
theorem ok_issize {f : Addr} {fd : FuncData} (F : Fun K "is_size" "is_size" sIsSize f fd) (hM : ∃ t, mg "MOST_CELLS" = some (.int 40 t)) (D : Has P w K mg base "is_integer_between" 2 ["thing", "low", "high"] spBetween) :
    FnOk P w K mg base CX0 3 f fd ["thing"] spIsSize := by
  obtain ⟨fD, fdD, GD, mD, kD, bD⟩ := D
  obtain ⟨tM, hM⟩ := hM
  refine F.ok scIsSize (fun vs H Q E h => ?_) (fun cdv A outer s H vs Q E hr h => ?_)
  · obtain ⟨i, rfl, _⟩ := h
    rfl
  · obtain ⟨i, rfl, out⟩ := h
    refine ⟨_, pss_one (ps_ret (pe_call GD hr (by rfl) mD kD bD .nil pass0 (pa_cons (pv 0) (pa_cons pe_int (pa_cons (pe_glob (v := .int 40) (by rfl) hM ⟨_, rfl⟩) pa_nil))))), ?_⟩
    exact ⟨_, rfl, i, 1, 40, rfl, out⟩
def spIsCell : Sp := fun vs H Q _ => ∃ i n : Int, vs = [.int i, .int n] ∧ Q (.bl (decide (0 ≤ i) && decide (i ≤ n - 1))) H
theorem scIsCell : FnScope ["thing", "size"] ["thing", "size"] (defScope sIsCell) := ⟨rfl, rfl, rfl, by decide +kernel, rfl, by decide +kernel, by decide +kernel⟩
theorem ok_iscell {f : Addr} {fd : FuncData} (F : FunD K "is_cell" "is_cell" (defArgs sIsCell) (defBody sIsCell) (defScope sIsCell) [] [("size", .int 40)] f fd)
    (D : Has P w K mg base "is_integer_between" 2 ["thing", "low", "high"] spBetween) : FnOk P w K mg base CX0 3 f fd ["thing", "size"] spIsCell := by
  obtain ⟨fD, fdD, GD, mD, kD, bD⟩ := D
  refine F.ok scIsCell (fun vs H Q E h => ?_) (fun cdv A outer s H vs Q E hr h => ?_)
  · obtain ⟨i, n, rfl, _⟩ := h
    rfl
  · obtain ⟨i, n, rfl, out⟩ := h
    refine ⟨_, pss_one (ps_ret (pe_call GD hr (by rfl) mD kD bD .nil pass0 (pa_cons (pv 0) (pa_cons pe_int (pa_cons (pe_op op_sub (pv 1) pe_int) pa_nil))))), ?_⟩
    exact ⟨_, rfl, _, rfl, n, 1, rfl, rfl, i, 0, n - 1, rfl, out⟩
/-- a def called with size = .. -/
def HasN (P : Program) (w : World) (K : PySem.W.Frag) (mg : Str → Option Value) (base : Heap) (x : Str) (lv : Nat) (y : Str) (sp : Sp) : Prop :=
  ∃ f fd, FnOk P w K mg base CX0 lv f fd [y, "size"] sp ∧ mg x = some (.ref f) ∧ PySem.W.keepIn K (.ref f) = true ∧ KBn K fd [y, "size"] 1 ["size"] (fun us ws => us ++ ws) (fun vs zs => vs ++ zs)
/-- are_cells of cells of this size -/
def spAre (K : PySem.W.Frag) : Sp := fun vs H Q _ => ∃ (a : Addr) (n : Int) (ns : List Int), vs = [.ref a, .int n] ∧ Sq K H a (ns.map V.int) ∧ ns.length ≤ 500 ∧ (∀ k ∈ ns, 0 ≤ k ∧ k < n) ∧ ns.Nodup ∧
  ∀ H', Same H H' → Q (.bl true) H'
abbrev nCells : List Str := ["things", "size", "thing"]
theorem scAre : FnScope nCells ["things", "size"] (defScope sAre) := ⟨rfl, rfl, rfl, by decide +kernel, rfl, by decide +kernel, by decide +kernel⟩
theorem all_true {l : List Bool} (h : ∀ b ∈ l, b = true) : l.all id = true := List.all_eq_true.mpr fun b hb => h b hb
theorem ok_are {f : Addr} {fd : FuncData} (F : Fun K "are_cells" "are_cells" sAre f fd) (B : Bl mg)
    (D : HasN P w K mg base "is_cell" 3 "thing" spIsCell) : FnOk P w K mg base CX0 4 f fd ["things", "size"] (spAre K) := by
  obtain ⟨fD, fdD, GD, mD, kD, bD⟩ := D
  refine F.ok scAre (fun vs H Q E h => ?_) (fun cdv A outer s H vs Q E hr h => ?_)
  · obtain ⟨a, n, ns, rfl, _⟩ := h
    rfl
  · obtain ⟨a, n, ns, rfl, hq, hl, hin, hnd, good⟩ := h
    rcases hq with hq | hq
    · refine ⟨_, pss_cons (ps_if (pt_not (pt_val (pe_callB call_isiT (by rfl) B.isinstance (by decide +kernel) (pa_cons (pv 0) (pa_cons (pe_tup (pa_cons (pe_bltn (v := .ty "list") (by rfl) B.list (by decide +kernel) rfl) (pa_cons (pe_bltn (v := .ty "tuple") (by rfl) B.tuple (by decide +kernel) rfl) pa_nil))) pa_nil))))) (pss_one ps_off) pss_nil)
      (pss_cons (ps_if (pt_not (pt_val (pe_callB (cr_all rfl) (by rfl) B.all (by decide +kernel) (pa_cons (pe_lc (own := [("thing", 2)]) (g := gName 2) (te := tCallN 1 (["size"] : List Str).length spIsCell (fun vs zs => vs ++ zs) E0 (tCons (tVar 2) tNil) (tCons (tVar 1) tNil)) rfl scAre.nd (pi_list (pv 0)) (blkOk_by (own := [("thing", 2)]) (N := nCells) (sc := defScope sAre) (by decide +kernel))
          (fun _ _ _ _ _ => pg_name (i := 2) scAre.nd rfl (Or.inl rfl)) (fun _ _ _ _ _ => pts_nil) (fun _ _ _ _ _ => by exact pe_callN (n := 1) (ks := ["size"]) GD hr (by rfl) mD kD bD pass0 (pa_cons (pv 2) pa_nil) (pk_cons (pv 1) pk_nil))) pa_nil)))) (pss_one ps_off) pss_nil)
      (pss_one (ps_ret (pe_cmpR op_eq (pe_lenSetQ (by rfl) B.len (by rfl) B.set (pv 0)) (pe_callB call_len_seq (by rfl) B.len PySem.boot_len (pa_cons (pv 0) pa_nil)) (nomark _))))), ?_⟩
      refine ⟨_, rfl, by decide, fun p hp => ?_⟩
      have s1 : Same H (upd H p (.tup [.ty "list", .ty "tuple"])) := same_new hp
      refine ⟨_, p, _, _, _, true, rfl, upd_same, .cons (.ty _) (.cons (.ty _) .nil), sq_ty (same_sq s1 hq), kit_seq (by simp), _, rfl, iteF ?_⟩
      refine ⟨_, rfl, a, rfl, ⟨_, same_sq s1 hq⟩, fun D hD => ?_⟩
      refine lc_list (K := K) (a := a) (xs := ns.map V.int) (fun i H' => Same H H' ∧ H' D = some (.lst ((ns.take i).map fun k => V.bl (decide (0 ≤ k) && decide (k ≤ n - 1))))) ⟨s1.trans (same_new hD), upd_same⟩ (fun i H' _ h => same_sq h.1 hq) ?_ ?_
      · rintro i x H2 hx ⟨s2, hD2⟩
        rw [List.getElem?_map] at hx
        obtain ⟨k, hk, rfl⟩ : ∃ k, ns[i]? = some k ∧ x = V.int k := by
          cases e : ns[i]? with
          | none => rw [e] at hx; cases hx
          | some k => rw [e] at hx; exact ⟨k, rfl, (Option.some.inj hx).symm⟩
        refine ⟨rfl, yesT ?_⟩
        refine ⟨_, rfl, _, rfl, rfl, rfl, k, n, rfl, _, hD2, ?_, ?_, ?_⟩
        · rw [List.length_map, List.length_take]
          exact small1000 (by omega)
        · intro b o e
          have hDb : H D = none := s1.free hD
          rw [upd_ne (ne_of_none e hDb)]
          exact s2 b o e
        · rw [upd_same, List.take_succ, hk, List.map_append]
          rfl
      rintro H2 ⟨s2, hD2⟩
      rw [List.length_map, List.take_length] at hD2
      refine ⟨D, ns.map fun k => decide (0 ≤ k) && decide (k ≤ n - 1), rfl, SqL.of (by rw [hD2, List.map_map]; rfl), _, rfl, ?_⟩
      have eall : (ns.map fun k => decide (0 ≤ k) && decide (k ≤ n - 1)).all id = true := by
        refine all_true fun b hb => ?_
        obtain ⟨k, hk, rfl⟩ := List.mem_map.mp hb
        obtain ⟨h1, h2⟩ := hin k hk
        have h3 : k ≤ n - 1 := by omega
        simp [h1, h3]
      rw [eall]
      refine iteF ⟨_, rfl, a, ns, rfl, .inl (same_sq s2 hq), by omega, fun c hc hiff => ?_⟩
      refine ⟨_, rfl, a, _, rfl, .inl (same_sq s2 hq), ?_⟩
      rw [List.length_map]
      have ec : c = ns.length := hiff.mpr hnd
      subst ec
      refine ⟨rfl, ?_⟩
      rw [decide_eq_true rfl]
      exact good H2 s2
    · refine ⟨_, pss_cons (ps_if (pt_not (pt_val (pe_callB call_isiT (by rfl) B.isinstance (by decide +kernel) (pa_cons (pv 0) (pa_cons (pe_tup (pa_cons (pe_bltn (v := .ty "list") (by rfl) B.list (by decide +kernel) rfl) (pa_cons (pe_bltn (v := .ty "tuple") (by rfl) B.tuple (by decide +kernel) rfl) pa_nil))) pa_nil))))) (pss_one ps_off) pss_nil)
      (pss_cons (ps_if (pt_not (pt_val (pe_callB (cr_all rfl) (by rfl) B.all (by decide +kernel) (pa_cons (pe_lc (own := [("thing", 2)]) (g := gName 2) (te := tCallN 1 (["size"] : List Str).length spIsCell (fun vs zs => vs ++ zs) E0 (tCons (tVar 2) tNil) (tCons (tVar 1) tNil)) rfl scAre.nd (pi_tup (pv 0)) (blkOk_by (own := [("thing", 2)]) (N := nCells) (sc := defScope sAre) (by decide +kernel))
          (fun _ _ _ _ _ => pg_name (i := 2) scAre.nd rfl (Or.inl rfl)) (fun _ _ _ _ _ => pts_nil) (fun _ _ _ _ _ => by exact pe_callN (n := 1) (ks := ["size"]) GD hr (by rfl) mD kD bD pass0 (pa_cons (pv 2) pa_nil) (pk_cons (pv 1) pk_nil))) pa_nil)))) (pss_one ps_off) pss_nil)
      (pss_one (ps_ret (pe_cmpR op_eq (pe_lenSetQ (by rfl) B.len (by rfl) B.set (pv 0)) (pe_callB call_len_seq (by rfl) B.len PySem.boot_len (pa_cons (pv 0) pa_nil)) (nomark _))))), ?_⟩
      refine ⟨_, rfl, by decide, fun p hp => ?_⟩
      have s1 : Same H (upd H p (.tup [.ty "list", .ty "tuple"])) := same_new hp
      refine ⟨_, p, _, _, _, true, rfl, upd_same, .cons (.ty _) (.cons (.ty _) .nil), sqt_ty (same_sqt s1 hq), kit_seq (by simp), _, rfl, iteF ?_⟩
      refine ⟨_, rfl, a, rfl, ⟨_, same_sqt s1 hq⟩, fun D hD => ?_⟩
      refine lc_tup (K := K) (a := a) (xs := ns.map V.int) (fun i H' => Same H H' ∧ H' D = some (.lst ((ns.take i).map fun k => V.bl (decide (0 ≤ k) && decide (k ≤ n - 1))))) ⟨s1.trans (same_new hD), upd_same⟩ (fun i H' _ h => same_sqt h.1 hq) ?_ ?_
      · rintro i x H2 hx ⟨s2, hD2⟩
        rw [List.getElem?_map] at hx
        obtain ⟨k, hk, rfl⟩ : ∃ k, ns[i]? = some k ∧ x = V.int k := by
          cases e : ns[i]? with
          | none => rw [e] at hx; cases hx
          | some k => rw [e] at hx; exact ⟨k, rfl, (Option.some.inj hx).symm⟩
        refine ⟨rfl, yesT ?_⟩
        refine ⟨_, rfl, _, rfl, rfl, rfl, k, n, rfl, _, hD2, ?_, ?_, ?_⟩
        · rw [List.length_map, List.length_take]
          exact small1000 (by omega)
        · intro b o e
          have hDb : H D = none := s1.free hD
          rw [upd_ne (ne_of_none e hDb)]
          exact s2 b o e
        · rw [upd_same, List.take_succ, hk, List.map_append]
          rfl
      rintro H2 ⟨s2, hD2⟩
      rw [List.length_map, List.take_length] at hD2
      refine ⟨D, ns.map fun k => decide (0 ≤ k) && decide (k ≤ n - 1), rfl, SqL.of (by rw [hD2, List.map_map]; rfl), _, rfl, ?_⟩
      have eall : (ns.map fun k => decide (0 ≤ k) && decide (k ≤ n - 1)).all id = true := by
        refine all_true fun b hb => ?_
        obtain ⟨k, hk, rfl⟩ := List.mem_map.mp hb
        obtain ⟨h1, h2⟩ := hin k hk
        have h3 : k ≤ n - 1 := by omega
        simp [h1, h3]
      rw [eall]
      refine iteF ⟨_, rfl, a, ns, rfl, .inr (same_sqt s2 hq), by omega, fun c hc hiff => ?_⟩
      refine ⟨_, rfl, a, _, rfl, .inr (same_sqt s2 hq), ?_⟩
      rw [List.length_map]
      have ec : c = ns.length := hiff.mpr hnd
      subst ec
      refine ⟨rfl, ?_⟩
      rw [decide_eq_true rfl]
      exact good H2 s2
/-- cell_tuple of cells of this size -/
def spCells (K : PySem.W.Frag) : Sp := fun vs H Q _ => ∃ (a : Addr) (n : Int) (ns : List Int), vs = [.ref a, .int n] ∧ Sq K H a (ns.map V.int) ∧ ns.length ≤ 500 ∧ (∀ k ∈ ns, 0 ≤ k ∧ k < n) ∧ ns.Nodup ∧
  ∀ p (ms : List Int) H', H p = none → Same H H' → ms.Perm ns → ms.Pairwise (· ≤ ·) → H' p = some (.tup (ms.map V.int)) → Q (.ref p) H'
theorem scCells : FnScope ["things", "size"] ["things", "size"] (defScope sCells) := ⟨rfl, rfl, rfl, by decide +kernel, rfl, by decide +kernel, by decide +kernel⟩
theorem ok_cells {f : Addr} {fd : FuncData} (F : FunD K "cell_tuple" "cell_tuple" (defArgs sCells) (defBody sCells) (defScope sCells) [] [("size", .int 40)] f fd) (B : Bl mg)
    (D : Has P w K mg base "are_cells" 4 ["things", "size"] (spAre K)) : FnOk P w K mg base CX0 5 f fd ["things", "size"] (spCells K) := by
  obtain ⟨fD, fdD, GD, mD, kD, bD⟩ := D
  refine F.ok scCells (fun vs H Q E h => ?_) (fun cdv A outer s H vs Q E hr h => ?_)
  · obtain ⟨a, n, ns, rfl, _⟩ := h
    rfl
  · obtain ⟨a, n, ns, rfl, hq, hl, hin, hnd, good⟩ := h
    rcases id hq with hq1 | hq1
    · refine ⟨_, pss_cons (ps_if (pt_not (pt_val (pe_call GD hr (by rfl) mD kD bD .nil pass0 (pa_cons (pv 0) (pa_cons (pv 1) pa_nil))))) (pss_one ps_off) pss_nil)
      (pss_one (ps_ret (pe_callTy call_tuple_of (by rfl) B.tuple (by decide +kernel) (pa_cons (pe_callB cr_sortedI (by rfl) B.sorted (by decide +kernel) (pa_cons (pv 0) pa_nil)) pa_nil)))), ?_⟩
      refine ⟨_, rfl, _, rfl, a, n, ns, rfl, hq, hl, hin, hnd, fun H2 s2 => ⟨_, rfl, iteF ?_⟩⟩
      refine ⟨_, rfl, a, ns, rfl, same_sq s2 hq1, fun ms p2 pm pw hp2 => ?_⟩
      refine ⟨p2, _, rfl, .inl ⟨SqL.of upd_same, fun l hl2 => ?_⟩⟩
      have hl3 : H l = none := s2.free ((same_new hp2).free hl2)
      exact good l ms _ hl3 ((s2.trans (same_new hp2)).trans (same_new hl2)) pm pw upd_same
    · refine ⟨_, pss_cons (ps_if (pt_not (pt_val (pe_call GD hr (by rfl) mD kD bD .nil pass0 (pa_cons (pv 0) (pa_cons (pv 1) pa_nil))))) (pss_one ps_off) pss_nil)
      (pss_one (ps_ret (pe_callTy call_tuple_of (by rfl) B.tuple (by decide +kernel) (pa_cons (pe_callB cr_sortedTup (by rfl) B.sorted (by decide +kernel) (pa_cons (pv 0) pa_nil)) pa_nil)))), ?_⟩
      refine ⟨_, rfl, _, rfl, a, n, ns, rfl, hq, hl, hin, hnd, fun H2 s2 => ⟨_, rfl, iteF ?_⟩⟩
      refine ⟨_, rfl, a, ns, rfl, same_sqt s2 hq1, fun ms p2 pm pw hp2 => ?_⟩
      refine ⟨p2, _, rfl, .inl ⟨SqL.of upd_same, fun l hl2 => ?_⟩⟩
      have hl3 : H l = none := s2.free ((same_new hp2).free hl2)
      exact good l ms _ hl3 ((s2.trans (same_new hp2)).trans (same_new hl2)) pm pw upd_same
/-- added_cells of two tuples of cells -/
def spAdded (K : PySem.W.Frag) : Sp := fun vs H Q _ => ∃ (a b : Addr) (ns ms : List Int), vs = [.ref a, .ref b] ∧ SqT K H a (ns.map V.int) ∧ SqT K H b (ms.map V.int) ∧ ns.length ≤ 500 ∧ ms.length ≤ 500 ∧ (∀ k ∈ ns, Cell k) ∧ (∀ k ∈ ms, Cell k) ∧
  ∀ p (ks : List Int) H', H p = none → Same H H' → ks.Pairwise (· < ·) → (∀ k, k ∈ ks ↔ xor (decide (k ∈ ns)) (decide (k ∈ ms)) = true) → H' p = some (.tup (ks.map V.int)) → Q (.ref p) H'
theorem scAdded : FnScope ["one", "other"] ["one", "other"] (defScope sAdded) := ⟨rfl, rfl, rfl, by decide +kernel, rfl, by decide +kernel, by decide +kernel⟩
theorem ok_added {f : Addr} {fd : FuncData} (F : Fun K "added_cells" "added_cells" sAdded f fd) (B : Bl mg) : FnOk P w K mg base CX0 2 f fd ["one", "other"] (spAdded K) := by
  refine F.ok scAdded (fun vs H Q E h => ?_) (fun cdv A outer s H vs Q E hr h => ?_)
  · obtain ⟨a, b, ns, ms, rfl, _⟩ := h
    rfl
  · obtain ⟨a, b, ns, ms, rfl, ha, hb, l1, l2, c1, c2, out⟩ := h
    refine ⟨_, pss_one (ps_ret (pe_callTy call_tuple_of (by rfl) B.tuple (by decide +kernel) (pa_cons (pe_callB (cr_sortedSet rfl) (by rfl) B.sorted (by decide +kernel) (pa_cons (pe_op op_xorS (pe_callTy (cr_setTup rfl) (by rfl) B.set (by decide +kernel) (pa_cons (pv 0) pa_nil)) (pe_callTy (cr_setTup rfl) (by rfl) B.set (by decide +kernel) (pa_cons (pv 1) pa_nil))) pa_nil)) pa_nil))), ?_⟩
    refine ⟨_, rfl, a, ns, rfl, ha, by omega, fun p1 n1 hp1 => ?_⟩
    have s1 := same_new (o := SetO w p1 (fun j => decide (j ∈ ns)) n1) hp1
    refine ⟨_, rfl, b, ms, rfl, same_sqt s1 hb, by omega, fun p2 n2 hp2 => ?_⟩
    have s2 := same_new (o := SetO w p2 (fun j => decide (j ∈ ms)) n2) hp2
    refine ⟨p1, p2, _, _, n1, n2, rfl, rfl, s2 _ _ upd_same, upd_same, fun k hk => c1 k (of_decide_eq_true hk), fun k hk => c2 k (of_decide_eq_true hk), fun p3 c hp3 hc => ?_⟩
    have s3 := same_new (o := SetO w p3 (fun k => xor (decide (k ∈ ns)) (decide (k ∈ ms))) c) hp3
    refine ⟨p3, _, c, rfl, upd_same, by omega, fun ks p4 pw hk hlen hp4 => ?_⟩
    refine ⟨p4, _, rfl, .inl ⟨SqL.of upd_same, fun l hl => ?_⟩⟩
    have s4 := same_new (o := .lst (ks.map V.int)) hp4
    have s5 := same_new (o := .tup (ks.map V.int)) hl
    have sm := ((s1.trans s2).trans s3).trans s4
    exact out l ks _ (sm.free hl) (sm.trans s5) pw hk upd_same
end
end K18
namespace K18
open PySem PySem.Spec PyProof.Rows L2 Par
/-! ### bits -/
def upF : Nat → List Int → List Int
  | _, [] => []
  | i, b :: bs => if b = 1 then (i : Int) :: upF (i + 1) bs else upF (i + 1) bs
theorem upF_snoc : ∀ (j : Nat) (l : List Int) (b : Int), upF j (l ++ [b]) = upF j l ++ (if b = 1 then [((j + l.length : Nat) : Int)] else [])
  | j, [], b => by
    show (if b = 1 then [(j : Int)] else []) = [] ++ _
    simp
  | j, a :: l, b => by
    have h := upF_snoc (j + 1) l b
    have e : j + 1 + l.length = j + (l.length + 1) := by omega
    show (if a = 1 then (j : Int) :: upF (j + 1) (l ++ [b]) else upF (j + 1) (l ++ [b])) = (if a = 1 then (j : Int) :: upF (j + 1) l else upF (j + 1) l) ++ _
    rw [h, e, List.length_cons]
    split <;> rfl
theorem upF_step {bs : List Int} {i : Nat} {b : Int} (h : bs[i]? = some b) : upF 0 (bs.take (i + 1)) = upF 0 (bs.take i) ++ (if b = 1 then [(i : Int)] else []) := by
  have hi : i < bs.length := (List.getElem?_eq_some_iff.mp h).1
  rw [List.take_succ, h]
  show upF 0 (bs.take i ++ [b]) = _
  rw [upF_snoc, List.length_take]
  have : 0 + min i bs.length = i := by omega
  rw [this]
theorem mem_upF : ∀ (j : Nat) (bs : List Int) (k : Int), k ∈ upF j bs ↔ ∃ i : Nat, bs[i]? = some 1 ∧ k = ((j + i : Nat) : Int)
  | j, [], k => by simp [upF]
  | j, b :: bs, k => by
    have ih := mem_upF (j + 1) bs k
    unfold upF
    constructor
    · intro h
      split at h
      · rename_i hb
        rcases List.mem_cons.mp h with e | e
        · exact ⟨0, by simp [hb], by simpa using e⟩
        · obtain ⟨i, h1, h2⟩ := ih.mp e
          exact ⟨i + 1, by simpa using h1, by omega⟩
      · obtain ⟨i, h1, h2⟩ := ih.mp h
        exact ⟨i + 1, by simpa using h1, by omega⟩
    · rintro ⟨i, h1, h2⟩
      cases i with
      | zero =>
        have hb : b = 1 := by simpa using h1
        rw [if_pos hb]
        rw [h2]
        exact List.mem_cons_self ..
      | succ i =>
        have h3 : k ∈ upF (j + 1) bs := ih.mpr ⟨i, by simpa using h1, by omega⟩
        split
        · exact List.mem_cons_of_mem _ h3
        · exact h3
theorem upF_up : ∀ (j : Nat) (bs : List Int), (upF j bs).Pairwise (· < ·)
  | j, [] => List.Pairwise.nil
  | j, b :: bs => by
    unfold upF
    split
    · refine List.pairwise_cons.mpr ⟨fun k hk => ?_, upF_up (j + 1) bs⟩
      obtain ⟨i, _, e⟩ := (mem_upF (j + 1) bs k).mp hk
      omega
    · exact upF_up (j + 1) bs
theorem nodup_lt_ {l : List Int} (h : l.Pairwise (· < ·)) : l.Nodup := h.imp (fun a e => by omega)
theorem upF_in {bs : List Int} {k : Int} (h : k ∈ upF 0 bs) : 0 ≤ k ∧ k < bs.length := by
  obtain ⟨i, h1, e⟩ := (mem_upF 0 bs k).mp h
  have := (List.getElem?_eq_some_iff.mp h1).1
  omega
theorem upF_len : ∀ (j : Nat) (bs : List Int), (upF j bs).length ≤ bs.length
  | j, [] => Nat.le_refl _
  | j, b :: bs => by
    have := upF_len (j + 1) bs
    unfold upF
    split
    · simp only [List.length_cons]; omega
    · simp only [List.length_cons]; omega
/-- the bits of a board of n cells, those of S up, cell 0 too -/
def mkB (n : Nat) (S : Int → Bool) : List Int := (List.range n).map fun (i : Nat) => if (decide (i = 0) || S (i : Int)) = true then 1 else 0
def flipB (bs ns : List Int) : List Int := (List.range bs.length).map fun (i : Nat) => if decide ((i : Int) ∈ ns) = true then 1 - bs.getD i 0 else bs.getD i 0
/-- what is a board's bits: zeros and ones, the first one 1, at most 40 -/
def OkB (bs : List Int) : Prop := (∀ x ∈ bs, x = 0 ∨ x = 1) ∧ bs[0]? = some 1 ∧ bs.length ≤ 40
theorem mkB_len (n : Nat) (S : Int → Bool) : (mkB n S).length = n := by simp [mkB]
theorem flipB_len (bs ns : List Int) : (flipB bs ns).length = bs.length := by simp [flipB]
theorem mkB_ok {n : Nat} {S : Int → Bool} (h1 : 1 ≤ n) (h2 : n ≤ 40) : OkB (mkB n S) := by
  refine ⟨fun x hx => ?_, ?_, by rw [mkB_len]; exact h2⟩
  · obtain ⟨i, _, rfl⟩ := List.mem_map.mp hx
    split <;> simp
  · unfold mkB
    rw [List.getElem?_map, List.getElem?_range (by omega)]
    simp
theorem bit_at {bs : List Int} (h : OkB bs) {i : Nat} (hi : i < bs.length) : bs.getD i 0 = 0 ∨ bs.getD i 0 = 1 := by
  rw [List.getD_eq_getElem?_getD, List.getElem?_eq_getElem hi]
  exact h.1 _ (List.getElem_mem hi)
theorem up_iff {bs : List Int} (i : Nat) (hi : i < bs.length) : ((i : Int) ∈ upF 0 bs) ↔ bs.getD i 0 = 1 := by
  rw [mem_upF, List.getD_eq_getElem?_getD, List.getElem?_eq_getElem hi]
  constructor
  · rintro ⟨j, h1, h2⟩
    have : i = j := by omega
    subst this
    rw [List.getElem?_eq_getElem hi] at h1
    exact Option.some.inj h1
  · intro h
    exact ⟨i, by rw [List.getElem?_eq_getElem hi]; exact congrArg some h, by omega⟩
theorem tog_eq {bs ns : List Int} (h : OkB bs) (h0 : ∀ k ∈ ns, 1 ≤ k) {S : Int → Bool} (hS : ∀ k, S k = xor (decide (k ∈ upF 0 bs)) (decide (k ∈ ns))) : mkB bs.length S = flipB bs ns := by
  unfold mkB flipB
  refine List.map_congr_left fun i hi => ?_
  have hi2 : i < bs.length := List.mem_range.mp hi
  rw [hS]
  by_cases z : i = 0
  · subst z
    have n0 : ¬ ((0 : Nat) : Int) ∈ ns := fun q => by have := h0 _ q; omega
    have b0 : bs.getD 0 0 = 1 := by
      rw [List.getD_eq_getElem?_getD, h.2.1]
      rfl
    rw [decide_eq_false n0, b0]
    simp
  · rw [decide_eq_false z, Bool.false_or]
    by_cases u : (i : Int) ∈ upF 0 bs
    · have b1 := (up_iff i hi2).mp u
      rw [decide_eq_true u, b1]
      by_cases m : (i : Int) ∈ ns
      · rw [decide_eq_true m]; simp
      · rw [decide_eq_false m]; simp
    · have b1 : bs.getD i 0 = 0 := (bit_at h hi2).resolve_right fun q => u ((up_iff i hi2).mpr q)
      rw [decide_eq_false u, b1]
      by_cases m : (i : Int) ∈ ns
      · rw [decide_eq_true m]; simp
      · rw [decide_eq_false m]; simp
theorem flip_ok {bs ns : List Int} (h : OkB bs) (h0 : ∀ k ∈ ns, 1 ≤ k) : OkB (flipB bs ns) := by
  have hl : 1 ≤ bs.length := by
    have := (List.getElem?_eq_some_iff.mp h.2.1).1
    omega
  rw [← tog_eq h h0 (S := fun k => xor (decide (k ∈ upF 0 bs)) (decide (k ∈ ns))) (fun _ => rfl)]
  exact mkB_ok hl h.2.2
theorem flip_flip {bs ns : List Int} : flipB (flipB bs ns) ns = bs := by
  refine List.ext_getElem (by rw [flipB_len, flipB_len]) fun i h1 h2 => ?_
  have e : ∀ (cs : List Int) (h : i < (flipB cs ns).length), (flipB cs ns)[i] = if decide ((i : Int) ∈ ns) = true then 1 - cs.getD i 0 else cs.getD i 0 := fun cs h => by
    unfold flipB
    simp
  rw [e]
  have g : (flipB bs ns).getD i 0 = (flipB bs ns)[i]'(by rw [flipB_len]; exact h2) := by
    rw [List.getD_eq_getElem?_getD, List.getElem?_eq_getElem]
    rfl
  rw [g, e]
  have g2 : bs.getD i 0 = bs[i] := by
    rw [List.getD_eq_getElem?_getD, List.getElem?_eq_getElem h2]
    rfl
  rw [g2]
  split
  · omega
  · rfl
end K18
namespace K18
open PySem PySem.Spec PyProof.Rows L2 Par
theorem in_ints (x : Int) (ns : List Int) : inV (.int x) (ns.map V.int) = decide (x ∈ ns) := by
  unfold inV
  rw [List.any_map]
  rw [Bool.eq_iff_iff, List.any_eq_true, decide_eq_true_eq]
  constructor
  · rintro ⟨y, hy, e⟩
    have e2 : (y == x) = true := e
    have e3 : y = x := by simpa using e2
    exact e3 ▸ hy
  · intro h
    refine ⟨x, h, ?_⟩
    show (x == x) = true
    simp
theorem flat_ints (ns : List Int) : (ns.map V.int).all flatV = true := by
  rw [List.all_map, List.all_eq_true]
  intro x _
  rfl
theorem perm_sum : ∀ {l m : List Int}, l.Perm m → l.sum = m.sum := by
  intro l m h
  induction h with
  | nil => rfl
  | cons x _ ih => rw [List.sum_cons, List.sum_cons, ih]
  | swap x y l =>
    simp only [List.sum_cons]
    omega
  | trans _ _ h1 h2 => exact h1.trans h2
theorem no_fld {m : Str} {v : V} (h : (m == ("states" : Str)) = false) : ([("states", v)] : List (Str × V)).lookup m = none := by
  simp [List.lookup, h]
theorem fld_ {v : V} : ([("states", v)] : List (Str × V)).lookup ("states" : Str) = some v := by
  simp [List.lookup]
/-- a board at b, with these bits -/
def Bd (C : Addr) (H : Hp) (b : Addr) (bs : List Int) : Prop := ∃ dx t, H b = some (.ins C dx [("states", .ref t)]) ∧ H t = some (.tup (bs.map V.int))
theorem Bd.same {C : Addr} {H H' : Hp} {b : Addr} {bs : List Int} (s : Same H H') (h : Bd C H b bs) : Bd C H' b bs := by
  obtain ⟨dx, t, h1, h2⟩ := h
  exact ⟨dx, t, s _ _ h1, s _ _ h2⟩
theorem Bd.but {C p : Addr} {H H' : Hp} {b : Addr} {bs : List Int} (hp : PotAt H p) (s : But p H H') (h : Bd C H b bs) : Bd C H' b bs := by
  obtain ⟨dx, t, h1, h2⟩ := h
  obtain ⟨x, y, e, _⟩ := hp
  have n1 : b ≠ p := fun z => by rw [z, e] at h1; cases h1
  have n2 : t ≠ p := fun z => by rw [z, e] at h2; cases h2
  exact ⟨dx, t, s _ _ n1 h1, s _ _ n2 h2⟩
structure BC (K : PySem.W.Frag) (mg : Str → Option Value) (C : Addr) : Prop where
  cl : Cls K C
  nS : NoAttr K C "states"
  mgC : mg "Board" = some (.ref C)
section
variable {P : Program} {w : World} {K : PySem.W.Frag} {mg : Str → Option Value} {base : Heap}
/-- a method that is called by places -/
def HasM (P : Program) (w : World) (K : PySem.W.Frag) (mg : Str → Option Value) (base : Heap) (C : Addr) (m : Str) (lv : Nat) (ps : List Str) (sp : Sp) : Prop :=
  ∃ f fd, FnOk P w K mg base CX0 lv f fd ps sp ∧ Meth K C m f ∧ Binds K fd ps []
/-- len(self.states) -/
def spSize (C : Addr) : Sp := fun vs H Q _ => ∃ (b : Addr) (bs : List Int), vs = [.ref b] ∧ Bd C H b bs ∧ Q (.int (bs.length : Nat)) H
theorem scSize : FnScope ["self"] ["self"] (defScope mSize) := ⟨rfl, rfl, rfl, by decide +kernel, rfl, by decide +kernel, by decide +kernel⟩
theorem scLen : FnScope ["self"] ["self"] (defScope mLen) := ⟨rfl, rfl, rfl, by decide +kernel, rfl, by decide +kernel, by decide +kernel⟩
theorem ok_size {f C : Addr} {fd : FuncData} (F : Fun K "size" "Board.size" mSize f fd) (B : Bl mg) (T : BC K mg C) : FnOk P w K mg base CX0 2 f fd ["self"] (spSize C) := by
  refine F.ok scSize (fun vs H Q E h => ?_) (fun cdv A outer s H vs Q E hr h => ?_)
  · obtain ⟨b, bs, rfl, _⟩ := h
    rfl
  · obtain ⟨b, bs, rfl, ⟨dx, t, h1, h2⟩, out⟩ := h
    refine ⟨_, pss_one (ps_ret (pe_callB call_len_seq (by rfl) B.len PySem.boot_len (pa_cons (pe_fld (pv 0) rfl) pa_nil))), ?_⟩
    refine ⟨_, rfl, b, C, dx, _, _, rfl, h1, T.cl, T.nS, fld_, t, _, rfl, .inr (SqT.of h2), ?_⟩
    rw [List.length_map]
    exact out
theorem ok_len {f C : Addr} {fd : FuncData} (F : Fun K "__len__" "Board.__len__" mLen f fd) (B : Bl mg) (T : BC K mg C) : FnOk P w K mg base CX0 2 f fd ["self"] (spSize C) := by
  refine F.ok scLen (fun vs H Q E h => ?_) (fun cdv A outer s H vs Q E hr h => ?_)
  · obtain ⟨b, bs, rfl, _⟩ := h
    rfl
  · obtain ⟨b, bs, rfl, ⟨dx, t, h1, h2⟩, out⟩ := h
    refine ⟨_, pss_one (ps_ret (pe_callB call_len_seq (by rfl) B.len PySem.boot_len (pa_cons (pe_fld (pv 0) rfl) pa_nil))), ?_⟩
    refine ⟨_, rfl, b, C, dx, _, _, rfl, h1, T.cl, T.nS, fld_, t, _, rfl, .inr (SqT.of h2), ?_⟩
    rw [List.length_map]
    exact out
/-- up -/
def spUps (C : Addr) : Sp := fun vs H Q _ => ∃ (b : Addr) (bs : List Int), vs = [.ref b] ∧ Bd C H b bs ∧ bs.length ≤ 40 ∧ ∀ p H', H p = none → Same H H' → H' p = some (.tup ((upF 0 bs).map V.int)) → Q (.ref p) H'
abbrev nUps : List Str := ["self", "cell", "state"]
theorem scUps : FnScope nUps ["self"] (defScope mUps) := ⟨rfl, rfl, rfl, by decide +kernel, rfl, by decide +kernel, by decide +kernel⟩
theorem ok_ups {f C : Addr} {fd : FuncData} (F : Fun K "up" "Board.up" mUps f fd) (B : Bl mg) (T : BC K mg C) : FnOk P w K mg base CX0 2 f fd ["self"] (spUps C) := by
  refine F.ok scUps (fun vs H Q E h => ?_) (fun cdv A outer s H vs Q E hr h => ?_)
  · obtain ⟨b, bs, rfl, _⟩ := h
    rfl
  · obtain ⟨b, bs, rfl, ⟨dx, t, h1, h2⟩, hl, out⟩ := h
    refine ⟨_, pss_one (ps_ret (pe_callTy call_tuple_of (by rfl) B.tuple (by decide +kernel) (pa_cons (pe_lc (own := [("cell", 1), ("state", 2)]) (g := gTup K 2 (gCons (gName 1) (gCons (gName 2) gNil))) rfl scUps.nd (pi_enumT (by rfl) B.enumerate (pa_cons (pe_fld (pv 0) rfl) pa_nil)) (blkOk_by (own := [("cell", 1), ("state", 2)]) (N := nUps) (sc := defScope mUps) (by decide +kernel))
        (fun _ _ _ _ _ => by exact pg_tup rfl (pgs_cons (pg_name (i := 1) scUps.nd rfl (Or.inl rfl)) (pgs_cons (pg_name (i := 2) scUps.nd rfl (Or.inl rfl)) pgs_nil)))
        (fun _ _ _ _ _ => pts_one (pt_cmpR op_eq (pv 2) pe_int (nomark _))) (fun _ _ _ _ _ => pv 1)) pa_nil))), ?_⟩
    refine ⟨_, rfl, b, C, dx, _, _, rfl, h1, T.cl, T.nS, fld_, t, _, rfl, SqT.of h2, fun D hD => ?_⟩
    refine lc_it walk_enumT (fun i H' => Same H H' ∧ H' D = some (.lst ((upF 0 (bs.take i)).map V.int))) ⟨same_new hD, upd_same⟩ (fun i H' _ h => SqT.of (h.1 _ _ h2)) ?_ ?_
    · rintro i x H3 H4 hi ⟨s3, hD3⟩ ⟨T1, x1, y1, rfl, hT, rfl, ex, ey⟩
      have hi2 : i < bs.length := by rw [List.length_map] at hi; exact hi
      have hbi : bs[i]? = some bs[i] := List.getElem?_eq_getElem hi2
      have ey2 : y1 = .int bs[i] := by
        have ey' : (bs.map V.int)[i]? = some y1 := ey
        rw [List.getElem?_map, hbi] at ey'
        exact (Option.some.inj ey').symm
      have ex2 : x1 = .int (i : Nat) := (Option.some.inj ex).symm
      subst ey2 ex2
      have s4 : Same H (upd H3 T1 (.tup [.int (i : Nat), .int bs[i]])) := s3.trans (same_new hT)
      have hD4 := (same_new (o := .tup [.int (i : Nat), .int bs[i]]) hT) _ _ hD3
      have st := upF_step hbi
      refine ⟨T1, _, rfl, SqT.of upd_same, rfl, _, _, rfl, _, _, rfl, rfl, rfl, _, rfl, rfl, _, rfl, ite2 (fun hb => ?_) (fun hb => ?_)⟩
      · have hb1 : bs[i] = 1 := by
          have := of_decide_eq_true hb
          injection this
        refine ⟨_, rfl, _, hD4, ?_, ?_, ?_⟩
        · have := upF_len 0 (bs.take i)
          rw [List.length_take] at this
          rw [List.length_map]
          exact small1000 (by omega)
        · intro z o e
          have hDH : H D = none := hD
          rw [upd_ne (ne_of_none e hDH)]
          exact s4 z o e
        · rw [upd_same, st, if_pos hb1, List.map_append]
          rfl
      · have hb1 : ¬ bs[i] = 1 := fun z => hb (decide_eq_true (by rw [z]))
        refine ⟨s4, ?_⟩
        rw [st, if_neg hb1, List.append_nil]
        exact hD4
    · rintro H3 ⟨s3, hD3⟩
      rw [List.length_map, List.take_length] at hD3
      refine ⟨D, _, rfl, .inl ⟨SqL.of hD3, fun l hl2 => ?_⟩⟩
      exact out l _ (s3.free hl2) (s3.trans (same_new hl2)) upd_same
/-- parity -/
def spPar (K : PySem.W.Frag) (C : Addr) : Sp := fun vs H Q _ => ∃ (b a : Addr) (bs ns : List Int), vs = [.ref b, .ref a] ∧ Bd C H b bs ∧ Sq K H a (ns.map V.int) ∧ ns.length ≤ 500 ∧ (∀ k ∈ ns, 0 ≤ k ∧ k < bs.length) ∧ ns.Nodup ∧
  ∀ H', Same H H' → Q (.int ((ns.map fun k => bs.getD k.toNat 0).sum % 2)) H'
abbrev nPar : List Str := ["self", "cells", "chosen", "cell"]
theorem scPar : FnScope nPar ["self", "cells"] (defScope mPar) := ⟨rfl, rfl, rfl, by decide +kernel, rfl, by decide +kernel, by decide +kernel⟩
theorem ok_par {f C : Addr} {fd : FuncData} (F : Fun K "parity" "Board.parity" mPar f fd) (B : Bl mg) (T : BC K mg C) (DS : HasM P w K mg base C "size" 2 ["self"] (spSize C)) (DC : HasN P w K mg base "cell_tuple" 5 "things" (spCells K)) :
    FnOk P w K mg base CX0 6 f fd ["self", "cells"] (spPar K C) := by
  obtain ⟨fS, fdS, GS, mS, bS⟩ := DS
  obtain ⟨fD, fdD, GD, mD, kD, bD⟩ := DC
  refine F.ok scPar (fun vs H Q E h => ?_) (fun cdv A outer s H vs Q E hr h => ?_)
  · obtain ⟨b, a, bs, ns, rfl, _⟩ := h
    rfl
  · obtain ⟨b, a, bs, ns, rfl, hB, hq, hl, hin, hnd, out⟩ := h
    obtain ⟨dx, t, h1, h2⟩ := id hB
    have r1 : Room 2 _ := hr.mono (by decide)
    refine ⟨_, pss_cons (ps_set (i := 2) scPar.nd rfl (Or.inl rfl) (pe_callN (n := 1) (ks := ["size"]) GD hr (by rfl) mD kD bD pass0 (pa_cons (pv 1) pa_nil) (pk_cons (pe_meth0 (pv 0) T.cl mS GS r1 bS .nil pass0) pk_nil)))
      (pss_one (ps_ret (pe_op op_mod (pe_callB (cr_sum rfl) (by rfl) B.sum (by decide +kernel) (pa_cons (pe_lc (own := [("cell", 3)]) (g := gName 3) (te := tOp (rIxT K) (tFld K (tVar 0) "states") (tVar 3)) rfl scPar.nd (pi_tup (pv 2)) (blkOk_by (own := [("cell", 3)]) (N := nPar) (sc := defScope mPar) (by decide +kernel))
        (fun _ _ _ _ _ => pg_name (i := 3) scPar.nd rfl (Or.inl rfl)) (fun _ _ _ _ _ => pts_nil) (fun _ _ _ _ _ => by exact pe_ix ix_tup (pe_fld (pv 0) rfl) (pv 3) (fun _ _ => rfl))) pa_nil)) pe_int))), ?_⟩
    refine ⟨_, rfl, _, rfl, b, dx, _, rfl, h1, no_fld (by decide +kernel), b, bs, rfl, hB, rfl, rfl, a, (bs.length : Nat), ns, rfl, hq, hl, hin, hnd, ?_⟩
    intro p ms H1 hp s1 pm pw hp1
    refine ⟨_, rfl, p, rfl, ⟨_, SqT.of hp1⟩, fun D hD => ?_⟩
    have hDH : H D = none := s1.free hD
    refine lc_tup (K := K) (a := p) (xs := ms.map V.int) (fun i H' => Same H1 H' ∧ H' D = some (.lst (((ms.take i).map fun k => bs.getD k.toNat 0).map V.int))) ⟨same_new hD, upd_same⟩ (fun i H' _ h => SqT.of (h.1 _ _ hp1)) ?_ ?_
    · rintro i x H2 hx ⟨s2, hD2⟩
      rw [List.getElem?_map] at hx
      obtain ⟨k, hk, rfl⟩ : ∃ k, ms[i]? = some k ∧ x = V.int k := by
        cases e : ms[i]? with
        | none => rw [e] at hx; cases hx
        | some k => rw [e] at hx; exact ⟨k, rfl, (Option.some.inj hx).symm⟩
      obtain ⟨k0, k1⟩ := hin k (pm.mem_iff.mp (List.mem_of_getElem? hk))
      have kl : k.toNat < bs.length := by omega
      have ek : k = ((k.toNat : Nat) : Int) := by omega
      have hat : atI (bs.map V.int) k = some (.int bs[k.toNat]) := by
        have z : atI (bs.map V.int) ((k.toNat : Nat) : Int) = some (.int bs[k.toNat]) := atI_nat (by simp [kl])
        rwa [Int.toNat_of_nonneg k0] at z
      have s12 : Same H H2 := s1.trans s2
      refine ⟨rfl, yesT ?_⟩
      refine ⟨_, rfl, b, C, dx, _, _, rfl, s12 _ _ h1, T.cl, T.nS, fld_, _, rfl, t, _, _, .int bs[k.toNat], rfl, rfl, SqT.of (s12 _ _ h2), hat, ?_⟩
      refine ⟨_, hD2, ?_, ?_, ?_⟩
      · rw [List.length_map, List.length_map, List.length_take, pm.length_eq]
        exact small1000 (by omega)
      · intro z o e
        rw [upd_ne (ne_of_none e hD)]
        exact s2 z o e
      · rw [upd_same, List.take_succ, hk, List.map_append, List.map_append]
        show some (HO.lst (_ ++ [V.int bs[k.toNat]])) = some (HO.lst (_ ++ [V.int (bs.getD k.toNat 0)]))
        rw [List.getD_eq_getElem?_getD, List.getElem?_eq_getElem kl]
        rfl
    · rintro H2 ⟨s2, hD2⟩
      rw [List.length_map, List.take_length] at hD2
      refine ⟨D, _, rfl, SqL.of hD2, _, _, rfl, rfl, (by show (0 : Int) < 2; decide), ?_⟩
      have es : (ms.map fun k => bs.getD k.toNat 0).sum = (ns.map fun k => bs.getD k.toNat 0).sum := perm_sum (pm.map _)
      have := out H2 (s1.trans s2)
      rw [← es] at this
      exact this
end
end K18
namespace K18
open PySem PySem.Spec PyProof.Rows L2 Par
section
variable {P : Program} {w : World} {K : PySem.W.Frag} {mg : Str → Option Value} {base : Heap}
/-- __init__ -/
def spInit (K : PySem.W.Frag) (C : Addr) : Sp := fun vs H Q _ => ∃ (b dx u : Addr) (n : Nat) (ns : List Int), vs = [.ref b, .int (n : Nat), .ref u] ∧ H b = some (.ins C dx []) ∧ Sq K H u (ns.map V.int) ∧ ns.length ≤ 500 ∧ 1 ≤ n ∧ n ≤ 40 ∧
  (∀ k ∈ ns, 0 ≤ k ∧ k < (n : Nat)) ∧ ns.Nodup ∧
  ∀ H' t, But b H H' → H' b = some (.ins C dx [("states", .ref t)]) → H' t = some (.tup ((mkB n fun k => decide (k ∈ ns)).map V.int)) → Q .non H'
abbrev nInit : List Str := ["self", "size", "up", "raised", "cell"]
theorem scInit : FnScope nInit ["self", "size", "up"] (defScope mInit) := ⟨rfl, rfl, rfl, by decide +kernel, rfl, by decide +kernel, by decide +kernel⟩
theorem ok_init {f C e : Addr} {fd : FuncData} (F : FunD K "__init__" "Board.__init__" (defArgs mInit) (defBody mInit) (defScope mInit) [] [("up", .ref e)] f fd) (B : Bl mg) (T : BC K mg C)
    (DZ : Has P w K mg base "is_size" 3 ["thing"] spIsSize) (DC : HasN P w K mg base "cell_tuple" 5 "things" (spCells K)) : FnOk P w K mg base CX0 6 f fd ["self", "size", "up"] (spInit K C) := by
  obtain ⟨fZ, fdZ, GZ, mZ, kZ, bZ⟩ := DZ
  obtain ⟨fD, fdD, GD, mD, kD, bD⟩ := DC
  refine F.ok scInit (fun vs H Q E h => ?_) (fun cdv A outer s H vs Q E hr h => ?_)
  · obtain ⟨b, dx, u, n, ns, rfl, _⟩ := h
    rfl
  · obtain ⟨b, dx, u, n, ns, rfl, hb, hq, hl, n1, n2, hin, hnd, out⟩ := h
    have r2 : Room 3 _ := hr.mono (by decide)
    refine ⟨_, pss_cons (ps_if (pt_not (pt_val (pe_call GZ r2 (by rfl) mZ kZ bZ .nil pass0 (pa_cons (pv 1) pa_nil)))) (pss_one ps_off) pss_nil)
      (pss_cons (ps_set (i := 3) scInit.nd rfl (Or.inr rfl) (pe_callN (n := 1) (ks := ["size"]) GD hr (by rfl) mD kD bD pass0 (pa_cons (pv 2) pa_nil) (pk_cons (pv 1) pk_nil)))
      (pss_one (ps_fld (pv 0) (pe_callTy call_tuple_of (by rfl) B.tuple (by decide +kernel) (pa_cons (pe_lc (own := [("cell", 4)]) (g := gName 4) (te := tIf (tOr (tTest (tOp rEq (tVar 4) (tC (.int 0)))) (tTest (tOp (rIn K false) (tVar 4) (tVar 3)))) (tC (.int 1)) (tC (.int 0))) rfl scInit.nd (pi_range1 (by rfl) B.range (pa_cons (pv 1) pa_nil)) (blkOk_by (own := [("cell", 4)]) (N := nInit) (sc := defScope mInit) (by decide +kernel))
        (fun _ _ _ _ _ => pg_name (i := 4) scInit.nd rfl (Or.inl rfl)) (fun _ _ _ _ _ => pts_nil)
        (fun _ _ _ _ _ => by exact pe_ifExp (PW.pt (pw_or (pt_cmpR op_eq (pv 4) pe_int (nomark _)) (pw_or1 (pt_cmpR op_in_seq (pv 4) (pv 3) (by rfl))))) pe_int pe_int)) pa_nil)) rfl))), ?_⟩
    refine ⟨_, rfl, (n : Nat), rfl, _, rfl, ?_⟩
    have e1 : decide ((1 : Int) ≤ (n : Nat)) = true := decide_eq_true (by omega)
    have e2 : decide (((n : Nat) : Int) ≤ 40) = true := decide_eq_true (by omega)
    rw [e1, e2]
    refine iteF ?_
    refine ⟨_, rfl, _, rfl, rfl, rfl, u, (n : Nat), ns, rfl, hq, hl, hin, hnd, ?_⟩
    intro p ms H1 hp s1 pm pw hp1
    refine ⟨_, rfl, _, rfl, by omega, by omega, fun D hD => ?_⟩
    rw [Int.toNat_natCast]
    have hms : ∀ k : Int, decide (k ∈ ms) = decide (k ∈ ns) := fun k => by
      by_cases z : k ∈ ns
      · rw [decide_eq_true z, decide_eq_true (pm.mem_iff.mpr z)]
      · rw [decide_eq_false z, decide_eq_false (fun q => z (pm.mem_iff.mp q))]
    refine lc_range (lo := 0) (n := n) (fun i H' => Same H1 H' ∧ H' D = some (.lst ((mkB i fun k => decide (k ∈ ns)).map V.int))) ⟨same_new hD, upd_same⟩ ?_ ?_
    · rintro i H2 hi ⟨s2, hD2⟩
      have e0 : (0 : Int) + (i : Nat) = (i : Nat) := by omega
      rw [e0]
      have step : ∀ x : Int, (if (decide (i = 0) || decide ((i : Int) ∈ ns)) = true then (1 : Int) else 0) = x → ∃ acc, H2 D = some (.lst acc) ∧ acc.length < sizeLine ∧
          Same H1 (upd H2 D (.lst (acc ++ [V.int x]))) ∧ (upd H2 D (.lst (acc ++ [V.int x]))) D = some (.lst ((mkB (i + 1) fun k => decide (k ∈ ns)).map V.int)) := by
        intro x hx
        refine ⟨_, hD2, by rw [List.length_map, mkB_len]; exact small1000 (by omega), ?_, ?_⟩
        · intro z o e
          rw [upd_ne (ne_of_none e hD)]
          exact s2 z o e
        · rw [upd_same]
          unfold mkB
          rw [List.range_succ, List.map_append, List.map_append]
          show some (HO.lst (_ ++ [V.int x])) = some (HO.lst (_ ++ [V.int (if (decide (i = 0) || decide ((i : Int) ∈ ns)) = true then (1 : Int) else 0)]))
          rw [hx]
      refine ⟨rfl, yesT ?_⟩
      refine ⟨_, rfl, rfl, _, rfl, ite2 (fun hz => iteT ?_) (fun hz => ?_)⟩
      · have hz1 : i = 0 := by
          have z := of_decide_eq_true hz
          have z2 : ((i : Nat) : Int) = 0 := by injection z
          omega
        exact step 1 (by rw [decide_eq_true hz1]; rfl)
      · have hz1 : ¬ i = 0 := fun z => hz (decide_eq_true (by rw [z]; rfl))
        refine ⟨_, rfl, _, rfl, p, _, rfl, .inr (SqT.of (s2 _ _ hp1)), rfl, flat_ints _, _, rfl, ?_⟩
        show if inV (V.int ((i : Nat) : Int)) (ms.map V.int) = true then _ else _
        rw [in_ints, hms]
        by_cases hm : ((i : Nat) : Int) ∈ ns
        · rw [decide_eq_true hm]
          exact iteT (step 1 (by rw [decide_eq_true hm, Bool.or_true]; rfl))
        · rw [decide_eq_false hm]
          exact iteF (step 0 (by rw [decide_eq_false hm, decide_eq_false hz1]; rfl))
    · rintro H2 ⟨s2, hD2⟩
      refine ⟨D, _, rfl, .inl ⟨SqL.of hD2, fun t ht => ?_⟩⟩
      have s3 := same_new (o := .tup ((mkB n fun k => decide (k ∈ ns)).map V.int)) ht
      have s123 : Same H _ := (s1.trans s2).trans s3
      have nb : t ≠ b := fun z => by
        have := (s1.trans s2) _ _ hb
        rw [← z, ht] at this
        cases this
      refine ⟨_, rfl, b, C, dx, [], rfl, s123 _ _ hb, T.cl, T.nS, (by show 0 < 1000; decide), ?_⟩
      refine out _ t (fun x o nx e => ?_) upd_same ?_
      · rw [upd_ne nx]
        exact s123 _ _ e
      · rw [upd_ne nb, upd_same]
/-- Board as a class whose __init__ keeps its promise -/
def HasIni (P : Program) (w : World) (K : PySem.W.Frag) (mg : Str → Option Value) (base : Heap) (C : Addr) : Prop :=
  ∃ f fd, FnOk P w K mg base CX0 6 f fd ["self", "size", "up"] (spInit K C) ∧ Mk K C f ∧ KBn K fd ["self", "size", "up"] 2 ["up"] (fun us ws => us ++ ws) (fun vs zs => vs ++ zs) ∧
    KBn K fd ["self", "size", "up"] 1 ["size", "up"] (fun us ws => us ++ ws) (fun vs zs => vs ++ zs) ∧ ∃ (e : Addr) (ds : List Value), (∀ H, SqT K H e []) ∧ Vals [V.ref e] ds ∧ Binds K fd ["self", "size", "up"] ds
/-- what Board(..) leads to -/
theorem made_board {C : Addr} {H : Hp} {n : Nat} {u : Addr} {ns : List Int} {W : Addr → Hp → Prop} (hq : Sq K H u (ns.map V.int)) (hl : ns.length ≤ 500) (n1 : 1 ≤ n) (n2 : n ≤ 40) (hin : ∀ k ∈ ns, 0 ≤ k ∧ k < (n : Nat)) (hnd : ns.Nodup)
    (out : ∀ x H', H x = none → Same H H' → Bd C H' x (mkB n fun k => decide (k ∈ ns)) → W x H') :
    ∀ x dx, H x = none → H dx = none → dx ≠ x → spInit K C [.ref x, .int (n : Nat), .ref u] (upd (upd H dx (.own x)) x (.ins C dx [])) (fun v H3 => v = .non ∧ W x H3) (fun _ _ _ => False) := by
  intro x dx hx hdx ne
  have s1 : Same H (upd (upd H dx (.own x)) x (.ins C dx [])) := fun z o e => by
    rw [upd_ne (ne_of_none e hx), upd_ne (ne_of_none e hdx)]
    exact e
  refine ⟨x, dx, u, n, ns, rfl, upd_same, hq.same s1, hl, n1, n2, hin, hnd, fun H' t bt h1 h2 => ⟨rfl, ?_⟩⟩
  refine out x H' hx (fun z o e => ?_) ⟨dx, t, h1, h2⟩
  exact bt z o (ne_of_none e hx) (s1 z o e)
/-- toggled -/
def spTog (K : PySem.W.Frag) (C : Addr) : Sp := fun vs H Q _ => ∃ (b a : Addr) (bs ns : List Int), vs = [.ref b, .ref a] ∧ Bd C H b bs ∧ OkB bs ∧ Sq K H a (ns.map V.int) ∧ ns.length ≤ 500 ∧ (∀ k ∈ ns, 1 ≤ k ∧ k < bs.length) ∧ ns.Nodup ∧
  ∀ q H', H q = none → Same H H' → Bd C H' q (flipB bs ns) → Q (.ref q) H'
abbrev nTog : List Str := ["self", "cells", "changed"]
theorem scTog : FnScope nTog ["self", "cells"] (defScope mTog) := ⟨rfl, rfl, rfl, by decide +kernel, rfl, by decide +kernel, by decide +kernel⟩
theorem ok_tog {f C : Addr} {fd : FuncData} (F : Fun K "toggled" "Board.toggled" mTog f fd) (B : Bl mg) (T : BC K mg C) (DS : HasM P w K mg base C "size" 2 ["self"] (spSize C)) (DU : HasM P w K mg base C "up" 2 ["self"] (spUps C))
    (DC : HasN P w K mg base "cell_tuple" 5 "things" (spCells K)) (DA : Has P w K mg base "added_cells" 2 ["one", "other"] (spAdded K)) (DI : HasIni P w K mg base C) :
    FnOk P w K mg base CX0 8 f fd ["self", "cells"] (spTog K C) := by
  obtain ⟨fS, fdS, GS, mS, bS⟩ := DS
  obtain ⟨fU, fdU, GU, mU, bU⟩ := DU
  obtain ⟨fD, fdD, GD, mD, kD, bD⟩ := DC
  obtain ⟨fA, fdA, GA, mA, kA, bA⟩ := DA
  obtain ⟨fI, fdI, GI, MI, kb2, _⟩ := DI
  refine F.ok scTog (fun vs H Q E h => ?_) (fun cdv A outer s H vs Q E hr h => ?_)
  · obtain ⟨b, a, bs, ns, rfl, _⟩ := h
    rfl
  · obtain ⟨b, a, bs, ns, rfl, hB, hO, hq, hl, hin, hnd, out⟩ := h
    obtain ⟨dx, t, h1, h2⟩ := id hB
    have r1 : Room 2 _ := hr.mono (by decide)
    have r3 : Room 5 _ := hr.mono (by decide)
    refine ⟨_, pss_cons (ps_set (i := 2) scTog.nd rfl (Or.inl rfl) (pe_callN (n := 1) (ks := ["size"]) GD r3 (by rfl) mD kD bD pass0 (pa_cons (pv 1) pa_nil) (pk_cons (pe_meth0 (pv 0) T.cl mS GS r1 bS .nil pass0) pk_nil)))
      (pss_cons (ps_if (pt_cmpR op_in_seq pe_int (pv 2) (by rfl)) (pss_one ps_off) pss_nil)
      (pss_one (ps_ret (pe_makeN (n := 1) (ks := ["up"]) (E := E0) MI GI hr (by rfl) T.mgC kb2 pass0 (pa_cons (pe_meth0 (pv 0) T.cl mS GS r1 bS .nil pass0) pa_nil) (pk_cons (pe_call GA r1 (by rfl) mA kA bA .nil pass0 (pa_cons (pe_meth0 (pv 0) T.cl mU GU r1 bU .nil pass0) (pa_cons (pv 2) pa_nil))) pk_nil))))), ?_⟩
    have hin0 : ∀ k ∈ ns, 0 ≤ k ∧ k < ((bs.length : Nat) : Int) := fun k hk => by
      have := hin k hk
      omega
    refine ⟨_, rfl, _, rfl, b, dx, _, rfl, h1, no_fld (by decide +kernel), b, bs, rfl, hB, rfl, rfl, a, (bs.length : Nat), ns, rfl, hq, hl, hin0, hnd, ?_⟩
    intro p ms H1 hp s1 pm pw hp1
    refine ⟨_, rfl, p, _, rfl, .inr (SqT.of hp1), rfl, flat_ints _, _, rfl, ?_⟩
    have h0 : ¬ (0 : Int) ∈ ms := fun z => by
      have := hin 0 (pm.mem_iff.mp z)
      omega
    show if inV (V.int 0) (ms.map V.int) = true then _ else _
    rw [in_ints, decide_eq_false h0]
    refine iteF ?_
    have hB1 := hB.same s1
    refine ⟨_, rfl, b, dx, _, rfl, s1 _ _ h1, no_fld (by decide +kernel), b, bs, rfl, hB1, ?_⟩
    refine ⟨_, rfl, b, dx, _, rfl, s1 _ _ h1, no_fld (by decide +kernel), b, bs, rfl, hB1, hO.2.2, ?_⟩
    intro p2 H2 hp2 s2 hup
    refine ⟨_, rfl, p2, p, upF 0 bs, ms, rfl, SqT.of hup, SqT.of (s2 _ _ hp1), ?_, ?_, ?_, ?_, ?_⟩
    · have := upF_len 0 bs
      have := hO.2.2
      omega
    · rw [pm.length_eq]
      exact hl
    · intro k hk
      have := upF_in hk
      have := hO.2.2
      exact ⟨by omega, by omega⟩
    · intro k hk
      have := hin k (pm.mem_iff.mp hk)
      have := hO.2.2
      exact ⟨by omega, by omega⟩
    intro p3 ks H3 hp3 s3 pk hks hp3'
    have hlen1 : 1 ≤ bs.length := by
      have := (List.getElem?_eq_some_iff.mp hO.2.1).1
      omega
    have hinks : ∀ k ∈ ks, 0 ≤ k ∧ k < ((bs.length : Nat) : Int) := fun k hk => by
      have z := (hks k).mp hk
      by_cases u : k ∈ upF 0 bs
      · exact upF_in u
      · rw [decide_eq_false u] at z
        have z2 : k ∈ ms := by simpa using z
        exact hin0 k (pm.mem_iff.mp z2)
    have hlks : ks.length ≤ 40 := cells_few (nodup_lt_ pk) fun k hk => by
      have := hinks k hk
      have := hO.2.2
      exact ⟨by omega, by omega⟩
    refine ⟨rfl, rfl, made_board (n := bs.length) (ns := ks) (.inr (SqT.of hp3')) (by omega) hlen1 hO.2.2 hinks (nodup_lt_ pk) fun x H' hx sx hb => ?_⟩
    have s123 := (s1.trans s2).trans s3
    refine out x H' (s123.free hx) (s123.trans sx) ?_
    have e := tog_eq (bs := bs) (ns := ns) hO (fun k hk => (hin k hk).1) (S := fun k => decide (k ∈ ks)) (fun k => by
      have z := hks k
      have em : decide (k ∈ ms) = decide (k ∈ ns) := by
        by_cases q : k ∈ ns
        · rw [decide_eq_true q, decide_eq_true (pm.mem_iff.mpr q)]
        · rw [decide_eq_false q, decide_eq_false (fun y => q (pm.mem_iff.mp y))]
      rw [← em]
      by_cases q : k ∈ ks
      · rw [decide_eq_true q]
        exact (z.mp q).symm
      · rw [decide_eq_false q]
        cases y : xor (decide (k ∈ upF 0 bs)) (decide (k ∈ ms)) with
        | false => rfl
        | true => exact absurd (z.mpr y) q)
    rw [← e]
    exact hb
end
end K18
namespace K18
open PySem PySem.Spec PyProof.Rows L2 Par
/-- what the module says of the classes -/
structure ExK (K : PySem.W.Frag) (mg : Str → Option Value) : Prop where
  mgc : ∀ p ∈ exP, mg p.1 = some (.ref (Ea K p.1))
  mgb : ∀ p ∈ baP, mg p.1 = some (.ref (Ea K p.1))
  xc : ∀ p ∈ exP, ExcC K (Ea K p.1)
  kit : ∀ p ∈ exP, ∀ q ∈ exP, PySem.W.kitOne K (.ref (Ea K p.1)) (.ref (Ea K q.1)) = some (p.1 == q.1)
  kib : ∀ p ∈ exP, ∀ q ∈ baP, PySem.W.kitOne K (.ref (Ea K p.1)) (.ref (Ea K q.1)) = some (p.2 == q.2)
  kik : ∀ p ∈ exP, ∀ q ∈ blP, PySem.W.kitOne K (.ref (Ea K p.1)) (.type q.1) = some (p.2 == q.2)
  g0 : mg "ValueError" = none
  g1 : mg "LookupError" = none
  g2 : mg "RuntimeError" = none
  g3 : mg "ArithmeticError" = none
  sum : mg "sum" = none
  all : mg "all" = none
  str : mg "str" = none
section
variable {P : Program} {w : World} {K : PySem.W.Frag} {mg : Str → Option Value} {base : Heap}
/-- __init__ of an error: each value into the field of its name -/
def spEr (C : Addr) (fs : List Str) : Sp := fun vs H Q _ => ∃ (a : Addr) (ws : List V), vs = .ref a :: ws ∧ ws.length = fs.length ∧ H a = some (exo a C none) ∧
  ∀ H', (∀ b o, b ≠ a → H b = some o → H' b = some o) → Er H' a C (fs.zip ws).reverse → Q .non H'
theorem spEr_len (C : Addr) (fs : List Str) : ∀ vs H Q E, spEr C fs vs H Q E → vs.length = (("self" : Str) :: fs).length := fun vs H Q E h => by
  obtain ⟨a, ws, rfl, l, _⟩ := h
  simp [l]
theorem made_er {C : Addr} {fs : List Str} {ws : List V} {H : Hp} {Wn : Addr → Hp → Prop} (hl : ws.length = fs.length) (out : ∀ a H', H a = none → Same H H' → Er H' a C (fs.zip ws).reverse → Wn a H') :
    ∀ a, H a = none → spEr C fs (.ref a :: ws) (upd H a (exo a C none)) (fun v H2 => v = .non ∧ Wn a H2) (fun _ _ _ => False) := fun a ha =>
  ⟨a, ws, rfl, hl, upd_same, fun H' k e => ⟨rfl, out a H' ha (fun b o z => k b o (ne_of_none z ha) (by rw [upd_ne (ne_of_none z ha)]; exact z)) e⟩⟩
/-- a class of errors with its __init__ -/
def HasEr (P : Program) (w : World) (K : PySem.W.Frag) (mg : Str → Option Value) (base : Heap) (n : Str) (fs ks : List Str) (g : List Value → List Value → List Value) (gV : List V → List V → List V) : Prop :=
  ∃ fI fd, ErrC K (Ea K n) ∧ XfC K (Ea K n) ∧ (∀ f ∈ fs, PySem.W.findIn K (.ref (Ea K n)) f = some none) ∧ PySem.W.findIn K (.ref (Ea K n)) "__init__" = some (some (.ref fI)) ∧ PySem.W.typeIn K (.ref fI) = some (.type "function") ∧
    FnOk P w K mg base CX0 2 fI fd (("self" : Str) :: fs) (spEr (Ea K n) fs) ∧ Binds K fd (("self" : Str) :: fs) [] ∧ KBn K fd (("self" : Str) :: fs) 1 ks g gV
theorem kb_er1 {x q : Str} {st : Stmt} {f : Addr} {fd : FuncData} {y : Str} (F : Fun K x q st f fd)
    (h : ∀ (kV doc pm : Value) (an : Option Addr) (cdv ct u v : Value), bindArgs (PySem.W.fnOf x q (defArgs st) (defBody st) (defScope st) .none kV doc pm an cdv ct) ⟨[u], [(y, v)]⟩ = pure ([("self", u), (y, v)] : List (Str × Value))) :
    KBn K fd ["self", y] 1 [y] (fun us ws => us ++ ws) (fun vs zs => vs ++ zs) := by
  obtain ⟨oc, od, kV, doc, pm, an, cdv, ct, osl, rfl, lk, hcd⟩ := F.ex
  refine ⟨fun s us ws X l1 l2 => ?_, fun r1 r2 => r1.append r2⟩
  match us, ws, l1, l2 with
  | [u], [v], _, _ => exact .of_eq (h kV doc pm an cdv ct u v)
theorem vals_rev {xs : List V} {us : List Value} (h : Vals xs us) : Vals xs.reverse us.reverse := by
  induction h with
  | nil => exact .nil
  | cons r t ih =>
    rw [List.reverse_cons, List.reverse_cons]
    exact ih.append (.cons r .nil)
theorem kb_er2 {x q : Str} {st : Stmt} {f : Addr} {fd : FuncData} {y z : Str} (F : Fun K x q st f fd)
    (h : ∀ (kV doc pm : Value) (an : Option Addr) (cdv ct u v t : Value), bindArgs (PySem.W.fnOf x q (defArgs st) (defBody st) (defScope st) .none kV doc pm an cdv ct) ⟨[u], [(z, t), (y, v)]⟩ = pure ([("self", u), (y, v), (z, t)] : List (Str × Value))) :
    KBn K fd ["self", y, z] 1 [z, y] (fun us ws => us ++ ws.reverse) (fun vs zs => vs ++ zs.reverse) := by
  obtain ⟨oc, od, kV, doc, pm, an, cdv, ct, osl, rfl, lk, hcd⟩ := F.ex
  refine ⟨fun s us ws X l1 l2 => ?_, fun r1 r2 => r1.append (vals_rev r2)⟩
  match us, ws, l1, l2 with
  | [u], [t, v], _, _ => exact .of_eq (h kV doc pm an cdv ct u v t)
abbrev siNoSize : Stmt := inClass (topS 3) 0
theorem scNoSize : FnScope ["self", "value"] ["self", "value"] (defScope siNoSize) := ⟨rfl, rfl, rfl, by decide +kernel, rfl, by decide +kernel, by decide +kernel⟩
theorem ok_NoSize {f C : Addr} {fd : FuncData} (F : Fun K "__init__" "NoSize.__init__" siNoSize f fd) (T : ErrC K C) (no : ∀ f ∈ (["value"] : List Str), PySem.W.findIn K (.ref C) f = some none) : FnOk P w K mg base CX0 2 f fd ["self", "value"] (spEr C ["value"]) := by
  refine F.ok scNoSize (spEr_len _ _) (fun cdv A outer s H vs Q E hr h => ?_)
  obtain ⟨a, ws, rfl, l, ha, out⟩ := h
  match ws, l with
  | [v], _ =>
    refine ⟨_, pss_one (ps_errS (pv 0) (pv 1)), ?_⟩
    refine ⟨_, rfl, _, rfl, a, C, rfl, T, no _ (by simp), .inl ⟨ha, fun dx hd ne => out _ (fun b o nb z => ?_) ⟨dx, upd_same, by rw [upd_ne ne, upd_same]; rfl⟩⟩⟩
    rw [upd_ne nb, upd_ne (ne_of_none z hd)]
    exact z
abbrev siNoCell : Stmt := inClass (topS 4) 0
theorem scNoCell : FnScope ["self", "cell"] ["self", "cell"] (defScope siNoCell) := ⟨rfl, rfl, rfl, by decide +kernel, rfl, by decide +kernel, by decide +kernel⟩
theorem ok_NoCell {f C : Addr} {fd : FuncData} (F : Fun K "__init__" "NoCell.__init__" siNoCell f fd) (T : ErrC K C) (no : ∀ f ∈ (["cell"] : List Str), PySem.W.findIn K (.ref C) f = some none) : FnOk P w K mg base CX0 2 f fd ["self", "cell"] (spEr C ["cell"]) := by
  refine F.ok scNoCell (spEr_len _ _) (fun cdv A outer s H vs Q E hr h => ?_)
  obtain ⟨a, ws, rfl, l, ha, out⟩ := h
  match ws, l with
  | [v], _ =>
    refine ⟨_, pss_one (ps_errS (pv 0) (pv 1)), ?_⟩
    refine ⟨_, rfl, _, rfl, a, C, rfl, T, no _ (by simp), .inl ⟨ha, fun dx hd ne => out _ (fun b o nb z => ?_) ⟨dx, upd_same, by rw [upd_ne ne, upd_same]; rfl⟩⟩⟩
    rw [upd_ne nb, upd_ne (ne_of_none z hd)]
    exact z
abbrev siNoCells : Stmt := inClass (topS 5) 0
theorem scNoCells : FnScope ["self", "cells"] ["self", "cells"] (defScope siNoCells) := ⟨rfl, rfl, rfl, by decide +kernel, rfl, by decide +kernel, by decide +kernel⟩
theorem ok_NoCells {f C : Addr} {fd : FuncData} (F : Fun K "__init__" "NoCells.__init__" siNoCells f fd) (T : ErrC K C) (no : ∀ f ∈ (["cells"] : List Str), PySem.W.findIn K (.ref C) f = some none) : FnOk P w K mg base CX0 2 f fd ["self", "cells"] (spEr C ["cells"]) := by
  refine F.ok scNoCells (spEr_len _ _) (fun cdv A outer s H vs Q E hr h => ?_)
  obtain ⟨a, ws, rfl, l, ha, out⟩ := h
  match ws, l with
  | [v], _ =>
    refine ⟨_, pss_one (ps_errS (pv 0) (pv 1)), ?_⟩
    refine ⟨_, rfl, _, rfl, a, C, rfl, T, no _ (by simp), .inl ⟨ha, fun dx hd ne => out _ (fun b o nb z => ?_) ⟨dx, upd_same, by rw [upd_ne ne, upd_same]; rfl⟩⟩⟩
    rw [upd_ne nb, upd_ne (ne_of_none z hd)]
    exact z
abbrev siNoFlip : Stmt := inClass (topS 6) 0
theorem scNoFlip : FnScope ["self", "why"] ["self", "why"] (defScope siNoFlip) := ⟨rfl, rfl, rfl, by decide +kernel, rfl, by decide +kernel, by decide +kernel⟩
theorem ok_NoFlip {f C : Addr} {fd : FuncData} (F : Fun K "__init__" "NoFlip.__init__" siNoFlip f fd) (T : ErrC K C) (no : ∀ f ∈ (["why"] : List Str), PySem.W.findIn K (.ref C) f = some none) : FnOk P w K mg base CX0 2 f fd ["self", "why"] (spEr C ["why"]) := by
  refine F.ok scNoFlip (spEr_len _ _) (fun cdv A outer s H vs Q E hr h => ?_)
  obtain ⟨a, ws, rfl, l, ha, out⟩ := h
  match ws, l with
  | [v], _ =>
    refine ⟨_, pss_one (ps_errS (pv 0) (pv 1)), ?_⟩
    refine ⟨_, rfl, _, rfl, a, C, rfl, T, no _ (by simp), .inl ⟨ha, fun dx hd ne => out _ (fun b o nb z => ?_) ⟨dx, upd_same, by rw [upd_ne ne, upd_same]; rfl⟩⟩⟩
    rw [upd_ne nb, upd_ne (ne_of_none z hd)]
    exact z
abbrev siNoTable : Stmt := inClass (topS 7) 0
theorem scNoTable : FnScope ["self", "why"] ["self", "why"] (defScope siNoTable) := ⟨rfl, rfl, rfl, by decide +kernel, rfl, by decide +kernel, by decide +kernel⟩
theorem ok_NoTable {f C : Addr} {fd : FuncData} (F : Fun K "__init__" "NoTable.__init__" siNoTable f fd) (T : ErrC K C) (no : ∀ f ∈ (["why"] : List Str), PySem.W.findIn K (.ref C) f = some none) : FnOk P w K mg base CX0 2 f fd ["self", "why"] (spEr C ["why"]) := by
  refine F.ok scNoTable (spEr_len _ _) (fun cdv A outer s H vs Q E hr h => ?_)
  obtain ⟨a, ws, rfl, l, ha, out⟩ := h
  match ws, l with
  | [v], _ =>
    refine ⟨_, pss_one (ps_errS (pv 0) (pv 1)), ?_⟩
    refine ⟨_, rfl, _, rfl, a, C, rfl, T, no _ (by simp), .inl ⟨ha, fun dx hd ne => out _ (fun b o nb z => ?_) ⟨dx, upd_same, by rw [upd_ne ne, upd_same]; rfl⟩⟩⟩
    rw [upd_ne nb, upd_ne (ne_of_none z hd)]
    exact z
abbrev siNoTime : Stmt := inClass (topS 8) 0
theorem scNoTime : FnScope ["self", "time"] ["self", "time"] (defScope siNoTime) := ⟨rfl, rfl, rfl, by decide +kernel, rfl, by decide +kernel, by decide +kernel⟩
theorem ok_NoTime {f C : Addr} {fd : FuncData} (F : Fun K "__init__" "NoTime.__init__" siNoTime f fd) (T : ErrC K C) (no : ∀ f ∈ (["time"] : List Str), PySem.W.findIn K (.ref C) f = some none) : FnOk P w K mg base CX0 2 f fd ["self", "time"] (spEr C ["time"]) := by
  refine F.ok scNoTime (spEr_len _ _) (fun cdv A outer s H vs Q E hr h => ?_)
  obtain ⟨a, ws, rfl, l, ha, out⟩ := h
  match ws, l with
  | [v], _ =>
    refine ⟨_, pss_one (ps_errS (pv 0) (pv 1)), ?_⟩
    refine ⟨_, rfl, _, rfl, a, C, rfl, T, no _ (by simp), .inl ⟨ha, fun dx hd ne => out _ (fun b o nb z => ?_) ⟨dx, upd_same, by rw [upd_ne ne, upd_same]; rfl⟩⟩⟩
    rw [upd_ne nb, upd_ne (ne_of_none z hd)]
    exact z
abbrev siNoStamp : Stmt := inClass (topS 9) 0
theorem scNoStamp : FnScope ["self", "stamp"] ["self", "stamp"] (defScope siNoStamp) := ⟨rfl, rfl, rfl, by decide +kernel, rfl, by decide +kernel, by decide +kernel⟩
theorem ok_NoStamp {f C : Addr} {fd : FuncData} (F : Fun K "__init__" "NoStamp.__init__" siNoStamp f fd) (T : ErrC K C) (no : ∀ f ∈ (["stamp"] : List Str), PySem.W.findIn K (.ref C) f = some none) : FnOk P w K mg base CX0 2 f fd ["self", "stamp"] (spEr C ["stamp"]) := by
  refine F.ok scNoStamp (spEr_len _ _) (fun cdv A outer s H vs Q E hr h => ?_)
  obtain ⟨a, ws, rfl, l, ha, out⟩ := h
  match ws, l with
  | [v], _ =>
    refine ⟨_, pss_one (ps_errS (pv 0) (pv 1)), ?_⟩
    refine ⟨_, rfl, _, rfl, a, C, rfl, T, no _ (by simp), .inl ⟨ha, fun dx hd ne => out _ (fun b o nb z => ?_) ⟨dx, upd_same, by rw [upd_ne ne, upd_same]; rfl⟩⟩⟩
    rw [upd_ne nb, upd_ne (ne_of_none z hd)]
    exact z
abbrev siNoCount : Stmt := inClass (topS 10) 0
theorem scNoCount : FnScope ["self", "count"] ["self", "count"] (defScope siNoCount) := ⟨rfl, rfl, rfl, by decide +kernel, rfl, by decide +kernel, by decide +kernel⟩
theorem ok_NoCount {f C : Addr} {fd : FuncData} (F : Fun K "__init__" "NoCount.__init__" siNoCount f fd) (T : ErrC K C) (no : ∀ f ∈ (["count"] : List Str), PySem.W.findIn K (.ref C) f = some none) : FnOk P w K mg base CX0 2 f fd ["self", "count"] (spEr C ["count"]) := by
  refine F.ok scNoCount (spEr_len _ _) (fun cdv A outer s H vs Q E hr h => ?_)
  obtain ⟨a, ws, rfl, l, ha, out⟩ := h
  match ws, l with
  | [v], _ =>
    refine ⟨_, pss_one (ps_errS (pv 0) (pv 1)), ?_⟩
    refine ⟨_, rfl, _, rfl, a, C, rfl, T, no _ (by simp), .inl ⟨ha, fun dx hd ne => out _ (fun b o nb z => ?_) ⟨dx, upd_same, by rw [upd_ne ne, upd_same]; rfl⟩⟩⟩
    rw [upd_ne nb, upd_ne (ne_of_none z hd)]
    exact z
abbrev siNoProgram : Stmt := inClass (topS 11) 0
theorem scNoProgram : FnScope ["self", "why", "where"] ["self", "why", "where"] (defScope siNoProgram) := ⟨rfl, rfl, rfl, by decide +kernel, rfl, by decide +kernel, by decide +kernel⟩
theorem ok_NoProgram {f C : Addr} {fd : FuncData} (F : Fun K "__init__" "NoProgram.__init__" siNoProgram f fd) (T : ErrC K C) (no : ∀ f ∈ (["why", "where"] : List Str), PySem.W.findIn K (.ref C) f = some none) : FnOk P w K mg base CX0 2 f fd ["self", "why", "where"] (spEr C ["why", "where"]) := by
  refine F.ok scNoProgram (spEr_len _ _) (fun cdv A outer s H vs Q E hr h => ?_)
  obtain ⟨a, ws, rfl, l, ha, out⟩ := h
  match ws, l with
  | [v, u], _ =>
    refine ⟨_, pss_cons (ps_errS (pv 0) (pv 1)) (pss_one (ps_errS (pv 0) (pv 2))), ?_⟩
    refine ⟨_, rfl, _, rfl, a, C, rfl, T, no _ (by simp), .inl ⟨ha, fun dx hd ne => ?_⟩⟩
    refine ⟨_, rfl, _, rfl, a, C, rfl, T, no _ (by simp), .inr ⟨dx, _, upd_same, by rw [upd_ne ne, upd_same], (by show 1 ≤ 900; decide), out _ (fun b o nb z => ?_) ⟨dx, by rw [upd_ne (Ne.symm ne), upd_same], upd_same⟩⟩⟩
    rw [upd_ne (ne_of_none z hd), upd_ne nb, upd_ne (ne_of_none z hd)]
    exact z
abbrev siNoHands : Stmt := inClass (topS 12) 0
theorem scNoHands : FnScope ["self", "value"] ["self", "value"] (defScope siNoHands) := ⟨rfl, rfl, rfl, by decide +kernel, rfl, by decide +kernel, by decide +kernel⟩
theorem ok_NoHands {f C : Addr} {fd : FuncData} (F : Fun K "__init__" "NoHands.__init__" siNoHands f fd) (T : ErrC K C) (no : ∀ f ∈ (["value"] : List Str), PySem.W.findIn K (.ref C) f = some none) : FnOk P w K mg base CX0 2 f fd ["self", "value"] (spEr C ["value"]) := by
  refine F.ok scNoHands (spEr_len _ _) (fun cdv A outer s H vs Q E hr h => ?_)
  obtain ⟨a, ws, rfl, l, ha, out⟩ := h
  match ws, l with
  | [v], _ =>
    refine ⟨_, pss_one (ps_errS (pv 0) (pv 1)), ?_⟩
    refine ⟨_, rfl, _, rfl, a, C, rfl, T, no _ (by simp), .inl ⟨ha, fun dx hd ne => out _ (fun b o nb z => ?_) ⟨dx, upd_same, by rw [upd_ne ne, upd_same]; rfl⟩⟩⟩
    rw [upd_ne nb, upd_ne (ne_of_none z hd)]
    exact z
abbrev siNoEntries : Stmt := inClass (topS 13) 0
theorem scNoEntries : FnScope ["self", "index"] ["self", "index"] (defScope siNoEntries) := ⟨rfl, rfl, rfl, by decide +kernel, rfl, by decide +kernel, by decide +kernel⟩
theorem ok_NoEntries {f C : Addr} {fd : FuncData} (F : Fun K "__init__" "NoEntries.__init__" siNoEntries f fd) (T : ErrC K C) (no : ∀ f ∈ (["index"] : List Str), PySem.W.findIn K (.ref C) f = some none) : FnOk P w K mg base CX0 2 f fd ["self", "index"] (spEr C ["index"]) := by
  refine F.ok scNoEntries (spEr_len _ _) (fun cdv A outer s H vs Q E hr h => ?_)
  obtain ⟨a, ws, rfl, l, ha, out⟩ := h
  match ws, l with
  | [v], _ =>
    refine ⟨_, pss_one (ps_errS (pv 0) (pv 1)), ?_⟩
    refine ⟨_, rfl, _, rfl, a, C, rfl, T, no _ (by simp), .inl ⟨ha, fun dx hd ne => out _ (fun b o nb z => ?_) ⟨dx, upd_same, by rw [upd_ne ne, upd_same]; rfl⟩⟩⟩
    rw [upd_ne nb, upd_ne (ne_of_none z hd)]
    exact z
abbrev siNoName : Stmt := inClass (topS 14) 0
theorem scNoName : FnScope ["self", "name"] ["self", "name"] (defScope siNoName) := ⟨rfl, rfl, rfl, by decide +kernel, rfl, by decide +kernel, by decide +kernel⟩
theorem ok_NoName {f C : Addr} {fd : FuncData} (F : Fun K "__init__" "NoName.__init__" siNoName f fd) (T : ErrC K C) (no : ∀ f ∈ (["name"] : List Str), PySem.W.findIn K (.ref C) f = some none) : FnOk P w K mg base CX0 2 f fd ["self", "name"] (spEr C ["name"]) := by
  refine F.ok scNoName (spEr_len _ _) (fun cdv A outer s H vs Q E hr h => ?_)
  obtain ⟨a, ws, rfl, l, ha, out⟩ := h
  match ws, l with
  | [v], _ =>
    refine ⟨_, pss_one (ps_errS (pv 0) (pv 1)), ?_⟩
    refine ⟨_, rfl, _, rfl, a, C, rfl, T, no _ (by simp), .inl ⟨ha, fun dx hd ne => out _ (fun b o nb z => ?_) ⟨dx, upd_same, by rw [upd_ne ne, upd_same]; rfl⟩⟩⟩
    rw [upd_ne nb, upd_ne (ne_of_none z hd)]
    exact z
abbrev siNoText : Stmt := inClass (topS 15) 0
theorem scNoText : FnScope ["self", "line"] ["self", "line"] (defScope siNoText) := ⟨rfl, rfl, rfl, by decide +kernel, rfl, by decide +kernel, by decide +kernel⟩
theorem ok_NoText {f C : Addr} {fd : FuncData} (F : Fun K "__init__" "NoText.__init__" siNoText f fd) (T : ErrC K C) (no : ∀ f ∈ (["line"] : List Str), PySem.W.findIn K (.ref C) f = some none) : FnOk P w K mg base CX0 2 f fd ["self", "line"] (spEr C ["line"]) := by
  refine F.ok scNoText (spEr_len _ _) (fun cdv A outer s H vs Q E hr h => ?_)
  obtain ⟨a, ws, rfl, l, ha, out⟩ := h
  match ws, l with
  | [v], _ =>
    refine ⟨_, pss_one (ps_errS (pv 0) (pv 1)), ?_⟩
    refine ⟨_, rfl, _, rfl, a, C, rfl, T, no _ (by simp), .inl ⟨ha, fun dx hd ne => out _ (fun b o nb z => ?_) ⟨dx, upd_same, by rw [upd_ne ne, upd_same]; rfl⟩⟩⟩
    rw [upd_ne nb, upd_ne (ne_of_none z hd)]
    exact z
abbrev siNoCommand : Stmt := inClass (topS 16) 0
theorem scNoCommand : FnScope ["self", "command"] ["self", "command"] (defScope siNoCommand) := ⟨rfl, rfl, rfl, by decide +kernel, rfl, by decide +kernel, by decide +kernel⟩
theorem ok_NoCommand {f C : Addr} {fd : FuncData} (F : Fun K "__init__" "NoCommand.__init__" siNoCommand f fd) (T : ErrC K C) (no : ∀ f ∈ (["command"] : List Str), PySem.W.findIn K (.ref C) f = some none) : FnOk P w K mg base CX0 2 f fd ["self", "command"] (spEr C ["command"]) := by
  refine F.ok scNoCommand (spEr_len _ _) (fun cdv A outer s H vs Q E hr h => ?_)
  obtain ⟨a, ws, rfl, l, ha, out⟩ := h
  match ws, l with
  | [v], _ =>
    refine ⟨_, pss_one (ps_errS (pv 0) (pv 1)), ?_⟩
    refine ⟨_, rfl, _, rfl, a, C, rfl, T, no _ (by simp), .inl ⟨ha, fun dx hd ne => out _ (fun b o nb z => ?_) ⟨dx, upd_same, by rw [upd_ne ne, upd_same]; rfl⟩⟩⟩
    rw [upd_ne nb, upd_ne (ne_of_none z hd)]
    exact z
abbrev siHalted : Stmt := inClass (topS 17) 0
theorem scHalted : FnScope ["self", "index", "answers"] ["self", "index", "answers"] (defScope siHalted) := ⟨rfl, rfl, rfl, by decide +kernel, rfl, by decide +kernel, by decide +kernel⟩
theorem ok_Halted {f C : Addr} {fd : FuncData} (F : Fun K "__init__" "Halted.__init__" siHalted f fd) (T : ErrC K C) (no : ∀ f ∈ (["index", "answers"] : List Str), PySem.W.findIn K (.ref C) f = some none) : FnOk P w K mg base CX0 2 f fd ["self", "index", "answers"] (spEr C ["index", "answers"]) := by
  refine F.ok scHalted (spEr_len _ _) (fun cdv A outer s H vs Q E hr h => ?_)
  obtain ⟨a, ws, rfl, l, ha, out⟩ := h
  match ws, l with
  | [v, u], _ =>
    refine ⟨_, pss_cons (ps_errS (pv 0) (pv 1)) (pss_one (ps_errS (pv 0) (pv 2))), ?_⟩
    refine ⟨_, rfl, _, rfl, a, C, rfl, T, no _ (by simp), .inl ⟨ha, fun dx hd ne => ?_⟩⟩
    refine ⟨_, rfl, _, rfl, a, C, rfl, T, no _ (by simp), .inr ⟨dx, _, upd_same, by rw [upd_ne ne, upd_same], (by show 1 ≤ 900; decide), out _ (fun b o nb z => ?_) ⟨dx, by rw [upd_ne (Ne.symm ne), upd_same], upd_same⟩⟩⟩
    rw [upd_ne (ne_of_none z hd), upd_ne nb, upd_ne (ne_of_none z hd)]
    exact z
abbrev siNoEntry : Stmt := inClass (topS 19) 0
theorem scNoEntry : FnScope ["self", "stamp"] ["self", "stamp"] (defScope siNoEntry) := ⟨rfl, rfl, rfl, by decide +kernel, rfl, by decide +kernel, by decide +kernel⟩
theorem ok_NoEntry {f C : Addr} {fd : FuncData} (F : Fun K "__init__" "NoEntry.__init__" siNoEntry f fd) (T : ErrC K C) (no : ∀ f ∈ (["stamp"] : List Str), PySem.W.findIn K (.ref C) f = some none) : FnOk P w K mg base CX0 2 f fd ["self", "stamp"] (spEr C ["stamp"]) := by
  refine F.ok scNoEntry (spEr_len _ _) (fun cdv A outer s H vs Q E hr h => ?_)
  obtain ⟨a, ws, rfl, l, ha, out⟩ := h
  match ws, l with
  | [v], _ =>
    refine ⟨_, pss_one (ps_errS (pv 0) (pv 1)), ?_⟩
    refine ⟨_, rfl, _, rfl, a, C, rfl, T, no _ (by simp), .inl ⟨ha, fun dx hd ne => out _ (fun b o nb z => ?_) ⟨dx, upd_same, by rw [upd_ne ne, upd_same]; rfl⟩⟩⟩
    rw [upd_ne nb, upd_ne (ne_of_none z hd)]
    exact z
abbrev siNoProcedure : Stmt := inClass (topS 20) 0
theorem scNoProcedure : FnScope ["self", "name"] ["self", "name"] (defScope siNoProcedure) := ⟨rfl, rfl, rfl, by decide +kernel, rfl, by decide +kernel, by decide +kernel⟩
theorem ok_NoProcedure {f C : Addr} {fd : FuncData} (F : Fun K "__init__" "NoProcedure.__init__" siNoProcedure f fd) (T : ErrC K C) (no : ∀ f ∈ (["name"] : List Str), PySem.W.findIn K (.ref C) f = some none) : FnOk P w K mg base CX0 2 f fd ["self", "name"] (spEr C ["name"]) := by
  refine F.ok scNoProcedure (spEr_len _ _) (fun cdv A outer s H vs Q E hr h => ?_)
  obtain ⟨a, ws, rfl, l, ha, out⟩ := h
  match ws, l with
  | [v], _ =>
    refine ⟨_, pss_one (ps_errS (pv 0) (pv 1)), ?_⟩
    refine ⟨_, rfl, _, rfl, a, C, rfl, T, no _ (by simp), .inl ⟨ha, fun dx hd ne => out _ (fun b o nb z => ?_) ⟨dx, upd_same, by rw [upd_ne ne, upd_same]; rfl⟩⟩⟩
    rw [upd_ne nb, upd_ne (ne_of_none z hd)]
    exact z
abbrev siNoHand : Stmt := inClass (topS 21) 0
theorem scNoHand : FnScope ["self", "hand"] ["self", "hand"] (defScope siNoHand) := ⟨rfl, rfl, rfl, by decide +kernel, rfl, by decide +kernel, by decide +kernel⟩
theorem ok_NoHand {f C : Addr} {fd : FuncData} (F : Fun K "__init__" "NoHand.__init__" siNoHand f fd) (T : ErrC K C) (no : ∀ f ∈ (["hand"] : List Str), PySem.W.findIn K (.ref C) f = some none) : FnOk P w K mg base CX0 2 f fd ["self", "hand"] (spEr C ["hand"]) := by
  refine F.ok scNoHand (spEr_len _ _) (fun cdv A outer s H vs Q E hr h => ?_)
  obtain ⟨a, ws, rfl, l, ha, out⟩ := h
  match ws, l with
  | [v], _ =>
    refine ⟨_, pss_one (ps_errS (pv 0) (pv 1)), ?_⟩
    refine ⟨_, rfl, _, rfl, a, C, rfl, T, no _ (by simp), .inl ⟨ha, fun dx hd ne => out _ (fun b o nb z => ?_) ⟨dx, upd_same, by rw [upd_ne ne, upd_same]; rfl⟩⟩⟩
    rw [upd_ne nb, upd_ne (ne_of_none z hd)]
    exact z
abbrev siNoHistory : Stmt := inClass (topS 22) 0
theorem scNoHistory : FnScope ["self", "name"] ["self", "name"] (defScope siNoHistory) := ⟨rfl, rfl, rfl, by decide +kernel, rfl, by decide +kernel, by decide +kernel⟩
theorem ok_NoHistory {f C : Addr} {fd : FuncData} (F : Fun K "__init__" "NoHistory.__init__" siNoHistory f fd) (T : ErrC K C) (no : ∀ f ∈ (["name"] : List Str), PySem.W.findIn K (.ref C) f = some none) : FnOk P w K mg base CX0 2 f fd ["self", "name"] (spEr C ["name"]) := by
  refine F.ok scNoHistory (spEr_len _ _) (fun cdv A outer s H vs Q E hr h => ?_)
  obtain ⟨a, ws, rfl, l, ha, out⟩ := h
  match ws, l with
  | [v], _ =>
    refine ⟨_, pss_one (ps_errS (pv 0) (pv 1)), ?_⟩
    refine ⟨_, rfl, _, rfl, a, C, rfl, T, no _ (by simp), .inl ⟨ha, fun dx hd ne => out _ (fun b o nb z => ?_) ⟨dx, upd_same, by rw [upd_ne ne, upd_same]; rfl⟩⟩⟩
    rw [upd_ne nb, upd_ne (ne_of_none z hd)]
    exact z
abbrev siTaken : Stmt := inClass (topS 24) 0
theorem scTaken : FnScope ["self", "stamp"] ["self", "stamp"] (defScope siTaken) := ⟨rfl, rfl, rfl, by decide +kernel, rfl, by decide +kernel, by decide +kernel⟩
theorem ok_Taken {f C : Addr} {fd : FuncData} (F : Fun K "__init__" "Taken.__init__" siTaken f fd) (T : ErrC K C) (no : ∀ f ∈ (["stamp"] : List Str), PySem.W.findIn K (.ref C) f = some none) : FnOk P w K mg base CX0 2 f fd ["self", "stamp"] (spEr C ["stamp"]) := by
  refine F.ok scTaken (spEr_len _ _) (fun cdv A outer s H vs Q E hr h => ?_)
  obtain ⟨a, ws, rfl, l, ha, out⟩ := h
  match ws, l with
  | [v], _ =>
    refine ⟨_, pss_one (ps_errS (pv 0) (pv 1)), ?_⟩
    refine ⟨_, rfl, _, rfl, a, C, rfl, T, no _ (by simp), .inl ⟨ha, fun dx hd ne => out _ (fun b o nb z => ?_) ⟨dx, upd_same, by rw [upd_ne ne, upd_same]; rfl⟩⟩⟩
    rw [upd_ne nb, upd_ne (ne_of_none z hd)]
    exact z
abbrev siStanding : Stmt := inClass (topS 25) 0
theorem scStanding : FnScope ["self", "stamp"] ["self", "stamp"] (defScope siStanding) := ⟨rfl, rfl, rfl, by decide +kernel, rfl, by decide +kernel, by decide +kernel⟩
theorem ok_Standing {f C : Addr} {fd : FuncData} (F : Fun K "__init__" "Standing.__init__" siStanding f fd) (T : ErrC K C) (no : ∀ f ∈ (["stamp"] : List Str), PySem.W.findIn K (.ref C) f = some none) : FnOk P w K mg base CX0 2 f fd ["self", "stamp"] (spEr C ["stamp"]) := by
  refine F.ok scStanding (spEr_len _ _) (fun cdv A outer s H vs Q E hr h => ?_)
  obtain ⟨a, ws, rfl, l, ha, out⟩ := h
  match ws, l with
  | [v], _ =>
    refine ⟨_, pss_one (ps_errS (pv 0) (pv 1)), ?_⟩
    refine ⟨_, rfl, _, rfl, a, C, rfl, T, no _ (by simp), .inl ⟨ha, fun dx hd ne => out _ (fun b o nb z => ?_) ⟨dx, upd_same, by rw [upd_ne ne, upd_same]; rfl⟩⟩⟩
    rw [upd_ne nb, upd_ne (ne_of_none z hd)]
    exact z
abbrev siRemoved : Stmt := inClass (topS 26) 0
theorem scRemoved : FnScope ["self", "stamp"] ["self", "stamp"] (defScope siRemoved) := ⟨rfl, rfl, rfl, by decide +kernel, rfl, by decide +kernel, by decide +kernel⟩
theorem ok_Removed {f C : Addr} {fd : FuncData} (F : Fun K "__init__" "Removed.__init__" siRemoved f fd) (T : ErrC K C) (no : ∀ f ∈ (["stamp"] : List Str), PySem.W.findIn K (.ref C) f = some none) : FnOk P w K mg base CX0 2 f fd ["self", "stamp"] (spEr C ["stamp"]) := by
  refine F.ok scRemoved (spEr_len _ _) (fun cdv A outer s H vs Q E hr h => ?_)
  obtain ⟨a, ws, rfl, l, ha, out⟩ := h
  match ws, l with
  | [v], _ =>
    refine ⟨_, pss_one (ps_errS (pv 0) (pv 1)), ?_⟩
    refine ⟨_, rfl, _, rfl, a, C, rfl, T, no _ (by simp), .inl ⟨ha, fun dx hd ne => out _ (fun b o nb z => ?_) ⟨dx, upd_same, by rw [upd_ne ne, upd_same]; rfl⟩⟩⟩
    rw [upd_ne nb, upd_ne (ne_of_none z hd)]
    exact z
abbrev siFolded : Stmt := inClass (topS 27) 0
theorem scFolded : FnScope ["self", "stamp"] ["self", "stamp"] (defScope siFolded) := ⟨rfl, rfl, rfl, by decide +kernel, rfl, by decide +kernel, by decide +kernel⟩
theorem ok_Folded {f C : Addr} {fd : FuncData} (F : Fun K "__init__" "Folded.__init__" siFolded f fd) (T : ErrC K C) (no : ∀ f ∈ (["stamp"] : List Str), PySem.W.findIn K (.ref C) f = some none) : FnOk P w K mg base CX0 2 f fd ["self", "stamp"] (spEr C ["stamp"]) := by
  refine F.ok scFolded (spEr_len _ _) (fun cdv A outer s H vs Q E hr h => ?_)
  obtain ⟨a, ws, rfl, l, ha, out⟩ := h
  match ws, l with
  | [v], _ =>
    refine ⟨_, pss_one (ps_errS (pv 0) (pv 1)), ?_⟩
    refine ⟨_, rfl, _, rfl, a, C, rfl, T, no _ (by simp), .inl ⟨ha, fun dx hd ne => out _ (fun b o nb z => ?_) ⟨dx, upd_same, by rw [upd_ne ne, upd_same]; rfl⟩⟩⟩
    rw [upd_ne nb, upd_ne (ne_of_none z hd)]
    exact z
abbrev siClash : Stmt := inClass (topS 28) 0
theorem scClash : FnScope ["self", "stamp"] ["self", "stamp"] (defScope siClash) := ⟨rfl, rfl, rfl, by decide +kernel, rfl, by decide +kernel, by decide +kernel⟩
theorem ok_Clash {f C : Addr} {fd : FuncData} (F : Fun K "__init__" "Clash.__init__" siClash f fd) (T : ErrC K C) (no : ∀ f ∈ (["stamp"] : List Str), PySem.W.findIn K (.ref C) f = some none) : FnOk P w K mg base CX0 2 f fd ["self", "stamp"] (spEr C ["stamp"]) := by
  refine F.ok scClash (spEr_len _ _) (fun cdv A outer s H vs Q E hr h => ?_)
  obtain ⟨a, ws, rfl, l, ha, out⟩ := h
  match ws, l with
  | [v], _ =>
    refine ⟨_, pss_one (ps_errS (pv 0) (pv 1)), ?_⟩
    refine ⟨_, rfl, _, rfl, a, C, rfl, T, no _ (by simp), .inl ⟨ha, fun dx hd ne => out _ (fun b o nb z => ?_) ⟨dx, upd_same, by rw [upd_ne ne, upd_same]; rfl⟩⟩⟩
    rw [upd_ne nb, upd_ne (ne_of_none z hd)]
    exact z
abbrev siNotOwn : Stmt := inClass (topS 29) 0
theorem scNotOwn : FnScope ["self", "stamp"] ["self", "stamp"] (defScope siNotOwn) := ⟨rfl, rfl, rfl, by decide +kernel, rfl, by decide +kernel, by decide +kernel⟩
theorem ok_NotOwn {f C : Addr} {fd : FuncData} (F : Fun K "__init__" "NotOwn.__init__" siNotOwn f fd) (T : ErrC K C) (no : ∀ f ∈ (["stamp"] : List Str), PySem.W.findIn K (.ref C) f = some none) : FnOk P w K mg base CX0 2 f fd ["self", "stamp"] (spEr C ["stamp"]) := by
  refine F.ok scNotOwn (spEr_len _ _) (fun cdv A outer s H vs Q E hr h => ?_)
  obtain ⟨a, ws, rfl, l, ha, out⟩ := h
  match ws, l with
  | [v], _ =>
    refine ⟨_, pss_one (ps_errS (pv 0) (pv 1)), ?_⟩
    refine ⟨_, rfl, _, rfl, a, C, rfl, T, no _ (by simp), .inl ⟨ha, fun dx hd ne => out _ (fun b o nb z => ?_) ⟨dx, upd_same, by rw [upd_ne ne, upd_same]; rfl⟩⟩⟩
    rw [upd_ne nb, upd_ne (ne_of_none z hd)]
    exact z
abbrev siNotHeard : Stmt := inClass (topS 30) 0
theorem scNotHeard : FnScope ["self", "hand"] ["self", "hand"] (defScope siNotHeard) := ⟨rfl, rfl, rfl, by decide +kernel, rfl, by decide +kernel, by decide +kernel⟩
theorem ok_NotHeard {f C : Addr} {fd : FuncData} (F : Fun K "__init__" "NotHeard.__init__" siNotHeard f fd) (T : ErrC K C) (no : ∀ f ∈ (["hand"] : List Str), PySem.W.findIn K (.ref C) f = some none) : FnOk P w K mg base CX0 2 f fd ["self", "hand"] (spEr C ["hand"]) := by
  refine F.ok scNotHeard (spEr_len _ _) (fun cdv A outer s H vs Q E hr h => ?_)
  obtain ⟨a, ws, rfl, l, ha, out⟩ := h
  match ws, l with
  | [v], _ =>
    refine ⟨_, pss_one (ps_errS (pv 0) (pv 1)), ?_⟩
    refine ⟨_, rfl, _, rfl, a, C, rfl, T, no _ (by simp), .inl ⟨ha, fun dx hd ne => out _ (fun b o nb z => ?_) ⟨dx, upd_same, by rw [upd_ne ne, upd_same]; rfl⟩⟩⟩
    rw [upd_ne nb, upd_ne (ne_of_none z hd)]
    exact z
abbrev siBehind : Stmt := inClass (topS 31) 0
theorem scBehind : FnScope ["self", "time"] ["self", "time"] (defScope siBehind) := ⟨rfl, rfl, rfl, by decide +kernel, rfl, by decide +kernel, by decide +kernel⟩
theorem ok_Behind {f C : Addr} {fd : FuncData} (F : Fun K "__init__" "Behind.__init__" siBehind f fd) (T : ErrC K C) (no : ∀ f ∈ (["time"] : List Str), PySem.W.findIn K (.ref C) f = some none) : FnOk P w K mg base CX0 2 f fd ["self", "time"] (spEr C ["time"]) := by
  refine F.ok scBehind (spEr_len _ _) (fun cdv A outer s H vs Q E hr h => ?_)
  obtain ⟨a, ws, rfl, l, ha, out⟩ := h
  match ws, l with
  | [v], _ =>
    refine ⟨_, pss_one (ps_errS (pv 0) (pv 1)), ?_⟩
    refine ⟨_, rfl, _, rfl, a, C, rfl, T, no _ (by simp), .inl ⟨ha, fun dx hd ne => out _ (fun b o nb z => ?_) ⟨dx, upd_same, by rw [upd_ne ne, upd_same]; rfl⟩⟩⟩
    rw [upd_ne nb, upd_ne (ne_of_none z hd)]
    exact z
abbrev siUnchanged : Stmt := inClass (topS 32) 0
theorem scUnchanged : FnScope ["self", "value"] ["self", "value"] (defScope siUnchanged) := ⟨rfl, rfl, rfl, by decide +kernel, rfl, by decide +kernel, by decide +kernel⟩
theorem ok_Unchanged {f C : Addr} {fd : FuncData} (F : Fun K "__init__" "Unchanged.__init__" siUnchanged f fd) (T : ErrC K C) (no : ∀ f ∈ (["value"] : List Str), PySem.W.findIn K (.ref C) f = some none) : FnOk P w K mg base CX0 2 f fd ["self", "value"] (spEr C ["value"]) := by
  refine F.ok scUnchanged (spEr_len _ _) (fun cdv A outer s H vs Q E hr h => ?_)
  obtain ⟨a, ws, rfl, l, ha, out⟩ := h
  match ws, l with
  | [v], _ =>
    refine ⟨_, pss_one (ps_errS (pv 0) (pv 1)), ?_⟩
    refine ⟨_, rfl, _, rfl, a, C, rfl, T, no _ (by simp), .inl ⟨ha, fun dx hd ne => out _ (fun b o nb z => ?_) ⟨dx, upd_same, by rw [upd_ne ne, upd_same]; rfl⟩⟩⟩
    rw [upd_ne nb, upd_ne (ne_of_none z hd)]
    exact z
abbrev siKnown : Stmt := inClass (topS 33) 0
theorem scKnown : FnScope ["self", "cells"] ["self", "cells"] (defScope siKnown) := ⟨rfl, rfl, rfl, by decide +kernel, rfl, by decide +kernel, by decide +kernel⟩
theorem ok_Known {f C : Addr} {fd : FuncData} (F : Fun K "__init__" "Known.__init__" siKnown f fd) (T : ErrC K C) (no : ∀ f ∈ (["cells"] : List Str), PySem.W.findIn K (.ref C) f = some none) : FnOk P w K mg base CX0 2 f fd ["self", "cells"] (spEr C ["cells"]) := by
  refine F.ok scKnown (spEr_len _ _) (fun cdv A outer s H vs Q E hr h => ?_)
  obtain ⟨a, ws, rfl, l, ha, out⟩ := h
  match ws, l with
  | [v], _ =>
    refine ⟨_, pss_one (ps_errS (pv 0) (pv 1)), ?_⟩
    refine ⟨_, rfl, _, rfl, a, C, rfl, T, no _ (by simp), .inl ⟨ha, fun dx hd ne => out _ (fun b o nb z => ?_) ⟨dx, upd_same, by rw [upd_ne ne, upd_same]; rfl⟩⟩⟩
    rw [upd_ne nb, upd_ne (ne_of_none z hd)]
    exact z
abbrev siUnknown : Stmt := inClass (topS 34) 0
theorem scUnknown : FnScope ["self", "cells"] ["self", "cells"] (defScope siUnknown) := ⟨rfl, rfl, rfl, by decide +kernel, rfl, by decide +kernel, by decide +kernel⟩
theorem ok_Unknown {f C : Addr} {fd : FuncData} (F : Fun K "__init__" "Unknown.__init__" siUnknown f fd) (T : ErrC K C) (no : ∀ f ∈ (["cells"] : List Str), PySem.W.findIn K (.ref C) f = some none) : FnOk P w K mg base CX0 2 f fd ["self", "cells"] (spEr C ["cells"]) := by
  refine F.ok scUnknown (spEr_len _ _) (fun cdv A outer s H vs Q E hr h => ?_)
  obtain ⟨a, ws, rfl, l, ha, out⟩ := h
  match ws, l with
  | [v], _ =>
    refine ⟨_, pss_one (ps_errS (pv 0) (pv 1)), ?_⟩
    refine ⟨_, rfl, _, rfl, a, C, rfl, T, no _ (by simp), .inl ⟨ha, fun dx hd ne => out _ (fun b o nb z => ?_) ⟨dx, upd_same, by rw [upd_ne ne, upd_same]; rfl⟩⟩⟩
    rw [upd_ne nb, upd_ne (ne_of_none z hd)]
    exact z
abbrev siTooWide : Stmt := inClass (topS 36) 0
theorem scTooWide : FnScope ["self", "needed"] ["self", "needed"] (defScope siTooWide) := ⟨rfl, rfl, rfl, by decide +kernel, rfl, by decide +kernel, by decide +kernel⟩
theorem ok_TooWide {f C : Addr} {fd : FuncData} (F : Fun K "__init__" "TooWide.__init__" siTooWide f fd) (T : ErrC K C) (no : ∀ f ∈ (["needed"] : List Str), PySem.W.findIn K (.ref C) f = some none) : FnOk P w K mg base CX0 2 f fd ["self", "needed"] (spEr C ["needed"]) := by
  refine F.ok scTooWide (spEr_len _ _) (fun cdv A outer s H vs Q E hr h => ?_)
  obtain ⟨a, ws, rfl, l, ha, out⟩ := h
  match ws, l with
  | [v], _ =>
    refine ⟨_, pss_one (ps_errS (pv 0) (pv 1)), ?_⟩
    refine ⟨_, rfl, _, rfl, a, C, rfl, T, no _ (by simp), .inl ⟨ha, fun dx hd ne => out _ (fun b o nb z => ?_) ⟨dx, upd_same, by rw [upd_ne ne, upd_same]; rfl⟩⟩⟩
    rw [upd_ne nb, upd_ne (ne_of_none z hd)]
    exact z
abbrev siTooMany : Stmt := inClass (topS 37) 0
theorem scTooMany : FnScope ["self", "limit"] ["self", "limit"] (defScope siTooMany) := ⟨rfl, rfl, rfl, by decide +kernel, rfl, by decide +kernel, by decide +kernel⟩
theorem ok_TooMany {f C : Addr} {fd : FuncData} (F : Fun K "__init__" "TooMany.__init__" siTooMany f fd) (T : ErrC K C) (no : ∀ f ∈ (["limit"] : List Str), PySem.W.findIn K (.ref C) f = some none) : FnOk P w K mg base CX0 2 f fd ["self", "limit"] (spEr C ["limit"]) := by
  refine F.ok scTooMany (spEr_len _ _) (fun cdv A outer s H vs Q E hr h => ?_)
  obtain ⟨a, ws, rfl, l, ha, out⟩ := h
  match ws, l with
  | [v], _ =>
    refine ⟨_, pss_one (ps_errS (pv 0) (pv 1)), ?_⟩
    refine ⟨_, rfl, _, rfl, a, C, rfl, T, no _ (by simp), .inl ⟨ha, fun dx hd ne => out _ (fun b o nb z => ?_) ⟨dx, upd_same, by rw [upd_ne ne, upd_same]; rfl⟩⟩⟩
    rw [upd_ne nb, upd_ne (ne_of_none z hd)]
    exact z
abbrev siUnlike : Stmt := inClass (topS 38) 0
theorem scUnlike : FnScope ["self", "one", "other"] ["self", "one", "other"] (defScope siUnlike) := ⟨rfl, rfl, rfl, by decide +kernel, rfl, by decide +kernel, by decide +kernel⟩
theorem ok_Unlike {f C : Addr} {fd : FuncData} (F : Fun K "__init__" "Unlike.__init__" siUnlike f fd) (T : ErrC K C) (no : ∀ f ∈ (["one", "other"] : List Str), PySem.W.findIn K (.ref C) f = some none) : FnOk P w K mg base CX0 2 f fd ["self", "one", "other"] (spEr C ["one", "other"]) := by
  refine F.ok scUnlike (spEr_len _ _) (fun cdv A outer s H vs Q E hr h => ?_)
  obtain ⟨a, ws, rfl, l, ha, out⟩ := h
  match ws, l with
  | [v, u], _ =>
    refine ⟨_, pss_cons (ps_errS (pv 0) (pv 1)) (pss_one (ps_errS (pv 0) (pv 2))), ?_⟩
    refine ⟨_, rfl, _, rfl, a, C, rfl, T, no _ (by simp), .inl ⟨ha, fun dx hd ne => ?_⟩⟩
    refine ⟨_, rfl, _, rfl, a, C, rfl, T, no _ (by simp), .inr ⟨dx, _, upd_same, by rw [upd_ne ne, upd_same], (by show 1 ≤ 900; decide), out _ (fun b o nb z => ?_) ⟨dx, by rw [upd_ne (Ne.symm ne), upd_same], upd_same⟩⟩⟩
    rw [upd_ne (ne_of_none z hd), upd_ne nb, upd_ne (ne_of_none z hd)]
    exact z
end
end K18
namespace Par
open PySem PySem.Spec PyProof.Rows L2
/-- a class of the text's own with an own ==, no own != -/
structure EqC (K : PySem.W.Frag) (C f : Addr) : Prop where
  is : ∃ nm q N bs hd sn sub ab col dd k0 k1 k2 k3 k5 newId, K.lookup C = some (excClassObj nm q C N bs [.type "object"] hd sn sub ab col dd k0 k1 k2 k3 k5 newId) ∧ PySem.W.nsOkIn K N = true ∧ PySem.W.nsIn K N "__eq__" = some (some (.ref f)) ∧ PySem.W.nsIn K N "__ne__" = some none
  eq : PySem.W.findIn K (.ref C) "__eq__" = some (some (.ref f))
  fn : PySem.W.isFn K (.ref f) = true
theorem look_eq : typeLookup (.type "object") "__eq__" = pure (some (.builtin "object.__eq__")) := by
  rw [typeLookup_type, builtinLookup_eq_fast]
  kernel_rfl
theorem ns_some_of {K : PySem.W.Frag} {h : Heap} {N : Addr} {mg : Str → Option Value} {n : Str} {v : Value} (X : K.In h) (G : h.Ns N mg) (e : PySem.W.nsIn K N n = some (some v)) : mg n = some v := by
  obtain ⟨o, es, ep, ho, hd, _, hf⟩ := G
  unfold PySem.W.nsIn at e
  split at e
  · rename_i c d es' n' sl q
    have := X _ _ q
    rw [ho] at this
    cases this
    cases hd
    split at e
    · rename_i x he
      rw [← hf]
      unfold nsFind findBy
      rw [← Array.find?_toList, he]
      simpa using e
    · split at e <;> cases e
  · cases e
theorem fn_at {K : PySem.W.Frag} {h : Heap} {f : Addr} (X : K.In h) (e : PySem.W.isFn K (.ref f) = true) : ∃ o : Obj, h.get? f = some o ∧ o.cls = .type "function" := by
  unfold PySem.W.isFn PySem.W.typeIn at e
  cases q : K.lookup f with
  | none => simp [q] at e
  | some o =>
    simp [q] at e
    exact ⟨o, X _ _ q, e⟩
section
variable {X : Cx} {C f : Addr} {CX : CXT} {n : Nat} {fd : FuncData} {ps : List Str} {sp : Sp} {E : XK}
/-- the own ==, or !=, of two instances of the class -/
def rOwn (C : Addr) (sp : Sp) (E : XK) (neg : Bool) : R2 := fun x y H Q => ∃ a b dx dy fs gs, x = .ref a ∧ y = .ref b ∧ H a = some (.ins C dx fs) ∧ H b = some (.ins C dy gs) ∧
  sp [.ref a, .ref b] H (fun v H' => ∃ r : Bool, v = .bl r ∧ Q (.bl (xor neg r)) H') E
theorem own_call {pins : List (Addr × Obj)} {s : Shared} {σ : L2.St} {H : Hp} {a b : Addr} {A : Around} {Q : V → Hp → Prop} (I : Inv X pins σ H s) (F : FnOk X.prog X.w X.K X.mg X.base CX n f fd ps sp) (hr : Room n A) (hA : A.frames = X.A.frames) (hb : Binds X.K fd ps []) (hx : Passes CX X E)
    (h : sp [.ref a, .ref b] H Q E) : wpAny (model X.prog X.w) A (call (.ref f) [.ref a, .ref b]) (fun v s' => ∃ u H', Inv X pins σ H' s' ∧ RelV u v ∧ Q u H') X.xe s := by
  have e0 : Env0 X.prog X.w X.K X.mg X.base A X.stack s H := by
    have e := I.env0
    exact ⟨by rw [hA]; exact e.frames, e.mod, e.bs, e.bsz, e.funs, e.frf, e.hok, e.bare⟩
  have hl := F.len _ _ _ _ h
  have r2 : Vals [V.ref a, V.ref b] [Value.ref a, Value.ref b] := .cons rfl (.cons rfl .nil)
  refine wpAny_call (codeAny_mono (F.run A X.stack s H ⟨[.ref a, .ref b], []⟩ [.ref a, .ref b] [.ref a, .ref b] Q E hr e0 (by
    have := hb s [.ref a, .ref b] I.kIn (by simpa using hl)
    simpa using this) r2 h) fun r s' hq => ?_)
  cases r with
  | error e => exact hx pins σ H s e s' I hq
  | ok fl =>
    cases fl with
    | ret w =>
      obtain ⟨z, H', I', rz, q⟩ := I.after hq
      exact ⟨z, H', I', rz, q⟩
    | next => exact False.elim hq
    | brk => exact False.elim hq
    | cont => exact False.elim hq
theorem op_ownNe (T : EqC X.K C f) (F : FnOk X.prog X.w X.K X.mg X.base CX n f fd ps sp) (hr : Room (n + 1) X.A) (hb : Binds X.K fd ps []) (hx : Passes CX X E) : OpR X (compareOp .NotEq) (rOwn C sp E true) := by
  intro pins s σ H x y v u Q I rx ry h
  obtain ⟨a, b, dx, dy, fs, gs, rfl, rfl, ha, hb', h⟩ := h
  cases rx
  cases ry
  obtain ⟨mA, J, _⟩ := ins_get I.hok ha
  obtain ⟨mB, J', _⟩ := ins_get I.hok hb'
  obtain ⟨oda, Ja, _⟩ := J.look
  obtain ⟨odb, Jb, _⟩ := J'.look
  obtain ⟨nm, q, N, bs, hd, sn, sub, ab, col, dd, k0, k1, k2, k3, k5, newId, hC, hN, hE, hNe⟩ := T.is
  obtain ⟨of, h1, h2⟩ := fn_at I.kIn T.fn
  have G : s.heap.Ns N (s.heap.nsMap N) := .of_isNs (PySem.W.isNs_of_in I.kIn hN)
  have O : s.heap.OwnEqNoNe a C f "object" [.type "object"] := ⟨_, of, nm, q, N, bs, hd, sn, sub, ab, col, dd, k0, k1, k2, k3, k5, newId, _, _, Ja.at_, Ja.cls, I.kIn _ _ hC, G, ns_some_of I.kIn G hE, h1, h2, PySem.F.cmp_object.mro, look_eq, PySem.W.ns_none_of I.kIn G hNe⟩
  refine compareOp_ne_ownEq PySem.F.cmp_object O Jb.at_ Jb.cls (by have := hr.units; omega) ?_
  refine wpAny_mono (own_call I F hr.in1 rfl hb hx h) (fun v s' hv => ?_) fun _ _ e => e
  obtain ⟨z, H', I', rz, r, rfl, q⟩ := hv
  cases rz
  exact ⟨r, rfl, .bl (!r), H', I', rfl, by simpa using q⟩
theorem op_ownEq (T : EqC X.K C f) (F : FnOk X.prog X.w X.K X.mg X.base CX n f fd ps sp) (hr : Room n X.A) (hb : Binds X.K fd ps []) (hx : Passes CX X E) : OpR X (compareOp .Eq) (rOwn C sp E false) := by
  intro pins s σ H x y v u Q I rx ry h
  obtain ⟨a, b, dx, dy, fs, gs, rfl, rfl, ha, hb', h⟩ := h
  cases rx
  cases ry
  obtain ⟨mA, J, _⟩ := ins_get I.hok ha
  obtain ⟨mB, J', _⟩ := ins_get I.hok hb'
  obtain ⟨oda, Ja, _⟩ := J.look
  obtain ⟨odb, Jb, _⟩ := J'.look
  obtain ⟨m, hF⟩ := I.fr
  show wpAny (model X.prog X.w) X.A (richCompare .Eq (.ref a) (.ref b)) (EP X pins σ Q) X.xe s
  refine PySem.W.cmp_K (op := .Eq) (tb := .ref C) hr.units0 hF I.ok.mod.kin Ja Jb.type (by simp [PySem.W.notFirst]) T.eq T.fn ?_
  refine wpAny_mono (own_call I F hr rfl hb hx h) (fun v s' hv => ?_) fun _ _ e => e
  obtain ⟨z, H', I', rz, r, rfl, q⟩ := hv
  cases rz
  exact ⟨.bl r, H', I', rfl, by simpa using q⟩
end
end Par
namespace Par
open PySem PySem.Spec PyProof.Rows L2
section
variable {X : Cx} {C f : Addr} {CX : CXT} {n : Nat} {fd : FuncData} {ps : List Str} {sp : Sp} {E : XK}
/-- str(o), repr(o): by the own method -/
def rTxtOwn (C : Addr) (sp : Sp) (E : XK) : List V → Hp → VK → Prop := fun xs H Q => ∃ a dx fs, xs = [.ref a] ∧ H a = some (.ins C dx fs) ∧ sp [.ref a] H (fun v H' => ∃ t : Str, v = .str t ∧ Q (.str t) H') E
theorem one_call {pins : List (Addr × Obj)} {s : Shared} {σ : L2.St} {H : Hp} {a : Addr} {A : Around} {Q : V → Hp → Prop} (I : Inv X pins σ H s) (F : FnOk X.prog X.w X.K X.mg X.base CX n f fd ps sp) (hr : Room n A) (hA : A.frames = X.A.frames) (hb : Binds X.K fd ps []) (hx : Passes CX X E)
    (h : sp [.ref a] H Q E) : wpAny (model X.prog X.w) A (call (.ref f) [.ref a]) (fun v s' => ∃ u H', Inv X pins σ H' s' ∧ RelV u v ∧ Q u H') X.xe s := by
  have e0 : Env0 X.prog X.w X.K X.mg X.base A X.stack s H := by
    have e := I.env0
    exact ⟨by rw [hA]; exact e.frames, e.mod, e.bs, e.bsz, e.funs, e.frf, e.hok, e.bare⟩
  have hl := F.len _ _ _ _ h
  refine wpAny_call (codeAny_mono (F.run A X.stack s H ⟨[.ref a], []⟩ [.ref a] [.ref a] Q E hr e0 (by
    have := hb s [.ref a] I.kIn (by simpa using hl)
    simpa using this) (.cons rfl .nil) h) fun r s' hq => ?_)
  cases r with
  | error e => exact hx pins σ H s e s' I hq
  | ok fl =>
    cases fl with
    | ret w =>
      obtain ⟨z, H', I', rz, q⟩ := I.after hq
      exact ⟨z, H', I', rz, q⟩
    | next => exact False.elim hq
    | brk => exact False.elim hq
    | cont => exact False.elim hq
theorem one_callG {pins : List (Addr × Obj)} {s : Shared} {σ : L2.St} {H : Hp} {a : Addr} {A : Around} {Q : V → Hp → Prop} (I : Inv X pins σ H s) (F : FnG X.prog X.w X.K X.mg X.base CX n f fd ps sp) (gs : A.guards = some []) (hr : Room n A) (hA : A.frames = X.A.frames) (hb : Binds X.K fd ps []) (hx : Passes CX X E)
    (h : sp [.ref a] H Q E) : wpAny (model X.prog X.w) A (call (.ref f) [.ref a]) (fun v s' => ∃ u H', Inv X pins σ H' s' ∧ RelV u v ∧ Q u H') X.xe s := by
  have e0 : Env0 X.prog X.w X.K X.mg X.base A X.stack s H := by
    have e := I.env0
    exact ⟨by rw [hA]; exact e.frames, e.mod, e.bs, e.bsz, e.funs, e.frf, e.hok, e.bare⟩
  have hl := F.arity _ _ _ _ h
  refine wpAny_call (codeAny_mono (F.go A X.stack s H ⟨[.ref a], []⟩ [.ref a] [.ref a] Q E gs hr e0 (by
    have := hb s [.ref a] I.kIn (by simpa using hl)
    simpa using this) (.cons rfl .nil) h) fun r s' hq => ?_)
  cases r with
  | error e => exact hx pins σ H s e s' I hq
  | ok fl =>
    cases fl with
    | ret w =>
      obtain ⟨z, H', I', rz, q⟩ := I.after hq
      exact ⟨z, H', I', rz, q⟩
    | next => exact False.elim hq
    | brk => exact False.elim hq
    | cont => exact False.elim hq
theorem cr_reprOwn (c : PySem.W.findIn X.K (.ref C) "__repr__" = some (some (.ref f))) (hf : PySem.W.isFn X.K (.ref f) = true) (F : FnG X.prog X.w X.K X.mg X.base CX n f fd ps sp) (gs : X.A.guards = some []) (hr : Room (n + 1) X.A) (hb : Binds X.K fd ps []) (hx : Passes CX X E) :
    CallR X (.builtin "repr") (rTxtOwn C sp E) := by
  intro pins s σ H xs us Q I r h
  obtain ⟨a, dx, fs, rfl, ha, h⟩ := h
  cases r with
  | @cons _ u _ _ r1 r2 =>
    cases r2
    cases r1
    obtain ⟨mA, J, _⟩ := ins_get I.hok ha
    obtain ⟨oda, Ja, _⟩ := J.look
    obtain ⟨m, hF⟩ := I.fr
    refine PySem.W.repr_K (hr.in1).units0 hF I.ok.mod.kin Ja c hf ?_
    refine wpAny_mono (one_callG I F gs hr.in1 rfl hb hx h) (fun v s' hv => ?_) fun _ _ e => e
    obtain ⟨z, H', I', rz, t, rfl, q⟩ := hv
    obtain ⟨tk, rfl⟩ := rz
    exact ⟨.str t, H', I', ⟨_, rfl⟩, q⟩
theorem cr_strOwn (c : PySem.W.findIn X.K (.ref C) "__str__" = some (some (.ref f))) (hf : PySem.W.isFn X.K (.ref f) = true) (F : FnOk X.prog X.w X.K X.mg X.base CX n f fd ps sp) (hr : Room (n + 2) X.A) (hb : Binds X.K fd ps []) (hx : Passes CX X E) :
    CallR X (.type "str") (rTxtOwn C sp E) := by
  intro pins s σ H xs us Q I r h
  obtain ⟨a, dx, fs, rfl, ha, h⟩ := h
  cases r with
  | @cons _ u _ _ r1 r2 =>
    cases r2
    cases r1
    obtain ⟨mA, J, _⟩ := ins_get I.hok ha
    obtain ⟨oda, Ja, _⟩ := J.look
    refine PySem.W.kso_call (hr.in1.in1).units0 I.kIn Ja c hf ?_
    refine wpAny_mono (one_call I F hr.in1.in1 rfl hb hx h) (fun v s' hv => ?_) fun _ _ e => e
    obtain ⟨z, H', I', rz, t, rfl, q⟩ := hv
    obtain ⟨tk, rfl⟩ := rz
    exact ⟨.str t, H', I', ⟨_, rfl⟩, q⟩
/-- {x!r}, x a list or tuple of data, where the guards are none -/
def tFmtD (K : PySem.W.Frag) (te : TE) : TE := fun σ H Q => te σ H fun x H1 => ∃ (a : Addr) (d : PyData), x = .ref a ∧ Dp K H1 x d ∧ d.showable = true ∧ d.depth ≤ 40 ∧ d.shown.length ≤ sizeLine ∧ Q (.str d.shown) H1
theorem pe_fmtD {e : Expr} {te : TE} {pos : Pos} (gs : X.A.guards = some []) (hu : X.A.units + 64 < cLine) (he : PE X e te) : PE X (.FormattedValue e 114 none pos) (tFmtD X.K te) := by
  refine ⟨fun pins s σ H Q I h => ?_⟩
  refine wpAny_FormattedValue_repr (thn (he.run pins s σ H _ I h) fun w1 t1 got => ?_)
  obtain ⟨x, H1, I1, r1, a, d, rfl, hd, sh, dep, len, q⟩ := got
  cases r1
  obtain ⟨as, rd⟩ := Dp.reads I1 d _ _ hd rfl
  refine pyReprObj_of_reads rd sh (fun z => by rw [dp_nodict d _ hd] at z; cases z) gs (by omega) (fun _ _ z => z) ?_ len
  intro h' tk u k
  exact wpAny_formatField_str ⟨.str d.shown, H1, I1.un (Un.kept k) (I1.hok.kept k), ⟨_, rfl⟩, q⟩ ⟨.str d.shown, H1, I1.un (Un.kept k) (I1.hok.kept k), ⟨_, rfl⟩, q⟩ len
end
end Par
namespace Par
open PySem PySem.Spec PyProof.Rows L2
section
variable {X : Cx}
/-- x != y of data without dicts, whatever the texts in it -/
def rNeP (K : PySem.W.Frag) : R2 := fun x y H Q => ∃ d e, Dp K H x d ∧ Dp K H y e ∧ d.plain = true ∧ e.plain = true ∧ min d.depth e.depth ≤ 64 ∧ Q (.bl (!PyData.eqv d e)) H
theorem op_neP (hu : X.A.units + 64 < cLine) : OpR X (compareOp .NotEq) (rNeP X.K) := by
  intro pins s σ H x y v u Q I rx ry h
  obtain ⟨d, e, hd, he, sd, se, hm, q⟩ := h
  obtain ⟨as, r1⟩ := Dp.reads I d x v hd rx
  obtain ⟨bs, r2⟩ := Dp.reads I e y u he ry
  exact SeqAt.ne_plain r1 r2 sd se (by omega) ⟨.bl _, H, I, rfl, q⟩
end
end Par
namespace Par
open PySem PySem.Spec PyProof.Rows L2
/-! ### sorted of data: tuples and lists of ints, bools and texts -/
section
variable {X : Cx} {β : Type} {val : β → V}
theorem eachSD {R : Value → β → Prop} : ∀ {bs : List β} {us : List Value}, Vals (bs.map val) us → (∀ b ∈ bs, ∀ u, RelV (val b) u → R u b) → W.EachIs R us bs
  | [], _, h, _ => by
    cases h
    exact .nil
  | b :: bs, _, h, k => by
    cases h with
    | cons h1 h2 => exact .cons (k b (List.mem_cons_self ..) _ h1) (eachSD h2 fun c hc => k c (List.mem_cons_of_mem _ hc))
theorem valsSD {out : List Value} {bs : List β} (h : W.EachIs (fun u b => RelV (val b) u) out bs) : Vals (bs.map val) out := by
  induction h with
  | nil => exact .nil
  | cons h1 _ ih => exact .cons h1 ih
/-- sorted(xs), xs a list of data of one form -/
theorem cr_sortedD (hu : X.A.units + 64 < cLine) : CallR X (.builtin "sorted") (fun vs H Q => ∃ (a : Addr) (β : Type) (bs : List β) (val : β → V) (enc : β → PyData), vs = [V.ref a] ∧ SqL X.K H a (bs.map val) ∧
    (∀ b ∈ bs, Dp X.K H (val b) (enc b)) ∧ W.AllAlike (bs.map enc) ∧ W.Sortable (bs.map enc) ∧ (∀ b ∈ bs, (enc b).depth ≤ 40) ∧
    ∀ p, H p = none → Q (.ref p) (upd H p (.lst ((bs.mergeSort (W.dataLe false enc)).map val)))) := by
  intro pins s σ H vs us Q I r h
  obtain ⟨a, β, bs, val, enc, rfl, hs, hd, al, so, dp, q⟩ := h
  obtain ⟨its, rv, htp, hz⟩ := I.list hs
  rw [Vals.ref1 r]
  rw [List.length_map] at hz
  have hl : its.length = bs.length := by
    have := rv.length
    rw [List.length_map] at this
    omega
  have hL : s.heap.IsList a its.toArray := by
    obtain ⟨o, n, h1, h2, _, h3⟩ := htp
    exact ⟨o, h1, h2, n, h3⟩
  refine W.sorted_data (R := fun u b => RelV (val b) u) hL (eachSD rv fun b _ u ru => ru) (eachSD rv fun b hb u ru => Dp.reads I _ _ _ (hd b hb) ru) al so (by omega) (fun b hb => by have := dp b hb; omega) ?_
  intro out ol he
  obtain ⟨ep, hE⟩ := PyProof.Rows.sortedAll_at s.heap its out.toArray
  have ml : (bs.mergeSort (W.dataLe false enc)).length = bs.length := List.length_mergeSort ..
  have hshort : ((bs.mergeSort (W.dataLe false enc)).map val).length ≤ sizeLine := by
    rw [List.length_map, ml]
    omega
  have lay := I.laid (t' := s.toks) (a := s.heap.objs.size + 1) (o := .lst ((bs.mergeSort (W.dataLe false enc)).map val)) (fun _ _ => PyProof.Rows.sortedAll_old) (Nat.le_succ _)
    ⟨hshort, out, ep, valsSD he, hE⟩
  exact ⟨.ref _, _, lay, rfl, q _ (I.hok.fresh (Nat.le_succ _))⟩
end
end Par
namespace Par
open PySem PySem.Spec PyProof.Rows L2
/-! ### stamps and entries, and their order -/
/-- a stamp -/
structure Mk where
  t : Int
  h : Str
  n : Int
deriving DecidableEq
def mkD (m : Mk) : PyData := .tuple [.int m.t, .str m.h, .int m.n]
def mkV (m : Mk) : List V := [.int m.t, .str m.h, .int m.n]
def mkK (m : Mk) : List L2.Key := [.inl m.t, .inr m.h, .inl m.n]
theorem mkK_inj {m n : Mk} (h : mkK m = mkK n) : m = n := by
  cases m
  cases n
  simp [mkK] at h
  obtain ⟨rfl, rfl, rfl⟩ := h
  rfl
/-- an entry: its stamp, its flip, how often it was changed -/
structure En where
  m : Mk
  ts : List Int
  hs : List Int
  k : Nat
def En.on (e : En) : Bool := decide (e.k % 2 = 0)
def noteD (e : En) : PyData := .list [mkD e.m, .tuple [.list (e.ts.map PyData.int), .list (e.hs.map PyData.int)], .bool e.on, .int (e.k : Nat)]
abbrev tok : KeyOrd := itemOrd
theorem lex_app {O : KeyOrd} : ∀ {xs ys ra rb : List O.α}, xs.length = ys.length → xs ≠ ys → PyProof.Rows.lexLt O (xs ++ ra) (ys ++ rb) = PyProof.Rows.lexLt O xs ys
  | [], [], _, _, _, n => absurd rfl n
  | x :: xs, y :: ys, ra, rb, l, n => by
    have l' : xs.length = ys.length := by simpa using l
    show PyProof.Rows.lexLt O (x :: (xs ++ ra)) (y :: (ys ++ rb)) = PyProof.Rows.lexLt O (x :: xs) (y :: ys)
    by_cases e : xs = ys
    · subst e
      have nxy : x ≠ y := fun q => n (by rw [q])
      unfold PyProof.Rows.lexLt
      by_cases h1 : O.blt x y = true
      · simp [h1]
      · by_cases h2 : O.blt y x = true
        · simp [h1, h2]
        · exact absurd (O.total x y (by simpa using h1) (by simpa using h2)) nxy
    · have ih := lex_app (ra := ra) (rb := rb) l' e
      unfold PyProof.Rows.lexLt
      rw [ih]
def leM (a b : Mk) : Bool := W.dataLe false mkD a b
def mkT (m : Mk) : List tok.α := [.inl 1, .inl m.t, .inl 1, .inr m.h.cps.toList, .inl 1, .inl m.n, .inl 0]
theorem toks_mk (m : Mk) : W.keyToks (mkD m) = mkT m := by
  simp [mkD, mkT, W.keyToks, W.keyToksAll]
theorem mkT_inj {m n : Mk} (h : mkT m = mkT n) : m = n := by
  cases m with
  | mk t1 h1 n1 =>
    cases n with
    | mk t2 h2 n2 =>
      simp [mkT] at h
      obtain ⟨rfl, e, rfl⟩ := h
      have : h1 = h2 := by
        cases h1
        cases h2
        simpa using e
      rw [this]
theorem lex_cons (O : KeyOrd) (x : O.α) (a b : List O.α) : PyProof.Rows.lexLt O (x :: a) (x :: b) = PyProof.Rows.lexLt O a b := by
  have := O.irrefl x
  simp [PyProof.Rows.lexLt, this]
def noteR (e : En) : List tok.α := W.keyToksAll [.tuple [.list (e.ts.map PyData.int), .list (e.hs.map PyData.int)], .bool e.on, .int (e.k : Nat)]
theorem toks_note (e : En) : W.keyToks (noteD e) = .inl 1 :: (mkT e.m ++ noteR e) := by
  show W.keyToks (.list (mkD e.m :: _)) = _
  rw [← toks_mk]
  rfl
/-- entries with other stamps are ordered as their stamps -/
theorem note_le {e f : En} (h : e.m ≠ f.m) : W.dataLe false noteD e f = leM e.m f.m := by
  unfold leM W.dataLe W.sortLe
  show (!(listOrd tok).blt (W.keyToks (noteD f)) (W.keyToks (noteD e))) = (!(listOrd tok).blt (W.keyToks (mkD f.m)) (W.keyToks (mkD e.m)))
  rw [toks_note, toks_note, toks_mk, toks_mk]
  show (!PyProof.Rows.lexLt tok _ _) = (!PyProof.Rows.lexLt tok _ _)
  rw [lex_cons]
  rw [lex_app (xs := mkT f.m) (ys := mkT e.m) rfl (fun q => h (mkT_inj q).symm)]
theorem le_self {β : Type} (enc : β → PyData) (e : β) : W.dataLe false enc e e = true := by
  unfold W.dataLe W.sortLe
  show (!(listOrd tok).blt (W.keyToks (enc e)) (W.keyToks (enc e))) = true
  rw [(listOrd tok).irrefl]
  rfl
/-- no two entries with one stamp -/
def Dist (es : List En) : Prop := (es.map En.m).Nodup
theorem Dist.inj : ∀ {es : List En}, Dist es → ∀ {e f : En}, e ∈ es → f ∈ es → e.m = f.m → e = f
  | [], _, _, _, h, _, _ => nomatch h
  | a :: es, h, e, f, he, hf, q => by
    obtain ⟨h1, h2⟩ := List.nodup_cons.mp (show (a.m :: es.map En.m).Nodup from h)
    rcases List.mem_cons.mp he with rfl | he2
    · rcases List.mem_cons.mp hf with rfl | hf2
      · rfl
      · exact absurd (show e.m ∈ es.map En.m from List.mem_map.mpr ⟨f, hf2, q.symm⟩) h1
    · rcases List.mem_cons.mp hf with rfl | hf2
      · exact absurd (show f.m ∈ es.map En.m from List.mem_map.mpr ⟨e, he2, q⟩) h1
      · exact Dist.inj h2 he2 hf2 q
/-- the entries in the order of their stamps -/
def srt (es : List En) : List En := es.mergeSort (fun e f => leM e.m f.m)
theorem srt_notes {es : List En} (h : Dist es) : es.mergeSort (W.dataLe false noteD) = srt es :=
  W.sort_congr fun e he f hf => by
    by_cases q : e.m = f.m
    · rw [h.inj he hf q, le_self]
      exact (le_self mkD f.m).symm
    · exact note_le q
theorem srt_marks (es : List En) : (srt es).map En.m = (es.map En.m).mergeSort leM :=
  W.sort_maps En.m fun _ _ _ _ => rfl
theorem srt_perm (es : List En) : (srt es).Perm es := List.mergeSort_perm ..
theorem alike_ints : ∀ ns ms : List Int, W.alikeAll (ns.map PyData.int) (ms.map PyData.int) = true
  | [], [] => rfl
  | [], _ :: _ => rfl
  | _ :: _, [] => rfl
  | n :: ns, m :: ms => by
    show (W.alike (.int n) (.int m) && W.alikeAll (ns.map PyData.int) (ms.map PyData.int)) = true
    rw [alike_ints ns ms]
    rfl
theorem alike_marks (a b : Mk) : W.alike (mkD a) (mkD b) = true := rfl
theorem alike_notes (e f : En) : W.alike (noteD e) (noteD f) = true := by
  show (W.alike (mkD e.m) (mkD f.m) && (((W.alikeAll (e.ts.map PyData.int) (f.ts.map PyData.int)) && ((W.alikeAll (e.hs.map PyData.int) (f.hs.map PyData.int)) && true)) && (true && (true && true)))) = true
  rw [alike_ints, alike_ints]
  rfl
end Par
namespace Par
open PySem PySem.Spec PyProof.Rows L2
/-! ### a comprehension whose test and element are known beforehand: the heap only grows -/
/-- the values kept up to place i -/
def sel (keep : Nat → Bool) (val : Nat → V) (i : Nat) : List V := ((List.range i).filter keep).map val
theorem sel_succ (keep : Nat → Bool) (val : Nat → V) (i : Nat) : sel keep val (i + 1) = sel keep val i ++ (if keep i = true then [val i] else []) := by
  unfold sel
  rw [List.range_succ, List.filter_append, List.map_append]
  by_cases h : keep i = true
  · rw [if_pos h, List.filter_cons_of_pos h]
    rfl
  · rw [if_neg h, List.filter_cons_of_neg h]
    rfl
theorem sel_len (keep : Nat → Bool) (val : Nat → V) (i : Nat) : (sel keep val i).length ≤ i := by
  unfold sel
  rw [List.length_map]
  exact Nat.le_trans (List.length_filter_le ..) (by rw [List.length_range]; exact Nat.le_refl _)
/-- the values kept, by the items themselves -/
theorem sel_map {α : Type} (ys : List α) (keep : α → Bool) (val : α → V) (k : Nat → Bool) (v : Nat → V) (hk : ∀ i y, ys[i]? = some y → k i = keep y) (hv : ∀ i y, ys[i]? = some y → v i = val y) : sel k v ys.length = (ys.filter keep).map val := by
  have go : ∀ i, i ≤ ys.length → sel k v i = ((ys.take i).filter keep).map val := by
    intro i
    induction i with
    | zero => intro _; simp [sel]
    | succ i ih =>
      intro h
      have hi : ys[i]? = some ys[i] := List.getElem?_eq_getElem (by omega)
      rw [sel_succ, ih (by omega), List.take_succ, hi, hk i _ hi, hv i _ hi, List.filter_append, List.map_append]
      congr 1
      by_cases z : keep ys[i] = true
      · simp [z]
      · simp [z]
  rw [go _ (Nat.le_refl _), List.take_length]
section
variable {K : PySem.W.Frag}
theorem lc_sel {l : Addr} {xs : List V} {i : Nat} {σ : L2.St} {H1 : Hp} {D : Addr} {Qd : Hp → Prop} {tt : TT} {te : TE} (keep : Nat → Bool) (val : Nat → V) (hi : i < σ.length) (hD : H1 D = none) (el : SqL K H1 l xs) (few : xs.length ≤ 1000)
    (ht : ∀ j x σ2 H2 (Y : Bool → Hp → Prop), xs[j]? = some x → σ2 = (wipe σ [i]).set i (some x) → Same H1 H2 → (∀ H3, Same H2 H3 → Y (keep j) H3) → tt σ2 H2 Y)
    (he : ∀ j x σ2 H2 (Y : VK), xs[j]? = some x → keep j = true → σ2 = (wipe σ [i]).set i (some x) → Same H1 H2 → (∀ H3, Same H2 H3 → Y (val j) H3) → te σ2 H2 Y)
    (out : ∀ H', Same H1 H' → H' D = some (.lst (sel keep val xs.length)) → Qd H') :
    ∃ W : Nat → Nat → Hp → Prop, (∃ m, W 0 m (upd H1 D (.lst []))) ∧ ∀ j m H, W j m H →
      ((Itl K l).stop j H ∧ Qd H) ∨ ((Itl K l).go j H ∧ ∃ Nx : Hp → Prop, (∀ H', Nx H' → ∃ m', m' < m ∧ W (j + 1) m' H') ∧ ∀ x H', (Itl K l).yld j H x H' → gName i x (wipe σ [i]) H' fun σ2 H2 => wipe σ2 [i] = wipe σ [i] ∧ tt σ2 H2 fun b H3 =>
        if b = true then te σ2 H3 fun y H4 => ∃ acc, H4 D = some (.lst acc) ∧ acc.length < sizeLine ∧ Nx (upd H4 D (.lst (acc ++ [y]))) else Nx H3) := by
  refine lc_list (K := K) (a := l) (xs := xs) (fun j H' => Same H1 H' ∧ H' D = some (.lst (sel keep val j))) ⟨fun b o e => by rw [upd_ne (ne_of_none e hD)]; exact e, upd_same⟩ (fun j H2 _ h => h.1.seq el) ?_ ?_
  · rintro j x H2 hx ⟨s2, hD2⟩
    have jl : j < xs.length := (List.getElem?_eq_some_iff.mp hx).1
    refine ⟨by simp [wipe], ht j x _ H2 _ hx rfl s2 fun H3 s3 => ?_⟩
    have hD3 := s3 _ _ hD2
    by_cases z : keep j = true
    · rw [if_pos z]
      refine he j x _ H3 _ hx z rfl (s2.trans s3) fun H4 s4 => ?_
      refine ⟨_, s4 _ _ hD3, ?_, ?_, ?_⟩
      · have := sel_len keep val j
        rw [sizeLine_eq]
        omega
      · intro b o e
        rw [upd_ne (ne_of_none e hD)]
        exact s4 _ _ (s3 _ _ (s2 b o e))
      · rw [upd_same, sel_succ, if_pos z]
    · rw [if_neg z]
      refine ⟨s2.trans s3, ?_⟩
      rw [hD3, sel_succ, if_neg z, List.append_nil]
  · rintro H2 ⟨s2, hD2⟩
    exact out H2 s2 hD2
/-- the same, by what the items stand for -/
theorem lc_selA {α : Type} {l : Addr} {xs : List V} {i : Nat} {σ : L2.St} {H1 : Hp} {D : Addr} {Qd : Hp → Prop} {tt : TT} {te : TE} (ys : List α) (keep : α → Bool) (val : α → V) (hlen : xs.length = ys.length) (hi : i < σ.length) (hD : H1 D = none) (el : SqL K H1 l xs) (few : ys.length ≤ 1000)
    (ht : ∀ (j : Nat) x y σ2 H2 (Y : Bool → Hp → Prop), xs[j]? = some x → ys[j]? = some y → σ2 = (wipe σ [i]).set i (some x) → Same H1 H2 → (∀ H3, Same H2 H3 → Y (keep y) H3) → tt σ2 H2 Y)
    (he : ∀ (j : Nat) x y σ2 H2 (Y : VK), xs[j]? = some x → ys[j]? = some y → keep y = true → σ2 = (wipe σ [i]).set i (some x) → Same H1 H2 → (∀ H3, Same H2 H3 → Y (val y) H3) → te σ2 H2 Y)
    (out : ∀ H', Same H1 H' → H' D = some (.lst ((ys.filter keep).map val)) → Qd H') :
    ∃ W : Nat → Nat → Hp → Prop, (∃ m, W 0 m (upd H1 D (.lst []))) ∧ ∀ j m H, W j m H →
      ((Itl K l).stop j H ∧ Qd H) ∨ ((Itl K l).go j H ∧ ∃ Nx : Hp → Prop, (∀ H', Nx H' → ∃ m', m' < m ∧ W (j + 1) m' H') ∧ ∀ x H', (Itl K l).yld j H x H' → gName i x (wipe σ [i]) H' fun σ2 H2 => wipe σ2 [i] = wipe σ [i] ∧ tt σ2 H2 fun b H3 =>
        if b = true then te σ2 H3 fun y H4 => ∃ acc, H4 D = some (.lst acc) ∧ acc.length < sizeLine ∧ Nx (upd H4 D (.lst (acc ++ [y]))) else Nx H3) := by
  have at_ : ∀ {j : Nat} {x : V}, xs[j]? = some x → ∃ y, ys[j]? = some y := fun {j x} h => by
    have := (List.getElem?_eq_some_iff.mp h).1
    exact ⟨ys[j]'(by omega), List.getElem?_eq_getElem (by omega)⟩
  refine lc_sel (fun j => match ys[j]? with | some y => keep y | none => false) (fun j => match ys[j]? with | some y => val y | none => .non) hi hD el (by omega) ?_ ?_ ?_
  · intro j x σ2 H2 Y hx e s k
    obtain ⟨y, hy⟩ := at_ hx
    refine ht j x y σ2 H2 Y hx hy e s fun H3 s3 => ?_
    have := k H3 s3
    rw [hy] at this
    exact this
  · intro j x σ2 H2 Y hx hk e s k
    obtain ⟨y, hy⟩ := at_ hx
    have hk' : keep y = true := by
      rw [hy] at hk
      exact hk
    refine he j x y σ2 H2 Y hx hy hk' e s fun H3 s3 => ?_
    have := k H3 s3
    rw [hy] at this
    exact this
  · intro H' s h
    refine out H' s ?_
    rw [h, hlen, sel_map ys keep val _ _ (fun i y e => by rw [e]) (fun i y e => by rw [e])]
end
end Par
namespace Par
open PySem PySem.Spec PyProof.Rows L2
/-! ### repr of data in which dicts with one text as a key may stand -/
/-- a flat thing, a dict with one text as a key -/
inductive Sx (H : Hp) : V → PyData → Prop
  | fl {v : V} {d : PyData} : Fl H v d → Sx H v d
  | dicS {a : Addr} {x : Str} {j : Int} : H a = some (.dK [(Sum.inr x, .int j)]) → Sx H (.ref a) (.dict [(.str x, .int j)])
inductive SxAll (H : Hp) : List V → List PyData → Prop
  | nil : SxAll H [] []
  | cons {v : V} {vs : List V} {d : PyData} {ds : List PyData} : Sx H v d → SxAll H vs ds → SxAll H (v :: vs) (d :: ds)
/-- data without a dict, a flat thing, a tuple of flat things -/
inductive Da (K : PySem.W.Frag) (H : Hp) : V → PyData → Prop
  | dp {v : V} {d : PyData} : Dp K H v d → Da K H v d
  | sx {v : V} {d : PyData} : Sx H v d → Da K H v d
  | tup {a : Addr} {xs : List V} {ds : List PyData} : H a = some (.tup xs) → SxAll H xs ds → Da K H (.ref a) (.tuple ds)
theorem sx_same {H H' : Hp} (s : Same H H') {v : V} {d : PyData} (h : Sx H v d) : Sx H' v d := by
  cases h with
  | fl f => exact .fl (fl_same s f)
  | dicS e => exact .dicS (s _ _ e)
theorem sxAll_same {H H' : Hp} (s : Same H H') : ∀ {vs : List V} {ds : List PyData}, SxAll H vs ds → SxAll H' vs ds
  | _, _, .nil => .nil
  | _, _, .cons h1 h2 => .cons (sx_same s h1) (sxAll_same s h2)
theorem da_same {K : PySem.W.Frag} {H H' : Hp} (s : Same H H') {v : V} {d : PyData} (h : Da K H v d) : Da K H' v d := by
  cases h with
  | dp h => exact .dp (dp_same s _ _ h)
  | sx h => exact .sx (sx_same s h)
  | tup e h => exact .tup (s _ _ e) (sxAll_same s h)
theorem sxAll_append {H : Hp} : ∀ {xs ys : List V} {ds es : List PyData}, SxAll H xs ds → SxAll H ys es → SxAll H (xs ++ ys) (ds ++ es)
  | _, _, _, _, .nil, h => h
  | _, _, _, _, .cons h1 h2, h => .cons h1 (sxAll_append h2 h)
section
variable {X : Cx} {pins : List (Addr × Obj)} {σ : L2.St} {H : Hp} {s : Shared}
theorem sx_reads (I : Inv X pins σ H s) {v : V} {d : PyData} {u : Value} (h : Sx H v d) (r : RelV v u) : ∃ as, Reads s.heap u d as ∧ sysModules ∉ as := by
  cases h with
  | fl f => exact fl_reads I f r
  | @dicS a x j e =>
    cases r
    obtain ⟨_, ns, vs, kv, o, es, ep, ho, hx, hd, hk, hp, _⟩ := dk_of I.hok e
    have ne : sysModules ≠ a := fun z => by rw [← z] at ns; exact absurd ns (by decide)
    cases kv with
    | @cons _ q _ _ k1 k2 =>
      cases k2
      obtain ⟨k, u⟩ := q
      obtain ⟨e1, t, e2⟩ := k1
      have e1' : Sum.inr x = k := e1
      have e2' : u = Value.int j t := e2
      subst e1' e2'
      cases hes : es.toList with
      | nil => rw [hes] at hp; cases hp
      | cons e1 t1 =>
        rw [hes] at hp
        cases hp with
        | cons p1 p3 p2 =>
          cases p2
          have p1' : keyIs (Sum.inr x) e1.key = true := p1
          rcases keyIs_shape p1' with ⟨i2, t2, w1, w2⟩ | ⟨x2, t2, w1, w2⟩
          · cases w1
          · cases w1
            have p3' : e1.val = Value.int j t := p3
            refine ⟨_, Reads.dict (kvs := [(.str x, .int j)]) ho hx.1 hd (as := [] ++ []) (bs := [] ++ []) ?_ ?_, ?_⟩
            · rw [hes]
              show ReadsAll s.heap [e1.key] [PyData.str x] ([] ++ [])
              rw [w2]
              exact ReadsAll.cons (Reads.str x t2) ReadsAll.nil
            · rw [hes]
              show ReadsAll s.heap [e1.val] [PyData.int j] ([] ++ [])
              rw [p3']
              exact ReadsAll.cons (Reads.int j t) ReadsAll.nil
            · simpa using ne
theorem sxAll_reads (I : Inv X pins σ H s) : ∀ {vs : List V} {ds : List PyData} {us : List Value}, SxAll H vs ds → Vals vs us → ∃ as, ReadsAll s.heap us ds as ∧ sysModules ∉ as
  | _, _, _, .nil, .nil => ⟨_, ReadsAll.nil, by simp⟩
  | _, _, _, .cons h1 h2, .cons r1 r2 => by
    obtain ⟨as, q1, n1⟩ := sx_reads I h1 r1
    obtain ⟨bs, q2, n2⟩ := sxAll_reads I h2 r2
    refine ⟨_, ReadsAll.cons q1 q2, ?_⟩
    intro z
    rcases List.mem_append.mp z with z | z
    · exact n1 z
    · exact n2 z
theorem da_reads (I : L2.Inv X pins σ H s) {v : V} {d : PyData} {u : Value} (h : Da X.K H v d) (r : RelV v u) :
    ∃ as, Reads s.heap u d as ∧ (d.hasDict = true → sysModules ∉ as) := by
  cases h with
  | dp h =>
    obtain ⟨as, q⟩ := Dp.reads I d v u h r
    refine ⟨as, q, fun z => ?_⟩
    rw [dp_nodict d v h] at z
    cases z
  | sx h =>
    obtain ⟨as, q, n⟩ := sx_reads I h r
    exact ⟨as, q, fun _ => n⟩
  | @tup a xs ds e h =>
    cases r
    obtain ⟨its, rv, ⟨o, ho, hc, n, hd⟩, _⟩ := I.tuple (a := a) (xs := xs) (SqT.of e)
    obtain ⟨as, q, nn⟩ := sxAll_reads I h rv
    exact ⟨_, Reads.tuple ho hc hd q, fun _ => nn⟩
end
section
variable {X : Cx}
theorem cr_reprA (gs : X.A.guards = some []) (hu : X.A.units + 64 < cLine) : CallR X (.builtin "repr") (fun xs H Q => ∃ v d, xs = [v] ∧ Da X.K H v d ∧
    d.showable = true ∧ d.depth ≤ 40 ∧ d.shown.length ≤ sizeLine ∧ Q (.str d.shown) H) := by
  intro pins s σ H xs us Q I r h
  obtain ⟨v, d, rfl, hd, sh, dep, len, q⟩ := h
  cases r with
  | @cons _ u _ _ r1 r2 =>
    cases r2
    obtain ⟨as, rd, ns⟩ := da_reads I hd r1
    have fin : ∀ (h' : Heap) (tk u' : Nat), (∀ b o, s.heap.get? b = some o → h'.get? b = some o) → EP X pins σ Q (.str d.shown u') { s with heap := h', toks := tk } :=
      fun h' tk u' k => ⟨.str d.shown, H, I.un (t' := tk) (Un.kept k) (I.hok.kept k), ⟨_, rfl⟩, q⟩
    cases u with
    | ref a => exact repr_of_reads' rd sh ns gs (by omega) (fun _ _ z => z) (fun h' u tk k => fin h' tk u k) len
    | none => cases rd; exact PySem.P.repr_of_none (fin s.heap _ _ fun _ _ z => z)
    | bool b => cases rd; exact PySem.P.repr_of_bool (fin s.heap _ _ fun _ _ z => z)
    | int i t => cases rd; exact PySem.P.repr_of_int (by simpa [PyData.showable] using sh) (fin s.heap _ _ fun _ _ z => z)
    | str x t => cases rd; exact PySem.P.repr_of_str (fin s.heap _ _ fun _ _ z => z) len
    | _ => cases rd
end
/-! ### what is shown is plain, where what is shown of is -/
def Low (t : Str) : Prop := ∀ c ∈ t.cps.toList, c < 128
theorem Low.append {a b : Str} (ha : Low a) (hb : Low b) : Low (a ++ b) := by
  intro c hc
  rw [PySem.Str.cps_append, Array.toList_append] at hc
  rcases List.mem_append.mp hc with h | h
  · exact ha c h
  · exact hb c h
theorem low_char : ∀ c, c < 128 → ∀ q ∈ [34, 39], ∀ x ∈ Builtin.Str.reprChar q c, x < 128 := by
  have h : ∀ c : Fin 128, ∀ q ∈ [34, 39], ∀ x ∈ Builtin.Str.reprChar q c.val, x < 128 := by decide +kernel
  exact fun c hc => h ⟨c, hc⟩
theorem low_fold (q : Nat) (hq : q ∈ [34, 39]) : ∀ (l : List Nat) (acc : Array Nat), (∀ c ∈ l, c < 128) → (∀ c ∈ acc.toList, c < 128) → ∀ c ∈ (l.foldl (fun out c => out ++ (Builtin.Str.reprChar q c).toArray) acc).toList, c < 128
  | [], acc, _, h => h
  | c :: r, acc, hl, h => by
    refine low_fold q hq r _ (fun d hd => hl d (List.mem_cons_of_mem _ hd)) fun d hd => ?_
    rw [Array.toList_append] at hd
    rcases List.mem_append.mp hd with z | z
    · exact h d z
    · exact low_char c (hl c (List.mem_cons_self ..)) q hq d z
theorem low_repr {x : Str} (h : Low x) : Low (reprText x) := by
  have hq : reprQuote x ∈ [34, 39] := by
    unfold reprQuote
    split <;> decide
  have hq2 : reprQuote x < 128 := by
    simp only [List.mem_cons, List.not_mem_nil, or_false] at hq
    omega
  unfold reprText
  intro c hc
  have hc2 : c ∈ ((x.cps.foldl (fun out c => out ++ (Builtin.Str.reprChar (reprQuote x) c).toArray) #[reprQuote x]).push (reprQuote x)).toList := hc
  rw [Array.toList_push, ← Array.foldl_toList] at hc2
  rcases List.mem_append.mp hc2 with z | z
  · refine low_fold _ hq x.cps.toList _ h (fun d hd => ?_) c z
    rw [show d = reprQuote x by simpa using hd]
    exact hq2
  · rw [show c = reprQuote x by simpa using z]
    exact hq2
theorem low_textFrom : ∀ (ts : List Str) (k : Nat) (acc : Str), Low acc → (∀ t ∈ ts, Low t) → Low (textFrom k acc ts)
  | [], _, _, h, _ => h
  | t :: ts, k, acc, h, ht => by
    refine low_textFrom ts (k + 1) _ (.append (.append h ?_) (ht t (List.mem_cons_self ..))) fun u hu => ht u (List.mem_cons_of_mem _ hu)
    split <;> (intro c hc; revert c hc; decide +kernel)
theorem low_join : ∀ (ts : List Str), (∀ t ∈ ts, Low t) → Low (Str.join ", " ts)
  | [], _ => by intro c hc; cases hc
  | [t], h => h t (List.mem_cons_self ..)
  | t :: u :: ts, h => by
    have ih := low_join (u :: ts) fun v hv => h v (List.mem_cons_of_mem _ hv)
    have e : Str.join ", " (t :: u :: ts) = t ++ ", " ++ Str.join ", " (u :: ts) := rfl
    rw [e]
    exact .append (.append (h t (List.mem_cons_self ..)) (by intro c hc; revert c hc; decide +kernel)) ih
def plain : PyData → Prop
  | .str x => Low x
  | .list _ | .tuple _ | .dict _ => False
  | _ => True
theorem low_int (i : Int) : Low (PyData.int i).shown := by
  intro c hc
  refine Decidable.byContradiction fun n => ?_
  exact shown_int_free' (k := c) ⟨by omega, by omega⟩ i hc
theorem low_plain {d : PyData} (h : plain d) : Low d.shown := by
  cases d with
  | none => intro c hc; revert c hc; decide +kernel
  | bool b => cases b <;> (intro c hc; revert c hc; decide +kernel)
  | int i => exact low_int i
  | str x => exact low_repr h
  | list _ => exact h.elim
  | tuple _ => exact h.elim
  | dict _ => exact h.elim
theorem low_all : ∀ {ds : List PyData}, (∀ d ∈ ds, Low d.shown) → ∀ t ∈ PyData.shownAll ds, Low t
  | [], _, t, ht => nomatch ht
  | d :: ds, h, t, ht => by
    rcases List.mem_cons.mp ht with e | e
    · rw [e]
      exact h d (List.mem_cons_self ..)
    · exact low_all (fun x hx => h x (List.mem_cons_of_mem _ hx)) t e
theorem low_list {ds : List PyData} (h : ∀ d ∈ ds, Low d.shown) : Low (PyData.list ds).shown :=
  .append (low_textFrom _ _ _ (by intro c hc; revert c hc; decide +kernel) (low_all h)) (by intro c hc; revert c hc; decide +kernel)
theorem low_tuple {ds : List PyData} (h : ∀ d ∈ ds, Low d.shown) : Low (PyData.tuple ds).shown := by
  refine .append (.append (by intro c hc; revert c hc; decide +kernel) (low_join _ (low_all h))) ?_
  split <;> (intro c hc; revert c hc; decide +kernel)
theorem low_len {x : Str} (h : Low x) : (reprText x).length ≤ 10 * x.length + 2 := StrLaws.reprText_len x fun c hc => by
  have := h c hc
  omega
section
variable {X : Cx}
/-- x == y of data without dicts, whatever the texts in it -/
def rEqP (K : PySem.W.Frag) : R2 := fun x y H Q => ∃ d e, Dp K H x d ∧ Dp K H y e ∧ d.plain = true ∧ e.plain = true ∧ min d.depth e.depth ≤ 64 ∧ Q (.bl (PyData.eqv d e)) H
theorem op_eqP (hu : X.A.units + 64 < cLine) : OpR X (compareOp .Eq) (rEqP X.K) := by
  intro pins s σ H x y v u Q I rx ry h
  obtain ⟨d, e, hd, he, sd, se, hm, q⟩ := h
  obtain ⟨as, r1⟩ := Dp.reads I d x v hd rx
  obtain ⟨bs, r2⟩ := Dp.reads I e y u he ry
  exact SeqAt.eq_plain r1 r2 sd se (by omega) ⟨.bl _, H, I, rfl, q⟩
end
end Par
namespace K18
open PySem PySem.Spec PyProof.Rows L2 Par
abbrev slBase0 : Stmt := topS 56
/-- texts and truths as tuples -/
def PrT (H : Hp) : List Addr → List (Str × Bool) → Prop
  | [], [] => True
  | a :: as, p :: ps => H a = some (.tup [.str p.1, .bl p.2]) ∧ PrT H as ps
  | _, _ => False
theorem PrT.same {H H' : Hp} (s : Same H H') : ∀ {as : List Addr} {ps : List (Str × Bool)}, PrT H as ps → PrT H' as ps
  | [], [], _ => True.intro
  | _ :: _, _ :: _, h => ⟨s _ _ h.1, PrT.same s h.2⟩
  | [], _ :: _, h => h.elim
  | _ :: _, [], h => h.elim
theorem PrT.len {H : Hp} : ∀ {as : List Addr} {ps : List (Str × Bool)}, PrT H as ps → as.length = ps.length
  | [], [], _ => rfl
  | _ :: _, _ :: _, h => congrArg Nat.succ (PrT.len h.2)
  | [], _ :: _, h => h.elim
  | _ :: _, [], h => h.elim
theorem PrT.at {H : Hp} : ∀ {as : List Addr} {ps : List (Str × Bool)} {i : Nat} {a : Addr}, PrT H as ps → as[i]? = some a → ∃ p, ps[i]? = some p ∧ H a = some (.tup [.str p.1, .bl p.2])
  | [], [], i, a, _, e => by simp at e
  | a :: as, p :: ps, 0, b, h, e => ⟨p, rfl, by
    obtain rfl : a = b := by simpa using e
    exact h.1⟩
  | a :: as, p :: ps, i + 1, b, h, e => by
    obtain ⟨q, h1, h2⟩ := PrT.at (i := i) (a := b) h.2 (by simpa using e)
    exact ⟨q, by simpa using h1, h2⟩
  | [], _ :: _, _, _, h, _ => h.elim
  | _ :: _, [], _, _, h, _ => h.elim
theorem pick_len {α : Type} (f : α → Bool) (l : List α) (i : Nat) : ((l.take i).filter f).length ≤ i := Nat.le_trans (List.length_filter_le ..) (by rw [List.length_take]; omega)
section
variable {P : Program} {w : World} {K : PySem.W.Frag} {mg : Str → Option Value} {base : Heap}
/-- which base an error has -/
def spBase : Sp := fun vs H Q _ => ∃ (a : Addr) (n : Str) (b : Nat) (fs : List (Str × V)), vs = [.ref a] ∧ (n, b) ∈ exP ∧ Er H a (Ea K n) fs ∧ ∀ H', Same H H' → Q (.int (b : Nat)) H'
theorem iteP {c : Bool} {p q : Prop} (h : c = true) (x : p) : if c = true then p else q := by
  rw [if_pos h]
  exact x
theorem base_lt : ∀ p ∈ exP, p.2 < 4 := by decide +kernel
abbrev nBase : List Str := ["_law_e", "_law_own", "_law_kin"]
theorem scBase : FnScope nBase ["_law_e"] (defScope slBase0) := ⟨rfl, rfl, rfl, by decide +kernel, rfl, by decide +kernel, by decide +kernel⟩
theorem ok_base {f : Addr} {fd : FuncData} (F : Fun K "_law_base" "_law_base" slBase0 f fd) (B : Bl mg) (EK : ExK K mg): FnOk P w K mg base CX0 2 f fd ["_law_e"] (spBase (K := K)) := by
  refine F.ok scBase (fun vs H Q E h => ?_) (fun cdv A outer s H vs Q E hr h => ?_)
  · obtain ⟨a, n, b, fs, rfl, _⟩ := h
    rfl
  · obtain ⟨a, n, b, fs, rfl, hn, hE, out⟩ := h
    have hu := hr.units
    have hu1 := hu_of hr
    refine ⟨_, (pss_cons (ps_set (i := 1) scBase.nd rfl (Or.inl rfl) (pe_lst (pa_cons (pe_callB call_isEr (by rfl) B.isinstance (by decide +kernel) (pa_cons (pv 0) (pa_cons (pe_glob (v := .ref (Ea K "CellError")) (by rfl) (EK.mgb _ (List.mem_of_getElem? (i := 0) rfl)) rfl) pa_nil))) (pa_cons (pe_callB call_isEr (by rfl) B.isinstance (by decide +kernel) (pa_cons (pv 0) (pa_cons (pe_glob (v := .ref (Ea K "MissingError")) (by rfl) (EK.mgb _ (List.mem_of_getElem? (i := 1) rfl)) rfl) pa_nil))) (pa_cons (pe_callB call_isEr (by rfl) B.isinstance (by decide +kernel) (pa_cons (pv 0) (pa_cons (pe_glob (v := .ref (Ea K "StateError")) (by rfl) (EK.mgb _ (List.mem_of_getElem? (i := 2) rfl)) rfl) pa_nil))) (pa_cons (pe_callB call_isEr (by rfl) B.isinstance (by decide +kernel) (pa_cons (pv 0) (pa_cons (pe_glob (v := .ref (Ea K "LimitError")) (by rfl) (EK.mgb _ (List.mem_of_getElem? (i := 3) rfl)) rfl) pa_nil))) pa_nil))))))
      (pss_cons (ps_set (i := 2) scBase.nd rfl (Or.inl rfl) (pe_lst (pa_cons (pe_callB call_isEr (by rfl) B.isinstance (by decide +kernel) (pa_cons (pv 0) (pa_cons (pe_bltn (v := .ty "ValueError") (by rfl) EK.g0 (by decide +kernel) rfl) pa_nil))) (pa_cons (pe_callB call_isEr (by rfl) B.isinstance (by decide +kernel) (pa_cons (pv 0) (pa_cons (pe_bltn (v := .ty "LookupError") (by rfl) EK.g1 (by decide +kernel) rfl) pa_nil))) (pa_cons (pe_callB call_isEr (by rfl) B.isinstance (by decide +kernel) (pa_cons (pv 0) (pa_cons (pe_bltn (v := .ty "RuntimeError") (by rfl) EK.g2 (by decide +kernel) rfl) pa_nil))) pa_nil)))))
      (pss_cons (ps_expr (pe_bm PySem.F.plainAttrs_list PySem.F.slot_list_append PySem.F.type_list_append mt_append (pv 2) (pa_cons (pe_callB call_isEr (by rfl) B.isinstance (by decide +kernel) (pa_cons (pv 0) (pa_cons (pe_bltn (v := .ty "ArithmeticError") (by rfl) EK.g3 (by decide +kernel) rfl) pa_nil))) pa_nil)))
      (pss_one (ps_ret (pe_ifExp (PW.pt (pw_and (pt_cmpR (op_eqP hu) (pv 1) (pv 2) (nomark _)) (pw_and1 (pt_cmpR op_eq (pe_bm PySem.F.plainAttrs_list PySem.F.slot_list_count PySem.F.type_list_count mt_countV (pv 1) (pa_cons pe_bl pa_nil)) pe_int (nomark _))))) (pe_bm PySem.F.plainAttrs_list PySem.F.slot_list_index PySem.F.type_list_index mt_index (pv 1) (pa_cons pe_bl pa_nil)) pe_non)))))), ?_⟩
    refine ⟨_, rfl, a, _, _, _, _, fs, rfl, hE, EK.xc _ hn, .own _, EK.kib _ hn _ (List.mem_of_getElem? (i := 0) rfl), ?_⟩
    refine ⟨_, rfl, a, _, _, _, _, fs, rfl, hE, EK.xc _ hn, .own _, EK.kib _ hn _ (List.mem_of_getElem? (i := 1) rfl), ?_⟩
    refine ⟨_, rfl, a, _, _, _, _, fs, rfl, hE, EK.xc _ hn, .own _, EK.kib _ hn _ (List.mem_of_getElem? (i := 2) rfl), ?_⟩
    refine ⟨_, rfl, a, _, _, _, _, fs, rfl, hE, EK.xc _ hn, .own _, EK.kib _ hn _ (List.mem_of_getElem? (i := 3) rfl), ?_⟩
    refine ⟨(by show 4 ≤ sizeLine; decide), fun q1 hq1 => ?_⟩
    have s1 := same_new (o := .lst [.bl (b == 0), .bl (b == 1), .bl (b == 2), .bl (b == 3)]) hq1
    have e1 : (upd H q1 (.lst [.bl (b == 0), .bl (b == 1), .bl (b == 2), .bl (b == 3)])) q1 = some (.lst [.bl (b == 0), .bl (b == 1), .bl (b == 2), .bl (b == 3)]) := upd_same
    generalize (upd H q1 (.lst [.bl (b == 0), .bl (b == 1), .bl (b == 2), .bl (b == 3)])) = G1 at s1 e1 ⊢
    have u1 := s1
    refine ⟨_, rfl, a, _, _, _, _, fs, rfl, (hE.same u1), EK.xc _ hn, .ty _, EK.kik _ hn _ (List.mem_of_getElem? (i := 0) rfl), ?_⟩
    refine ⟨_, rfl, a, _, _, _, _, fs, rfl, (hE.same u1), EK.xc _ hn, .ty _, EK.kik _ hn _ (List.mem_of_getElem? (i := 1) rfl), ?_⟩
    refine ⟨_, rfl, a, _, _, _, _, fs, rfl, (hE.same u1), EK.xc _ hn, .ty _, EK.kik _ hn _ (List.mem_of_getElem? (i := 2) rfl), ?_⟩
    refine ⟨(by show 3 ≤ sizeLine; decide), fun q2 hq2 => ?_⟩
    have s2 := same_new (o := .lst [.bl (b == 0), .bl (b == 1), .bl (b == 2)]) hq2
    have e2 : (upd G1 q2 (.lst [.bl (b == 0), .bl (b == 1), .bl (b == 2)])) q2 = some (.lst [.bl (b == 0), .bl (b == 1), .bl (b == 2)]) := upd_same
    generalize (upd G1 q2 (.lst [.bl (b == 0), .bl (b == 1), .bl (b == 2)])) = G2 at s2 e2 ⊢
    have u2 := u1.trans s2
    refine ⟨_, rfl, .inl ⟨rfl, _, SqL.of e2⟩, _, rfl, a, _, _, _, _, fs, rfl, hE.same u2, EK.xc _ hn, .ty _, EK.kik _ hn _ (List.mem_of_getElem? (i := 3) rfl), ?_⟩
    refine ⟨q2, _, _, rfl, rfl, e2, (by show 3 < sizeLine; decide), ?_⟩
    have n12 : q1 ≠ q2 := ne_of_none e1 hq2
    have s3 : Same H (upd G2 q2 (.lst [.bl (b == 0), .bl (b == 1), .bl (b == 2), .bl (b == 3)])) := fun z o e => by
      rw [upd_ne (ne_of_none (s1 _ _ e) hq2)]
      exact u2 _ _ e
    have f1 : (upd G2 q2 (.lst [.bl (b == 0), .bl (b == 1), .bl (b == 2), .bl (b == 3)])) q1 = some (.lst [.bl (b == 0), .bl (b == 1), .bl (b == 2), .bl (b == 3)]) := by rw [upd_ne n12]; exact s2 _ _ e1
    have f2 : (upd G2 q2 (.lst [.bl (b == 0), .bl (b == 1), .bl (b == 2), .bl (b == 3)])) q2 = some (.lst [.bl (b == 0), .bl (b == 1), .bl (b == 2), .bl (b == 3)]) := upd_same
    simp only [List.cons_append, List.nil_append]
    generalize (upd G2 q2 (.lst [.bl (b == 0), .bl (b == 1), .bl (b == 2), .bl (b == 3)])) = G3 at s3 f1 f2 ⊢
    have b4 := base_lt _ hn
    have fin := out G3 s3
    rcases (show b = 0 ∨ b = 1 ∨ b = 2 ∨ b = 3 by omega) with rfl | rfl | rfl | rfl
    all_goals
      refine ⟨_, rfl, _, rfl, .list [.bool _, .bool _, .bool _, .bool _], .list [.bool _, .bool _, .bool _, .bool _], .lst (SqL.of f1) (.cons (.bl _) (.cons (.bl _) (.cons (.bl _) (.cons (.bl _) .nil)))), .lst (SqL.of f2) (.cons (.bl _) (.cons (.bl _) (.cons (.bl _) (.cons (.bl _) .nil)))), rfl, rfl, by decide, ?_⟩
      refine ⟨_, rfl, iteP (by decide +kernel) ?_⟩
      refine ⟨_, rfl, .inl ⟨rfl, _, SqL.of f1⟩, q1, _, _, rfl, rfl, SqL.of f1, rfl, rfl, rfl, _, rfl, iteP (by decide +kernel) ?_⟩
      refine ⟨_, rfl, .inl ⟨rfl, _, SqL.of f1⟩, ?_⟩
      first
      | exact ⟨q1, _, _, 0, _, rfl, rfl, SqL.of f1, rfl, rfl, rfl, by decide, fun m z h e => absurd h (by omega), fin⟩
      | exact ⟨q1, _, _, 1, _, rfl, rfl, SqL.of f1, rfl, rfl, rfl, by decide, fun m z h e => by
          obtain rfl : m = 0 := by omega
          cases e
          rfl, fin⟩
      | exact ⟨q1, _, _, 2, _, rfl, rfl, SqL.of f1, rfl, rfl, rfl, by decide, fun m z h e => by
          rcases (show m = 0 ∨ m = 1 by omega) with rfl | rfl <;> cases e <;> rfl, fin⟩
      | exact ⟨q1, _, _, 3, _, rfl, rfl, SqL.of f1, rfl, rfl, rfl, by decide, fun m z h e => by
          rcases (show m = 0 ∨ m = 1 ∨ m = 2 by omega) with rfl | rfl | rfl <;> cases e <;> rfl, fin⟩
abbrev slFirst0 : Stmt := topS 57
abbrev slLast0 : Stmt := topS 58
abbrev slWords0 : Stmt := topS 59
/-- [word for word, so in pairs if so] -/
theorem lc_pick {K : PySem.W.Frag} {l D : Addr} {as : List Addr} {ps : List (Str × Bool)} {σ : L2.St} {H1 : Hp} {Qd : Hp → Prop} (hσ : σ.length = 4) (hD : H1 D = none) (el : H1 l = some (.lst (as.map V.ref))) (pr : PrT H1 as ps) (few : as.length ≤ 1000)
    (out : ∀ H', Same H1 H' → H' D = some (.lst ((ps.filter fun p => p.2).map fun p => V.str p.1)) → Qd H') :
    ∃ W : Nat → Nat → Hp → Prop, (∃ m, W 0 m (upd H1 D (.lst []))) ∧ ∀ j m H, W j m H →
      ((Itl K l).stop j H ∧ Qd H) ∨ ((Itl K l).go j H ∧ ∃ Nx : Hp → Prop, (∀ H', Nx H' → ∃ m', m' < m ∧ W (j + 1) m' H') ∧ ∀ x H', (Itl K l).yld j H x H' → gTup K 2 (gCons (gName 2) (gCons (gName 3) gNil)) x (wipe σ [2, 3]) H' fun σ2 H2 => wipe σ2 [2, 3] = wipe σ [2, 3] ∧ tB (tVar 3) σ2 H2 fun b H3 =>
        if b = true then tVar 2 σ2 H3 fun y H4 => ∃ acc, H4 D = some (.lst acc) ∧ acc.length < sizeLine ∧ Nx (upd H4 D (.lst (acc ++ [y]))) else Nx H3) := by
  refine lc_list (K := K) (a := l) (xs := as.map V.ref) (fun j H' => Same H1 H' ∧ H' D = some (.lst (((ps.take j).filter fun p => p.2).map fun p => V.str p.1))) ⟨same_new hD, upd_same⟩ (fun j H' _ h => SqL.of (h.1 _ _ el)) ?_ ?_
  · rintro j x H2 hx ⟨s2, hD2⟩
    rw [List.getElem?_map] at hx
    obtain ⟨q, hq, rfl⟩ : ∃ q, as[j]? = some q ∧ x = V.ref q := by
      cases e : as[j]? with
      | none => rw [e] at hx; cases hx
      | some q => rw [e] at hx; exact ⟨q, rfl, (Option.some.inj hx).symm⟩
    obtain ⟨p, hp, eq⟩ := pr.at hq
    have jl : j < as.length := (List.getElem?_eq_some_iff.mp hq).1
    match σ, hσ with
    | [x0, x1, x2, x3], _ =>
      refine ⟨q, _, rfl, SqT.of (s2 _ _ eq), rfl, _, _, rfl, _, _, rfl, rfl, rfl, _, rfl, _, rfl, ?_⟩
      obtain ⟨p1, p2⟩ := p
      cases p2 with
      | false =>
        refine ⟨s2, ?_⟩
        rw [hD2, List.take_succ, hp, List.filter_append]
        simp
      | true =>
        refine ⟨_, rfl, _, hD2, ?_, ?_, ?_⟩
        · rw [List.length_map]
          exact small1000 (Nat.le_trans (pick_len _ _ _) (by omega))
        · intro b o e
          rw [upd_ne (ne_of_none e hD)]
          exact s2 b o e
        · rw [upd_same, List.take_succ, hp, List.filter_append]
          simp
  · rintro H2 ⟨s2, hD2⟩
    rw [List.length_map, pr.len, List.take_length] at hD2
    exact out H2 s2 hD2
theorem nof_none {H H' : Hp} {q : Addr} (s : Same H H') (h : H' q = none) : H q = none := by
  cases e : H q with
  | none => rfl
  | some o =>
    rw [s _ _ e] at h
    cases h
theorem pick_map (n : Str) (l : List (Str × Nat)) : (((l.map fun p => (p.1, n == p.1)).filter fun p => p.2).map fun p => V.str p.1) = (l.filter fun p => n == p.1).map fun p => V.str p.1 := by
  induction l with
  | nil => rfl
  | cons p l ih =>
    rw [List.map_cons, List.filter_cons, List.filter_cons]
    cases e : n == p.1
    · exact ih
    · exact congrArg (V.str p.1 :: ·) ih
/-- the names among these that an error has -/
def spPick (l : List (Str × Nat)) : Sp := fun vs H Q _ => ∃ (a : Addr) (n : Str) (b : Nat) (fs : List (Str × V)), vs = [.ref a] ∧ (n, b) ∈ exP ∧ Er H a (Ea K n) fs ∧
  ∀ q H', H q = none → Same H H' → H' q = some (.lst ((l.filter fun p => n == p.1).map fun p => V.str p.1)) → Q (.ref q) H'
abbrev nFirst : List Str := ["_law_e", "_law_pairs", "_law_word", "_law_is_so"]
theorem scFirst : FnScope nFirst ["_law_e"] (defScope slFirst0) := ⟨rfl, rfl, rfl, by decide +kernel, rfl, by decide +kernel, by decide +kernel⟩
theorem ok_First {f : Addr} {fd : FuncData} (F : Fun K "_law_first_words" "_law_first_words" slFirst0 f fd) (B : Bl mg) (EK : ExK K mg): FnOk P w K mg base CX0 2 f fd ["_law_e"] (spPick (K := K) (exP.take 18)) := by
  refine F.ok scFirst (fun vs H Q E h => ?_) (fun cdv A outer s H vs Q E hr h => ?_)
  · obtain ⟨a, n, b, fs, rfl, _⟩ := h
    rfl
  · obtain ⟨a, n, b, fs, rfl, hn, hE, out⟩ := h
    have hu := hr.units
    have hu1 := hu_of hr
    refine ⟨_, (pss_cons (ps_set (i := 1) scFirst.nd rfl (Or.inl rfl) (pe_lst (pa_cons (pe_tup (pa_cons pe_str (pa_cons (pe_callB call_isEr (by rfl) B.isinstance (by decide +kernel) (pa_cons (pv 0) (pa_cons (pe_glob (v := .ref (Ea K "NoSize")) (by rfl) (EK.mgc _ (List.mem_of_getElem? (i := 0) rfl)) rfl) pa_nil))) pa_nil))) (pa_cons (pe_tup (pa_cons pe_str (pa_cons (pe_callB call_isEr (by rfl) B.isinstance (by decide +kernel) (pa_cons (pv 0) (pa_cons (pe_glob (v := .ref (Ea K "NoCell")) (by rfl) (EK.mgc _ (List.mem_of_getElem? (i := 1) rfl)) rfl) pa_nil))) pa_nil))) pa_nil))))
      (pss_cons (ps_set (i := 1) scFirst.nd rfl (Or.inl rfl) (pe_op op_cat (pv 1) (pe_lst (pa_cons (pe_tup (pa_cons pe_str (pa_cons (pe_callB call_isEr (by rfl) B.isinstance (by decide +kernel) (pa_cons (pv 0) (pa_cons (pe_glob (v := .ref (Ea K "NoCells")) (by rfl) (EK.mgc _ (List.mem_of_getElem? (i := 2) rfl)) rfl) pa_nil))) pa_nil))) (pa_cons (pe_tup (pa_cons pe_str (pa_cons (pe_callB call_isEr (by rfl) B.isinstance (by decide +kernel) (pa_cons (pv 0) (pa_cons (pe_glob (v := .ref (Ea K "NoFlip")) (by rfl) (EK.mgc _ (List.mem_of_getElem? (i := 3) rfl)) rfl) pa_nil))) pa_nil))) pa_nil)))))
      (pss_cons (ps_set (i := 1) scFirst.nd rfl (Or.inl rfl) (pe_op op_cat (pv 1) (pe_lst (pa_cons (pe_tup (pa_cons pe_str (pa_cons (pe_callB call_isEr (by rfl) B.isinstance (by decide +kernel) (pa_cons (pv 0) (pa_cons (pe_glob (v := .ref (Ea K "NoTable")) (by rfl) (EK.mgc _ (List.mem_of_getElem? (i := 4) rfl)) rfl) pa_nil))) pa_nil))) (pa_cons (pe_tup (pa_cons pe_str (pa_cons (pe_callB call_isEr (by rfl) B.isinstance (by decide +kernel) (pa_cons (pv 0) (pa_cons (pe_glob (v := .ref (Ea K "NoTime")) (by rfl) (EK.mgc _ (List.mem_of_getElem? (i := 5) rfl)) rfl) pa_nil))) pa_nil))) pa_nil)))))
      (pss_cons (ps_set (i := 1) scFirst.nd rfl (Or.inl rfl) (pe_op op_cat (pv 1) (pe_lst (pa_cons (pe_tup (pa_cons pe_str (pa_cons (pe_callB call_isEr (by rfl) B.isinstance (by decide +kernel) (pa_cons (pv 0) (pa_cons (pe_glob (v := .ref (Ea K "NoStamp")) (by rfl) (EK.mgc _ (List.mem_of_getElem? (i := 6) rfl)) rfl) pa_nil))) pa_nil))) (pa_cons (pe_tup (pa_cons pe_str (pa_cons (pe_callB call_isEr (by rfl) B.isinstance (by decide +kernel) (pa_cons (pv 0) (pa_cons (pe_glob (v := .ref (Ea K "NoCount")) (by rfl) (EK.mgc _ (List.mem_of_getElem? (i := 7) rfl)) rfl) pa_nil))) pa_nil))) pa_nil)))))
      (pss_cons (ps_set (i := 1) scFirst.nd rfl (Or.inl rfl) (pe_op op_cat (pv 1) (pe_lst (pa_cons (pe_tup (pa_cons pe_str (pa_cons (pe_callB call_isEr (by rfl) B.isinstance (by decide +kernel) (pa_cons (pv 0) (pa_cons (pe_glob (v := .ref (Ea K "NoProgram")) (by rfl) (EK.mgc _ (List.mem_of_getElem? (i := 8) rfl)) rfl) pa_nil))) pa_nil))) (pa_cons (pe_tup (pa_cons pe_str (pa_cons (pe_callB call_isEr (by rfl) B.isinstance (by decide +kernel) (pa_cons (pv 0) (pa_cons (pe_glob (v := .ref (Ea K "NoHands")) (by rfl) (EK.mgc _ (List.mem_of_getElem? (i := 9) rfl)) rfl) pa_nil))) pa_nil))) pa_nil)))))
      (pss_cons (ps_set (i := 1) scFirst.nd rfl (Or.inl rfl) (pe_op op_cat (pv 1) (pe_lst (pa_cons (pe_tup (pa_cons pe_str (pa_cons (pe_callB call_isEr (by rfl) B.isinstance (by decide +kernel) (pa_cons (pv 0) (pa_cons (pe_glob (v := .ref (Ea K "NoEntries")) (by rfl) (EK.mgc _ (List.mem_of_getElem? (i := 10) rfl)) rfl) pa_nil))) pa_nil))) (pa_cons (pe_tup (pa_cons pe_str (pa_cons (pe_callB call_isEr (by rfl) B.isinstance (by decide +kernel) (pa_cons (pv 0) (pa_cons (pe_glob (v := .ref (Ea K "NoName")) (by rfl) (EK.mgc _ (List.mem_of_getElem? (i := 11) rfl)) rfl) pa_nil))) pa_nil))) pa_nil)))))
      (pss_cons (ps_set (i := 1) scFirst.nd rfl (Or.inl rfl) (pe_op op_cat (pv 1) (pe_lst (pa_cons (pe_tup (pa_cons pe_str (pa_cons (pe_callB call_isEr (by rfl) B.isinstance (by decide +kernel) (pa_cons (pv 0) (pa_cons (pe_glob (v := .ref (Ea K "NoText")) (by rfl) (EK.mgc _ (List.mem_of_getElem? (i := 12) rfl)) rfl) pa_nil))) pa_nil))) (pa_cons (pe_tup (pa_cons pe_str (pa_cons (pe_callB call_isEr (by rfl) B.isinstance (by decide +kernel) (pa_cons (pv 0) (pa_cons (pe_glob (v := .ref (Ea K "NoCommand")) (by rfl) (EK.mgc _ (List.mem_of_getElem? (i := 13) rfl)) rfl) pa_nil))) pa_nil))) pa_nil)))))
      (pss_cons (ps_set (i := 1) scFirst.nd rfl (Or.inl rfl) (pe_op op_cat (pv 1) (pe_lst (pa_cons (pe_tup (pa_cons pe_str (pa_cons (pe_callB call_isEr (by rfl) B.isinstance (by decide +kernel) (pa_cons (pv 0) (pa_cons (pe_glob (v := .ref (Ea K "Halted")) (by rfl) (EK.mgc _ (List.mem_of_getElem? (i := 14) rfl)) rfl) pa_nil))) pa_nil))) (pa_cons (pe_tup (pa_cons pe_str (pa_cons (pe_callB call_isEr (by rfl) B.isinstance (by decide +kernel) (pa_cons (pv 0) (pa_cons (pe_glob (v := .ref (Ea K "NoEntry")) (by rfl) (EK.mgc _ (List.mem_of_getElem? (i := 15) rfl)) rfl) pa_nil))) pa_nil))) pa_nil)))))
      (pss_cons (ps_set (i := 1) scFirst.nd rfl (Or.inl rfl) (pe_op op_cat (pv 1) (pe_lst (pa_cons (pe_tup (pa_cons pe_str (pa_cons (pe_callB call_isEr (by rfl) B.isinstance (by decide +kernel) (pa_cons (pv 0) (pa_cons (pe_glob (v := .ref (Ea K "NoProcedure")) (by rfl) (EK.mgc _ (List.mem_of_getElem? (i := 16) rfl)) rfl) pa_nil))) pa_nil))) (pa_cons (pe_tup (pa_cons pe_str (pa_cons (pe_callB call_isEr (by rfl) B.isinstance (by decide +kernel) (pa_cons (pv 0) (pa_cons (pe_glob (v := .ref (Ea K "NoHand")) (by rfl) (EK.mgc _ (List.mem_of_getElem? (i := 17) rfl)) rfl) pa_nil))) pa_nil))) pa_nil)))))
      (pss_one (ps_ret (pe_lc (own := [("_law_word", 2), ("_law_is_so", 3)]) (g := gTup K 2 (gCons (gName 2) (gCons (gName 3) gNil))) (te := tVar 2) rfl scFirst.nd (pi_list (pv 1)) (blkOk_by (own := [("_law_word", 2), ("_law_is_so", 3)]) (N := nFirst) (sc := defScope slFirst0) (by decide +kernel)) (fun _ _ _ _ _ => (pg_tup rfl (pgs_cons (pg_name (i := 2) scFirst.nd rfl (Or.inl rfl)) (pgs_cons (pg_name (i := 3) scFirst.nd rfl (Or.inl rfl)) pgs_nil)))) (fun _ _ _ _ _ => by exact (pts_one (pt_val (pv 3)))) (fun _ _ _ _ _ => by exact (pv 2)))))))))))))), ?_⟩
    refine ⟨_, rfl, a, _, _, _, _, fs, rfl, hE, EK.xc _ hn, .own _, EK.kit _ hn _ (List.mem_of_getElem? (i := 0) rfl), ?_⟩
    refine ⟨(by show 2 ≤ sizeLine; decide), fun q1 hq1 => ?_⟩
    have s1 := same_new (o := .tup [.str "NoSize", .bl (n == "NoSize")]) hq1
    have e1 : (upd H q1 (.tup [.str "NoSize", .bl (n == "NoSize")])) q1 = some (.tup [.str "NoSize", .bl (n == "NoSize")]) := upd_same
    generalize (upd H q1 (.tup [.str "NoSize", .bl (n == "NoSize")])) = G1 at s1 e1 ⊢
    have u1 := s1
    refine ⟨_, rfl, a, _, _, _, _, fs, rfl, (hE.same u1), EK.xc _ hn, .own _, EK.kit _ hn _ (List.mem_of_getElem? (i := 1) rfl), ?_⟩
    refine ⟨(by show 2 ≤ sizeLine; decide), fun q2 hq2 => ?_⟩
    have s2 := same_new (o := .tup [.str "NoCell", .bl (n == "NoCell")]) hq2
    have e2 : (upd G1 q2 (.tup [.str "NoCell", .bl (n == "NoCell")])) q2 = some (.tup [.str "NoCell", .bl (n == "NoCell")]) := upd_same
    generalize (upd G1 q2 (.tup [.str "NoCell", .bl (n == "NoCell")])) = G2 at s2 e2 ⊢
    have u2 := u1.trans s2
    refine ⟨(by show 2 ≤ sizeLine; decide), fun q3 hq3 => ?_⟩
    have s3 := same_new (o := .lst [.ref q1, .ref q2]) hq3
    have e3 : (upd G2 q3 (.lst [.ref q1, .ref q2])) q3 = some (.lst [.ref q1, .ref q2]) := upd_same
    generalize (upd G2 q3 (.lst [.ref q1, .ref q2])) = G3 at s3 e3 ⊢
    have u3 := u2.trans s3
    refine ⟨_, rfl, ?_⟩
    refine ⟨_, rfl, a, _, _, _, _, fs, rfl, (hE.same u3), EK.xc _ hn, .own _, EK.kit _ hn _ (List.mem_of_getElem? (i := 2) rfl), ?_⟩
    refine ⟨(by show 2 ≤ sizeLine; decide), fun q4 hq4 => ?_⟩
    have s4 := same_new (o := .tup [.str "NoCells", .bl (n == "NoCells")]) hq4
    have e4 : (upd G3 q4 (.tup [.str "NoCells", .bl (n == "NoCells")])) q4 = some (.tup [.str "NoCells", .bl (n == "NoCells")]) := upd_same
    generalize (upd G3 q4 (.tup [.str "NoCells", .bl (n == "NoCells")])) = G4 at s4 e4 ⊢
    have u4 := u3.trans s4
    refine ⟨_, rfl, a, _, _, _, _, fs, rfl, (hE.same u4), EK.xc _ hn, .own _, EK.kit _ hn _ (List.mem_of_getElem? (i := 3) rfl), ?_⟩
    refine ⟨(by show 2 ≤ sizeLine; decide), fun q5 hq5 => ?_⟩
    have s5 := same_new (o := .tup [.str "NoFlip", .bl (n == "NoFlip")]) hq5
    have e5 : (upd G4 q5 (.tup [.str "NoFlip", .bl (n == "NoFlip")])) q5 = some (.tup [.str "NoFlip", .bl (n == "NoFlip")]) := upd_same
    generalize (upd G4 q5 (.tup [.str "NoFlip", .bl (n == "NoFlip")])) = G5 at s5 e5 ⊢
    have u5 := u4.trans s5
    refine ⟨(by show 2 ≤ sizeLine; decide), fun q6 hq6 => ?_⟩
    have s6 := same_new (o := .lst [.ref q4, .ref q5]) hq6
    have e6 : (upd G5 q6 (.lst [.ref q4, .ref q5])) q6 = some (.lst [.ref q4, .ref q5]) := upd_same
    generalize (upd G5 q6 (.lst [.ref q4, .ref q5])) = G6 at s6 e6 ⊢
    have u6 := u5.trans s6
    refine ⟨q3, q6, _, _, rfl, rfl, (((s4.trans s5).trans s6) _ _ e3), e6, (by show 2 + 2 ≤ sizeLine; decide), ?_⟩
    simp only [List.cons_append, List.nil_append]
    refine fun q7 hq7 => ?_
    have s7 := same_new (o := .lst [.ref q1, .ref q2, .ref q4, .ref q5]) hq7
    have e7 : (upd G6 q7 (.lst [.ref q1, .ref q2, .ref q4, .ref q5])) q7 = some (.lst [.ref q1, .ref q2, .ref q4, .ref q5]) := upd_same
    generalize (upd G6 q7 (.lst [.ref q1, .ref q2, .ref q4, .ref q5])) = G7 at s7 e7 ⊢
    have u7 := u6.trans s7
    refine ⟨_, rfl, ?_⟩
    refine ⟨_, rfl, a, _, _, _, _, fs, rfl, (hE.same u7), EK.xc _ hn, .own _, EK.kit _ hn _ (List.mem_of_getElem? (i := 4) rfl), ?_⟩
    refine ⟨(by show 2 ≤ sizeLine; decide), fun q8 hq8 => ?_⟩
    have s8 := same_new (o := .tup [.str "NoTable", .bl (n == "NoTable")]) hq8
    have e8 : (upd G7 q8 (.tup [.str "NoTable", .bl (n == "NoTable")])) q8 = some (.tup [.str "NoTable", .bl (n == "NoTable")]) := upd_same
    generalize (upd G7 q8 (.tup [.str "NoTable", .bl (n == "NoTable")])) = G8 at s8 e8 ⊢
    have u8 := u7.trans s8
    refine ⟨_, rfl, a, _, _, _, _, fs, rfl, (hE.same u8), EK.xc _ hn, .own _, EK.kit _ hn _ (List.mem_of_getElem? (i := 5) rfl), ?_⟩
    refine ⟨(by show 2 ≤ sizeLine; decide), fun q9 hq9 => ?_⟩
    have s9 := same_new (o := .tup [.str "NoTime", .bl (n == "NoTime")]) hq9
    have e9 : (upd G8 q9 (.tup [.str "NoTime", .bl (n == "NoTime")])) q9 = some (.tup [.str "NoTime", .bl (n == "NoTime")]) := upd_same
    generalize (upd G8 q9 (.tup [.str "NoTime", .bl (n == "NoTime")])) = G9 at s9 e9 ⊢
    have u9 := u8.trans s9
    refine ⟨(by show 2 ≤ sizeLine; decide), fun q10 hq10 => ?_⟩
    have s10 := same_new (o := .lst [.ref q8, .ref q9]) hq10
    have e10 : (upd G9 q10 (.lst [.ref q8, .ref q9])) q10 = some (.lst [.ref q8, .ref q9]) := upd_same
    generalize (upd G9 q10 (.lst [.ref q8, .ref q9])) = G10 at s10 e10 ⊢
    have u10 := u9.trans s10
    refine ⟨q7, q10, _, _, rfl, rfl, (((s8.trans s9).trans s10) _ _ e7), e10, (by show 4 + 2 ≤ sizeLine; decide), ?_⟩
    simp only [List.cons_append, List.nil_append]
    refine fun q11 hq11 => ?_
    have s11 := same_new (o := .lst [.ref q1, .ref q2, .ref q4, .ref q5, .ref q8, .ref q9]) hq11
    have e11 : (upd G10 q11 (.lst [.ref q1, .ref q2, .ref q4, .ref q5, .ref q8, .ref q9])) q11 = some (.lst [.ref q1, .ref q2, .ref q4, .ref q5, .ref q8, .ref q9]) := upd_same
    generalize (upd G10 q11 (.lst [.ref q1, .ref q2, .ref q4, .ref q5, .ref q8, .ref q9])) = G11 at s11 e11 ⊢
    have u11 := u10.trans s11
    refine ⟨_, rfl, ?_⟩
    refine ⟨_, rfl, a, _, _, _, _, fs, rfl, (hE.same u11), EK.xc _ hn, .own _, EK.kit _ hn _ (List.mem_of_getElem? (i := 6) rfl), ?_⟩
    refine ⟨(by show 2 ≤ sizeLine; decide), fun q12 hq12 => ?_⟩
    have s12 := same_new (o := .tup [.str "NoStamp", .bl (n == "NoStamp")]) hq12
    have e12 : (upd G11 q12 (.tup [.str "NoStamp", .bl (n == "NoStamp")])) q12 = some (.tup [.str "NoStamp", .bl (n == "NoStamp")]) := upd_same
    generalize (upd G11 q12 (.tup [.str "NoStamp", .bl (n == "NoStamp")])) = G12 at s12 e12 ⊢
    have u12 := u11.trans s12
    refine ⟨_, rfl, a, _, _, _, _, fs, rfl, (hE.same u12), EK.xc _ hn, .own _, EK.kit _ hn _ (List.mem_of_getElem? (i := 7) rfl), ?_⟩
    refine ⟨(by show 2 ≤ sizeLine; decide), fun q13 hq13 => ?_⟩
    have s13 := same_new (o := .tup [.str "NoCount", .bl (n == "NoCount")]) hq13
    have e13 : (upd G12 q13 (.tup [.str "NoCount", .bl (n == "NoCount")])) q13 = some (.tup [.str "NoCount", .bl (n == "NoCount")]) := upd_same
    generalize (upd G12 q13 (.tup [.str "NoCount", .bl (n == "NoCount")])) = G13 at s13 e13 ⊢
    have u13 := u12.trans s13
    refine ⟨(by show 2 ≤ sizeLine; decide), fun q14 hq14 => ?_⟩
    have s14 := same_new (o := .lst [.ref q12, .ref q13]) hq14
    have e14 : (upd G13 q14 (.lst [.ref q12, .ref q13])) q14 = some (.lst [.ref q12, .ref q13]) := upd_same
    generalize (upd G13 q14 (.lst [.ref q12, .ref q13])) = G14 at s14 e14 ⊢
    have u14 := u13.trans s14
    refine ⟨q11, q14, _, _, rfl, rfl, (((s12.trans s13).trans s14) _ _ e11), e14, (by show 6 + 2 ≤ sizeLine; decide), ?_⟩
    simp only [List.cons_append, List.nil_append]
    refine fun q15 hq15 => ?_
    have s15 := same_new (o := .lst [.ref q1, .ref q2, .ref q4, .ref q5, .ref q8, .ref q9, .ref q12, .ref q13]) hq15
    have e15 : (upd G14 q15 (.lst [.ref q1, .ref q2, .ref q4, .ref q5, .ref q8, .ref q9, .ref q12, .ref q13])) q15 = some (.lst [.ref q1, .ref q2, .ref q4, .ref q5, .ref q8, .ref q9, .ref q12, .ref q13]) := upd_same
    generalize (upd G14 q15 (.lst [.ref q1, .ref q2, .ref q4, .ref q5, .ref q8, .ref q9, .ref q12, .ref q13])) = G15 at s15 e15 ⊢
    have u15 := u14.trans s15
    refine ⟨_, rfl, ?_⟩
    refine ⟨_, rfl, a, _, _, _, _, fs, rfl, (hE.same u15), EK.xc _ hn, .own _, EK.kit _ hn _ (List.mem_of_getElem? (i := 8) rfl), ?_⟩
    refine ⟨(by show 2 ≤ sizeLine; decide), fun q16 hq16 => ?_⟩
    have s16 := same_new (o := .tup [.str "NoProgram", .bl (n == "NoProgram")]) hq16
    have e16 : (upd G15 q16 (.tup [.str "NoProgram", .bl (n == "NoProgram")])) q16 = some (.tup [.str "NoProgram", .bl (n == "NoProgram")]) := upd_same
    generalize (upd G15 q16 (.tup [.str "NoProgram", .bl (n == "NoProgram")])) = G16 at s16 e16 ⊢
    have u16 := u15.trans s16
    refine ⟨_, rfl, a, _, _, _, _, fs, rfl, (hE.same u16), EK.xc _ hn, .own _, EK.kit _ hn _ (List.mem_of_getElem? (i := 9) rfl), ?_⟩
    refine ⟨(by show 2 ≤ sizeLine; decide), fun q17 hq17 => ?_⟩
    have s17 := same_new (o := .tup [.str "NoHands", .bl (n == "NoHands")]) hq17
    have e17 : (upd G16 q17 (.tup [.str "NoHands", .bl (n == "NoHands")])) q17 = some (.tup [.str "NoHands", .bl (n == "NoHands")]) := upd_same
    generalize (upd G16 q17 (.tup [.str "NoHands", .bl (n == "NoHands")])) = G17 at s17 e17 ⊢
    have u17 := u16.trans s17
    refine ⟨(by show 2 ≤ sizeLine; decide), fun q18 hq18 => ?_⟩
    have s18 := same_new (o := .lst [.ref q16, .ref q17]) hq18
    have e18 : (upd G17 q18 (.lst [.ref q16, .ref q17])) q18 = some (.lst [.ref q16, .ref q17]) := upd_same
    generalize (upd G17 q18 (.lst [.ref q16, .ref q17])) = G18 at s18 e18 ⊢
    have u18 := u17.trans s18
    refine ⟨q15, q18, _, _, rfl, rfl, (((s16.trans s17).trans s18) _ _ e15), e18, (by show 8 + 2 ≤ sizeLine; decide), ?_⟩
    simp only [List.cons_append, List.nil_append]
    refine fun q19 hq19 => ?_
    have s19 := same_new (o := .lst [.ref q1, .ref q2, .ref q4, .ref q5, .ref q8, .ref q9, .ref q12, .ref q13, .ref q16, .ref q17]) hq19
    have e19 : (upd G18 q19 (.lst [.ref q1, .ref q2, .ref q4, .ref q5, .ref q8, .ref q9, .ref q12, .ref q13, .ref q16, .ref q17])) q19 = some (.lst [.ref q1, .ref q2, .ref q4, .ref q5, .ref q8, .ref q9, .ref q12, .ref q13, .ref q16, .ref q17]) := upd_same
    generalize (upd G18 q19 (.lst [.ref q1, .ref q2, .ref q4, .ref q5, .ref q8, .ref q9, .ref q12, .ref q13, .ref q16, .ref q17])) = G19 at s19 e19 ⊢
    have u19 := u18.trans s19
    refine ⟨_, rfl, ?_⟩
    refine ⟨_, rfl, a, _, _, _, _, fs, rfl, (hE.same u19), EK.xc _ hn, .own _, EK.kit _ hn _ (List.mem_of_getElem? (i := 10) rfl), ?_⟩
    refine ⟨(by show 2 ≤ sizeLine; decide), fun q20 hq20 => ?_⟩
    have s20 := same_new (o := .tup [.str "NoEntries", .bl (n == "NoEntries")]) hq20
    have e20 : (upd G19 q20 (.tup [.str "NoEntries", .bl (n == "NoEntries")])) q20 = some (.tup [.str "NoEntries", .bl (n == "NoEntries")]) := upd_same
    generalize (upd G19 q20 (.tup [.str "NoEntries", .bl (n == "NoEntries")])) = G20 at s20 e20 ⊢
    have u20 := u19.trans s20
    refine ⟨_, rfl, a, _, _, _, _, fs, rfl, (hE.same u20), EK.xc _ hn, .own _, EK.kit _ hn _ (List.mem_of_getElem? (i := 11) rfl), ?_⟩
    refine ⟨(by show 2 ≤ sizeLine; decide), fun q21 hq21 => ?_⟩
    have s21 := same_new (o := .tup [.str "NoName", .bl (n == "NoName")]) hq21
    have e21 : (upd G20 q21 (.tup [.str "NoName", .bl (n == "NoName")])) q21 = some (.tup [.str "NoName", .bl (n == "NoName")]) := upd_same
    generalize (upd G20 q21 (.tup [.str "NoName", .bl (n == "NoName")])) = G21 at s21 e21 ⊢
    have u21 := u20.trans s21
    refine ⟨(by show 2 ≤ sizeLine; decide), fun q22 hq22 => ?_⟩
    have s22 := same_new (o := .lst [.ref q20, .ref q21]) hq22
    have e22 : (upd G21 q22 (.lst [.ref q20, .ref q21])) q22 = some (.lst [.ref q20, .ref q21]) := upd_same
    generalize (upd G21 q22 (.lst [.ref q20, .ref q21])) = G22 at s22 e22 ⊢
    have u22 := u21.trans s22
    refine ⟨q19, q22, _, _, rfl, rfl, (((s20.trans s21).trans s22) _ _ e19), e22, (by show 10 + 2 ≤ sizeLine; decide), ?_⟩
    simp only [List.cons_append, List.nil_append]
    refine fun q23 hq23 => ?_
    have s23 := same_new (o := .lst [.ref q1, .ref q2, .ref q4, .ref q5, .ref q8, .ref q9, .ref q12, .ref q13, .ref q16, .ref q17, .ref q20, .ref q21]) hq23
    have e23 : (upd G22 q23 (.lst [.ref q1, .ref q2, .ref q4, .ref q5, .ref q8, .ref q9, .ref q12, .ref q13, .ref q16, .ref q17, .ref q20, .ref q21])) q23 = some (.lst [.ref q1, .ref q2, .ref q4, .ref q5, .ref q8, .ref q9, .ref q12, .ref q13, .ref q16, .ref q17, .ref q20, .ref q21]) := upd_same
    generalize (upd G22 q23 (.lst [.ref q1, .ref q2, .ref q4, .ref q5, .ref q8, .ref q9, .ref q12, .ref q13, .ref q16, .ref q17, .ref q20, .ref q21])) = G23 at s23 e23 ⊢
    have u23 := u22.trans s23
    refine ⟨_, rfl, ?_⟩
    refine ⟨_, rfl, a, _, _, _, _, fs, rfl, (hE.same u23), EK.xc _ hn, .own _, EK.kit _ hn _ (List.mem_of_getElem? (i := 12) rfl), ?_⟩
    refine ⟨(by show 2 ≤ sizeLine; decide), fun q24 hq24 => ?_⟩
    have s24 := same_new (o := .tup [.str "NoText", .bl (n == "NoText")]) hq24
    have e24 : (upd G23 q24 (.tup [.str "NoText", .bl (n == "NoText")])) q24 = some (.tup [.str "NoText", .bl (n == "NoText")]) := upd_same
    generalize (upd G23 q24 (.tup [.str "NoText", .bl (n == "NoText")])) = G24 at s24 e24 ⊢
    have u24 := u23.trans s24
    refine ⟨_, rfl, a, _, _, _, _, fs, rfl, (hE.same u24), EK.xc _ hn, .own _, EK.kit _ hn _ (List.mem_of_getElem? (i := 13) rfl), ?_⟩
    refine ⟨(by show 2 ≤ sizeLine; decide), fun q25 hq25 => ?_⟩
    have s25 := same_new (o := .tup [.str "NoCommand", .bl (n == "NoCommand")]) hq25
    have e25 : (upd G24 q25 (.tup [.str "NoCommand", .bl (n == "NoCommand")])) q25 = some (.tup [.str "NoCommand", .bl (n == "NoCommand")]) := upd_same
    generalize (upd G24 q25 (.tup [.str "NoCommand", .bl (n == "NoCommand")])) = G25 at s25 e25 ⊢
    have u25 := u24.trans s25
    refine ⟨(by show 2 ≤ sizeLine; decide), fun q26 hq26 => ?_⟩
    have s26 := same_new (o := .lst [.ref q24, .ref q25]) hq26
    have e26 : (upd G25 q26 (.lst [.ref q24, .ref q25])) q26 = some (.lst [.ref q24, .ref q25]) := upd_same
    generalize (upd G25 q26 (.lst [.ref q24, .ref q25])) = G26 at s26 e26 ⊢
    have u26 := u25.trans s26
    refine ⟨q23, q26, _, _, rfl, rfl, (((s24.trans s25).trans s26) _ _ e23), e26, (by show 12 + 2 ≤ sizeLine; decide), ?_⟩
    simp only [List.cons_append, List.nil_append]
    refine fun q27 hq27 => ?_
    have s27 := same_new (o := .lst [.ref q1, .ref q2, .ref q4, .ref q5, .ref q8, .ref q9, .ref q12, .ref q13, .ref q16, .ref q17, .ref q20, .ref q21, .ref q24, .ref q25]) hq27
    have e27 : (upd G26 q27 (.lst [.ref q1, .ref q2, .ref q4, .ref q5, .ref q8, .ref q9, .ref q12, .ref q13, .ref q16, .ref q17, .ref q20, .ref q21, .ref q24, .ref q25])) q27 = some (.lst [.ref q1, .ref q2, .ref q4, .ref q5, .ref q8, .ref q9, .ref q12, .ref q13, .ref q16, .ref q17, .ref q20, .ref q21, .ref q24, .ref q25]) := upd_same
    generalize (upd G26 q27 (.lst [.ref q1, .ref q2, .ref q4, .ref q5, .ref q8, .ref q9, .ref q12, .ref q13, .ref q16, .ref q17, .ref q20, .ref q21, .ref q24, .ref q25])) = G27 at s27 e27 ⊢
    have u27 := u26.trans s27
    refine ⟨_, rfl, ?_⟩
    refine ⟨_, rfl, a, _, _, _, _, fs, rfl, (hE.same u27), EK.xc _ hn, .own _, EK.kit _ hn _ (List.mem_of_getElem? (i := 14) rfl), ?_⟩
    refine ⟨(by show 2 ≤ sizeLine; decide), fun q28 hq28 => ?_⟩
    have s28 := same_new (o := .tup [.str "Halted", .bl (n == "Halted")]) hq28
    have e28 : (upd G27 q28 (.tup [.str "Halted", .bl (n == "Halted")])) q28 = some (.tup [.str "Halted", .bl (n == "Halted")]) := upd_same
    generalize (upd G27 q28 (.tup [.str "Halted", .bl (n == "Halted")])) = G28 at s28 e28 ⊢
    have u28 := u27.trans s28
    refine ⟨_, rfl, a, _, _, _, _, fs, rfl, (hE.same u28), EK.xc _ hn, .own _, EK.kit _ hn _ (List.mem_of_getElem? (i := 15) rfl), ?_⟩
    refine ⟨(by show 2 ≤ sizeLine; decide), fun q29 hq29 => ?_⟩
    have s29 := same_new (o := .tup [.str "NoEntry", .bl (n == "NoEntry")]) hq29
    have e29 : (upd G28 q29 (.tup [.str "NoEntry", .bl (n == "NoEntry")])) q29 = some (.tup [.str "NoEntry", .bl (n == "NoEntry")]) := upd_same
    generalize (upd G28 q29 (.tup [.str "NoEntry", .bl (n == "NoEntry")])) = G29 at s29 e29 ⊢
    have u29 := u28.trans s29
    refine ⟨(by show 2 ≤ sizeLine; decide), fun q30 hq30 => ?_⟩
    have s30 := same_new (o := .lst [.ref q28, .ref q29]) hq30
    have e30 : (upd G29 q30 (.lst [.ref q28, .ref q29])) q30 = some (.lst [.ref q28, .ref q29]) := upd_same
    generalize (upd G29 q30 (.lst [.ref q28, .ref q29])) = G30 at s30 e30 ⊢
    have u30 := u29.trans s30
    refine ⟨q27, q30, _, _, rfl, rfl, (((s28.trans s29).trans s30) _ _ e27), e30, (by show 14 + 2 ≤ sizeLine; decide), ?_⟩
    simp only [List.cons_append, List.nil_append]
    refine fun q31 hq31 => ?_
    have s31 := same_new (o := .lst [.ref q1, .ref q2, .ref q4, .ref q5, .ref q8, .ref q9, .ref q12, .ref q13, .ref q16, .ref q17, .ref q20, .ref q21, .ref q24, .ref q25, .ref q28, .ref q29]) hq31
    have e31 : (upd G30 q31 (.lst [.ref q1, .ref q2, .ref q4, .ref q5, .ref q8, .ref q9, .ref q12, .ref q13, .ref q16, .ref q17, .ref q20, .ref q21, .ref q24, .ref q25, .ref q28, .ref q29])) q31 = some (.lst [.ref q1, .ref q2, .ref q4, .ref q5, .ref q8, .ref q9, .ref q12, .ref q13, .ref q16, .ref q17, .ref q20, .ref q21, .ref q24, .ref q25, .ref q28, .ref q29]) := upd_same
    generalize (upd G30 q31 (.lst [.ref q1, .ref q2, .ref q4, .ref q5, .ref q8, .ref q9, .ref q12, .ref q13, .ref q16, .ref q17, .ref q20, .ref q21, .ref q24, .ref q25, .ref q28, .ref q29])) = G31 at s31 e31 ⊢
    have u31 := u30.trans s31
    refine ⟨_, rfl, ?_⟩
    refine ⟨_, rfl, a, _, _, _, _, fs, rfl, (hE.same u31), EK.xc _ hn, .own _, EK.kit _ hn _ (List.mem_of_getElem? (i := 16) rfl), ?_⟩
    refine ⟨(by show 2 ≤ sizeLine; decide), fun q32 hq32 => ?_⟩
    have s32 := same_new (o := .tup [.str "NoProcedure", .bl (n == "NoProcedure")]) hq32
    have e32 : (upd G31 q32 (.tup [.str "NoProcedure", .bl (n == "NoProcedure")])) q32 = some (.tup [.str "NoProcedure", .bl (n == "NoProcedure")]) := upd_same
    generalize (upd G31 q32 (.tup [.str "NoProcedure", .bl (n == "NoProcedure")])) = G32 at s32 e32 ⊢
    have u32 := u31.trans s32
    refine ⟨_, rfl, a, _, _, _, _, fs, rfl, (hE.same u32), EK.xc _ hn, .own _, EK.kit _ hn _ (List.mem_of_getElem? (i := 17) rfl), ?_⟩
    refine ⟨(by show 2 ≤ sizeLine; decide), fun q33 hq33 => ?_⟩
    have s33 := same_new (o := .tup [.str "NoHand", .bl (n == "NoHand")]) hq33
    have e33 : (upd G32 q33 (.tup [.str "NoHand", .bl (n == "NoHand")])) q33 = some (.tup [.str "NoHand", .bl (n == "NoHand")]) := upd_same
    generalize (upd G32 q33 (.tup [.str "NoHand", .bl (n == "NoHand")])) = G33 at s33 e33 ⊢
    have u33 := u32.trans s33
    refine ⟨(by show 2 ≤ sizeLine; decide), fun q34 hq34 => ?_⟩
    have s34 := same_new (o := .lst [.ref q32, .ref q33]) hq34
    have e34 : (upd G33 q34 (.lst [.ref q32, .ref q33])) q34 = some (.lst [.ref q32, .ref q33]) := upd_same
    generalize (upd G33 q34 (.lst [.ref q32, .ref q33])) = G34 at s34 e34 ⊢
    have u34 := u33.trans s34
    refine ⟨q31, q34, _, _, rfl, rfl, (((s32.trans s33).trans s34) _ _ e31), e34, (by show 16 + 2 ≤ sizeLine; decide), ?_⟩
    simp only [List.cons_append, List.nil_append]
    refine fun q35 hq35 => ?_
    have s35 := same_new (o := .lst [.ref q1, .ref q2, .ref q4, .ref q5, .ref q8, .ref q9, .ref q12, .ref q13, .ref q16, .ref q17, .ref q20, .ref q21, .ref q24, .ref q25, .ref q28, .ref q29, .ref q32, .ref q33]) hq35
    have e35 : (upd G34 q35 (.lst [.ref q1, .ref q2, .ref q4, .ref q5, .ref q8, .ref q9, .ref q12, .ref q13, .ref q16, .ref q17, .ref q20, .ref q21, .ref q24, .ref q25, .ref q28, .ref q29, .ref q32, .ref q33])) q35 = some (.lst [.ref q1, .ref q2, .ref q4, .ref q5, .ref q8, .ref q9, .ref q12, .ref q13, .ref q16, .ref q17, .ref q20, .ref q21, .ref q24, .ref q25, .ref q28, .ref q29, .ref q32, .ref q33]) := upd_same
    generalize (upd G34 q35 (.lst [.ref q1, .ref q2, .ref q4, .ref q5, .ref q8, .ref q9, .ref q12, .ref q13, .ref q16, .ref q17, .ref q20, .ref q21, .ref q24, .ref q25, .ref q28, .ref q29, .ref q32, .ref q33])) = G35 at s35 e35 ⊢
    have u35 := u34.trans s35
    have t35 := Same.refl G35
    have t34 := s35.trans t35
    have t33 := s34.trans t34
    have t32 := s33.trans t33
    have t31 := s32.trans t32
    have t30 := s31.trans t31
    have t29 := s30.trans t30
    have t28 := s29.trans t29
    have t27 := s28.trans t28
    have t26 := s27.trans t27
    have t25 := s26.trans t26
    have t24 := s25.trans t25
    have t23 := s24.trans t24
    have t22 := s23.trans t23
    have t21 := s22.trans t22
    have t20 := s21.trans t21
    have t19 := s20.trans t20
    have t18 := s19.trans t19
    have t17 := s18.trans t18
    have t16 := s17.trans t17
    have t15 := s16.trans t16
    have t14 := s15.trans t15
    have t13 := s14.trans t14
    have t12 := s13.trans t13
    have t11 := s12.trans t12
    have t10 := s11.trans t11
    have t9 := s10.trans t10
    have t8 := s9.trans t9
    have t7 := s8.trans t8
    have t6 := s7.trans t7
    have t5 := s6.trans t6
    have t4 := s5.trans t5
    have t3 := s4.trans t4
    have t2 := s3.trans t3
    have t1 := s2.trans t2
    have f1 : G35 q1 = some (.tup [.str "NoSize", .bl (n == "NoSize")]) := t1 _ _ e1
    have f2 : G35 q2 = some (.tup [.str "NoCell", .bl (n == "NoCell")]) := t2 _ _ e2
    have f3 : G35 q3 = some (.lst [.ref q1, .ref q2]) := t3 _ _ e3
    have f4 : G35 q4 = some (.tup [.str "NoCells", .bl (n == "NoCells")]) := t4 _ _ e4
    have f5 : G35 q5 = some (.tup [.str "NoFlip", .bl (n == "NoFlip")]) := t5 _ _ e5
    have f6 : G35 q6 = some (.lst [.ref q4, .ref q5]) := t6 _ _ e6
    have f7 : G35 q7 = some (.lst [.ref q1, .ref q2, .ref q4, .ref q5]) := t7 _ _ e7
    have f8 : G35 q8 = some (.tup [.str "NoTable", .bl (n == "NoTable")]) := t8 _ _ e8
    have f9 : G35 q9 = some (.tup [.str "NoTime", .bl (n == "NoTime")]) := t9 _ _ e9
    have f10 : G35 q10 = some (.lst [.ref q8, .ref q9]) := t10 _ _ e10
    have f11 : G35 q11 = some (.lst [.ref q1, .ref q2, .ref q4, .ref q5, .ref q8, .ref q9]) := t11 _ _ e11
    have f12 : G35 q12 = some (.tup [.str "NoStamp", .bl (n == "NoStamp")]) := t12 _ _ e12
    have f13 : G35 q13 = some (.tup [.str "NoCount", .bl (n == "NoCount")]) := t13 _ _ e13
    have f14 : G35 q14 = some (.lst [.ref q12, .ref q13]) := t14 _ _ e14
    have f15 : G35 q15 = some (.lst [.ref q1, .ref q2, .ref q4, .ref q5, .ref q8, .ref q9, .ref q12, .ref q13]) := t15 _ _ e15
    have f16 : G35 q16 = some (.tup [.str "NoProgram", .bl (n == "NoProgram")]) := t16 _ _ e16
    have f17 : G35 q17 = some (.tup [.str "NoHands", .bl (n == "NoHands")]) := t17 _ _ e17
    have f18 : G35 q18 = some (.lst [.ref q16, .ref q17]) := t18 _ _ e18
    have f19 : G35 q19 = some (.lst [.ref q1, .ref q2, .ref q4, .ref q5, .ref q8, .ref q9, .ref q12, .ref q13, .ref q16, .ref q17]) := t19 _ _ e19
    have f20 : G35 q20 = some (.tup [.str "NoEntries", .bl (n == "NoEntries")]) := t20 _ _ e20
    have f21 : G35 q21 = some (.tup [.str "NoName", .bl (n == "NoName")]) := t21 _ _ e21
    have f22 : G35 q22 = some (.lst [.ref q20, .ref q21]) := t22 _ _ e22
    have f23 : G35 q23 = some (.lst [.ref q1, .ref q2, .ref q4, .ref q5, .ref q8, .ref q9, .ref q12, .ref q13, .ref q16, .ref q17, .ref q20, .ref q21]) := t23 _ _ e23
    have f24 : G35 q24 = some (.tup [.str "NoText", .bl (n == "NoText")]) := t24 _ _ e24
    have f25 : G35 q25 = some (.tup [.str "NoCommand", .bl (n == "NoCommand")]) := t25 _ _ e25
    have f26 : G35 q26 = some (.lst [.ref q24, .ref q25]) := t26 _ _ e26
    have f27 : G35 q27 = some (.lst [.ref q1, .ref q2, .ref q4, .ref q5, .ref q8, .ref q9, .ref q12, .ref q13, .ref q16, .ref q17, .ref q20, .ref q21, .ref q24, .ref q25]) := t27 _ _ e27
    have f28 : G35 q28 = some (.tup [.str "Halted", .bl (n == "Halted")]) := t28 _ _ e28
    have f29 : G35 q29 = some (.tup [.str "NoEntry", .bl (n == "NoEntry")]) := t29 _ _ e29
    have f30 : G35 q30 = some (.lst [.ref q28, .ref q29]) := t30 _ _ e30
    have f31 : G35 q31 = some (.lst [.ref q1, .ref q2, .ref q4, .ref q5, .ref q8, .ref q9, .ref q12, .ref q13, .ref q16, .ref q17, .ref q20, .ref q21, .ref q24, .ref q25, .ref q28, .ref q29]) := t31 _ _ e31
    have f32 : G35 q32 = some (.tup [.str "NoProcedure", .bl (n == "NoProcedure")]) := t32 _ _ e32
    have f33 : G35 q33 = some (.tup [.str "NoHand", .bl (n == "NoHand")]) := t33 _ _ e33
    have f34 : G35 q34 = some (.lst [.ref q32, .ref q33]) := t34 _ _ e34
    have f35 : G35 q35 = some (.lst [.ref q1, .ref q2, .ref q4, .ref q5, .ref q8, .ref q9, .ref q12, .ref q13, .ref q16, .ref q17, .ref q20, .ref q21, .ref q24, .ref q25, .ref q28, .ref q29, .ref q32, .ref q33]) := t35 _ _ e35
    have pr : PrT G35 [q1, q2, q4, q5, q8, q9, q12, q13, q16, q17, q20, q21, q24, q25, q28, q29, q32, q33] ((exP.take 18).map fun p => (p.1, n == p.1)) := ⟨f1, f2, f4, f5, f8, f9, f12, f13, f16, f17, f20, f21, f24, f25, f28, f29, f32, f33, True.intro⟩
    refine ⟨_, rfl, q35, rfl, ⟨_, SqL.of f35⟩, fun D hD => ?_⟩
    refine lc_pick (as := [q1, q2, q4, q5, q8, q9, q12, q13, q16, q17, q20, q21, q24, q25, q28, q29, q32, q33]) (ps := (exP.take 18).map fun p => (p.1, n == p.1)) rfl hD f35 pr (by show 18 ≤ 1000; decide) (fun H2 s2 hD2 => ?_)
    rw [pick_map] at hD2
    exact out D H2 (nof_none u35 hD) (u35.trans s2) hD2
abbrev nLast : List Str := ["_law_e", "_law_pairs", "_law_word", "_law_is_so"]
theorem scLast : FnScope nLast ["_law_e"] (defScope slLast0) := ⟨rfl, rfl, rfl, by decide +kernel, rfl, by decide +kernel, by decide +kernel⟩
theorem ok_Last {f : Addr} {fd : FuncData} (F : Fun K "_law_last_words" "_law_last_words" slLast0 f fd) (B : Bl mg) (EK : ExK K mg): FnOk P w K mg base CX0 2 f fd ["_law_e"] (spPick (K := K) (exP.drop 18)) := by
  refine F.ok scLast (fun vs H Q E h => ?_) (fun cdv A outer s H vs Q E hr h => ?_)
  · obtain ⟨a, n, b, fs, rfl, _⟩ := h
    rfl
  · obtain ⟨a, n, b, fs, rfl, hn, hE, out⟩ := h
    have hu := hr.units
    have hu1 := hu_of hr
    refine ⟨_, (pss_cons (ps_set (i := 1) scLast.nd rfl (Or.inl rfl) (pe_lst (pa_cons (pe_tup (pa_cons pe_str (pa_cons (pe_callB call_isEr (by rfl) B.isinstance (by decide +kernel) (pa_cons (pv 0) (pa_cons (pe_glob (v := .ref (Ea K "NoHistory")) (by rfl) (EK.mgc _ (List.mem_of_getElem? (i := 18) rfl)) rfl) pa_nil))) pa_nil))) (pa_cons (pe_tup (pa_cons pe_str (pa_cons (pe_callB call_isEr (by rfl) B.isinstance (by decide +kernel) (pa_cons (pv 0) (pa_cons (pe_glob (v := .ref (Ea K "Taken")) (by rfl) (EK.mgc _ (List.mem_of_getElem? (i := 19) rfl)) rfl) pa_nil))) pa_nil))) pa_nil))))
      (pss_cons (ps_set (i := 1) scLast.nd rfl (Or.inl rfl) (pe_op op_cat (pv 1) (pe_lst (pa_cons (pe_tup (pa_cons pe_str (pa_cons (pe_callB call_isEr (by rfl) B.isinstance (by decide +kernel) (pa_cons (pv 0) (pa_cons (pe_glob (v := .ref (Ea K "Standing")) (by rfl) (EK.mgc _ (List.mem_of_getElem? (i := 20) rfl)) rfl) pa_nil))) pa_nil))) (pa_cons (pe_tup (pa_cons pe_str (pa_cons (pe_callB call_isEr (by rfl) B.isinstance (by decide +kernel) (pa_cons (pv 0) (pa_cons (pe_glob (v := .ref (Ea K "Removed")) (by rfl) (EK.mgc _ (List.mem_of_getElem? (i := 21) rfl)) rfl) pa_nil))) pa_nil))) pa_nil)))))
      (pss_cons (ps_set (i := 1) scLast.nd rfl (Or.inl rfl) (pe_op op_cat (pv 1) (pe_lst (pa_cons (pe_tup (pa_cons pe_str (pa_cons (pe_callB call_isEr (by rfl) B.isinstance (by decide +kernel) (pa_cons (pv 0) (pa_cons (pe_glob (v := .ref (Ea K "Folded")) (by rfl) (EK.mgc _ (List.mem_of_getElem? (i := 22) rfl)) rfl) pa_nil))) pa_nil))) (pa_cons (pe_tup (pa_cons pe_str (pa_cons (pe_callB call_isEr (by rfl) B.isinstance (by decide +kernel) (pa_cons (pv 0) (pa_cons (pe_glob (v := .ref (Ea K "Clash")) (by rfl) (EK.mgc _ (List.mem_of_getElem? (i := 23) rfl)) rfl) pa_nil))) pa_nil))) pa_nil)))))
      (pss_cons (ps_set (i := 1) scLast.nd rfl (Or.inl rfl) (pe_op op_cat (pv 1) (pe_lst (pa_cons (pe_tup (pa_cons pe_str (pa_cons (pe_callB call_isEr (by rfl) B.isinstance (by decide +kernel) (pa_cons (pv 0) (pa_cons (pe_glob (v := .ref (Ea K "NotOwn")) (by rfl) (EK.mgc _ (List.mem_of_getElem? (i := 24) rfl)) rfl) pa_nil))) pa_nil))) (pa_cons (pe_tup (pa_cons pe_str (pa_cons (pe_callB call_isEr (by rfl) B.isinstance (by decide +kernel) (pa_cons (pv 0) (pa_cons (pe_glob (v := .ref (Ea K "NotHeard")) (by rfl) (EK.mgc _ (List.mem_of_getElem? (i := 25) rfl)) rfl) pa_nil))) pa_nil))) pa_nil)))))
      (pss_cons (ps_set (i := 1) scLast.nd rfl (Or.inl rfl) (pe_op op_cat (pv 1) (pe_lst (pa_cons (pe_tup (pa_cons pe_str (pa_cons (pe_callB call_isEr (by rfl) B.isinstance (by decide +kernel) (pa_cons (pv 0) (pa_cons (pe_glob (v := .ref (Ea K "Behind")) (by rfl) (EK.mgc _ (List.mem_of_getElem? (i := 26) rfl)) rfl) pa_nil))) pa_nil))) (pa_cons (pe_tup (pa_cons pe_str (pa_cons (pe_callB call_isEr (by rfl) B.isinstance (by decide +kernel) (pa_cons (pv 0) (pa_cons (pe_glob (v := .ref (Ea K "Unchanged")) (by rfl) (EK.mgc _ (List.mem_of_getElem? (i := 27) rfl)) rfl) pa_nil))) pa_nil))) pa_nil)))))
      (pss_cons (ps_set (i := 1) scLast.nd rfl (Or.inl rfl) (pe_op op_cat (pv 1) (pe_lst (pa_cons (pe_tup (pa_cons pe_str (pa_cons (pe_callB call_isEr (by rfl) B.isinstance (by decide +kernel) (pa_cons (pv 0) (pa_cons (pe_glob (v := .ref (Ea K "Known")) (by rfl) (EK.mgc _ (List.mem_of_getElem? (i := 28) rfl)) rfl) pa_nil))) pa_nil))) (pa_cons (pe_tup (pa_cons pe_str (pa_cons (pe_callB call_isEr (by rfl) B.isinstance (by decide +kernel) (pa_cons (pv 0) (pa_cons (pe_glob (v := .ref (Ea K "Unknown")) (by rfl) (EK.mgc _ (List.mem_of_getElem? (i := 29) rfl)) rfl) pa_nil))) pa_nil))) pa_nil)))))
      (pss_cons (ps_set (i := 1) scLast.nd rfl (Or.inl rfl) (pe_op op_cat (pv 1) (pe_lst (pa_cons (pe_tup (pa_cons pe_str (pa_cons (pe_callB call_isEr (by rfl) B.isinstance (by decide +kernel) (pa_cons (pv 0) (pa_cons (pe_glob (v := .ref (Ea K "TooWide")) (by rfl) (EK.mgc _ (List.mem_of_getElem? (i := 30) rfl)) rfl) pa_nil))) pa_nil))) (pa_cons (pe_tup (pa_cons pe_str (pa_cons (pe_callB call_isEr (by rfl) B.isinstance (by decide +kernel) (pa_cons (pv 0) (pa_cons (pe_glob (v := .ref (Ea K "TooMany")) (by rfl) (EK.mgc _ (List.mem_of_getElem? (i := 31) rfl)) rfl) pa_nil))) pa_nil))) pa_nil)))))
      (pss_cons (ps_set (i := 1) scLast.nd rfl (Or.inl rfl) (pe_op op_cat (pv 1) (pe_lst (pa_cons (pe_tup (pa_cons pe_str (pa_cons (pe_callB call_isEr (by rfl) B.isinstance (by decide +kernel) (pa_cons (pv 0) (pa_cons (pe_glob (v := .ref (Ea K "Unlike")) (by rfl) (EK.mgc _ (List.mem_of_getElem? (i := 32) rfl)) rfl) pa_nil))) pa_nil))) pa_nil))))
      (pss_one (ps_ret (pe_lc (own := [("_law_word", 2), ("_law_is_so", 3)]) (g := gTup K 2 (gCons (gName 2) (gCons (gName 3) gNil))) (te := tVar 2) rfl scLast.nd (pi_list (pv 1)) (blkOk_by (own := [("_law_word", 2), ("_law_is_so", 3)]) (N := nLast) (sc := defScope slLast0) (by decide +kernel)) (fun _ _ _ _ _ => (pg_tup rfl (pgs_cons (pg_name (i := 2) scLast.nd rfl (Or.inl rfl)) (pgs_cons (pg_name (i := 3) scLast.nd rfl (Or.inl rfl)) pgs_nil)))) (fun _ _ _ _ _ => by exact (pts_one (pt_val (pv 3)))) (fun _ _ _ _ _ => by exact (pv 2))))))))))))), ?_⟩
    refine ⟨_, rfl, a, _, _, _, _, fs, rfl, hE, EK.xc _ hn, .own _, EK.kit _ hn _ (List.mem_of_getElem? (i := 18) rfl), ?_⟩
    refine ⟨(by show 2 ≤ sizeLine; decide), fun q1 hq1 => ?_⟩
    have s1 := same_new (o := .tup [.str "NoHistory", .bl (n == "NoHistory")]) hq1
    have e1 : (upd H q1 (.tup [.str "NoHistory", .bl (n == "NoHistory")])) q1 = some (.tup [.str "NoHistory", .bl (n == "NoHistory")]) := upd_same
    generalize (upd H q1 (.tup [.str "NoHistory", .bl (n == "NoHistory")])) = G1 at s1 e1 ⊢
    have u1 := s1
    refine ⟨_, rfl, a, _, _, _, _, fs, rfl, (hE.same u1), EK.xc _ hn, .own _, EK.kit _ hn _ (List.mem_of_getElem? (i := 19) rfl), ?_⟩
    refine ⟨(by show 2 ≤ sizeLine; decide), fun q2 hq2 => ?_⟩
    have s2 := same_new (o := .tup [.str "Taken", .bl (n == "Taken")]) hq2
    have e2 : (upd G1 q2 (.tup [.str "Taken", .bl (n == "Taken")])) q2 = some (.tup [.str "Taken", .bl (n == "Taken")]) := upd_same
    generalize (upd G1 q2 (.tup [.str "Taken", .bl (n == "Taken")])) = G2 at s2 e2 ⊢
    have u2 := u1.trans s2
    refine ⟨(by show 2 ≤ sizeLine; decide), fun q3 hq3 => ?_⟩
    have s3 := same_new (o := .lst [.ref q1, .ref q2]) hq3
    have e3 : (upd G2 q3 (.lst [.ref q1, .ref q2])) q3 = some (.lst [.ref q1, .ref q2]) := upd_same
    generalize (upd G2 q3 (.lst [.ref q1, .ref q2])) = G3 at s3 e3 ⊢
    have u3 := u2.trans s3
    refine ⟨_, rfl, ?_⟩
    refine ⟨_, rfl, a, _, _, _, _, fs, rfl, (hE.same u3), EK.xc _ hn, .own _, EK.kit _ hn _ (List.mem_of_getElem? (i := 20) rfl), ?_⟩
    refine ⟨(by show 2 ≤ sizeLine; decide), fun q4 hq4 => ?_⟩
    have s4 := same_new (o := .tup [.str "Standing", .bl (n == "Standing")]) hq4
    have e4 : (upd G3 q4 (.tup [.str "Standing", .bl (n == "Standing")])) q4 = some (.tup [.str "Standing", .bl (n == "Standing")]) := upd_same
    generalize (upd G3 q4 (.tup [.str "Standing", .bl (n == "Standing")])) = G4 at s4 e4 ⊢
    have u4 := u3.trans s4
    refine ⟨_, rfl, a, _, _, _, _, fs, rfl, (hE.same u4), EK.xc _ hn, .own _, EK.kit _ hn _ (List.mem_of_getElem? (i := 21) rfl), ?_⟩
    refine ⟨(by show 2 ≤ sizeLine; decide), fun q5 hq5 => ?_⟩
    have s5 := same_new (o := .tup [.str "Removed", .bl (n == "Removed")]) hq5
    have e5 : (upd G4 q5 (.tup [.str "Removed", .bl (n == "Removed")])) q5 = some (.tup [.str "Removed", .bl (n == "Removed")]) := upd_same
    generalize (upd G4 q5 (.tup [.str "Removed", .bl (n == "Removed")])) = G5 at s5 e5 ⊢
    have u5 := u4.trans s5
    refine ⟨(by show 2 ≤ sizeLine; decide), fun q6 hq6 => ?_⟩
    have s6 := same_new (o := .lst [.ref q4, .ref q5]) hq6
    have e6 : (upd G5 q6 (.lst [.ref q4, .ref q5])) q6 = some (.lst [.ref q4, .ref q5]) := upd_same
    generalize (upd G5 q6 (.lst [.ref q4, .ref q5])) = G6 at s6 e6 ⊢
    have u6 := u5.trans s6
    refine ⟨q3, q6, _, _, rfl, rfl, (((s4.trans s5).trans s6) _ _ e3), e6, (by show 2 + 2 ≤ sizeLine; decide), ?_⟩
    simp only [List.cons_append, List.nil_append]
    refine fun q7 hq7 => ?_
    have s7 := same_new (o := .lst [.ref q1, .ref q2, .ref q4, .ref q5]) hq7
    have e7 : (upd G6 q7 (.lst [.ref q1, .ref q2, .ref q4, .ref q5])) q7 = some (.lst [.ref q1, .ref q2, .ref q4, .ref q5]) := upd_same
    generalize (upd G6 q7 (.lst [.ref q1, .ref q2, .ref q4, .ref q5])) = G7 at s7 e7 ⊢
    have u7 := u6.trans s7
    refine ⟨_, rfl, ?_⟩
    refine ⟨_, rfl, a, _, _, _, _, fs, rfl, (hE.same u7), EK.xc _ hn, .own _, EK.kit _ hn _ (List.mem_of_getElem? (i := 22) rfl), ?_⟩
    refine ⟨(by show 2 ≤ sizeLine; decide), fun q8 hq8 => ?_⟩
    have s8 := same_new (o := .tup [.str "Folded", .bl (n == "Folded")]) hq8
    have e8 : (upd G7 q8 (.tup [.str "Folded", .bl (n == "Folded")])) q8 = some (.tup [.str "Folded", .bl (n == "Folded")]) := upd_same
    generalize (upd G7 q8 (.tup [.str "Folded", .bl (n == "Folded")])) = G8 at s8 e8 ⊢
    have u8 := u7.trans s8
    refine ⟨_, rfl, a, _, _, _, _, fs, rfl, (hE.same u8), EK.xc _ hn, .own _, EK.kit _ hn _ (List.mem_of_getElem? (i := 23) rfl), ?_⟩
    refine ⟨(by show 2 ≤ sizeLine; decide), fun q9 hq9 => ?_⟩
    have s9 := same_new (o := .tup [.str "Clash", .bl (n == "Clash")]) hq9
    have e9 : (upd G8 q9 (.tup [.str "Clash", .bl (n == "Clash")])) q9 = some (.tup [.str "Clash", .bl (n == "Clash")]) := upd_same
    generalize (upd G8 q9 (.tup [.str "Clash", .bl (n == "Clash")])) = G9 at s9 e9 ⊢
    have u9 := u8.trans s9
    refine ⟨(by show 2 ≤ sizeLine; decide), fun q10 hq10 => ?_⟩
    have s10 := same_new (o := .lst [.ref q8, .ref q9]) hq10
    have e10 : (upd G9 q10 (.lst [.ref q8, .ref q9])) q10 = some (.lst [.ref q8, .ref q9]) := upd_same
    generalize (upd G9 q10 (.lst [.ref q8, .ref q9])) = G10 at s10 e10 ⊢
    have u10 := u9.trans s10
    refine ⟨q7, q10, _, _, rfl, rfl, (((s8.trans s9).trans s10) _ _ e7), e10, (by show 4 + 2 ≤ sizeLine; decide), ?_⟩
    simp only [List.cons_append, List.nil_append]
    refine fun q11 hq11 => ?_
    have s11 := same_new (o := .lst [.ref q1, .ref q2, .ref q4, .ref q5, .ref q8, .ref q9]) hq11
    have e11 : (upd G10 q11 (.lst [.ref q1, .ref q2, .ref q4, .ref q5, .ref q8, .ref q9])) q11 = some (.lst [.ref q1, .ref q2, .ref q4, .ref q5, .ref q8, .ref q9]) := upd_same
    generalize (upd G10 q11 (.lst [.ref q1, .ref q2, .ref q4, .ref q5, .ref q8, .ref q9])) = G11 at s11 e11 ⊢
    have u11 := u10.trans s11
    refine ⟨_, rfl, ?_⟩
    refine ⟨_, rfl, a, _, _, _, _, fs, rfl, (hE.same u11), EK.xc _ hn, .own _, EK.kit _ hn _ (List.mem_of_getElem? (i := 24) rfl), ?_⟩
    refine ⟨(by show 2 ≤ sizeLine; decide), fun q12 hq12 => ?_⟩
    have s12 := same_new (o := .tup [.str "NotOwn", .bl (n == "NotOwn")]) hq12
    have e12 : (upd G11 q12 (.tup [.str "NotOwn", .bl (n == "NotOwn")])) q12 = some (.tup [.str "NotOwn", .bl (n == "NotOwn")]) := upd_same
    generalize (upd G11 q12 (.tup [.str "NotOwn", .bl (n == "NotOwn")])) = G12 at s12 e12 ⊢
    have u12 := u11.trans s12
    refine ⟨_, rfl, a, _, _, _, _, fs, rfl, (hE.same u12), EK.xc _ hn, .own _, EK.kit _ hn _ (List.mem_of_getElem? (i := 25) rfl), ?_⟩
    refine ⟨(by show 2 ≤ sizeLine; decide), fun q13 hq13 => ?_⟩
    have s13 := same_new (o := .tup [.str "NotHeard", .bl (n == "NotHeard")]) hq13
    have e13 : (upd G12 q13 (.tup [.str "NotHeard", .bl (n == "NotHeard")])) q13 = some (.tup [.str "NotHeard", .bl (n == "NotHeard")]) := upd_same
    generalize (upd G12 q13 (.tup [.str "NotHeard", .bl (n == "NotHeard")])) = G13 at s13 e13 ⊢
    have u13 := u12.trans s13
    refine ⟨(by show 2 ≤ sizeLine; decide), fun q14 hq14 => ?_⟩
    have s14 := same_new (o := .lst [.ref q12, .ref q13]) hq14
    have e14 : (upd G13 q14 (.lst [.ref q12, .ref q13])) q14 = some (.lst [.ref q12, .ref q13]) := upd_same
    generalize (upd G13 q14 (.lst [.ref q12, .ref q13])) = G14 at s14 e14 ⊢
    have u14 := u13.trans s14
    refine ⟨q11, q14, _, _, rfl, rfl, (((s12.trans s13).trans s14) _ _ e11), e14, (by show 6 + 2 ≤ sizeLine; decide), ?_⟩
    simp only [List.cons_append, List.nil_append]
    refine fun q15 hq15 => ?_
    have s15 := same_new (o := .lst [.ref q1, .ref q2, .ref q4, .ref q5, .ref q8, .ref q9, .ref q12, .ref q13]) hq15
    have e15 : (upd G14 q15 (.lst [.ref q1, .ref q2, .ref q4, .ref q5, .ref q8, .ref q9, .ref q12, .ref q13])) q15 = some (.lst [.ref q1, .ref q2, .ref q4, .ref q5, .ref q8, .ref q9, .ref q12, .ref q13]) := upd_same
    generalize (upd G14 q15 (.lst [.ref q1, .ref q2, .ref q4, .ref q5, .ref q8, .ref q9, .ref q12, .ref q13])) = G15 at s15 e15 ⊢
    have u15 := u14.trans s15
    refine ⟨_, rfl, ?_⟩
    refine ⟨_, rfl, a, _, _, _, _, fs, rfl, (hE.same u15), EK.xc _ hn, .own _, EK.kit _ hn _ (List.mem_of_getElem? (i := 26) rfl), ?_⟩
    refine ⟨(by show 2 ≤ sizeLine; decide), fun q16 hq16 => ?_⟩
    have s16 := same_new (o := .tup [.str "Behind", .bl (n == "Behind")]) hq16
    have e16 : (upd G15 q16 (.tup [.str "Behind", .bl (n == "Behind")])) q16 = some (.tup [.str "Behind", .bl (n == "Behind")]) := upd_same
    generalize (upd G15 q16 (.tup [.str "Behind", .bl (n == "Behind")])) = G16 at s16 e16 ⊢
    have u16 := u15.trans s16
    refine ⟨_, rfl, a, _, _, _, _, fs, rfl, (hE.same u16), EK.xc _ hn, .own _, EK.kit _ hn _ (List.mem_of_getElem? (i := 27) rfl), ?_⟩
    refine ⟨(by show 2 ≤ sizeLine; decide), fun q17 hq17 => ?_⟩
    have s17 := same_new (o := .tup [.str "Unchanged", .bl (n == "Unchanged")]) hq17
    have e17 : (upd G16 q17 (.tup [.str "Unchanged", .bl (n == "Unchanged")])) q17 = some (.tup [.str "Unchanged", .bl (n == "Unchanged")]) := upd_same
    generalize (upd G16 q17 (.tup [.str "Unchanged", .bl (n == "Unchanged")])) = G17 at s17 e17 ⊢
    have u17 := u16.trans s17
    refine ⟨(by show 2 ≤ sizeLine; decide), fun q18 hq18 => ?_⟩
    have s18 := same_new (o := .lst [.ref q16, .ref q17]) hq18
    have e18 : (upd G17 q18 (.lst [.ref q16, .ref q17])) q18 = some (.lst [.ref q16, .ref q17]) := upd_same
    generalize (upd G17 q18 (.lst [.ref q16, .ref q17])) = G18 at s18 e18 ⊢
    have u18 := u17.trans s18
    refine ⟨q15, q18, _, _, rfl, rfl, (((s16.trans s17).trans s18) _ _ e15), e18, (by show 8 + 2 ≤ sizeLine; decide), ?_⟩
    simp only [List.cons_append, List.nil_append]
    refine fun q19 hq19 => ?_
    have s19 := same_new (o := .lst [.ref q1, .ref q2, .ref q4, .ref q5, .ref q8, .ref q9, .ref q12, .ref q13, .ref q16, .ref q17]) hq19
    have e19 : (upd G18 q19 (.lst [.ref q1, .ref q2, .ref q4, .ref q5, .ref q8, .ref q9, .ref q12, .ref q13, .ref q16, .ref q17])) q19 = some (.lst [.ref q1, .ref q2, .ref q4, .ref q5, .ref q8, .ref q9, .ref q12, .ref q13, .ref q16, .ref q17]) := upd_same
    generalize (upd G18 q19 (.lst [.ref q1, .ref q2, .ref q4, .ref q5, .ref q8, .ref q9, .ref q12, .ref q13, .ref q16, .ref q17])) = G19 at s19 e19 ⊢
    have u19 := u18.trans s19
    refine ⟨_, rfl, ?_⟩
    refine ⟨_, rfl, a, _, _, _, _, fs, rfl, (hE.same u19), EK.xc _ hn, .own _, EK.kit _ hn _ (List.mem_of_getElem? (i := 28) rfl), ?_⟩
    refine ⟨(by show 2 ≤ sizeLine; decide), fun q20 hq20 => ?_⟩
    have s20 := same_new (o := .tup [.str "Known", .bl (n == "Known")]) hq20
    have e20 : (upd G19 q20 (.tup [.str "Known", .bl (n == "Known")])) q20 = some (.tup [.str "Known", .bl (n == "Known")]) := upd_same
    generalize (upd G19 q20 (.tup [.str "Known", .bl (n == "Known")])) = G20 at s20 e20 ⊢
    have u20 := u19.trans s20
    refine ⟨_, rfl, a, _, _, _, _, fs, rfl, (hE.same u20), EK.xc _ hn, .own _, EK.kit _ hn _ (List.mem_of_getElem? (i := 29) rfl), ?_⟩
    refine ⟨(by show 2 ≤ sizeLine; decide), fun q21 hq21 => ?_⟩
    have s21 := same_new (o := .tup [.str "Unknown", .bl (n == "Unknown")]) hq21
    have e21 : (upd G20 q21 (.tup [.str "Unknown", .bl (n == "Unknown")])) q21 = some (.tup [.str "Unknown", .bl (n == "Unknown")]) := upd_same
    generalize (upd G20 q21 (.tup [.str "Unknown", .bl (n == "Unknown")])) = G21 at s21 e21 ⊢
    have u21 := u20.trans s21
    refine ⟨(by show 2 ≤ sizeLine; decide), fun q22 hq22 => ?_⟩
    have s22 := same_new (o := .lst [.ref q20, .ref q21]) hq22
    have e22 : (upd G21 q22 (.lst [.ref q20, .ref q21])) q22 = some (.lst [.ref q20, .ref q21]) := upd_same
    generalize (upd G21 q22 (.lst [.ref q20, .ref q21])) = G22 at s22 e22 ⊢
    have u22 := u21.trans s22
    refine ⟨q19, q22, _, _, rfl, rfl, (((s20.trans s21).trans s22) _ _ e19), e22, (by show 10 + 2 ≤ sizeLine; decide), ?_⟩
    simp only [List.cons_append, List.nil_append]
    refine fun q23 hq23 => ?_
    have s23 := same_new (o := .lst [.ref q1, .ref q2, .ref q4, .ref q5, .ref q8, .ref q9, .ref q12, .ref q13, .ref q16, .ref q17, .ref q20, .ref q21]) hq23
    have e23 : (upd G22 q23 (.lst [.ref q1, .ref q2, .ref q4, .ref q5, .ref q8, .ref q9, .ref q12, .ref q13, .ref q16, .ref q17, .ref q20, .ref q21])) q23 = some (.lst [.ref q1, .ref q2, .ref q4, .ref q5, .ref q8, .ref q9, .ref q12, .ref q13, .ref q16, .ref q17, .ref q20, .ref q21]) := upd_same
    generalize (upd G22 q23 (.lst [.ref q1, .ref q2, .ref q4, .ref q5, .ref q8, .ref q9, .ref q12, .ref q13, .ref q16, .ref q17, .ref q20, .ref q21])) = G23 at s23 e23 ⊢
    have u23 := u22.trans s23
    refine ⟨_, rfl, ?_⟩
    refine ⟨_, rfl, a, _, _, _, _, fs, rfl, (hE.same u23), EK.xc _ hn, .own _, EK.kit _ hn _ (List.mem_of_getElem? (i := 30) rfl), ?_⟩
    refine ⟨(by show 2 ≤ sizeLine; decide), fun q24 hq24 => ?_⟩
    have s24 := same_new (o := .tup [.str "TooWide", .bl (n == "TooWide")]) hq24
    have e24 : (upd G23 q24 (.tup [.str "TooWide", .bl (n == "TooWide")])) q24 = some (.tup [.str "TooWide", .bl (n == "TooWide")]) := upd_same
    generalize (upd G23 q24 (.tup [.str "TooWide", .bl (n == "TooWide")])) = G24 at s24 e24 ⊢
    have u24 := u23.trans s24
    refine ⟨_, rfl, a, _, _, _, _, fs, rfl, (hE.same u24), EK.xc _ hn, .own _, EK.kit _ hn _ (List.mem_of_getElem? (i := 31) rfl), ?_⟩
    refine ⟨(by show 2 ≤ sizeLine; decide), fun q25 hq25 => ?_⟩
    have s25 := same_new (o := .tup [.str "TooMany", .bl (n == "TooMany")]) hq25
    have e25 : (upd G24 q25 (.tup [.str "TooMany", .bl (n == "TooMany")])) q25 = some (.tup [.str "TooMany", .bl (n == "TooMany")]) := upd_same
    generalize (upd G24 q25 (.tup [.str "TooMany", .bl (n == "TooMany")])) = G25 at s25 e25 ⊢
    have u25 := u24.trans s25
    refine ⟨(by show 2 ≤ sizeLine; decide), fun q26 hq26 => ?_⟩
    have s26 := same_new (o := .lst [.ref q24, .ref q25]) hq26
    have e26 : (upd G25 q26 (.lst [.ref q24, .ref q25])) q26 = some (.lst [.ref q24, .ref q25]) := upd_same
    generalize (upd G25 q26 (.lst [.ref q24, .ref q25])) = G26 at s26 e26 ⊢
    have u26 := u25.trans s26
    refine ⟨q23, q26, _, _, rfl, rfl, (((s24.trans s25).trans s26) _ _ e23), e26, (by show 12 + 2 ≤ sizeLine; decide), ?_⟩
    simp only [List.cons_append, List.nil_append]
    refine fun q27 hq27 => ?_
    have s27 := same_new (o := .lst [.ref q1, .ref q2, .ref q4, .ref q5, .ref q8, .ref q9, .ref q12, .ref q13, .ref q16, .ref q17, .ref q20, .ref q21, .ref q24, .ref q25]) hq27
    have e27 : (upd G26 q27 (.lst [.ref q1, .ref q2, .ref q4, .ref q5, .ref q8, .ref q9, .ref q12, .ref q13, .ref q16, .ref q17, .ref q20, .ref q21, .ref q24, .ref q25])) q27 = some (.lst [.ref q1, .ref q2, .ref q4, .ref q5, .ref q8, .ref q9, .ref q12, .ref q13, .ref q16, .ref q17, .ref q20, .ref q21, .ref q24, .ref q25]) := upd_same
    generalize (upd G26 q27 (.lst [.ref q1, .ref q2, .ref q4, .ref q5, .ref q8, .ref q9, .ref q12, .ref q13, .ref q16, .ref q17, .ref q20, .ref q21, .ref q24, .ref q25])) = G27 at s27 e27 ⊢
    have u27 := u26.trans s27
    refine ⟨_, rfl, ?_⟩
    refine ⟨_, rfl, a, _, _, _, _, fs, rfl, (hE.same u27), EK.xc _ hn, .own _, EK.kit _ hn _ (List.mem_of_getElem? (i := 32) rfl), ?_⟩
    refine ⟨(by show 2 ≤ sizeLine; decide), fun q28 hq28 => ?_⟩
    have s28 := same_new (o := .tup [.str "Unlike", .bl (n == "Unlike")]) hq28
    have e28 : (upd G27 q28 (.tup [.str "Unlike", .bl (n == "Unlike")])) q28 = some (.tup [.str "Unlike", .bl (n == "Unlike")]) := upd_same
    generalize (upd G27 q28 (.tup [.str "Unlike", .bl (n == "Unlike")])) = G28 at s28 e28 ⊢
    have u28 := u27.trans s28
    refine ⟨(by show 1 ≤ sizeLine; decide), fun q29 hq29 => ?_⟩
    have s29 := same_new (o := .lst [.ref q28]) hq29
    have e29 : (upd G28 q29 (.lst [.ref q28])) q29 = some (.lst [.ref q28]) := upd_same
    generalize (upd G28 q29 (.lst [.ref q28])) = G29 at s29 e29 ⊢
    have u29 := u28.trans s29
    refine ⟨q27, q29, _, _, rfl, rfl, ((s28.trans s29) _ _ e27), e29, (by show 14 + 1 ≤ sizeLine; decide), ?_⟩
    simp only [List.cons_append, List.nil_append]
    refine fun q30 hq30 => ?_
    have s30 := same_new (o := .lst [.ref q1, .ref q2, .ref q4, .ref q5, .ref q8, .ref q9, .ref q12, .ref q13, .ref q16, .ref q17, .ref q20, .ref q21, .ref q24, .ref q25, .ref q28]) hq30
    have e30 : (upd G29 q30 (.lst [.ref q1, .ref q2, .ref q4, .ref q5, .ref q8, .ref q9, .ref q12, .ref q13, .ref q16, .ref q17, .ref q20, .ref q21, .ref q24, .ref q25, .ref q28])) q30 = some (.lst [.ref q1, .ref q2, .ref q4, .ref q5, .ref q8, .ref q9, .ref q12, .ref q13, .ref q16, .ref q17, .ref q20, .ref q21, .ref q24, .ref q25, .ref q28]) := upd_same
    generalize (upd G29 q30 (.lst [.ref q1, .ref q2, .ref q4, .ref q5, .ref q8, .ref q9, .ref q12, .ref q13, .ref q16, .ref q17, .ref q20, .ref q21, .ref q24, .ref q25, .ref q28])) = G30 at s30 e30 ⊢
    have u30 := u29.trans s30
    have t30 := Same.refl G30
    have t29 := s30.trans t30
    have t28 := s29.trans t29
    have t27 := s28.trans t28
    have t26 := s27.trans t27
    have t25 := s26.trans t26
    have t24 := s25.trans t25
    have t23 := s24.trans t24
    have t22 := s23.trans t23
    have t21 := s22.trans t22
    have t20 := s21.trans t21
    have t19 := s20.trans t20
    have t18 := s19.trans t19
    have t17 := s18.trans t18
    have t16 := s17.trans t17
    have t15 := s16.trans t16
    have t14 := s15.trans t15
    have t13 := s14.trans t14
    have t12 := s13.trans t13
    have t11 := s12.trans t12
    have t10 := s11.trans t11
    have t9 := s10.trans t10
    have t8 := s9.trans t9
    have t7 := s8.trans t8
    have t6 := s7.trans t7
    have t5 := s6.trans t6
    have t4 := s5.trans t5
    have t3 := s4.trans t4
    have t2 := s3.trans t3
    have t1 := s2.trans t2
    have f1 : G30 q1 = some (.tup [.str "NoHistory", .bl (n == "NoHistory")]) := t1 _ _ e1
    have f2 : G30 q2 = some (.tup [.str "Taken", .bl (n == "Taken")]) := t2 _ _ e2
    have f3 : G30 q3 = some (.lst [.ref q1, .ref q2]) := t3 _ _ e3
    have f4 : G30 q4 = some (.tup [.str "Standing", .bl (n == "Standing")]) := t4 _ _ e4
    have f5 : G30 q5 = some (.tup [.str "Removed", .bl (n == "Removed")]) := t5 _ _ e5
    have f6 : G30 q6 = some (.lst [.ref q4, .ref q5]) := t6 _ _ e6
    have f7 : G30 q7 = some (.lst [.ref q1, .ref q2, .ref q4, .ref q5]) := t7 _ _ e7
    have f8 : G30 q8 = some (.tup [.str "Folded", .bl (n == "Folded")]) := t8 _ _ e8
    have f9 : G30 q9 = some (.tup [.str "Clash", .bl (n == "Clash")]) := t9 _ _ e9
    have f10 : G30 q10 = some (.lst [.ref q8, .ref q9]) := t10 _ _ e10
    have f11 : G30 q11 = some (.lst [.ref q1, .ref q2, .ref q4, .ref q5, .ref q8, .ref q9]) := t11 _ _ e11
    have f12 : G30 q12 = some (.tup [.str "NotOwn", .bl (n == "NotOwn")]) := t12 _ _ e12
    have f13 : G30 q13 = some (.tup [.str "NotHeard", .bl (n == "NotHeard")]) := t13 _ _ e13
    have f14 : G30 q14 = some (.lst [.ref q12, .ref q13]) := t14 _ _ e14
    have f15 : G30 q15 = some (.lst [.ref q1, .ref q2, .ref q4, .ref q5, .ref q8, .ref q9, .ref q12, .ref q13]) := t15 _ _ e15
    have f16 : G30 q16 = some (.tup [.str "Behind", .bl (n == "Behind")]) := t16 _ _ e16
    have f17 : G30 q17 = some (.tup [.str "Unchanged", .bl (n == "Unchanged")]) := t17 _ _ e17
    have f18 : G30 q18 = some (.lst [.ref q16, .ref q17]) := t18 _ _ e18
    have f19 : G30 q19 = some (.lst [.ref q1, .ref q2, .ref q4, .ref q5, .ref q8, .ref q9, .ref q12, .ref q13, .ref q16, .ref q17]) := t19 _ _ e19
    have f20 : G30 q20 = some (.tup [.str "Known", .bl (n == "Known")]) := t20 _ _ e20
    have f21 : G30 q21 = some (.tup [.str "Unknown", .bl (n == "Unknown")]) := t21 _ _ e21
    have f22 : G30 q22 = some (.lst [.ref q20, .ref q21]) := t22 _ _ e22
    have f23 : G30 q23 = some (.lst [.ref q1, .ref q2, .ref q4, .ref q5, .ref q8, .ref q9, .ref q12, .ref q13, .ref q16, .ref q17, .ref q20, .ref q21]) := t23 _ _ e23
    have f24 : G30 q24 = some (.tup [.str "TooWide", .bl (n == "TooWide")]) := t24 _ _ e24
    have f25 : G30 q25 = some (.tup [.str "TooMany", .bl (n == "TooMany")]) := t25 _ _ e25
    have f26 : G30 q26 = some (.lst [.ref q24, .ref q25]) := t26 _ _ e26
    have f27 : G30 q27 = some (.lst [.ref q1, .ref q2, .ref q4, .ref q5, .ref q8, .ref q9, .ref q12, .ref q13, .ref q16, .ref q17, .ref q20, .ref q21, .ref q24, .ref q25]) := t27 _ _ e27
    have f28 : G30 q28 = some (.tup [.str "Unlike", .bl (n == "Unlike")]) := t28 _ _ e28
    have f29 : G30 q29 = some (.lst [.ref q28]) := t29 _ _ e29
    have f30 : G30 q30 = some (.lst [.ref q1, .ref q2, .ref q4, .ref q5, .ref q8, .ref q9, .ref q12, .ref q13, .ref q16, .ref q17, .ref q20, .ref q21, .ref q24, .ref q25, .ref q28]) := t30 _ _ e30
    have pr : PrT G30 [q1, q2, q4, q5, q8, q9, q12, q13, q16, q17, q20, q21, q24, q25, q28] ((exP.drop 18).map fun p => (p.1, n == p.1)) := ⟨f1, f2, f4, f5, f8, f9, f12, f13, f16, f17, f20, f21, f24, f25, f28, True.intro⟩
    refine ⟨_, rfl, q30, rfl, ⟨_, SqL.of f30⟩, fun D hD => ?_⟩
    refine lc_pick (as := [q1, q2, q4, q5, q8, q9, q12, q13, q16, q17, q20, q21, q24, q25, q28]) (ps := (exP.drop 18).map fun p => (p.1, n == p.1)) rfl hD f30 pr (by show 15 ≤ 1000; decide) (fun H2 s2 hD2 => ?_)
    rw [pick_map] at hD2
    exact out D H2 (nof_none u30 hD) (u30.trans s2) hD2
theorem pick_one : ∀ p ∈ exP, ((exP.take 18).filter fun q => p.1 == q.1) ++ ((exP.drop 18).filter fun q => p.1 == q.1) = [p] := by decide +kernel
/-- the name that an error has -/
def spWords : Sp := fun vs H Q _ => ∃ (a : Addr) (n : Str) (b : Nat) (fs : List (Str × V)), vs = [.ref a] ∧ (n, b) ∈ exP ∧ Er H a (Ea K n) fs ∧
  ∀ q H', H q = none → Same H H' → H' q = some (.lst [.str n]) → Q (.ref q) H'
abbrev nWords : List Str := ["_law_e"]
theorem scWords : FnScope nWords ["_law_e"] (defScope slWords0) := ⟨rfl, rfl, rfl, by decide +kernel, rfl, by decide +kernel, by decide +kernel⟩
theorem ok_words {f : Addr} {fd : FuncData} (F : Fun K "_law_words" "_law_words" slWords0 f fd) (DA : Has P w K mg base "_law_first_words" 2 ["_law_e"] (spPick (K := K) (exP.take 18))) (DC : Has P w K mg base "_law_last_words" 2 ["_law_e"] (spPick (K := K) (exP.drop 18))): FnOk P w K mg base CX0 3 f fd ["_law_e"] (spWords (K := K)) := by
  obtain ⟨fA, fdA, GA, mA, kA, bA⟩ := DA
  obtain ⟨fC, fdC, GC, mC, kC, bC⟩ := DC
  refine F.ok scWords (fun vs H Q E h => ?_) (fun cdv A outer s H vs Q E hr h => ?_)
  · obtain ⟨a, n, b, fs, rfl, _⟩ := h
    rfl
  · obtain ⟨a, n, b, fs, rfl, hn, hE, out⟩ := h
    refine ⟨_, (pss_one (ps_ret (pe_op op_cat (pe_call GA hr (by rfl) mA kA bA .nil pass0 (pa_cons (pv 0) pa_nil)) (pe_call GC hr (by rfl) mC kC bC .nil pass0 (pa_cons (pv 0) pa_nil))))), ?_⟩
    refine ⟨_, rfl, a, n, b, fs, rfl, hn, hE, fun q H1 hq s1 e1 => ?_⟩
    refine ⟨_, rfl, a, n, b, fs, rfl, hn, hE.same s1, fun r H2 hr2 s2 e2 => ?_⟩
    have po := pick_one _ hn
    refine ⟨q, r, _, _, rfl, rfl, s2 _ _ e1, e2, ?_, fun z hz => ?_⟩
    · have := congrArg List.length po
      rw [List.length_append, List.length_singleton] at this
      rw [List.length_map, List.length_map, this]
      decide
    · refine out z _ (nof_none s1 (nof_none s2 hz)) ((s1.trans s2).trans (same_new hz)) ?_
      rw [upd_same, ← List.map_append, po]
      rfl
end
end K18
namespace K18
open PySem PySem.Spec PyProof.Rows L2 Par
abbrev slAny0 : Stmt := topS 55
abbrev slGiven0 : Stmt := topS 66
/-- no float, no bytes, no type -/
def plB : V → Bool
  | .flt _ => false
  | .byt _ => false
  | .ty _ => false
  | _ => true
def things (far : Int) (p1 p2 p3 p4 p5 p6 : Addr) : List V := [.non, .bl true, .bl false, .int (-1), .int 0, .int 1, .int 39, .int 40, .int 41, .int far, .int (-far), .str "", .str "1", .str "a", .str "ab",
  .ref p1, .ref p2, .ref p3, .ref p4, .ref p5, .ref p6]
theorem things_len (far : Int) (p1 p2 p3 p4 p5 p6 : Addr) : (things far p1 p2 p3 p4 p5 p6).length = 21 := rfl
theorem things_pl (far : Int) (p1 p2 p3 p4 p5 p6 : Addr) : (things far p1 p2 p3 p4 p5 p6).all plB = true := rfl
theorem But.at {p g : Addr} {H H1 : Hp} {o : HO} (b : But p H H1) (f : H g = none) : But p H (L2.upd H1 g o) := fun c u n e => by
  rw [upd_ne (ne_of_none e f)]
  exact b c u n e
theorem potU {p g : Addr} {H : Hp} {o : HO} (h : PotAt H p) (n : g ≠ p) : PotAt (upd H g o) p := by
  obtain ⟨a, b, e, r⟩ := h
  exact ⟨a, b, by rw [upd_ne (Ne.symm n)]; exact e, r⟩
theorem pot_ne {H : Hp} {p q : Addr} (hp : PotAt H p) (hq : H q = none) : q ≠ p := fun z => by
  subst z
  obtain ⟨_, _, e, _⟩ := hp
  rw [hq] at e
  cases e
section
variable {P : Program} {w : World} {K : PySem.W.Frag} {mg : Str → Option Value} {base : Heap}
def spAny : Sp := fun vs H Q _ => ∃ p : Addr, vs = [.ref p] ∧ PotAt H p ∧ ∀ v H', But p H H' → PotAt H' p → plB v = true → Q v H'
theorem scAny : FnScope ["_law_pot_here", "_law_far", "_law_some"] ["_law_pot_here"] (defScope slAny0) := ⟨rfl, rfl, rfl, by decide +kernel, rfl, by decide +kernel, by decide +kernel⟩
theorem ok_any {f : Addr} {fd : FuncData} (F : Fun K "_law_any_thing" "_law_any_thing" slAny0 f fd) (B : Bl mg) (D : Has P w K mg base "_law_draw" 2 ["_law_pot_here", "_law_many"] spDraw) :
    FnOk P w K mg base CX0 3 f fd ["_law_pot_here"] spAny := by
  obtain ⟨fD, fdD, GD, mD, kD, bD⟩ := D
  refine F.ok scAny (fun vs H Q E h => ?_) (fun cdv A outer s H vs Q E hr h => ?_)
  · obtain ⟨p, rfl, _⟩ := h
    rfl
  · obtain ⟨p, rfl, hp, out⟩ := h
    refine ⟨_, pss_cons (ps_set (i := 1) scAny.nd rfl (Or.inl rfl) (pe_op op_add (pe_op op_pow pe_int pe_int) (pe_call GD hr (by rfl) mD kD bD .nil pass0 (pa_cons (pv 0) (pa_cons (pe_op op_pow pe_int pe_int) pa_nil)))))
      (pss_cons (ps_set (i := 2) scAny.nd rfl (Or.inl rfl) (pe_lst (pa_cons pe_non (pa_cons pe_bl (pa_cons pe_bl (pa_cons (pe_un un_neg pe_int) (pa_cons pe_int (pa_cons pe_int (pa_cons pe_int (pa_cons pe_int (pa_cons pe_int
        (pa_cons (pv 1) (pa_cons (pe_un un_neg (pv 1)) (pa_cons pe_str (pa_cons pe_str (pa_cons pe_str (pa_cons pe_str (pa_cons (pe_tup pa_nil) (pa_cons (pe_lst pa_nil) (pa_cons pe_dnewK (pa_cons (pe_lst (pa_cons pe_int pa_nil)) (pa_cons (pe_tup (pa_cons pe_int pa_nil))
        (pa_cons (pe_disp (pps_cons pe_int pe_int pps_nil) (by rfl) (by rfl) (fun z => by cases z) (by decide)) pa_nil)))))))))))))))))))))))
      (pss_one (ps_ret (pe_ix ix_list (pv 2) (pe_call GD hr (by rfl) mD kD bD .nil pass0 (pa_cons (pv 0) (pa_cons (pe_callB call_len_seq (by rfl) B.len PySem.boot_len (pa_cons (pv 2) pa_nil)) pa_nil))) (fun _ _ => rfl))))), ?_⟩
    refine ⟨10, 20, rfl, rfl, ⟨by decide, by decide, by decide⟩, _, rfl, 10, 9, rfl, rfl, ⟨by decide, by decide, by decide⟩, p, _, rfl, hp, by decide, by decide, ?_⟩
    intro d1 H1 d0 dlt b1 hp1
    refine ⟨_, _, rfl, rfl, ?_⟩
    refine ⟨1, rfl, _, rfl, _, rfl, _, rfl, ?_⟩
    refine ⟨by decide, fun p1 h1 => ⟨by decide, fun p2 h2 p3 h3 => ⟨by decide, fun p4 h4 => ⟨by decide, fun p5 h5 p6 h6 => ?_⟩⟩⟩⟩
    refine ⟨upd_same, [(Sum.inl 1, .int 2)], rfl, by decide, (by show 21 ≤ sizeLine; decide), fun L hL => ?_⟩
    rw [upd_upd] at hL ⊢
    have s1 := same_new (o := .tup []) h1
    have s2 := same_new (o := .lst []) h2
    have s3 := same_new (o := .dK []) h3
    have s4 := same_new (o := .lst [.int 0]) h4
    have s5 := same_new (o := .tup [.int 1]) h5
    have s6 := same_new (o := .dK (mergeK [] [(Sum.inl 1, .int 2)])) h6
    have s7 := same_new (o := .lst (things (10 ^ 20 + d1) p1 p2 p3 p4 p5 p6)) hL
    have t6 := s6.trans s7
    have t5 := s5.trans t6
    have t4 := s4.trans t5
    have t3 := s3.trans t4
    have t2 := s2.trans t3
    have g1 := t2 _ _ (upd_same (H := H1) (a := p1) (o := .tup []))
    have g2 := t3 _ _ (upd_same (a := p2) (o := .lst []))
    have g3 := t4 _ _ (upd_same (a := p3) (o := .dK []))
    have g4 := t5 _ _ (upd_same (a := p4) (o := .lst [.int 0]))
    have g5 := t6 _ _ (upd_same (a := p5) (o := .tup [.int 1]))
    have g6 := s7 _ _ (upd_same (a := p6) (o := .dK (mergeK [] [(Sum.inl 1, .int 2)])))
    have sAll := s1.trans t2
    have hpG := hp1.same sAll
    have n1 : p1 ≠ p := pot_ne hp1 h1
    have n2 : p2 ≠ p := pot_ne (hp1.same s1) h2
    have n3 : p3 ≠ p := pot_ne (hp1.same (s1.trans s2)) h3
    have n4 : p4 ≠ p := pot_ne (hp1.same (s1.trans (s2.trans s3))) h4
    have n5 : p5 ≠ p := pot_ne (hp1.same (s1.trans (s2.trans (s3.trans s4)))) h5
    have n6 : p6 ≠ p := pot_ne (hp1.same (s1.trans (s2.trans (s3.trans (s4.trans s5))))) h6
    have nL : L ≠ p := pot_ne (hp1.same (s1.trans (s2.trans (s3.trans (s4.trans (s5.trans s6)))))) hL
    refine ⟨_, rfl, _, rfl, _, rfl, L, things (10 ^ 20 + d1) p1 p2 p3 p4 p5 p6, rfl, .inl (SqL.of upd_same), p, 21, rfl, hpG, by decide, by decide, ?_⟩
    intro d2 H9 e0 e1 b9 hp9
    have hk : d2.toNat < (things (10 ^ 20 + d1) p1 p2 p3 p4 p5 p6).length := by
      rw [things_len]
      omega
    have hx : (things (10 ^ 20 + d1) p1 p2 p3 p4 p5 p6)[d2.toNat]? = some (things (10 ^ 20 + d1) p1 p2 p3 p4 p5 p6)[d2.toNat] := by simp [hk]
    have hat : atI (things (10 ^ 20 + d1) p1 p2 p3 p4 p5 p6) d2 = some (things (10 ^ 20 + d1) p1 p2 p3 p4 p5 p6)[d2.toNat] := by
      have q := atI_nat hx
      rw [show ((d2.toNat : Nat) : Int) = d2 by omega] at q
      exact q
    refine ⟨L, _, d2, _, rfl, rfl, SqL.of (b9 L _ nL upd_same), hat, ?_⟩
    exact out _ H9 ((b1.trans (But.same sAll)).trans b9) hp9 (List.all_eq_true.mp (things_pl _ _ _ _ _ _ _) _ (List.getElem_mem hk))
/-- the dict while it is filled -/
def Gk (H : Hp) (g : Addr) (ks : List Str) (n : Nat) : Prop := ∃ kvs : List (Key × V), H g = some (.dK kvs) ∧ kvs.length ≤ n ∧ ∀ k ∈ ks, ∃ v, valV kvs (.inr k) = some v ∧ plB v = true
theorem gk_put {kvs : List (Key × V)} {ks : List Str} {k : Str} {v : V} (h : ∀ k ∈ ks, ∃ v, valV kvs (.inr k) = some v ∧ plB v = true) (pl : plB v = true) : ∀ j ∈ k :: ks, ∃ v', valV (putK kvs (.inr k) v) (.inr j) = some v' ∧ plB v' = true := fun j hj => by
  rw [valV_put]
  by_cases e : (Sum.inr j : Key) = .inr k
  · rw [if_pos e]
    exact ⟨v, rfl, pl⟩
  · rw [if_neg e]
    rcases List.mem_cons.mp hj with rfl | hj
    · exact absurd rfl e
    · exact h j hj
structure Sx (H : Hp) (p g : Addr) (H1 : Hp) (ks : List Str) (n : Nat) : Prop where
  bt : But p H H1
  pot : PotAt H1 p
  gk : Gk H1 g ks n
theorem Sx.but {H H1 H2 : Hp} {p g : Addr} {ks : List Str} {n : Nat} (h : Sx H p g H1 ks n) (gp : g ≠ p) (b : But p H1 H2) (q : PotAt H2 p) : Sx H p g H2 ks n :=
  ⟨h.bt.trans b, q, let ⟨kvs, e, r⟩ := h.gk; ⟨kvs, b _ _ gp e, r⟩⟩
theorem Sx.upd {H H1 : Hp} {p g D : Addr} {ks : List Str} {n : Nat} {o : HO} (dn : H D = none) (dp : D ≠ p) (dg : D ≠ g) (h : Sx H p g H1 ks n) : Sx H p g (L2.upd H1 D o) ks n :=
  ⟨h.bt.at dn, potU h.pot dp, let ⟨kvs, e, r⟩ := h.gk; ⟨kvs, by rw [upd_ne (Ne.symm dg)]; exact e, r⟩⟩
theorem asg_s {H H1 : Hp} {p g : Addr} {ks : List Str} {n : Nat} {k : Str} {v : V} {Q : Hp → Prop} (gn : H g = none) (gp : g ≠ p) (S : Sx H p g H1 ks n) (hn : n < 100) (pl : plB v = true) (out : ∀ H', Sx H p g H' (k :: ks) (n + 1) → Q H') : rSetD (.ref g) (.str k) v H1 Q := by
  obtain ⟨kvs, e, l, h⟩ := S.gk
  refine ⟨g, _, rfl, .inl ⟨kvs, .inr k, e, rfl, small1000 (by omega), rfl⟩, out _ ⟨S.bt.at gn, potU S.pot gp, _, upd_same, ?_, gk_put h pl⟩⟩
  exact Nat.le_trans (length_putK _ _ _) (by omega)
theorem Sx.get {H H1 : Hp} {p g : Addr} {ks : List Str} {n : Nat} {k : Str} (S : Sx H p g H1 ks n) (hk : k ∈ ks) : ∃ v, DGet H1 g (.str k) (some v) ∧ plB v = true := by
  obtain ⟨kvs, e, _, q⟩ := S.gk
  obtain ⟨v, h1, h2⟩ := q k hk
  exact ⟨v, by rw [← h1]; exact DGet.k (k := .inr k) e, h2⟩
/-- what the parts are given: a dict with these keys -/
def GvAt (H : Hp) (g : Addr) : Prop := ∃ kvs : List (Key × V), H g = some (.dK kvs) ∧ ∀ k ∈ (["near", "word", "whole", "least", "told", "mark", "first", "spots"] : List Str), ∃ v, valV kvs (.inr k) = some v ∧ plB v = true
theorem GvAt.same {H H' : Hp} {g : Addr} (s : Same H H') (h : GvAt H g) : GvAt H' g := let ⟨kvs, e, q⟩ := h; ⟨kvs, s _ _ e, q⟩
theorem GvAt.get {H : Hp} {g : Addr} {k : Str} (h : GvAt H g) (hk : k ∈ (["near", "word", "whole", "least", "told", "mark", "first", "spots"] : List Str)) : ∃ v, DGet H g (.str k) (some v) ∧ plB v = true := by
  obtain ⟨kvs, e, q⟩ := h
  obtain ⟨v, h1, h2⟩ := q k hk
  exact ⟨v, by rw [← h1]; exact DGet.k (k := .inr k) e, h2⟩
def spGiven : Sp := fun vs H Q _ => ∃ p : Addr, vs = [.ref p] ∧ PotAt H p ∧ ∀ g H', But p H H' → PotAt H' p → GvAt H' g → g ≠ p → Q (.ref g) H'
abbrev nGiven : List Str := ["_law_pot_here", "_law_whole", "_law_spots_here", "_law_found", "_law_k"]
theorem scGiven : FnScope nGiven ["_law_pot_here"] (defScope slGiven0) := ⟨rfl, rfl, rfl, by decide +kernel, rfl, by decide +kernel, by decide +kernel⟩
theorem ok_given {f C : Addr} {fd : FuncData} (F : Fun K "_law_given" "_law_given" slGiven0 f fd) (B : Bl mg) (EK : ExK K mg) (T : BC K mg C) (DI : HasIni P w K mg base C) (DD : Has P w K mg base "_law_draw" 2 ["_law_pot_here", "_law_many"] spDraw) (DS : Has P w K mg base "_law_spots" 3 ["_law_pot_here", "_law_least", "_law_width"] spSpots) (DY : Has P w K mg base "_law_any_thing" 3 ["_law_pot_here"] spAny) : FnOk P w K mg base CX0 8 f fd ["_law_pot_here"] spGiven := by
  obtain ⟨fI, fdI, GI, MI, _, _, e0, dsI, hE0, hdI, bI⟩ := DI
  obtain ⟨fD, fdD, GD, mD, kD, bD⟩ := DD
  obtain ⟨fS, fdS, GS, mS, kS, bS⟩ := DS
  obtain ⟨fY, fdY, GY, mY, kY, bY⟩ := DY
  refine F.ok scGiven (fun vs H Q E h => ?_) (fun cdv A outer s H vs Q E hr h => ?_)
  · obtain ⟨p, rfl, _⟩ := h
    rfl
  · obtain ⟨p, rfl, hp, out⟩ := h
    have hu := hr.units
    have hu1 := hu_of hr
    have r2 : Room 2 _ := hr.mono (by decide)
    have r3 : Room 3 _ := hr.mono (by decide)
    have r7 : Room 7 _ := hr
    refine ⟨_, (pss_cons (ps_par (by rfl) scGiven.nd (i := 1) (j := 2) rfl rfl (by decide) rfl rfl (pa_cons (pe_call GD r2 (by rfl) mD kD bD .nil pass0 (pa_cons (pv 0) (pa_cons (pe_op op_pow pe_int pe_int) pa_nil))) (pa_cons (pe_callTy call_tuple_of (by rfl) B.tuple (by decide +kernel) (pa_cons (pe_call GS r3 (by rfl) mS kS bS .nil pass0 (pa_cons (pv 0) (pa_cons pe_int (pa_cons pe_int pa_nil)))) pa_nil)) pa_nil)) (by rfl))
      (pss_cons (ps_set (i := 3) scGiven.nd rfl (Or.inl rfl) (pe_disp (pps_cons pe_str (pe_call GY r3 (by rfl) mY kY bY .nil pass0 (pa_cons (pv 0) pa_nil)) (pps_cons pe_str (pe_ix ix_list (pe_lst (pa_cons pe_str (pa_cons pe_str (pa_cons pe_str (pa_cons pe_str pa_nil))))) (pe_call GD r2 (by rfl) mD kD bD .nil pass0 (pa_cons (pv 0) (pa_cons pe_int pa_nil))) (fun _ _ => rfl)) (pps_cons pe_str (pv 1) pps_nil))) (by rfl) (by rfl) (fun z => by cases z) (by decide)))
      (pss_cons (ps_asg (pe_call GD r2 (by rfl) mD kD bD .nil pass0 (pa_cons (pv 0) (pa_cons pe_int pa_nil))) (pg_sub (pv 3) pe_str (set_dict hu1)))
      (pss_cons (ps_asg (pe_lc (own := [("_law_k", 4)]) (g := gName 4) rfl scGiven.nd (pi_range1 (by rfl) B.range (pa_cons (pe_call GD r2 (by rfl) mD kD bD .nil pass0 (pa_cons (pv 0) (pa_cons pe_int pa_nil))) pa_nil)) (blkOk_by (own := [("_law_k", 4)]) (N := nGiven) (sc := defScope slGiven0) (by decide +kernel)) (fun _ _ _ _ _ => (pg_name (i := 4) scGiven.nd rfl (Or.inl rfl))) (fun _ _ _ _ _ => pts_nil) (fun _ _ _ _ _ => by exact (pe_callTy call_str_int (by rfl) EK.str (by decide +kernel) (pa_cons (pv 4) pa_nil)))) (pg_sub (pv 3) pe_str (set_dict hu1)))
      (pss_cons (ps_asg (pe_tup (pa_cons (pv 1) (pa_cons (pe_dget hu1 (pv 3) pe_str (fun _ _ => rfl)) (pa_cons (pe_dget hu1 (pv 3) pe_str (fun _ _ => rfl)) pa_nil)))) (pg_sub (pv 3) pe_str (set_dict hu1)))
      (pss_cons (ps_asg (pe_make (E := E0) MI GI r7 (by rfl) T.mgC bI hdI pass0 (pa_cons (pe_op op_add pe_int (pe_call GD r2 (by rfl) mD kD bD .nil pass0 (pa_cons (pv 0) (pa_cons pe_int pa_nil)))) pa_nil)) (pg_sub (pv 3) pe_str (set_dict hu1)))
      (pss_cons (ps_asg (pv 2) (pg_sub (pv 3) pe_str (set_dict hu1)))
      (pss_one (ps_ret (pv 3)))))))))), ?_⟩
    refine ⟨_, rfl, 10, 6, rfl, rfl, ⟨by decide, by decide, by decide⟩, p, _, rfl, hp, by decide, by decide, fun whole H1 w0 w1 b1 pot1 => ?_⟩
    refine ⟨_, rfl, p, 0, 40, rfl, pot1, by decide, by decide, by decide, by decide, fun sp ns H2 hsp np nlt b2 pot2 esp => ?_⟩
    refine ⟨sp, _, rfl, .inl ⟨SqL.of esp, fun st hst => ⟨_, _, rfl, ?_⟩⟩⟩
    have s3 := same_new (o := .tup (ns.map V.int)) hst
    have pot3 := pot2.same s3
    have b03 : But p H (upd H2 st (.tup (ns.map V.int))) := (b1.trans b2).trans (But.same s3)
    generalize (upd H2 st (.tup (ns.map V.int))) = H3 at s3 pot3 b03 ⊢
    refine fun g hg => ?_
    have gp : g ≠ p := pot_ne pot3 hg
    have s4 := same_new (o := .dK []) hg
    have pot4 := pot3.same s4
    have b04 := b03.trans (But.same s4)
    have g4 : (upd H3 g (.dK [])) g = some (.dK []) := upd_same
    generalize (upd H3 g (.dK [])) = H4 at s4 pot4 b04 g4 ⊢
    refine ⟨_, rfl, p, rfl, pot4, fun near H5 b5 pot5 plN => ?_⟩
    refine ⟨(by show 4 ≤ sizeLine; decide), fun wl hwl => ?_⟩
    have s6 := same_new (o := .lst [.str "fixed", .str "odd", .str "ann", .str "a"]) hwl
    have pot6 := pot5.same s6
    have wp : wl ≠ p := pot_ne pot5 hwl
    have e6 : (upd H5 wl (.lst [.str "fixed", .str "odd", .str "ann", .str "a"])) wl = some (.lst [.str "fixed", .str "odd", .str "ann", .str "a"]) := upd_same
    generalize (upd H5 wl (.lst [.str "fixed", .str "odd", .str "ann", .str "a"])) = H6 at s6 pot6 e6 ⊢
    refine ⟨_, rfl, p, 4, rfl, pot6, by decide, by decide, fun d H7 d0 d1 b7 pot7 => ?_⟩
    obtain ⟨word, hat⟩ : ∃ word, atI [.str "fixed", .str "odd", .str "ann", .str "a"] d = some (V.str word) := by
      rcases (show d = 0 ∨ d = 1 ∨ d = 2 ∨ d = 3 by omega) with rfl | rfl | rfl | rfl <;> exact ⟨_, rfl⟩
    refine ⟨wl, _, d, _, rfl, rfl, SqL.of (b7 _ _ wp e6), hat, ?_⟩
    have g7 := b7 _ _ gp (s6 _ _ (b5 _ _ gp g4))
    have b47 := (b5.trans (But.same s6)).trans b7
    refine ⟨_, rfl, g7, [(Sum.inr "near", near), (Sum.inr "word", .str word), (Sum.inr "whole", .int whole)], rfl, (by show 3 ≤ 15; decide), ?_⟩
    have gn : H g = none := by
      cases e : H g with
      | none => rfl
      | some o =>
        rw [b03 _ _ gp e] at hg
        cases hg
    rw [show mergeK [] [(Sum.inr "near", near), (Sum.inr "word", V.str word), (Sum.inr "whole", V.int whole)] = putK (putK (putK ([] : List (Key × V)) (.inr "near") near) (.inr "word") (.str word)) (.inr "whole") (.int whole) from rfl]
    have S8 : Sx H p g (upd H7 g (.dK (putK (putK (putK ([] : List (Key × V)) (.inr "near") near) (.inr "word") (.str word)) (.inr "whole") (.int whole)))) ["whole", "word", "near"] 3 :=
      ⟨(b04.trans b47).at gn, potU pot7 gp, _, upd_same, Nat.le_trans (length_putK _ _ _) (Nat.succ_le_succ (Nat.le_trans (length_putK _ _ _) (Nat.succ_le_succ (length_putK _ _ _)))), gk_put (k := "whole") (ks := ["word", "near"]) (gk_put (k := "word") (ks := ["near"]) (gk_put (k := "near") (ks := []) (fun k hk => nomatch hk) plN) rfl) rfl⟩
    show tSeq _ _ _ _ _
    generalize (upd H7 g (.dK (putK (putK (putK ([] : List (Key × V)) (.inr "near") near) (.inr "word") (.str word)) (.inr "whole") (.int whole)))) = H8 at S8 ⊢
    refine ⟨_, rfl, p, 41, rfl, S8.pot, by decide, by decide, fun least H9 l0 l1 b9 pot9 => ?_⟩
    refine ⟨_, rfl, asg_s gn gp (S8.but gp b9 pot9) (by decide) rfl fun H10 S10 => ?_⟩
    refine ⟨_, rfl, p, 4, rfl, S10.pot, by decide, by decide, fun m H11 m0 m1 b11 pot11 => ?_⟩
    have S11 := S10.but gp b11 pot11
    refine ⟨_, rfl, ?_, ?_, fun D hD => ?_⟩
    · omega
    · omega
    have Dp : D ≠ p := pot_ne pot11 hD
    have Dg : D ≠ g := fun z => by
      obtain ⟨kvs, e, _⟩ := S11.gk
      rw [← z, hD] at e
      cases e
    have Dn : H D = none := by
      cases e : H D with
      | none => rfl
      | some o =>
        rw [S11.bt _ _ Dp e] at hD
        cases hD
    refine lc_range (lo := 0) (fun i H' => Sx H p g H' ["least", "whole", "word", "near"] 4 ∧ ∃ xs : List V, H' D = some (.lst xs) ∧ xs.length = i) ⟨S11.upd Dn Dp Dg, [], upd_same, rfl⟩ ?_ ?_
    · rintro i Ha hi ⟨Sa, xs, eD, lx⟩
      refine ⟨rfl, yesT ?_⟩
      refine ⟨_, rfl, _, rfl, ?_, ?_⟩
      · rw [show ((0 : Int) + (i : Int)).natAbs = i by omega]
        exact Nat.lt_of_le_of_lt (Nat.log2_le_self _) (by omega)
      refine ⟨xs, eD, ?_, Sa.upd Dn Dp Dg, _, upd_same, ?_⟩
      · exact small1000 (by omega)
      · rw [List.length_append, lx]
        rfl
    rintro Hb ⟨Sb, xs, eD, lx⟩
    refine ⟨_, rfl, asg_s gn gp Sb (by decide) rfl fun Hc Sc => ?_⟩
    obtain ⟨v1, d1', pl1⟩ := Sc.get (k := "word") (by simp)
    obtain ⟨v2, d2', pl2⟩ := Sc.get (k := "least") (by simp)
    refine ⟨_, rfl, _, rfl, g, v1, rfl, d1', _, rfl, g, v2, rfl, d2', (by show 3 ≤ sizeLine; decide), fun M hM => ?_⟩
    have Sd := Sc.but gp (But.same (same_new (o := .tup [.int whole, v1, v2]) hM)) (Sc.pot.same (same_new hM))
    refine ⟨_, rfl, asg_s gn gp Sd (by decide) rfl fun He Se => ?_⟩
    refine ⟨_, rfl, p, 40, rfl, Se.pot, by decide, by decide, fun k Hf k0 k1 bf potf => ?_⟩
    have Sf := Se.but gp bf potf
    obtain ⟨k', rfl⟩ : ∃ k' : Nat, k = (k' : Int) := ⟨k.toNat, by omega⟩
    refine ⟨_, _, rfl, rfl, ?_⟩
    dsimp only
    rw [show (1 : Int) + (k' : Int) = ((k' + 1 : Nat) : Int) by omega]
    refine made_board (u := e0) (ns := []) (n := k' + 1) (.inr (hE0 _)) (by decide) (by omega) (by omega) (fun k hk => nomatch hk) List.nodup_nil fun x Hg hx sg hB => ?_
    refine ⟨_, rfl, asg_s gn gp (Sf.but gp (But.same sg) (Sf.pot.same sg)) (by decide) rfl fun Hh Sh => ?_⟩
    refine ⟨_, rfl, _, rfl, asg_s gn gp Sh (by decide) rfl fun Hi Si => ?_⟩
    refine ⟨_, rfl, out g Hi Si.bt Si.pot ?_ gp⟩
    obtain ⟨kvs, e, _, q⟩ := Si.gk
    exact ⟨kvs, e, fun k hk => q k ((by decide : ∀ k ∈ (["near", "word", "whole", "least", "told", "mark", "first", "spots"] : List Str), k ∈ (["spots", "first", "mark", "told", "least", "whole", "word", "near"] : List Str)) k hk)⟩
end
end K18
namespace K18
open PySem PySem.Spec PyProof.Rows L2 Par
/-- one and the same: a thing at its place, or a value that is shown as it is -/
def Dm : Eqv := fun x y H => DFlat x y H ∨ ∃ a, x = .ref a ∧ y = .ref a
theorem mon_dm : Mon Dm := fun x y H H' e d => d.imp (fun d => mon_flat x y H H' e d) fun d => d
theorem eqG_dm {X : Cx} : EqG X 0 Dm := by
  refine EqG.or eqG_flat ?_
  intro A pins s σ H x y u v sb I rx ry d
  obtain ⟨a, rfl, rfl⟩ := d
  cases (show u = Value.ref a from rx)
  cases (show v = Value.ref a from ry)
  exact SeqAt.EqAt.same (A := A) (s := s) (.ref a) X.prog X.w X.xe _ ⟨rfl, H, I, Ext.rfl'⟩
theorem dm_of {v : V} {H : Hp} (h : plB v = true) : Dm v v H := by
  cases v with
  | non => exact .inl ⟨rfl, rfl, rfl⟩
  | bl b => exact .inl ⟨rfl, rfl, beq_self_eq_true b⟩
  | int i => exact .inl ⟨rfl, rfl, beq_self_eq_true i⟩
  | str x => exact .inl ⟨rfl, rfl, beq_self_eq_true x⟩
  | ref a => exact .inr ⟨a, rfl, rfl⟩
  | flt _ => cases h
  | byt _ => cases h
  | ty _ => cases h
theorem all_reps (k : Nat) : (List.replicate k true).all id = true := by
  rw [List.all_eq_true]
  intro b hb
  rw [List.eq_of_mem_replicate hb]
  rfl
/-- the list of what was found: so many True -/
def Lt (H : Hp) (l : Addr) (k : Nat) : Prop := H l = some (.lst ((List.replicate k true).map V.bl))
theorem Lt.same {H H' : Hp} {l : Addr} {k : Nat} (s : Same H H') (h : Lt H l k) : Lt H' l k := s _ _ h
theorem app_t {σ : L2.St} {H H0 : Hp} {l : Addr} {k : Nat} {b : Bool} {Q : VK} (h : Lt H l k) (kl : k < 100) (ln : H0 l = none) (s : Same H0 H) (hb : b = true) (out : ∀ H', Same H0 H' → Lt H' l (k + 1) → Q .non H') : tNil σ H fun xs H2 => rAppend (.ref l) (.bl b :: xs) H2 Q := by
  refine ⟨l, _, _, rfl, rfl, h, small1000 (by rw [List.length_map, List.length_replicate]; omega), out _ (fun z o e => ?_) ?_⟩
  · rw [upd_ne (ne_of_none e ln)]
    exact s _ _ e
  · unfold Lt
    rw [upd_same, hb, List.replicate_succ', List.map_append]
    rfl
theorem seq_pair {t1 t2 rest : TS} {D : Ends} {σ : L2.St} {H : Hp} (R : L2.St → Hp → Prop) (h1 : ∀ U : TS, (∀ σ' H', R σ' H' → U D σ' H') → tSeq t1 (tSeq t2 U) D σ H) (h2 : ∀ σ' H', R σ' H' → rest D σ' H') : tSeq t1 (tSeq t2 rest) D σ H := h1 rest h2
section
variable {P : Program} {w : World} {K : PySem.W.Frag} {mg : Str → Option Value} {base : Heap}
def spPart : Sp := fun vs H Q _ => ∃ g : Addr, vs = [.ref g] ∧ GvAt H g ∧ ∀ H', Same H H' → Q (.bl true) H'
end
end K18
namespace K18
open PySem PySem.Spec PyProof.Rows L2 Par
abbrev slPart0_ : Stmt := topS 60
section
variable {P : Program} {w : World} {K : PySem.W.Frag} {mg : Str → Option Value} {base : Heap}
abbrev nPart0 : List Str := ["_law_given_here", "_law_near", "_law_word", "_law_found", "_law_e"]
theorem scPart0 : FnScope nPart0 ["_law_given_here"] (defScope slPart0_) := ⟨rfl, rfl, rfl, by decide +kernel, rfl, by decide +kernel, by decide +kernel⟩
theorem ok_part0 {f : Addr} {fd : FuncData} (F : Fun K "_law_part_0" "_law_part_0" slPart0_ f fd) (B : Bl mg) (EK : ExK K mg) (DW : Has P w K mg base "_law_words" 3 ["_law_e"] (spWords (K := K))) (DB : Has P w K mg base "_law_base" 2 ["_law_e"] (spBase (K := K))) (DNoSize : HasEr P w K mg base "NoSize" ["value"] ["value"] (fun us ws => us ++ ws) (fun vs zs => vs ++ zs)) (DNoCell : HasEr P w K mg base "NoCell" ["cell"] ["cell"] (fun us ws => us ++ ws) (fun vs zs => vs ++ zs)) (DNoCells : HasEr P w K mg base "NoCells" ["cells"] ["cells"] (fun us ws => us ++ ws) (fun vs zs => vs ++ zs)) (DNoFlip : HasEr P w K mg base "NoFlip" ["why"] ["why"] (fun us ws => us ++ ws) (fun vs zs => vs ++ zs)) (DNoTable : HasEr P w K mg base "NoTable" ["why"] ["why"] (fun us ws => us ++ ws) (fun vs zs => vs ++ zs)) (DNoTime : HasEr P w K mg base "NoTime" ["time"] ["time"] (fun us ws => us ++ ws) (fun vs zs => vs ++ zs)) (DNoStamp : HasEr P w K mg base "NoStamp" ["stamp"] ["stamp"] (fun us ws => us ++ ws) (fun vs zs => vs ++ zs)) (DNoCount : HasEr P w K mg base "NoCount" ["count"] ["count"] (fun us ws => us ++ ws) (fun vs zs => vs ++ zs)) : FnG P w K mg base CX0 4 f fd ["_law_given_here"] spPart := by
  obtain ⟨fW, fdW, GW, mW, kW, bW⟩ := DW
  obtain ⟨fB, fdB, GB, mB, kB, bB⟩ := DB
  obtain ⟨fNoSize, fdNoSize, TNoSize, XNoSize, nNoSize, iNoSize, tNoSize, GNoSize, bNoSize, kNoSize⟩ := DNoSize
  obtain ⟨fNoCell, fdNoCell, TNoCell, XNoCell, nNoCell, iNoCell, tNoCell, GNoCell, bNoCell, kNoCell⟩ := DNoCell
  obtain ⟨fNoCells, fdNoCells, TNoCells, XNoCells, nNoCells, iNoCells, tNoCells, GNoCells, bNoCells, kNoCells⟩ := DNoCells
  obtain ⟨fNoFlip, fdNoFlip, TNoFlip, XNoFlip, nNoFlip, iNoFlip, tNoFlip, GNoFlip, bNoFlip, kNoFlip⟩ := DNoFlip
  obtain ⟨fNoTable, fdNoTable, TNoTable, XNoTable, nNoTable, iNoTable, tNoTable, GNoTable, bNoTable, kNoTable⟩ := DNoTable
  obtain ⟨fNoTime, fdNoTime, TNoTime, XNoTime, nNoTime, iNoTime, tNoTime, GNoTime, bNoTime, kNoTime⟩ := DNoTime
  obtain ⟨fNoStamp, fdNoStamp, TNoStamp, XNoStamp, nNoStamp, iNoStamp, tNoStamp, GNoStamp, bNoStamp, kNoStamp⟩ := DNoStamp
  obtain ⟨fNoCount, fdNoCount, TNoCount, XNoCount, nNoCount, iNoCount, tNoCount, GNoCount, bNoCount, kNoCount⟩ := DNoCount
  refine fnG_of F scPart0 (fun vs H Q E h => ?_) (fun cdv A outer s H vs Q E gs hr h => ?_)
  · obtain ⟨g, rfl, _⟩ := h
    rfl
  · obtain ⟨g, rfl, hg, out⟩ := h
    have hu := hr.units
    have hu1 := hu_of hr
    have r1 : Room 1 _ := hr.mono (by decide)
    have r2 : Room 2 _ := hr.mono (by decide)
    have r3 : Room 3 _ := hr
    refine ⟨_, (pss_cons (ps_set (i := 1) scPart0.nd rfl (Or.inl rfl) (pe_dget hu1 (pv 0) pe_str (fun _ _ => rfl)))
      (pss_cons (ps_set (i := 2) scPart0.nd rfl (Or.inl rfl) (pe_dget hu1 (pv 0) pe_str (fun _ _ => rfl)))
      (pss_cons (ps_set (i := 3) scPart0.nd rfl (Or.inl rfl) (pe_lst pa_nil))
      (pss_cons (ps_set (i := 4) scPart0.nd rfl (Or.inl rfl) (pe_mkEr TNoSize iNoSize tNoSize GNoSize r3 bNoSize pass0 (by rfl) (EK.mgc _ (List.mem_of_getElem? (i := 0) rfl)) (pa_cons (pv 1) pa_nil)))
      (pss_cons (ps_expr (pe_bm PySem.F.plainAttrs_list PySem.F.slot_list_append PySem.F.type_list_append mt_append (pv 3) (pa_cons (pe_and (pe_cmpR (op_eqP hu) (pe_call GW r3 (by rfl) mW kW bW .nil pass0 (pa_cons (pv 4) pa_nil)) (pe_lst (pa_cons pe_str pa_nil)) (nomark _)) (pe_one (pe_cmpR (op_eqG (rcG_list mon_dm eqG_dm) r1) (pe_lst (pa_cons (pe_fe (pv 4)) pa_nil)) (pe_lst (pa_cons (pv 1) pa_nil)) (nomark _)))) pa_nil)))
      (pss_cons (ps_set (i := 4) scPart0.nd rfl (Or.inl rfl) (pe_mkEk (ks := ["value"]) TNoSize iNoSize tNoSize GNoSize r3 kNoSize pass0 (by rfl) (EK.mgc _ (List.mem_of_getElem? (i := 0) rfl)) (pk_cons (pv 1) pk_nil)))
      (pss_cons (ps_expr (pe_bm PySem.F.plainAttrs_list PySem.F.slot_list_append PySem.F.type_list_append mt_append (pv 3) (pa_cons (pe_and (pe_cmpR op_eq (pe_call GB r2 (by rfl) mB kB bB .nil pass0 (pa_cons (pv 4) pa_nil)) pe_int (nomark _)) (pe_one (pe_cmpR (op_eqG (rcG_list mon_dm eqG_dm) r1) (pe_lst (pa_cons (pe_fe (pv 4)) pa_nil)) (pe_lst (pa_cons (pv 1) pa_nil)) (nomark _)))) pa_nil)))
      (pss_cons (ps_set (i := 4) scPart0.nd rfl (Or.inl rfl) (pe_mkEr TNoCell iNoCell tNoCell GNoCell r3 bNoCell pass0 (by rfl) (EK.mgc _ (List.mem_of_getElem? (i := 1) rfl)) (pa_cons (pv 1) pa_nil)))
      (pss_cons (ps_expr (pe_bm PySem.F.plainAttrs_list PySem.F.slot_list_append PySem.F.type_list_append mt_append (pv 3) (pa_cons (pe_and (pe_cmpR (op_eqP hu) (pe_call GW r3 (by rfl) mW kW bW .nil pass0 (pa_cons (pv 4) pa_nil)) (pe_lst (pa_cons pe_str pa_nil)) (nomark _)) (pe_one (pe_cmpR (op_eqG (rcG_list mon_dm eqG_dm) r1) (pe_lst (pa_cons (pe_fe (pv 4)) pa_nil)) (pe_lst (pa_cons (pv 1) pa_nil)) (nomark _)))) pa_nil)))
      (pss_cons (ps_set (i := 4) scPart0.nd rfl (Or.inl rfl) (pe_mkEk (ks := ["cell"]) TNoCell iNoCell tNoCell GNoCell r3 kNoCell pass0 (by rfl) (EK.mgc _ (List.mem_of_getElem? (i := 1) rfl)) (pk_cons (pv 1) pk_nil)))
      (pss_cons (ps_expr (pe_bm PySem.F.plainAttrs_list PySem.F.slot_list_append PySem.F.type_list_append mt_append (pv 3) (pa_cons (pe_and (pe_cmpR op_eq (pe_call GB r2 (by rfl) mB kB bB .nil pass0 (pa_cons (pv 4) pa_nil)) pe_int (nomark _)) (pe_one (pe_cmpR (op_eqG (rcG_list mon_dm eqG_dm) r1) (pe_lst (pa_cons (pe_fe (pv 4)) pa_nil)) (pe_lst (pa_cons (pv 1) pa_nil)) (nomark _)))) pa_nil)))
      (pss_cons (ps_set (i := 4) scPart0.nd rfl (Or.inl rfl) (pe_mkEr TNoCells iNoCells tNoCells GNoCells r3 bNoCells pass0 (by rfl) (EK.mgc _ (List.mem_of_getElem? (i := 2) rfl)) (pa_cons (pv 1) pa_nil)))
      (pss_cons (ps_expr (pe_bm PySem.F.plainAttrs_list PySem.F.slot_list_append PySem.F.type_list_append mt_append (pv 3) (pa_cons (pe_and (pe_cmpR (op_eqP hu) (pe_call GW r3 (by rfl) mW kW bW .nil pass0 (pa_cons (pv 4) pa_nil)) (pe_lst (pa_cons pe_str pa_nil)) (nomark _)) (pe_one (pe_cmpR (op_eqG (rcG_list mon_dm eqG_dm) r1) (pe_lst (pa_cons (pe_fe (pv 4)) pa_nil)) (pe_lst (pa_cons (pv 1) pa_nil)) (nomark _)))) pa_nil)))
      (pss_cons (ps_set (i := 4) scPart0.nd rfl (Or.inl rfl) (pe_mkEk (ks := ["cells"]) TNoCells iNoCells tNoCells GNoCells r3 kNoCells pass0 (by rfl) (EK.mgc _ (List.mem_of_getElem? (i := 2) rfl)) (pk_cons (pv 1) pk_nil)))
      (pss_cons (ps_expr (pe_bm PySem.F.plainAttrs_list PySem.F.slot_list_append PySem.F.type_list_append mt_append (pv 3) (pa_cons (pe_and (pe_cmpR op_eq (pe_call GB r2 (by rfl) mB kB bB .nil pass0 (pa_cons (pv 4) pa_nil)) pe_int (nomark _)) (pe_one (pe_cmpR (op_eqG (rcG_list mon_dm eqG_dm) r1) (pe_lst (pa_cons (pe_fe (pv 4)) pa_nil)) (pe_lst (pa_cons (pv 1) pa_nil)) (nomark _)))) pa_nil)))
      (pss_cons (ps_set (i := 4) scPart0.nd rfl (Or.inl rfl) (pe_mkEr TNoFlip iNoFlip tNoFlip GNoFlip r3 bNoFlip pass0 (by rfl) (EK.mgc _ (List.mem_of_getElem? (i := 3) rfl)) (pa_cons (pv 2) pa_nil)))
      (pss_cons (ps_expr (pe_bm PySem.F.plainAttrs_list PySem.F.slot_list_append PySem.F.type_list_append mt_append (pv 3) (pa_cons (pe_and (pe_cmpR (op_eqP hu) (pe_call GW r3 (by rfl) mW kW bW .nil pass0 (pa_cons (pv 4) pa_nil)) (pe_lst (pa_cons pe_str pa_nil)) (nomark _)) (pe_one (pe_cmpR (op_eqG (rcG_list mon_dm eqG_dm) r1) (pe_lst (pa_cons (pe_fe (pv 4)) pa_nil)) (pe_lst (pa_cons (pv 2) pa_nil)) (nomark _)))) pa_nil)))
      (pss_cons (ps_set (i := 4) scPart0.nd rfl (Or.inl rfl) (pe_mkEk (ks := ["why"]) TNoFlip iNoFlip tNoFlip GNoFlip r3 kNoFlip pass0 (by rfl) (EK.mgc _ (List.mem_of_getElem? (i := 3) rfl)) (pk_cons (pv 2) pk_nil)))
      (pss_cons (ps_expr (pe_bm PySem.F.plainAttrs_list PySem.F.slot_list_append PySem.F.type_list_append mt_append (pv 3) (pa_cons (pe_and (pe_cmpR op_eq (pe_call GB r2 (by rfl) mB kB bB .nil pass0 (pa_cons (pv 4) pa_nil)) pe_int (nomark _)) (pe_one (pe_cmpR (op_eqG (rcG_list mon_dm eqG_dm) r1) (pe_lst (pa_cons (pe_fe (pv 4)) pa_nil)) (pe_lst (pa_cons (pv 2) pa_nil)) (nomark _)))) pa_nil)))
      (pss_cons (ps_set (i := 4) scPart0.nd rfl (Or.inl rfl) (pe_mkEr TNoTable iNoTable tNoTable GNoTable r3 bNoTable pass0 (by rfl) (EK.mgc _ (List.mem_of_getElem? (i := 4) rfl)) (pa_cons (pv 2) pa_nil)))
      (pss_cons (ps_expr (pe_bm PySem.F.plainAttrs_list PySem.F.slot_list_append PySem.F.type_list_append mt_append (pv 3) (pa_cons (pe_and (pe_cmpR (op_eqP hu) (pe_call GW r3 (by rfl) mW kW bW .nil pass0 (pa_cons (pv 4) pa_nil)) (pe_lst (pa_cons pe_str pa_nil)) (nomark _)) (pe_one (pe_cmpR (op_eqG (rcG_list mon_dm eqG_dm) r1) (pe_lst (pa_cons (pe_fe (pv 4)) pa_nil)) (pe_lst (pa_cons (pv 2) pa_nil)) (nomark _)))) pa_nil)))
      (pss_cons (ps_set (i := 4) scPart0.nd rfl (Or.inl rfl) (pe_mkEk (ks := ["why"]) TNoTable iNoTable tNoTable GNoTable r3 kNoTable pass0 (by rfl) (EK.mgc _ (List.mem_of_getElem? (i := 4) rfl)) (pk_cons (pv 2) pk_nil)))
      (pss_cons (ps_expr (pe_bm PySem.F.plainAttrs_list PySem.F.slot_list_append PySem.F.type_list_append mt_append (pv 3) (pa_cons (pe_and (pe_cmpR op_eq (pe_call GB r2 (by rfl) mB kB bB .nil pass0 (pa_cons (pv 4) pa_nil)) pe_int (nomark _)) (pe_one (pe_cmpR (op_eqG (rcG_list mon_dm eqG_dm) r1) (pe_lst (pa_cons (pe_fe (pv 4)) pa_nil)) (pe_lst (pa_cons (pv 2) pa_nil)) (nomark _)))) pa_nil)))
      (pss_cons (ps_set (i := 4) scPart0.nd rfl (Or.inl rfl) (pe_mkEr TNoTime iNoTime tNoTime GNoTime r3 bNoTime pass0 (by rfl) (EK.mgc _ (List.mem_of_getElem? (i := 5) rfl)) (pa_cons (pv 1) pa_nil)))
      (pss_cons (ps_expr (pe_bm PySem.F.plainAttrs_list PySem.F.slot_list_append PySem.F.type_list_append mt_append (pv 3) (pa_cons (pe_and (pe_cmpR (op_eqP hu) (pe_call GW r3 (by rfl) mW kW bW .nil pass0 (pa_cons (pv 4) pa_nil)) (pe_lst (pa_cons pe_str pa_nil)) (nomark _)) (pe_one (pe_cmpR (op_eqG (rcG_list mon_dm eqG_dm) r1) (pe_lst (pa_cons (pe_fe (pv 4)) pa_nil)) (pe_lst (pa_cons (pv 1) pa_nil)) (nomark _)))) pa_nil)))
      (pss_cons (ps_set (i := 4) scPart0.nd rfl (Or.inl rfl) (pe_mkEk (ks := ["time"]) TNoTime iNoTime tNoTime GNoTime r3 kNoTime pass0 (by rfl) (EK.mgc _ (List.mem_of_getElem? (i := 5) rfl)) (pk_cons (pv 1) pk_nil)))
      (pss_cons (ps_expr (pe_bm PySem.F.plainAttrs_list PySem.F.slot_list_append PySem.F.type_list_append mt_append (pv 3) (pa_cons (pe_and (pe_cmpR op_eq (pe_call GB r2 (by rfl) mB kB bB .nil pass0 (pa_cons (pv 4) pa_nil)) pe_int (nomark _)) (pe_one (pe_cmpR (op_eqG (rcG_list mon_dm eqG_dm) r1) (pe_lst (pa_cons (pe_fe (pv 4)) pa_nil)) (pe_lst (pa_cons (pv 1) pa_nil)) (nomark _)))) pa_nil)))
      (pss_cons (ps_set (i := 4) scPart0.nd rfl (Or.inl rfl) (pe_mkEr TNoStamp iNoStamp tNoStamp GNoStamp r3 bNoStamp pass0 (by rfl) (EK.mgc _ (List.mem_of_getElem? (i := 6) rfl)) (pa_cons (pv 1) pa_nil)))
      (pss_cons (ps_expr (pe_bm PySem.F.plainAttrs_list PySem.F.slot_list_append PySem.F.type_list_append mt_append (pv 3) (pa_cons (pe_and (pe_cmpR (op_eqP hu) (pe_call GW r3 (by rfl) mW kW bW .nil pass0 (pa_cons (pv 4) pa_nil)) (pe_lst (pa_cons pe_str pa_nil)) (nomark _)) (pe_one (pe_cmpR (op_eqG (rcG_list mon_dm eqG_dm) r1) (pe_lst (pa_cons (pe_fe (pv 4)) pa_nil)) (pe_lst (pa_cons (pv 1) pa_nil)) (nomark _)))) pa_nil)))
      (pss_cons (ps_set (i := 4) scPart0.nd rfl (Or.inl rfl) (pe_mkEk (ks := ["stamp"]) TNoStamp iNoStamp tNoStamp GNoStamp r3 kNoStamp pass0 (by rfl) (EK.mgc _ (List.mem_of_getElem? (i := 6) rfl)) (pk_cons (pv 1) pk_nil)))
      (pss_cons (ps_expr (pe_bm PySem.F.plainAttrs_list PySem.F.slot_list_append PySem.F.type_list_append mt_append (pv 3) (pa_cons (pe_and (pe_cmpR op_eq (pe_call GB r2 (by rfl) mB kB bB .nil pass0 (pa_cons (pv 4) pa_nil)) pe_int (nomark _)) (pe_one (pe_cmpR (op_eqG (rcG_list mon_dm eqG_dm) r1) (pe_lst (pa_cons (pe_fe (pv 4)) pa_nil)) (pe_lst (pa_cons (pv 1) pa_nil)) (nomark _)))) pa_nil)))
      (pss_cons (ps_set (i := 4) scPart0.nd rfl (Or.inl rfl) (pe_mkEr TNoCount iNoCount tNoCount GNoCount r3 bNoCount pass0 (by rfl) (EK.mgc _ (List.mem_of_getElem? (i := 7) rfl)) (pa_cons (pv 1) pa_nil)))
      (pss_cons (ps_expr (pe_bm PySem.F.plainAttrs_list PySem.F.slot_list_append PySem.F.type_list_append mt_append (pv 3) (pa_cons (pe_and (pe_cmpR (op_eqP hu) (pe_call GW r3 (by rfl) mW kW bW .nil pass0 (pa_cons (pv 4) pa_nil)) (pe_lst (pa_cons pe_str pa_nil)) (nomark _)) (pe_one (pe_cmpR (op_eqG (rcG_list mon_dm eqG_dm) r1) (pe_lst (pa_cons (pe_fe (pv 4)) pa_nil)) (pe_lst (pa_cons (pv 1) pa_nil)) (nomark _)))) pa_nil)))
      (pss_cons (ps_set (i := 4) scPart0.nd rfl (Or.inl rfl) (pe_mkEk (ks := ["count"]) TNoCount iNoCount tNoCount GNoCount r3 kNoCount pass0 (by rfl) (EK.mgc _ (List.mem_of_getElem? (i := 7) rfl)) (pk_cons (pv 1) pk_nil)))
      (pss_cons (ps_expr (pe_bm PySem.F.plainAttrs_list PySem.F.slot_list_append PySem.F.type_list_append mt_append (pv 3) (pa_cons (pe_and (pe_cmpR op_eq (pe_call GB r2 (by rfl) mB kB bB .nil pass0 (pa_cons (pv 4) pa_nil)) pe_int (nomark _)) (pe_one (pe_cmpR (op_eqG (rcG_list mon_dm eqG_dm) r1) (pe_lst (pa_cons (pe_fe (pv 4)) pa_nil)) (pe_lst (pa_cons (pv 1) pa_nil)) (nomark _)))) pa_nil)))
      (pss_one (ps_ret (pe_callB (cr_all rfl) (by rfl) B.all (by decide +kernel) (pa_cons (pv 3) pa_nil))))))))))))))))))))))))))))))))))))))), ?_⟩
    obtain ⟨v1, d1, p1⟩ := hg.get (k := "near") (by decide)
    refine ⟨_, rfl, g, v1, rfl, d1, ?_⟩
    obtain ⟨v2, d2, p2⟩ := hg.get (k := "word") (by decide)
    refine ⟨_, rfl, g, v2, rfl, d2, ?_⟩
    refine ⟨(by show 0 ≤ sizeLine; decide), fun l hl => ?_⟩
    have s0 : Same H (upd H l (.lst [])) := same_new hl
    have t0 : Lt (upd H l (.lst [])) l 0 := upd_same
    generalize (upd H l (.lst [])) = H0 at s0 t0 ⊢
    dsimp only [gName]
    -- NoSize
    refine seq_pair (fun σ' H' => ∃ a : Addr, σ' = [some (.ref g), some v1, some v2, some (.ref l), some (.ref a)] ∧ Same H H' ∧ Lt H' l 1) (fun U hU => ?_) ?_
    · skip
      refine ⟨_, rfl, ?_⟩
      refine ⟨(by show 1 ≤ 1000; decide), made_er (fs := ["value"]) (ws := [v1]) rfl fun a Ha ha sa ea => ?_⟩
      have sa0 := s0.trans sa
      have ta := t0.same sa
      refine ⟨_, rfl, .inl ⟨rfl, _, SqL.of ta⟩, ?_⟩
      refine ⟨_, rfl, a, "NoSize", 0, _, rfl, (List.mem_of_getElem? (i := 0) rfl), ea, fun q Hb hq sb eq => ?_⟩
      refine ⟨(by show 1 ≤ sizeLine; decide), fun q2 hq2 => ?_⟩
      have sc := same_new (o := .lst [.str "NoSize"]) hq2
      have ec : (upd Hb q2 (.lst [.str "NoSize"])) q2 = some (.lst [.str "NoSize"]) := upd_same
      generalize (upd Hb q2 (.lst [.str "NoSize"])) = Hc at sc ec ⊢
      refine ⟨.list [.str "NoSize"], .list [.str "NoSize"], .lst (SqL.of (sc _ _ eq)) (.cons (.str _) .nil), .lst (SqL.of ec) (.cons (.str _) .nil), rfl, rfl, by decide, _, rfl, iteP (by decide +kernel) ?_⟩
      have sac := sb.trans sc
      refine ⟨_, rfl, a, _, _, _, rfl, ea.same sac, XNoSize, nNoSize _ (by simp), rfl, ?_⟩
      refine ⟨(by show 1 ≤ sizeLine; decide), fun q3 hq3 => ?_⟩
      have sd := same_new (o := .lst [v1]) hq3
      have ed : (upd Hc q3 (.lst [v1])) q3 = some (.lst [v1]) := upd_same
      refine ⟨_, rfl, ?_⟩
      refine ⟨(by show 1 ≤ sizeLine; decide), fun q4 hq4 => ?_⟩
      have se := same_new (o := .lst [v1]) hq4
      have ee : (upd (upd Hc q3 (.lst [v1])) q4 (.lst [v1])) q4 = some (.lst [v1]) := upd_same
      refine ⟨⟨q3, q4, [v1], [v1], rfl, rfl, se _ _ ed, ee, .cons (dm_of p1) (.nil)⟩, fun He ext => ?_⟩
      have sae := ((sac.trans sd).trans se).trans ext
      refine app_t (ta.same sae) (by decide) hl (sa0.trans sae) rfl fun H9 s9 t9 => hU _ _ ⟨a, rfl, s9, t9⟩
    rintro _ H1 ⟨_, rfl, s1, t1⟩
    -- NoSize
    refine seq_pair (fun σ' H' => ∃ a : Addr, σ' = [some (.ref g), some v1, some v2, some (.ref l), some (.ref a)] ∧ Same H H' ∧ Lt H' l 2) (fun U hU => ?_) ?_
    · skip
      refine ⟨_, rfl, ?_⟩
      refine ⟨rfl, made_er (fs := ["value"]) (ws := [v1]) rfl fun a Ha ha sa ea => ?_⟩
      have sa0 := s1.trans sa
      have ta := t1.same sa
      refine ⟨_, rfl, .inl ⟨rfl, _, SqL.of ta⟩, ?_⟩
      refine ⟨_, rfl, a, "NoSize", 0, _, rfl, (List.mem_of_getElem? (i := 0) rfl), ea, fun Hc sac => ?_⟩
      refine ⟨rfl, _, rfl, iteP (by decide +kernel) ?_⟩
      refine ⟨_, rfl, a, _, _, _, rfl, ea.same sac, XNoSize, nNoSize _ (by simp), rfl, ?_⟩
      refine ⟨(by show 1 ≤ sizeLine; decide), fun q3 hq3 => ?_⟩
      have sd := same_new (o := .lst [v1]) hq3
      have ed : (upd Hc q3 (.lst [v1])) q3 = some (.lst [v1]) := upd_same
      refine ⟨_, rfl, ?_⟩
      refine ⟨(by show 1 ≤ sizeLine; decide), fun q4 hq4 => ?_⟩
      have se := same_new (o := .lst [v1]) hq4
      have ee : (upd (upd Hc q3 (.lst [v1])) q4 (.lst [v1])) q4 = some (.lst [v1]) := upd_same
      refine ⟨⟨q3, q4, [v1], [v1], rfl, rfl, se _ _ ed, ee, .cons (dm_of p1) (.nil)⟩, fun He ext => ?_⟩
      have sae := ((sac.trans sd).trans se).trans ext
      refine app_t (ta.same sae) (by decide) hl (sa0.trans sae) rfl fun H9 s9 t9 => hU _ _ ⟨a, rfl, s9, t9⟩
    rintro _ H2 ⟨_, rfl, s2, t2⟩
    -- NoCell
    refine seq_pair (fun σ' H' => ∃ a : Addr, σ' = [some (.ref g), some v1, some v2, some (.ref l), some (.ref a)] ∧ Same H H' ∧ Lt H' l 3) (fun U hU => ?_) ?_
    · skip
      refine ⟨_, rfl, ?_⟩
      refine ⟨(by show 1 ≤ 1000; decide), made_er (fs := ["cell"]) (ws := [v1]) rfl fun a Ha ha sa ea => ?_⟩
      have sa0 := s2.trans sa
      have ta := t2.same sa
      refine ⟨_, rfl, .inl ⟨rfl, _, SqL.of ta⟩, ?_⟩
      refine ⟨_, rfl, a, "NoCell", 0, _, rfl, (List.mem_of_getElem? (i := 1) rfl), ea, fun q Hb hq sb eq => ?_⟩
      refine ⟨(by show 1 ≤ sizeLine; decide), fun q2 hq2 => ?_⟩
      have sc := same_new (o := .lst [.str "NoCell"]) hq2
      have ec : (upd Hb q2 (.lst [.str "NoCell"])) q2 = some (.lst [.str "NoCell"]) := upd_same
      generalize (upd Hb q2 (.lst [.str "NoCell"])) = Hc at sc ec ⊢
      refine ⟨.list [.str "NoCell"], .list [.str "NoCell"], .lst (SqL.of (sc _ _ eq)) (.cons (.str _) .nil), .lst (SqL.of ec) (.cons (.str _) .nil), rfl, rfl, by decide, _, rfl, iteP (by decide +kernel) ?_⟩
      have sac := sb.trans sc
      refine ⟨_, rfl, a, _, _, _, rfl, ea.same sac, XNoCell, nNoCell _ (by simp), rfl, ?_⟩
      refine ⟨(by show 1 ≤ sizeLine; decide), fun q3 hq3 => ?_⟩
      have sd := same_new (o := .lst [v1]) hq3
      have ed : (upd Hc q3 (.lst [v1])) q3 = some (.lst [v1]) := upd_same
      refine ⟨_, rfl, ?_⟩
      refine ⟨(by show 1 ≤ sizeLine; decide), fun q4 hq4 => ?_⟩
      have se := same_new (o := .lst [v1]) hq4
      have ee : (upd (upd Hc q3 (.lst [v1])) q4 (.lst [v1])) q4 = some (.lst [v1]) := upd_same
      refine ⟨⟨q3, q4, [v1], [v1], rfl, rfl, se _ _ ed, ee, .cons (dm_of p1) (.nil)⟩, fun He ext => ?_⟩
      have sae := ((sac.trans sd).trans se).trans ext
      refine app_t (ta.same sae) (by decide) hl (sa0.trans sae) rfl fun H9 s9 t9 => hU _ _ ⟨a, rfl, s9, t9⟩
    rintro _ H3 ⟨_, rfl, s3, t3⟩
    -- NoCell
    refine seq_pair (fun σ' H' => ∃ a : Addr, σ' = [some (.ref g), some v1, some v2, some (.ref l), some (.ref a)] ∧ Same H H' ∧ Lt H' l 4) (fun U hU => ?_) ?_
    · skip
      refine ⟨_, rfl, ?_⟩
      refine ⟨rfl, made_er (fs := ["cell"]) (ws := [v1]) rfl fun a Ha ha sa ea => ?_⟩
      have sa0 := s3.trans sa
      have ta := t3.same sa
      refine ⟨_, rfl, .inl ⟨rfl, _, SqL.of ta⟩, ?_⟩
      refine ⟨_, rfl, a, "NoCell", 0, _, rfl, (List.mem_of_getElem? (i := 1) rfl), ea, fun Hc sac => ?_⟩
      refine ⟨rfl, _, rfl, iteP (by decide +kernel) ?_⟩
      refine ⟨_, rfl, a, _, _, _, rfl, ea.same sac, XNoCell, nNoCell _ (by simp), rfl, ?_⟩
      refine ⟨(by show 1 ≤ sizeLine; decide), fun q3 hq3 => ?_⟩
      have sd := same_new (o := .lst [v1]) hq3
      have ed : (upd Hc q3 (.lst [v1])) q3 = some (.lst [v1]) := upd_same
      refine ⟨_, rfl, ?_⟩
      refine ⟨(by show 1 ≤ sizeLine; decide), fun q4 hq4 => ?_⟩
      have se := same_new (o := .lst [v1]) hq4
      have ee : (upd (upd Hc q3 (.lst [v1])) q4 (.lst [v1])) q4 = some (.lst [v1]) := upd_same
      refine ⟨⟨q3, q4, [v1], [v1], rfl, rfl, se _ _ ed, ee, .cons (dm_of p1) (.nil)⟩, fun He ext => ?_⟩
      have sae := ((sac.trans sd).trans se).trans ext
      refine app_t (ta.same sae) (by decide) hl (sa0.trans sae) rfl fun H9 s9 t9 => hU _ _ ⟨a, rfl, s9, t9⟩
    rintro _ H4 ⟨_, rfl, s4, t4⟩
    -- NoCells
    refine seq_pair (fun σ' H' => ∃ a : Addr, σ' = [some (.ref g), some v1, some v2, some (.ref l), some (.ref a)] ∧ Same H H' ∧ Lt H' l 5) (fun U hU => ?_) ?_
    · skip
      refine ⟨_, rfl, ?_⟩
      refine ⟨(by show 1 ≤ 1000; decide), made_er (fs := ["cells"]) (ws := [v1]) rfl fun a Ha ha sa ea => ?_⟩
      have sa0 := s4.trans sa
      have ta := t4.same sa
      refine ⟨_, rfl, .inl ⟨rfl, _, SqL.of ta⟩, ?_⟩
      refine ⟨_, rfl, a, "NoCells", 0, _, rfl, (List.mem_of_getElem? (i := 2) rfl), ea, fun q Hb hq sb eq => ?_⟩
      refine ⟨(by show 1 ≤ sizeLine; decide), fun q2 hq2 => ?_⟩
      have sc := same_new (o := .lst [.str "NoCells"]) hq2
      have ec : (upd Hb q2 (.lst [.str "NoCells"])) q2 = some (.lst [.str "NoCells"]) := upd_same
      generalize (upd Hb q2 (.lst [.str "NoCells"])) = Hc at sc ec ⊢
      refine ⟨.list [.str "NoCells"], .list [.str "NoCells"], .lst (SqL.of (sc _ _ eq)) (.cons (.str _) .nil), .lst (SqL.of ec) (.cons (.str _) .nil), rfl, rfl, by decide, _, rfl, iteP (by decide +kernel) ?_⟩
      have sac := sb.trans sc
      refine ⟨_, rfl, a, _, _, _, rfl, ea.same sac, XNoCells, nNoCells _ (by simp), rfl, ?_⟩
      refine ⟨(by show 1 ≤ sizeLine; decide), fun q3 hq3 => ?_⟩
      have sd := same_new (o := .lst [v1]) hq3
      have ed : (upd Hc q3 (.lst [v1])) q3 = some (.lst [v1]) := upd_same
      refine ⟨_, rfl, ?_⟩
      refine ⟨(by show 1 ≤ sizeLine; decide), fun q4 hq4 => ?_⟩
      have se := same_new (o := .lst [v1]) hq4
      have ee : (upd (upd Hc q3 (.lst [v1])) q4 (.lst [v1])) q4 = some (.lst [v1]) := upd_same
      refine ⟨⟨q3, q4, [v1], [v1], rfl, rfl, se _ _ ed, ee, .cons (dm_of p1) (.nil)⟩, fun He ext => ?_⟩
      have sae := ((sac.trans sd).trans se).trans ext
      refine app_t (ta.same sae) (by decide) hl (sa0.trans sae) rfl fun H9 s9 t9 => hU _ _ ⟨a, rfl, s9, t9⟩
    rintro _ H5 ⟨_, rfl, s5, t5⟩
    -- NoCells
    refine seq_pair (fun σ' H' => ∃ a : Addr, σ' = [some (.ref g), some v1, some v2, some (.ref l), some (.ref a)] ∧ Same H H' ∧ Lt H' l 6) (fun U hU => ?_) ?_
    · skip
      refine ⟨_, rfl, ?_⟩
      refine ⟨rfl, made_er (fs := ["cells"]) (ws := [v1]) rfl fun a Ha ha sa ea => ?_⟩
      have sa0 := s5.trans sa
      have ta := t5.same sa
      refine ⟨_, rfl, .inl ⟨rfl, _, SqL.of ta⟩, ?_⟩
      refine ⟨_, rfl, a, "NoCells", 0, _, rfl, (List.mem_of_getElem? (i := 2) rfl), ea, fun Hc sac => ?_⟩
      refine ⟨rfl, _, rfl, iteP (by decide +kernel) ?_⟩
      refine ⟨_, rfl, a, _, _, _, rfl, ea.same sac, XNoCells, nNoCells _ (by simp), rfl, ?_⟩
      refine ⟨(by show 1 ≤ sizeLine; decide), fun q3 hq3 => ?_⟩
      have sd := same_new (o := .lst [v1]) hq3
      have ed : (upd Hc q3 (.lst [v1])) q3 = some (.lst [v1]) := upd_same
      refine ⟨_, rfl, ?_⟩
      refine ⟨(by show 1 ≤ sizeLine; decide), fun q4 hq4 => ?_⟩
      have se := same_new (o := .lst [v1]) hq4
      have ee : (upd (upd Hc q3 (.lst [v1])) q4 (.lst [v1])) q4 = some (.lst [v1]) := upd_same
      refine ⟨⟨q3, q4, [v1], [v1], rfl, rfl, se _ _ ed, ee, .cons (dm_of p1) (.nil)⟩, fun He ext => ?_⟩
      have sae := ((sac.trans sd).trans se).trans ext
      refine app_t (ta.same sae) (by decide) hl (sa0.trans sae) rfl fun H9 s9 t9 => hU _ _ ⟨a, rfl, s9, t9⟩
    rintro _ H6 ⟨_, rfl, s6, t6⟩
    -- NoFlip
    refine seq_pair (fun σ' H' => ∃ a : Addr, σ' = [some (.ref g), some v1, some v2, some (.ref l), some (.ref a)] ∧ Same H H' ∧ Lt H' l 7) (fun U hU => ?_) ?_
    · skip
      refine ⟨_, rfl, ?_⟩
      refine ⟨(by show 1 ≤ 1000; decide), made_er (fs := ["why"]) (ws := [v2]) rfl fun a Ha ha sa ea => ?_⟩
      have sa0 := s6.trans sa
      have ta := t6.same sa
      refine ⟨_, rfl, .inl ⟨rfl, _, SqL.of ta⟩, ?_⟩
      refine ⟨_, rfl, a, "NoFlip", 0, _, rfl, (List.mem_of_getElem? (i := 3) rfl), ea, fun q Hb hq sb eq => ?_⟩
      refine ⟨(by show 1 ≤ sizeLine; decide), fun q2 hq2 => ?_⟩
      have sc := same_new (o := .lst [.str "NoFlip"]) hq2
      have ec : (upd Hb q2 (.lst [.str "NoFlip"])) q2 = some (.lst [.str "NoFlip"]) := upd_same
      generalize (upd Hb q2 (.lst [.str "NoFlip"])) = Hc at sc ec ⊢
      refine ⟨.list [.str "NoFlip"], .list [.str "NoFlip"], .lst (SqL.of (sc _ _ eq)) (.cons (.str _) .nil), .lst (SqL.of ec) (.cons (.str _) .nil), rfl, rfl, by decide, _, rfl, iteP (by decide +kernel) ?_⟩
      have sac := sb.trans sc
      refine ⟨_, rfl, a, _, _, _, rfl, ea.same sac, XNoFlip, nNoFlip _ (by simp), rfl, ?_⟩
      refine ⟨(by show 1 ≤ sizeLine; decide), fun q3 hq3 => ?_⟩
      have sd := same_new (o := .lst [v2]) hq3
      have ed : (upd Hc q3 (.lst [v2])) q3 = some (.lst [v2]) := upd_same
      refine ⟨_, rfl, ?_⟩
      refine ⟨(by show 1 ≤ sizeLine; decide), fun q4 hq4 => ?_⟩
      have se := same_new (o := .lst [v2]) hq4
      have ee : (upd (upd Hc q3 (.lst [v2])) q4 (.lst [v2])) q4 = some (.lst [v2]) := upd_same
      refine ⟨⟨q3, q4, [v2], [v2], rfl, rfl, se _ _ ed, ee, .cons (dm_of p2) (.nil)⟩, fun He ext => ?_⟩
      have sae := ((sac.trans sd).trans se).trans ext
      refine app_t (ta.same sae) (by decide) hl (sa0.trans sae) rfl fun H9 s9 t9 => hU _ _ ⟨a, rfl, s9, t9⟩
    rintro _ H7 ⟨_, rfl, s7, t7⟩
    -- NoFlip
    refine seq_pair (fun σ' H' => ∃ a : Addr, σ' = [some (.ref g), some v1, some v2, some (.ref l), some (.ref a)] ∧ Same H H' ∧ Lt H' l 8) (fun U hU => ?_) ?_
    · skip
      refine ⟨_, rfl, ?_⟩
      refine ⟨rfl, made_er (fs := ["why"]) (ws := [v2]) rfl fun a Ha ha sa ea => ?_⟩
      have sa0 := s7.trans sa
      have ta := t7.same sa
      refine ⟨_, rfl, .inl ⟨rfl, _, SqL.of ta⟩, ?_⟩
      refine ⟨_, rfl, a, "NoFlip", 0, _, rfl, (List.mem_of_getElem? (i := 3) rfl), ea, fun Hc sac => ?_⟩
      refine ⟨rfl, _, rfl, iteP (by decide +kernel) ?_⟩
      refine ⟨_, rfl, a, _, _, _, rfl, ea.same sac, XNoFlip, nNoFlip _ (by simp), rfl, ?_⟩
      refine ⟨(by show 1 ≤ sizeLine; decide), fun q3 hq3 => ?_⟩
      have sd := same_new (o := .lst [v2]) hq3
      have ed : (upd Hc q3 (.lst [v2])) q3 = some (.lst [v2]) := upd_same
      refine ⟨_, rfl, ?_⟩
      refine ⟨(by show 1 ≤ sizeLine; decide), fun q4 hq4 => ?_⟩
      have se := same_new (o := .lst [v2]) hq4
      have ee : (upd (upd Hc q3 (.lst [v2])) q4 (.lst [v2])) q4 = some (.lst [v2]) := upd_same
      refine ⟨⟨q3, q4, [v2], [v2], rfl, rfl, se _ _ ed, ee, .cons (dm_of p2) (.nil)⟩, fun He ext => ?_⟩
      have sae := ((sac.trans sd).trans se).trans ext
      refine app_t (ta.same sae) (by decide) hl (sa0.trans sae) rfl fun H9 s9 t9 => hU _ _ ⟨a, rfl, s9, t9⟩
    rintro _ H8 ⟨_, rfl, s8, t8⟩
    -- NoTable
    refine seq_pair (fun σ' H' => ∃ a : Addr, σ' = [some (.ref g), some v1, some v2, some (.ref l), some (.ref a)] ∧ Same H H' ∧ Lt H' l 9) (fun U hU => ?_) ?_
    · skip
      refine ⟨_, rfl, ?_⟩
      refine ⟨(by show 1 ≤ 1000; decide), made_er (fs := ["why"]) (ws := [v2]) rfl fun a Ha ha sa ea => ?_⟩
      have sa0 := s8.trans sa
      have ta := t8.same sa
      refine ⟨_, rfl, .inl ⟨rfl, _, SqL.of ta⟩, ?_⟩
      refine ⟨_, rfl, a, "NoTable", 0, _, rfl, (List.mem_of_getElem? (i := 4) rfl), ea, fun q Hb hq sb eq => ?_⟩
      refine ⟨(by show 1 ≤ sizeLine; decide), fun q2 hq2 => ?_⟩
      have sc := same_new (o := .lst [.str "NoTable"]) hq2
      have ec : (upd Hb q2 (.lst [.str "NoTable"])) q2 = some (.lst [.str "NoTable"]) := upd_same
      generalize (upd Hb q2 (.lst [.str "NoTable"])) = Hc at sc ec ⊢
      refine ⟨.list [.str "NoTable"], .list [.str "NoTable"], .lst (SqL.of (sc _ _ eq)) (.cons (.str _) .nil), .lst (SqL.of ec) (.cons (.str _) .nil), rfl, rfl, by decide, _, rfl, iteP (by decide +kernel) ?_⟩
      have sac := sb.trans sc
      refine ⟨_, rfl, a, _, _, _, rfl, ea.same sac, XNoTable, nNoTable _ (by simp), rfl, ?_⟩
      refine ⟨(by show 1 ≤ sizeLine; decide), fun q3 hq3 => ?_⟩
      have sd := same_new (o := .lst [v2]) hq3
      have ed : (upd Hc q3 (.lst [v2])) q3 = some (.lst [v2]) := upd_same
      refine ⟨_, rfl, ?_⟩
      refine ⟨(by show 1 ≤ sizeLine; decide), fun q4 hq4 => ?_⟩
      have se := same_new (o := .lst [v2]) hq4
      have ee : (upd (upd Hc q3 (.lst [v2])) q4 (.lst [v2])) q4 = some (.lst [v2]) := upd_same
      refine ⟨⟨q3, q4, [v2], [v2], rfl, rfl, se _ _ ed, ee, .cons (dm_of p2) (.nil)⟩, fun He ext => ?_⟩
      have sae := ((sac.trans sd).trans se).trans ext
      refine app_t (ta.same sae) (by decide) hl (sa0.trans sae) rfl fun H9 s9 t9 => hU _ _ ⟨a, rfl, s9, t9⟩
    rintro _ H9 ⟨_, rfl, s9, t9⟩
    -- NoTable
    refine seq_pair (fun σ' H' => ∃ a : Addr, σ' = [some (.ref g), some v1, some v2, some (.ref l), some (.ref a)] ∧ Same H H' ∧ Lt H' l 10) (fun U hU => ?_) ?_
    · skip
      refine ⟨_, rfl, ?_⟩
      refine ⟨rfl, made_er (fs := ["why"]) (ws := [v2]) rfl fun a Ha ha sa ea => ?_⟩
      have sa0 := s9.trans sa
      have ta := t9.same sa
      refine ⟨_, rfl, .inl ⟨rfl, _, SqL.of ta⟩, ?_⟩
      refine ⟨_, rfl, a, "NoTable", 0, _, rfl, (List.mem_of_getElem? (i := 4) rfl), ea, fun Hc sac => ?_⟩
      refine ⟨rfl, _, rfl, iteP (by decide +kernel) ?_⟩
      refine ⟨_, rfl, a, _, _, _, rfl, ea.same sac, XNoTable, nNoTable _ (by simp), rfl, ?_⟩
      refine ⟨(by show 1 ≤ sizeLine; decide), fun q3 hq3 => ?_⟩
      have sd := same_new (o := .lst [v2]) hq3
      have ed : (upd Hc q3 (.lst [v2])) q3 = some (.lst [v2]) := upd_same
      refine ⟨_, rfl, ?_⟩
      refine ⟨(by show 1 ≤ sizeLine; decide), fun q4 hq4 => ?_⟩
      have se := same_new (o := .lst [v2]) hq4
      have ee : (upd (upd Hc q3 (.lst [v2])) q4 (.lst [v2])) q4 = some (.lst [v2]) := upd_same
      refine ⟨⟨q3, q4, [v2], [v2], rfl, rfl, se _ _ ed, ee, .cons (dm_of p2) (.nil)⟩, fun He ext => ?_⟩
      have sae := ((sac.trans sd).trans se).trans ext
      refine app_t (ta.same sae) (by decide) hl (sa0.trans sae) rfl fun H9 s9 t9 => hU _ _ ⟨a, rfl, s9, t9⟩
    rintro _ H10 ⟨_, rfl, s10, t10⟩
    -- NoTime
    refine seq_pair (fun σ' H' => ∃ a : Addr, σ' = [some (.ref g), some v1, some v2, some (.ref l), some (.ref a)] ∧ Same H H' ∧ Lt H' l 11) (fun U hU => ?_) ?_
    · skip
      refine ⟨_, rfl, ?_⟩
      refine ⟨(by show 1 ≤ 1000; decide), made_er (fs := ["time"]) (ws := [v1]) rfl fun a Ha ha sa ea => ?_⟩
      have sa0 := s10.trans sa
      have ta := t10.same sa
      refine ⟨_, rfl, .inl ⟨rfl, _, SqL.of ta⟩, ?_⟩
      refine ⟨_, rfl, a, "NoTime", 0, _, rfl, (List.mem_of_getElem? (i := 5) rfl), ea, fun q Hb hq sb eq => ?_⟩
      refine ⟨(by show 1 ≤ sizeLine; decide), fun q2 hq2 => ?_⟩
      have sc := same_new (o := .lst [.str "NoTime"]) hq2
      have ec : (upd Hb q2 (.lst [.str "NoTime"])) q2 = some (.lst [.str "NoTime"]) := upd_same
      generalize (upd Hb q2 (.lst [.str "NoTime"])) = Hc at sc ec ⊢
      refine ⟨.list [.str "NoTime"], .list [.str "NoTime"], .lst (SqL.of (sc _ _ eq)) (.cons (.str _) .nil), .lst (SqL.of ec) (.cons (.str _) .nil), rfl, rfl, by decide, _, rfl, iteP (by decide +kernel) ?_⟩
      have sac := sb.trans sc
      refine ⟨_, rfl, a, _, _, _, rfl, ea.same sac, XNoTime, nNoTime _ (by simp), rfl, ?_⟩
      refine ⟨(by show 1 ≤ sizeLine; decide), fun q3 hq3 => ?_⟩
      have sd := same_new (o := .lst [v1]) hq3
      have ed : (upd Hc q3 (.lst [v1])) q3 = some (.lst [v1]) := upd_same
      refine ⟨_, rfl, ?_⟩
      refine ⟨(by show 1 ≤ sizeLine; decide), fun q4 hq4 => ?_⟩
      have se := same_new (o := .lst [v1]) hq4
      have ee : (upd (upd Hc q3 (.lst [v1])) q4 (.lst [v1])) q4 = some (.lst [v1]) := upd_same
      refine ⟨⟨q3, q4, [v1], [v1], rfl, rfl, se _ _ ed, ee, .cons (dm_of p1) (.nil)⟩, fun He ext => ?_⟩
      have sae := ((sac.trans sd).trans se).trans ext
      refine app_t (ta.same sae) (by decide) hl (sa0.trans sae) rfl fun H9 s9 t9 => hU _ _ ⟨a, rfl, s9, t9⟩
    rintro _ H11 ⟨_, rfl, s11, t11⟩
    -- NoTime
    refine seq_pair (fun σ' H' => ∃ a : Addr, σ' = [some (.ref g), some v1, some v2, some (.ref l), some (.ref a)] ∧ Same H H' ∧ Lt H' l 12) (fun U hU => ?_) ?_
    · skip
      refine ⟨_, rfl, ?_⟩
      refine ⟨rfl, made_er (fs := ["time"]) (ws := [v1]) rfl fun a Ha ha sa ea => ?_⟩
      have sa0 := s11.trans sa
      have ta := t11.same sa
      refine ⟨_, rfl, .inl ⟨rfl, _, SqL.of ta⟩, ?_⟩
      refine ⟨_, rfl, a, "NoTime", 0, _, rfl, (List.mem_of_getElem? (i := 5) rfl), ea, fun Hc sac => ?_⟩
      refine ⟨rfl, _, rfl, iteP (by decide +kernel) ?_⟩
      refine ⟨_, rfl, a, _, _, _, rfl, ea.same sac, XNoTime, nNoTime _ (by simp), rfl, ?_⟩
      refine ⟨(by show 1 ≤ sizeLine; decide), fun q3 hq3 => ?_⟩
      have sd := same_new (o := .lst [v1]) hq3
      have ed : (upd Hc q3 (.lst [v1])) q3 = some (.lst [v1]) := upd_same
      refine ⟨_, rfl, ?_⟩
      refine ⟨(by show 1 ≤ sizeLine; decide), fun q4 hq4 => ?_⟩
      have se := same_new (o := .lst [v1]) hq4
      have ee : (upd (upd Hc q3 (.lst [v1])) q4 (.lst [v1])) q4 = some (.lst [v1]) := upd_same
      refine ⟨⟨q3, q4, [v1], [v1], rfl, rfl, se _ _ ed, ee, .cons (dm_of p1) (.nil)⟩, fun He ext => ?_⟩
      have sae := ((sac.trans sd).trans se).trans ext
      refine app_t (ta.same sae) (by decide) hl (sa0.trans sae) rfl fun H9 s9 t9 => hU _ _ ⟨a, rfl, s9, t9⟩
    rintro _ H12 ⟨_, rfl, s12, t12⟩
    -- NoStamp
    refine seq_pair (fun σ' H' => ∃ a : Addr, σ' = [some (.ref g), some v1, some v2, some (.ref l), some (.ref a)] ∧ Same H H' ∧ Lt H' l 13) (fun U hU => ?_) ?_
    · skip
      refine ⟨_, rfl, ?_⟩
      refine ⟨(by show 1 ≤ 1000; decide), made_er (fs := ["stamp"]) (ws := [v1]) rfl fun a Ha ha sa ea => ?_⟩
      have sa0 := s12.trans sa
      have ta := t12.same sa
      refine ⟨_, rfl, .inl ⟨rfl, _, SqL.of ta⟩, ?_⟩
      refine ⟨_, rfl, a, "NoStamp", 0, _, rfl, (List.mem_of_getElem? (i := 6) rfl), ea, fun q Hb hq sb eq => ?_⟩
      refine ⟨(by show 1 ≤ sizeLine; decide), fun q2 hq2 => ?_⟩
      have sc := same_new (o := .lst [.str "NoStamp"]) hq2
      have ec : (upd Hb q2 (.lst [.str "NoStamp"])) q2 = some (.lst [.str "NoStamp"]) := upd_same
      generalize (upd Hb q2 (.lst [.str "NoStamp"])) = Hc at sc ec ⊢
      refine ⟨.list [.str "NoStamp"], .list [.str "NoStamp"], .lst (SqL.of (sc _ _ eq)) (.cons (.str _) .nil), .lst (SqL.of ec) (.cons (.str _) .nil), rfl, rfl, by decide, _, rfl, iteP (by decide +kernel) ?_⟩
      have sac := sb.trans sc
      refine ⟨_, rfl, a, _, _, _, rfl, ea.same sac, XNoStamp, nNoStamp _ (by simp), rfl, ?_⟩
      refine ⟨(by show 1 ≤ sizeLine; decide), fun q3 hq3 => ?_⟩
      have sd := same_new (o := .lst [v1]) hq3
      have ed : (upd Hc q3 (.lst [v1])) q3 = some (.lst [v1]) := upd_same
      refine ⟨_, rfl, ?_⟩
      refine ⟨(by show 1 ≤ sizeLine; decide), fun q4 hq4 => ?_⟩
      have se := same_new (o := .lst [v1]) hq4
      have ee : (upd (upd Hc q3 (.lst [v1])) q4 (.lst [v1])) q4 = some (.lst [v1]) := upd_same
      refine ⟨⟨q3, q4, [v1], [v1], rfl, rfl, se _ _ ed, ee, .cons (dm_of p1) (.nil)⟩, fun He ext => ?_⟩
      have sae := ((sac.trans sd).trans se).trans ext
      refine app_t (ta.same sae) (by decide) hl (sa0.trans sae) rfl fun H9 s9 t9 => hU _ _ ⟨a, rfl, s9, t9⟩
    rintro _ H13 ⟨_, rfl, s13, t13⟩
    -- NoStamp
    refine seq_pair (fun σ' H' => ∃ a : Addr, σ' = [some (.ref g), some v1, some v2, some (.ref l), some (.ref a)] ∧ Same H H' ∧ Lt H' l 14) (fun U hU => ?_) ?_
    · skip
      refine ⟨_, rfl, ?_⟩
      refine ⟨rfl, made_er (fs := ["stamp"]) (ws := [v1]) rfl fun a Ha ha sa ea => ?_⟩
      have sa0 := s13.trans sa
      have ta := t13.same sa
      refine ⟨_, rfl, .inl ⟨rfl, _, SqL.of ta⟩, ?_⟩
      refine ⟨_, rfl, a, "NoStamp", 0, _, rfl, (List.mem_of_getElem? (i := 6) rfl), ea, fun Hc sac => ?_⟩
      refine ⟨rfl, _, rfl, iteP (by decide +kernel) ?_⟩
      refine ⟨_, rfl, a, _, _, _, rfl, ea.same sac, XNoStamp, nNoStamp _ (by simp), rfl, ?_⟩
      refine ⟨(by show 1 ≤ sizeLine; decide), fun q3 hq3 => ?_⟩
      have sd := same_new (o := .lst [v1]) hq3
      have ed : (upd Hc q3 (.lst [v1])) q3 = some (.lst [v1]) := upd_same
      refine ⟨_, rfl, ?_⟩
      refine ⟨(by show 1 ≤ sizeLine; decide), fun q4 hq4 => ?_⟩
      have se := same_new (o := .lst [v1]) hq4
      have ee : (upd (upd Hc q3 (.lst [v1])) q4 (.lst [v1])) q4 = some (.lst [v1]) := upd_same
      refine ⟨⟨q3, q4, [v1], [v1], rfl, rfl, se _ _ ed, ee, .cons (dm_of p1) (.nil)⟩, fun He ext => ?_⟩
      have sae := ((sac.trans sd).trans se).trans ext
      refine app_t (ta.same sae) (by decide) hl (sa0.trans sae) rfl fun H9 s9 t9 => hU _ _ ⟨a, rfl, s9, t9⟩
    rintro _ H14 ⟨_, rfl, s14, t14⟩
    -- NoCount
    refine seq_pair (fun σ' H' => ∃ a : Addr, σ' = [some (.ref g), some v1, some v2, some (.ref l), some (.ref a)] ∧ Same H H' ∧ Lt H' l 15) (fun U hU => ?_) ?_
    · skip
      refine ⟨_, rfl, ?_⟩
      refine ⟨(by show 1 ≤ 1000; decide), made_er (fs := ["count"]) (ws := [v1]) rfl fun a Ha ha sa ea => ?_⟩
      have sa0 := s14.trans sa
      have ta := t14.same sa
      refine ⟨_, rfl, .inl ⟨rfl, _, SqL.of ta⟩, ?_⟩
      refine ⟨_, rfl, a, "NoCount", 0, _, rfl, (List.mem_of_getElem? (i := 7) rfl), ea, fun q Hb hq sb eq => ?_⟩
      refine ⟨(by show 1 ≤ sizeLine; decide), fun q2 hq2 => ?_⟩
      have sc := same_new (o := .lst [.str "NoCount"]) hq2
      have ec : (upd Hb q2 (.lst [.str "NoCount"])) q2 = some (.lst [.str "NoCount"]) := upd_same
      generalize (upd Hb q2 (.lst [.str "NoCount"])) = Hc at sc ec ⊢
      refine ⟨.list [.str "NoCount"], .list [.str "NoCount"], .lst (SqL.of (sc _ _ eq)) (.cons (.str _) .nil), .lst (SqL.of ec) (.cons (.str _) .nil), rfl, rfl, by decide, _, rfl, iteP (by decide +kernel) ?_⟩
      have sac := sb.trans sc
      refine ⟨_, rfl, a, _, _, _, rfl, ea.same sac, XNoCount, nNoCount _ (by simp), rfl, ?_⟩
      refine ⟨(by show 1 ≤ sizeLine; decide), fun q3 hq3 => ?_⟩
      have sd := same_new (o := .lst [v1]) hq3
      have ed : (upd Hc q3 (.lst [v1])) q3 = some (.lst [v1]) := upd_same
      refine ⟨_, rfl, ?_⟩
      refine ⟨(by show 1 ≤ sizeLine; decide), fun q4 hq4 => ?_⟩
      have se := same_new (o := .lst [v1]) hq4
      have ee : (upd (upd Hc q3 (.lst [v1])) q4 (.lst [v1])) q4 = some (.lst [v1]) := upd_same
      refine ⟨⟨q3, q4, [v1], [v1], rfl, rfl, se _ _ ed, ee, .cons (dm_of p1) (.nil)⟩, fun He ext => ?_⟩
      have sae := ((sac.trans sd).trans se).trans ext
      refine app_t (ta.same sae) (by decide) hl (sa0.trans sae) rfl fun H9 s9 t9 => hU _ _ ⟨a, rfl, s9, t9⟩
    rintro _ H15 ⟨_, rfl, s15, t15⟩
    -- NoCount
    refine seq_pair (fun σ' H' => ∃ a : Addr, σ' = [some (.ref g), some v1, some v2, some (.ref l), some (.ref a)] ∧ Same H H' ∧ Lt H' l 16) (fun U hU => ?_) ?_
    · skip
      refine ⟨_, rfl, ?_⟩
      refine ⟨rfl, made_er (fs := ["count"]) (ws := [v1]) rfl fun a Ha ha sa ea => ?_⟩
      have sa0 := s15.trans sa
      have ta := t15.same sa
      refine ⟨_, rfl, .inl ⟨rfl, _, SqL.of ta⟩, ?_⟩
      refine ⟨_, rfl, a, "NoCount", 0, _, rfl, (List.mem_of_getElem? (i := 7) rfl), ea, fun Hc sac => ?_⟩
      refine ⟨rfl, _, rfl, iteP (by decide +kernel) ?_⟩
      refine ⟨_, rfl, a, _, _, _, rfl, ea.same sac, XNoCount, nNoCount _ (by simp), rfl, ?_⟩
      refine ⟨(by show 1 ≤ sizeLine; decide), fun q3 hq3 => ?_⟩
      have sd := same_new (o := .lst [v1]) hq3
      have ed : (upd Hc q3 (.lst [v1])) q3 = some (.lst [v1]) := upd_same
      refine ⟨_, rfl, ?_⟩
      refine ⟨(by show 1 ≤ sizeLine; decide), fun q4 hq4 => ?_⟩
      have se := same_new (o := .lst [v1]) hq4
      have ee : (upd (upd Hc q3 (.lst [v1])) q4 (.lst [v1])) q4 = some (.lst [v1]) := upd_same
      refine ⟨⟨q3, q4, [v1], [v1], rfl, rfl, se _ _ ed, ee, .cons (dm_of p1) (.nil)⟩, fun He ext => ?_⟩
      have sae := ((sac.trans sd).trans se).trans ext
      refine app_t (ta.same sae) (by decide) hl (sa0.trans sae) rfl fun H9 s9 t9 => hU _ _ ⟨a, rfl, s9, t9⟩
    rintro _ H16 ⟨_, rfl, s16, t16⟩
    refine ⟨_, rfl, l, _, rfl, SqL.of t16, ?_⟩
    rw [all_reps]
    exact out _ s16
end
end K18
namespace K18
open PySem PySem.Spec PyProof.Rows L2 Par
abbrev slPart1_ : Stmt := topS 61
section
variable {P : Program} {w : World} {K : PySem.W.Frag} {mg : Str → Option Value} {base : Heap}
abbrev nPart1 : List Str := ["_law_given_here", "_law_near", "_law_word", "_law_whole", "_law_told", "_law_found", "_law_e"]
theorem scPart1 : FnScope nPart1 ["_law_given_here"] (defScope slPart1_) := ⟨rfl, rfl, rfl, by decide +kernel, rfl, by decide +kernel, by decide +kernel⟩
theorem ok_part1 {f : Addr} {fd : FuncData} (F : Fun K "_law_part_1" "_law_part_1" slPart1_ f fd) (B : Bl mg) (EK : ExK K mg) (DW : Has P w K mg base "_law_words" 3 ["_law_e"] (spWords (K := K))) (DB : Has P w K mg base "_law_base" 2 ["_law_e"] (spBase (K := K))) (DNoProgram : HasEr P w K mg base "NoProgram" ["why", "where"] ["where", "why"] (fun us ws => us ++ ws.reverse) (fun vs zs => vs ++ zs.reverse)) (DNoHands : HasEr P w K mg base "NoHands" ["value"] ["value"] (fun us ws => us ++ ws) (fun vs zs => vs ++ zs)) (DNoEntries : HasEr P w K mg base "NoEntries" ["index"] ["index"] (fun us ws => us ++ ws) (fun vs zs => vs ++ zs)) (DNoName : HasEr P w K mg base "NoName" ["name"] ["name"] (fun us ws => us ++ ws) (fun vs zs => vs ++ zs)) (DNoText : HasEr P w K mg base "NoText" ["line"] ["line"] (fun us ws => us ++ ws) (fun vs zs => vs ++ zs)) (DNoCommand : HasEr P w K mg base "NoCommand" ["command"] ["command"] (fun us ws => us ++ ws) (fun vs zs => vs ++ zs)) (DHalted : HasEr P w K mg base "Halted" ["index", "answers"] ["answers", "index"] (fun us ws => us ++ ws.reverse) (fun vs zs => vs ++ zs.reverse)) : FnG P w K mg base CX0 4 f fd ["_law_given_here"] spPart := by
  obtain ⟨fW, fdW, GW, mW, kW, bW⟩ := DW
  obtain ⟨fB, fdB, GB, mB, kB, bB⟩ := DB
  obtain ⟨fNoProgram, fdNoProgram, TNoProgram, XNoProgram, nNoProgram, iNoProgram, tNoProgram, GNoProgram, bNoProgram, kNoProgram⟩ := DNoProgram
  obtain ⟨fNoHands, fdNoHands, TNoHands, XNoHands, nNoHands, iNoHands, tNoHands, GNoHands, bNoHands, kNoHands⟩ := DNoHands
  obtain ⟨fNoEntries, fdNoEntries, TNoEntries, XNoEntries, nNoEntries, iNoEntries, tNoEntries, GNoEntries, bNoEntries, kNoEntries⟩ := DNoEntries
  obtain ⟨fNoName, fdNoName, TNoName, XNoName, nNoName, iNoName, tNoName, GNoName, bNoName, kNoName⟩ := DNoName
  obtain ⟨fNoText, fdNoText, TNoText, XNoText, nNoText, iNoText, tNoText, GNoText, bNoText, kNoText⟩ := DNoText
  obtain ⟨fNoCommand, fdNoCommand, TNoCommand, XNoCommand, nNoCommand, iNoCommand, tNoCommand, GNoCommand, bNoCommand, kNoCommand⟩ := DNoCommand
  obtain ⟨fHalted, fdHalted, THalted, XHalted, nHalted, iHalted, tHalted, GHalted, bHalted, kHalted⟩ := DHalted
  refine fnG_of F scPart1 (fun vs H Q E h => ?_) (fun cdv A outer s H vs Q E gs hr h => ?_)
  · obtain ⟨g, rfl, _⟩ := h
    rfl
  · obtain ⟨g, rfl, hg, out⟩ := h
    have hu := hr.units
    have hu1 := hu_of hr
    have r1 : Room 1 _ := hr.mono (by decide)
    have r2 : Room 2 _ := hr.mono (by decide)
    have r3 : Room 3 _ := hr
    refine ⟨_, (pss_cons (ps_set (i := 1) scPart1.nd rfl (Or.inl rfl) (pe_dget hu1 (pv 0) pe_str (fun _ _ => rfl)))
      (pss_cons (ps_set (i := 2) scPart1.nd rfl (Or.inl rfl) (pe_dget hu1 (pv 0) pe_str (fun _ _ => rfl)))
      (pss_cons (ps_set (i := 3) scPart1.nd rfl (Or.inl rfl) (pe_dget hu1 (pv 0) pe_str (fun _ _ => rfl)))
      (pss_cons (ps_set (i := 4) scPart1.nd rfl (Or.inl rfl) (pe_dget hu1 (pv 0) pe_str (fun _ _ => rfl)))
      (pss_cons (ps_set (i := 5) scPart1.nd rfl (Or.inl rfl) (pe_lst pa_nil))
      (pss_cons (ps_set (i := 6) scPart1.nd rfl (Or.inl rfl) (pe_mkEr TNoProgram iNoProgram tNoProgram GNoProgram r3 bNoProgram pass0 (by rfl) (EK.mgc _ (List.mem_of_getElem? (i := 8) rfl)) (pa_cons (pv 2) (pa_cons (pv 1) pa_nil))))
      (pss_cons (ps_expr (pe_bm PySem.F.plainAttrs_list PySem.F.slot_list_append PySem.F.type_list_append mt_append (pv 5) (pa_cons (pe_and (pe_cmpR (op_eqP hu) (pe_call GW r3 (by rfl) mW kW bW .nil pass0 (pa_cons (pv 6) pa_nil)) (pe_lst (pa_cons pe_str pa_nil)) (nomark _)) (pe_one (pe_cmpR (op_eqG (rcG_list mon_dm eqG_dm) r1) (pe_lst (pa_cons (pe_fe (pv 6)) (pa_cons (pe_fe (pv 6)) pa_nil))) (pe_lst (pa_cons (pv 2) (pa_cons (pv 1) pa_nil))) (nomark _)))) pa_nil)))
      (pss_cons (ps_set (i := 6) scPart1.nd rfl (Or.inl rfl) (pe_mkEk (ks := ["where", "why"]) TNoProgram iNoProgram tNoProgram GNoProgram r3 kNoProgram pass0 (by rfl) (EK.mgc _ (List.mem_of_getElem? (i := 8) rfl)) (pk_cons (pv 1) (pk_cons (pv 2) pk_nil))))
      (pss_cons (ps_expr (pe_bm PySem.F.plainAttrs_list PySem.F.slot_list_append PySem.F.type_list_append mt_append (pv 5) (pa_cons (pe_and (pe_cmpR op_eq (pe_call GB r2 (by rfl) mB kB bB .nil pass0 (pa_cons (pv 6) pa_nil)) pe_int (nomark _)) (pe_one (pe_cmpR (op_eqG (rcG_list mon_dm eqG_dm) r1) (pe_lst (pa_cons (pe_fe (pv 6)) (pa_cons (pe_fe (pv 6)) pa_nil))) (pe_lst (pa_cons (pv 2) (pa_cons (pv 1) pa_nil))) (nomark _)))) pa_nil)))
      (pss_cons (ps_set (i := 6) scPart1.nd rfl (Or.inl rfl) (pe_mkEr TNoHands iNoHands tNoHands GNoHands r3 bNoHands pass0 (by rfl) (EK.mgc _ (List.mem_of_getElem? (i := 9) rfl)) (pa_cons (pv 1) pa_nil)))
      (pss_cons (ps_expr (pe_bm PySem.F.plainAttrs_list PySem.F.slot_list_append PySem.F.type_list_append mt_append (pv 5) (pa_cons (pe_and (pe_cmpR (op_eqP hu) (pe_call GW r3 (by rfl) mW kW bW .nil pass0 (pa_cons (pv 6) pa_nil)) (pe_lst (pa_cons pe_str pa_nil)) (nomark _)) (pe_one (pe_cmpR (op_eqG (rcG_list mon_dm eqG_dm) r1) (pe_lst (pa_cons (pe_fe (pv 6)) pa_nil)) (pe_lst (pa_cons (pv 1) pa_nil)) (nomark _)))) pa_nil)))
      (pss_cons (ps_set (i := 6) scPart1.nd rfl (Or.inl rfl) (pe_mkEk (ks := ["value"]) TNoHands iNoHands tNoHands GNoHands r3 kNoHands pass0 (by rfl) (EK.mgc _ (List.mem_of_getElem? (i := 9) rfl)) (pk_cons (pv 1) pk_nil)))
      (pss_cons (ps_expr (pe_bm PySem.F.plainAttrs_list PySem.F.slot_list_append PySem.F.type_list_append mt_append (pv 5) (pa_cons (pe_and (pe_cmpR op_eq (pe_call GB r2 (by rfl) mB kB bB .nil pass0 (pa_cons (pv 6) pa_nil)) pe_int (nomark _)) (pe_one (pe_cmpR (op_eqG (rcG_list mon_dm eqG_dm) r1) (pe_lst (pa_cons (pe_fe (pv 6)) pa_nil)) (pe_lst (pa_cons (pv 1) pa_nil)) (nomark _)))) pa_nil)))
      (pss_cons (ps_set (i := 6) scPart1.nd rfl (Or.inl rfl) (pe_mkEr TNoEntries iNoEntries tNoEntries GNoEntries r3 bNoEntries pass0 (by rfl) (EK.mgc _ (List.mem_of_getElem? (i := 10) rfl)) (pa_cons (pv 3) pa_nil)))
      (pss_cons (ps_expr (pe_bm PySem.F.plainAttrs_list PySem.F.slot_list_append PySem.F.type_list_append mt_append (pv 5) (pa_cons (pe_and (pe_cmpR (op_eqP hu) (pe_call GW r3 (by rfl) mW kW bW .nil pass0 (pa_cons (pv 6) pa_nil)) (pe_lst (pa_cons pe_str pa_nil)) (nomark _)) (pe_one (pe_cmpR (op_eqG (rcG_list mon_dm eqG_dm) r1) (pe_lst (pa_cons (pe_fe (pv 6)) pa_nil)) (pe_lst (pa_cons (pv 3) pa_nil)) (nomark _)))) pa_nil)))
      (pss_cons (ps_set (i := 6) scPart1.nd rfl (Or.inl rfl) (pe_mkEk (ks := ["index"]) TNoEntries iNoEntries tNoEntries GNoEntries r3 kNoEntries pass0 (by rfl) (EK.mgc _ (List.mem_of_getElem? (i := 10) rfl)) (pk_cons (pv 3) pk_nil)))
      (pss_cons (ps_expr (pe_bm PySem.F.plainAttrs_list PySem.F.slot_list_append PySem.F.type_list_append mt_append (pv 5) (pa_cons (pe_and (pe_cmpR op_eq (pe_call GB r2 (by rfl) mB kB bB .nil pass0 (pa_cons (pv 6) pa_nil)) pe_int (nomark _)) (pe_one (pe_cmpR (op_eqG (rcG_list mon_dm eqG_dm) r1) (pe_lst (pa_cons (pe_fe (pv 6)) pa_nil)) (pe_lst (pa_cons (pv 3) pa_nil)) (nomark _)))) pa_nil)))
      (pss_cons (ps_set (i := 6) scPart1.nd rfl (Or.inl rfl) (pe_mkEr TNoName iNoName tNoName GNoName r3 bNoName pass0 (by rfl) (EK.mgc _ (List.mem_of_getElem? (i := 11) rfl)) (pa_cons (pv 1) pa_nil)))
      (pss_cons (ps_expr (pe_bm PySem.F.plainAttrs_list PySem.F.slot_list_append PySem.F.type_list_append mt_append (pv 5) (pa_cons (pe_and (pe_cmpR (op_eqP hu) (pe_call GW r3 (by rfl) mW kW bW .nil pass0 (pa_cons (pv 6) pa_nil)) (pe_lst (pa_cons pe_str pa_nil)) (nomark _)) (pe_one (pe_cmpR (op_eqG (rcG_list mon_dm eqG_dm) r1) (pe_lst (pa_cons (pe_fe (pv 6)) pa_nil)) (pe_lst (pa_cons (pv 1) pa_nil)) (nomark _)))) pa_nil)))
      (pss_cons (ps_set (i := 6) scPart1.nd rfl (Or.inl rfl) (pe_mkEk (ks := ["name"]) TNoName iNoName tNoName GNoName r3 kNoName pass0 (by rfl) (EK.mgc _ (List.mem_of_getElem? (i := 11) rfl)) (pk_cons (pv 1) pk_nil)))
      (pss_cons (ps_expr (pe_bm PySem.F.plainAttrs_list PySem.F.slot_list_append PySem.F.type_list_append mt_append (pv 5) (pa_cons (pe_and (pe_cmpR op_eq (pe_call GB r2 (by rfl) mB kB bB .nil pass0 (pa_cons (pv 6) pa_nil)) pe_int (nomark _)) (pe_one (pe_cmpR (op_eqG (rcG_list mon_dm eqG_dm) r1) (pe_lst (pa_cons (pe_fe (pv 6)) pa_nil)) (pe_lst (pa_cons (pv 1) pa_nil)) (nomark _)))) pa_nil)))
      (pss_cons (ps_set (i := 6) scPart1.nd rfl (Or.inl rfl) (pe_mkEr TNoText iNoText tNoText GNoText r3 bNoText pass0 (by rfl) (EK.mgc _ (List.mem_of_getElem? (i := 12) rfl)) (pa_cons (pv 3) pa_nil)))
      (pss_cons (ps_expr (pe_bm PySem.F.plainAttrs_list PySem.F.slot_list_append PySem.F.type_list_append mt_append (pv 5) (pa_cons (pe_and (pe_cmpR (op_eqP hu) (pe_call GW r3 (by rfl) mW kW bW .nil pass0 (pa_cons (pv 6) pa_nil)) (pe_lst (pa_cons pe_str pa_nil)) (nomark _)) (pe_one (pe_cmpR (op_eqG (rcG_list mon_dm eqG_dm) r1) (pe_lst (pa_cons (pe_fe (pv 6)) pa_nil)) (pe_lst (pa_cons (pv 3) pa_nil)) (nomark _)))) pa_nil)))
      (pss_cons (ps_set (i := 6) scPart1.nd rfl (Or.inl rfl) (pe_mkEk (ks := ["line"]) TNoText iNoText tNoText GNoText r3 kNoText pass0 (by rfl) (EK.mgc _ (List.mem_of_getElem? (i := 12) rfl)) (pk_cons (pv 3) pk_nil)))
      (pss_cons (ps_expr (pe_bm PySem.F.plainAttrs_list PySem.F.slot_list_append PySem.F.type_list_append mt_append (pv 5) (pa_cons (pe_and (pe_cmpR op_eq (pe_call GB r2 (by rfl) mB kB bB .nil pass0 (pa_cons (pv 6) pa_nil)) pe_int (nomark _)) (pe_one (pe_cmpR (op_eqG (rcG_list mon_dm eqG_dm) r1) (pe_lst (pa_cons (pe_fe (pv 6)) pa_nil)) (pe_lst (pa_cons (pv 3) pa_nil)) (nomark _)))) pa_nil)))
      (pss_cons (ps_set (i := 6) scPart1.nd rfl (Or.inl rfl) (pe_mkEr TNoCommand iNoCommand tNoCommand GNoCommand r3 bNoCommand pass0 (by rfl) (EK.mgc _ (List.mem_of_getElem? (i := 13) rfl)) (pa_cons (pv 1) pa_nil)))
      (pss_cons (ps_expr (pe_bm PySem.F.plainAttrs_list PySem.F.slot_list_append PySem.F.type_list_append mt_append (pv 5) (pa_cons (pe_and (pe_cmpR (op_eqP hu) (pe_call GW r3 (by rfl) mW kW bW .nil pass0 (pa_cons (pv 6) pa_nil)) (pe_lst (pa_cons pe_str pa_nil)) (nomark _)) (pe_one (pe_cmpR (op_eqG (rcG_list mon_dm eqG_dm) r1) (pe_lst (pa_cons (pe_fe (pv 6)) pa_nil)) (pe_lst (pa_cons (pv 1) pa_nil)) (nomark _)))) pa_nil)))
      (pss_cons (ps_set (i := 6) scPart1.nd rfl (Or.inl rfl) (pe_mkEk (ks := ["command"]) TNoCommand iNoCommand tNoCommand GNoCommand r3 kNoCommand pass0 (by rfl) (EK.mgc _ (List.mem_of_getElem? (i := 13) rfl)) (pk_cons (pv 1) pk_nil)))
      (pss_cons (ps_expr (pe_bm PySem.F.plainAttrs_list PySem.F.slot_list_append PySem.F.type_list_append mt_append (pv 5) (pa_cons (pe_and (pe_cmpR op_eq (pe_call GB r2 (by rfl) mB kB bB .nil pass0 (pa_cons (pv 6) pa_nil)) pe_int (nomark _)) (pe_one (pe_cmpR (op_eqG (rcG_list mon_dm eqG_dm) r1) (pe_lst (pa_cons (pe_fe (pv 6)) pa_nil)) (pe_lst (pa_cons (pv 1) pa_nil)) (nomark _)))) pa_nil)))
      (pss_cons (ps_set (i := 6) scPart1.nd rfl (Or.inl rfl) (pe_mkEr THalted iHalted tHalted GHalted r3 bHalted pass0 (by rfl) (EK.mgc _ (List.mem_of_getElem? (i := 14) rfl)) (pa_cons (pv 3) (pa_cons (pv 4) pa_nil))))
      (pss_cons (ps_expr (pe_bm PySem.F.plainAttrs_list PySem.F.slot_list_append PySem.F.type_list_append mt_append (pv 5) (pa_cons (pe_and (pe_cmpR (op_eqP hu) (pe_call GW r3 (by rfl) mW kW bW .nil pass0 (pa_cons (pv 6) pa_nil)) (pe_lst (pa_cons pe_str pa_nil)) (nomark _)) (pe_one (pe_cmpR (op_eqG (rcG_list mon_dm eqG_dm) r1) (pe_lst (pa_cons (pe_fe (pv 6)) (pa_cons (pe_fe (pv 6)) pa_nil))) (pe_lst (pa_cons (pv 3) (pa_cons (pv 4) pa_nil))) (nomark _)))) pa_nil)))
      (pss_cons (ps_set (i := 6) scPart1.nd rfl (Or.inl rfl) (pe_mkEk (ks := ["answers", "index"]) THalted iHalted tHalted GHalted r3 kHalted pass0 (by rfl) (EK.mgc _ (List.mem_of_getElem? (i := 14) rfl)) (pk_cons (pv 4) (pk_cons (pv 3) pk_nil))))
      (pss_cons (ps_expr (pe_bm PySem.F.plainAttrs_list PySem.F.slot_list_append PySem.F.type_list_append mt_append (pv 5) (pa_cons (pe_and (pe_cmpR op_eq (pe_call GB r2 (by rfl) mB kB bB .nil pass0 (pa_cons (pv 6) pa_nil)) pe_int (nomark _)) (pe_one (pe_cmpR (op_eqG (rcG_list mon_dm eqG_dm) r1) (pe_lst (pa_cons (pe_fe (pv 6)) (pa_cons (pe_fe (pv 6)) pa_nil))) (pe_lst (pa_cons (pv 3) (pa_cons (pv 4) pa_nil))) (nomark _)))) pa_nil)))
      (pss_one (ps_ret (pe_callB (cr_all rfl) (by rfl) B.all (by decide +kernel) (pa_cons (pv 5) pa_nil))))))))))))))))))))))))))))))))))))), ?_⟩
    obtain ⟨v1, d1, p1⟩ := hg.get (k := "near") (by decide)
    refine ⟨_, rfl, g, v1, rfl, d1, ?_⟩
    obtain ⟨v2, d2, p2⟩ := hg.get (k := "word") (by decide)
    refine ⟨_, rfl, g, v2, rfl, d2, ?_⟩
    obtain ⟨v3, d3, p3⟩ := hg.get (k := "whole") (by decide)
    refine ⟨_, rfl, g, v3, rfl, d3, ?_⟩
    obtain ⟨v4, d4, p4⟩ := hg.get (k := "told") (by decide)
    refine ⟨_, rfl, g, v4, rfl, d4, ?_⟩
    refine ⟨(by show 0 ≤ sizeLine; decide), fun l hl => ?_⟩
    have s0 : Same H (upd H l (.lst [])) := same_new hl
    have t0 : Lt (upd H l (.lst [])) l 0 := upd_same
    generalize (upd H l (.lst [])) = H0 at s0 t0 ⊢
    dsimp only [gName]
    -- NoProgram
    refine seq_pair (fun σ' H' => ∃ a : Addr, σ' = [some (.ref g), some v1, some v2, some v3, some v4, some (.ref l), some (.ref a)] ∧ Same H H' ∧ Lt H' l 1) (fun U hU => ?_) ?_
    · skip
      refine ⟨_, rfl, ?_⟩
      refine ⟨_, rfl, ?_⟩
      refine ⟨(by show 2 ≤ 1000; decide), made_er (fs := ["why", "where"]) (ws := [v2, v1]) rfl fun a Ha ha sa ea => ?_⟩
      have sa0 := s0.trans sa
      have ta := t0.same sa
      refine ⟨_, rfl, .inl ⟨rfl, _, SqL.of ta⟩, ?_⟩
      refine ⟨_, rfl, a, "NoProgram", 0, _, rfl, (List.mem_of_getElem? (i := 8) rfl), ea, fun q Hb hq sb eq => ?_⟩
      refine ⟨(by show 1 ≤ sizeLine; decide), fun q2 hq2 => ?_⟩
      have sc := same_new (o := .lst [.str "NoProgram"]) hq2
      have ec : (upd Hb q2 (.lst [.str "NoProgram"])) q2 = some (.lst [.str "NoProgram"]) := upd_same
      generalize (upd Hb q2 (.lst [.str "NoProgram"])) = Hc at sc ec ⊢
      refine ⟨.list [.str "NoProgram"], .list [.str "NoProgram"], .lst (SqL.of (sc _ _ eq)) (.cons (.str _) .nil), .lst (SqL.of ec) (.cons (.str _) .nil), rfl, rfl, by decide, _, rfl, iteP (by decide +kernel) ?_⟩
      have sac := sb.trans sc
      refine ⟨_, rfl, a, _, _, _, rfl, ea.same sac, XNoProgram, nNoProgram _ (by simp), rfl, ?_⟩
      refine ⟨_, rfl, a, _, _, _, rfl, ea.same sac, XNoProgram, nNoProgram _ (by simp), rfl, ?_⟩
      refine ⟨(by show 2 ≤ sizeLine; decide), fun q3 hq3 => ?_⟩
      have sd := same_new (o := .lst [v2, v1]) hq3
      have ed : (upd Hc q3 (.lst [v2, v1])) q3 = some (.lst [v2, v1]) := upd_same
      refine ⟨_, rfl, ?_⟩
      refine ⟨_, rfl, ?_⟩
      refine ⟨(by show 2 ≤ sizeLine; decide), fun q4 hq4 => ?_⟩
      have se := same_new (o := .lst [v2, v1]) hq4
      have ee : (upd (upd Hc q3 (.lst [v2, v1])) q4 (.lst [v2, v1])) q4 = some (.lst [v2, v1]) := upd_same
      refine ⟨⟨q3, q4, [v2, v1], [v2, v1], rfl, rfl, se _ _ ed, ee, .cons (dm_of p2) (.cons (dm_of p1) (.nil))⟩, fun He ext => ?_⟩
      have sae := ((sac.trans sd).trans se).trans ext
      refine app_t (ta.same sae) (by decide) hl (sa0.trans sae) rfl fun H9 s9 t9 => hU _ _ ⟨a, rfl, s9, t9⟩
    rintro _ H1 ⟨_, rfl, s1, t1⟩
    -- NoProgram
    refine seq_pair (fun σ' H' => ∃ a : Addr, σ' = [some (.ref g), some v1, some v2, some v3, some v4, some (.ref l), some (.ref a)] ∧ Same H H' ∧ Lt H' l 2) (fun U hU => ?_) ?_
    · skip
      refine ⟨_, rfl, ?_⟩
      refine ⟨_, rfl, ?_⟩
      refine ⟨rfl, made_er (fs := ["why", "where"]) (ws := [v2, v1]) rfl fun a Ha ha sa ea => ?_⟩
      have sa0 := s1.trans sa
      have ta := t1.same sa
      refine ⟨_, rfl, .inl ⟨rfl, _, SqL.of ta⟩, ?_⟩
      refine ⟨_, rfl, a, "NoProgram", 0, _, rfl, (List.mem_of_getElem? (i := 8) rfl), ea, fun Hc sac => ?_⟩
      refine ⟨rfl, _, rfl, iteP (by decide +kernel) ?_⟩
      refine ⟨_, rfl, a, _, _, _, rfl, ea.same sac, XNoProgram, nNoProgram _ (by simp), rfl, ?_⟩
      refine ⟨_, rfl, a, _, _, _, rfl, ea.same sac, XNoProgram, nNoProgram _ (by simp), rfl, ?_⟩
      refine ⟨(by show 2 ≤ sizeLine; decide), fun q3 hq3 => ?_⟩
      have sd := same_new (o := .lst [v2, v1]) hq3
      have ed : (upd Hc q3 (.lst [v2, v1])) q3 = some (.lst [v2, v1]) := upd_same
      refine ⟨_, rfl, ?_⟩
      refine ⟨_, rfl, ?_⟩
      refine ⟨(by show 2 ≤ sizeLine; decide), fun q4 hq4 => ?_⟩
      have se := same_new (o := .lst [v2, v1]) hq4
      have ee : (upd (upd Hc q3 (.lst [v2, v1])) q4 (.lst [v2, v1])) q4 = some (.lst [v2, v1]) := upd_same
      refine ⟨⟨q3, q4, [v2, v1], [v2, v1], rfl, rfl, se _ _ ed, ee, .cons (dm_of p2) (.cons (dm_of p1) (.nil))⟩, fun He ext => ?_⟩
      have sae := ((sac.trans sd).trans se).trans ext
      refine app_t (ta.same sae) (by decide) hl (sa0.trans sae) rfl fun H9 s9 t9 => hU _ _ ⟨a, rfl, s9, t9⟩
    rintro _ H2 ⟨_, rfl, s2, t2⟩
    -- NoHands
    refine seq_pair (fun σ' H' => ∃ a : Addr, σ' = [some (.ref g), some v1, some v2, some v3, some v4, some (.ref l), some (.ref a)] ∧ Same H H' ∧ Lt H' l 3) (fun U hU => ?_) ?_
    · skip
      refine ⟨_, rfl, ?_⟩
      refine ⟨(by show 1 ≤ 1000; decide), made_er (fs := ["value"]) (ws := [v1]) rfl fun a Ha ha sa ea => ?_⟩
      have sa0 := s2.trans sa
      have ta := t2.same sa
      refine ⟨_, rfl, .inl ⟨rfl, _, SqL.of ta⟩, ?_⟩
      refine ⟨_, rfl, a, "NoHands", 0, _, rfl, (List.mem_of_getElem? (i := 9) rfl), ea, fun q Hb hq sb eq => ?_⟩
      refine ⟨(by show 1 ≤ sizeLine; decide), fun q2 hq2 => ?_⟩
      have sc := same_new (o := .lst [.str "NoHands"]) hq2
      have ec : (upd Hb q2 (.lst [.str "NoHands"])) q2 = some (.lst [.str "NoHands"]) := upd_same
      generalize (upd Hb q2 (.lst [.str "NoHands"])) = Hc at sc ec ⊢
      refine ⟨.list [.str "NoHands"], .list [.str "NoHands"], .lst (SqL.of (sc _ _ eq)) (.cons (.str _) .nil), .lst (SqL.of ec) (.cons (.str _) .nil), rfl, rfl, by decide, _, rfl, iteP (by decide +kernel) ?_⟩
      have sac := sb.trans sc
      refine ⟨_, rfl, a, _, _, _, rfl, ea.same sac, XNoHands, nNoHands _ (by simp), rfl, ?_⟩
      refine ⟨(by show 1 ≤ sizeLine; decide), fun q3 hq3 => ?_⟩
      have sd := same_new (o := .lst [v1]) hq3
      have ed : (upd Hc q3 (.lst [v1])) q3 = some (.lst [v1]) := upd_same
      refine ⟨_, rfl, ?_⟩
      refine ⟨(by show 1 ≤ sizeLine; decide), fun q4 hq4 => ?_⟩
      have se := same_new (o := .lst [v1]) hq4
      have ee : (upd (upd Hc q3 (.lst [v1])) q4 (.lst [v1])) q4 = some (.lst [v1]) := upd_same
      refine ⟨⟨q3, q4, [v1], [v1], rfl, rfl, se _ _ ed, ee, .cons (dm_of p1) (.nil)⟩, fun He ext => ?_⟩
      have sae := ((sac.trans sd).trans se).trans ext
      refine app_t (ta.same sae) (by decide) hl (sa0.trans sae) rfl fun H9 s9 t9 => hU _ _ ⟨a, rfl, s9, t9⟩
    rintro _ H3 ⟨_, rfl, s3, t3⟩
    -- NoHands
    refine seq_pair (fun σ' H' => ∃ a : Addr, σ' = [some (.ref g), some v1, some v2, some v3, some v4, some (.ref l), some (.ref a)] ∧ Same H H' ∧ Lt H' l 4) (fun U hU => ?_) ?_
    · skip
      refine ⟨_, rfl, ?_⟩
      refine ⟨rfl, made_er (fs := ["value"]) (ws := [v1]) rfl fun a Ha ha sa ea => ?_⟩
      have sa0 := s3.trans sa
      have ta := t3.same sa
      refine ⟨_, rfl, .inl ⟨rfl, _, SqL.of ta⟩, ?_⟩
      refine ⟨_, rfl, a, "NoHands", 0, _, rfl, (List.mem_of_getElem? (i := 9) rfl), ea, fun Hc sac => ?_⟩
      refine ⟨rfl, _, rfl, iteP (by decide +kernel) ?_⟩
      refine ⟨_, rfl, a, _, _, _, rfl, ea.same sac, XNoHands, nNoHands _ (by simp), rfl, ?_⟩
      refine ⟨(by show 1 ≤ sizeLine; decide), fun q3 hq3 => ?_⟩
      have sd := same_new (o := .lst [v1]) hq3
      have ed : (upd Hc q3 (.lst [v1])) q3 = some (.lst [v1]) := upd_same
      refine ⟨_, rfl, ?_⟩
      refine ⟨(by show 1 ≤ sizeLine; decide), fun q4 hq4 => ?_⟩
      have se := same_new (o := .lst [v1]) hq4
      have ee : (upd (upd Hc q3 (.lst [v1])) q4 (.lst [v1])) q4 = some (.lst [v1]) := upd_same
      refine ⟨⟨q3, q4, [v1], [v1], rfl, rfl, se _ _ ed, ee, .cons (dm_of p1) (.nil)⟩, fun He ext => ?_⟩
      have sae := ((sac.trans sd).trans se).trans ext
      refine app_t (ta.same sae) (by decide) hl (sa0.trans sae) rfl fun H9 s9 t9 => hU _ _ ⟨a, rfl, s9, t9⟩
    rintro _ H4 ⟨_, rfl, s4, t4⟩
    -- NoEntries
    refine seq_pair (fun σ' H' => ∃ a : Addr, σ' = [some (.ref g), some v1, some v2, some v3, some v4, some (.ref l), some (.ref a)] ∧ Same H H' ∧ Lt H' l 5) (fun U hU => ?_) ?_
    · skip
      refine ⟨_, rfl, ?_⟩
      refine ⟨(by show 1 ≤ 1000; decide), made_er (fs := ["index"]) (ws := [v3]) rfl fun a Ha ha sa ea => ?_⟩
      have sa0 := s4.trans sa
      have ta := t4.same sa
      refine ⟨_, rfl, .inl ⟨rfl, _, SqL.of ta⟩, ?_⟩
      refine ⟨_, rfl, a, "NoEntries", 0, _, rfl, (List.mem_of_getElem? (i := 10) rfl), ea, fun q Hb hq sb eq => ?_⟩
      refine ⟨(by show 1 ≤ sizeLine; decide), fun q2 hq2 => ?_⟩
      have sc := same_new (o := .lst [.str "NoEntries"]) hq2
      have ec : (upd Hb q2 (.lst [.str "NoEntries"])) q2 = some (.lst [.str "NoEntries"]) := upd_same
      generalize (upd Hb q2 (.lst [.str "NoEntries"])) = Hc at sc ec ⊢
      refine ⟨.list [.str "NoEntries"], .list [.str "NoEntries"], .lst (SqL.of (sc _ _ eq)) (.cons (.str _) .nil), .lst (SqL.of ec) (.cons (.str _) .nil), rfl, rfl, by decide, _, rfl, iteP (by decide +kernel) ?_⟩
      have sac := sb.trans sc
      refine ⟨_, rfl, a, _, _, _, rfl, ea.same sac, XNoEntries, nNoEntries _ (by simp), rfl, ?_⟩
      refine ⟨(by show 1 ≤ sizeLine; decide), fun q3 hq3 => ?_⟩
      have sd := same_new (o := .lst [v3]) hq3
      have ed : (upd Hc q3 (.lst [v3])) q3 = some (.lst [v3]) := upd_same
      refine ⟨_, rfl, ?_⟩
      refine ⟨(by show 1 ≤ sizeLine; decide), fun q4 hq4 => ?_⟩
      have se := same_new (o := .lst [v3]) hq4
      have ee : (upd (upd Hc q3 (.lst [v3])) q4 (.lst [v3])) q4 = some (.lst [v3]) := upd_same
      refine ⟨⟨q3, q4, [v3], [v3], rfl, rfl, se _ _ ed, ee, .cons (dm_of p3) (.nil)⟩, fun He ext => ?_⟩
      have sae := ((sac.trans sd).trans se).trans ext
      refine app_t (ta.same sae) (by decide) hl (sa0.trans sae) rfl fun H9 s9 t9 => hU _ _ ⟨a, rfl, s9, t9⟩
    rintro _ H5 ⟨_, rfl, s5, t5⟩
    -- NoEntries
    refine seq_pair (fun σ' H' => ∃ a : Addr, σ' = [some (.ref g), some v1, some v2, some v3, some v4, some (.ref l), some (.ref a)] ∧ Same H H' ∧ Lt H' l 6) (fun U hU => ?_) ?_
    · skip
      refine ⟨_, rfl, ?_⟩
      refine ⟨rfl, made_er (fs := ["index"]) (ws := [v3]) rfl fun a Ha ha sa ea => ?_⟩
      have sa0 := s5.trans sa
      have ta := t5.same sa
      refine ⟨_, rfl, .inl ⟨rfl, _, SqL.of ta⟩, ?_⟩
      refine ⟨_, rfl, a, "NoEntries", 0, _, rfl, (List.mem_of_getElem? (i := 10) rfl), ea, fun Hc sac => ?_⟩
      refine ⟨rfl, _, rfl, iteP (by decide +kernel) ?_⟩
      refine ⟨_, rfl, a, _, _, _, rfl, ea.same sac, XNoEntries, nNoEntries _ (by simp), rfl, ?_⟩
      refine ⟨(by show 1 ≤ sizeLine; decide), fun q3 hq3 => ?_⟩
      have sd := same_new (o := .lst [v3]) hq3
      have ed : (upd Hc q3 (.lst [v3])) q3 = some (.lst [v3]) := upd_same
      refine ⟨_, rfl, ?_⟩
      refine ⟨(by show 1 ≤ sizeLine; decide), fun q4 hq4 => ?_⟩
      have se := same_new (o := .lst [v3]) hq4
      have ee : (upd (upd Hc q3 (.lst [v3])) q4 (.lst [v3])) q4 = some (.lst [v3]) := upd_same
      refine ⟨⟨q3, q4, [v3], [v3], rfl, rfl, se _ _ ed, ee, .cons (dm_of p3) (.nil)⟩, fun He ext => ?_⟩
      have sae := ((sac.trans sd).trans se).trans ext
      refine app_t (ta.same sae) (by decide) hl (sa0.trans sae) rfl fun H9 s9 t9 => hU _ _ ⟨a, rfl, s9, t9⟩
    rintro _ H6 ⟨_, rfl, s6, t6⟩
    -- NoName
    refine seq_pair (fun σ' H' => ∃ a : Addr, σ' = [some (.ref g), some v1, some v2, some v3, some v4, some (.ref l), some (.ref a)] ∧ Same H H' ∧ Lt H' l 7) (fun U hU => ?_) ?_
    · skip
      refine ⟨_, rfl, ?_⟩
      refine ⟨(by show 1 ≤ 1000; decide), made_er (fs := ["name"]) (ws := [v1]) rfl fun a Ha ha sa ea => ?_⟩
      have sa0 := s6.trans sa
      have ta := t6.same sa
      refine ⟨_, rfl, .inl ⟨rfl, _, SqL.of ta⟩, ?_⟩
      refine ⟨_, rfl, a, "NoName", 0, _, rfl, (List.mem_of_getElem? (i := 11) rfl), ea, fun q Hb hq sb eq => ?_⟩
      refine ⟨(by show 1 ≤ sizeLine; decide), fun q2 hq2 => ?_⟩
      have sc := same_new (o := .lst [.str "NoName"]) hq2
      have ec : (upd Hb q2 (.lst [.str "NoName"])) q2 = some (.lst [.str "NoName"]) := upd_same
      generalize (upd Hb q2 (.lst [.str "NoName"])) = Hc at sc ec ⊢
      refine ⟨.list [.str "NoName"], .list [.str "NoName"], .lst (SqL.of (sc _ _ eq)) (.cons (.str _) .nil), .lst (SqL.of ec) (.cons (.str _) .nil), rfl, rfl, by decide, _, rfl, iteP (by decide +kernel) ?_⟩
      have sac := sb.trans sc
      refine ⟨_, rfl, a, _, _, _, rfl, ea.same sac, XNoName, nNoName _ (by simp), rfl, ?_⟩
      refine ⟨(by show 1 ≤ sizeLine; decide), fun q3 hq3 => ?_⟩
      have sd := same_new (o := .lst [v1]) hq3
      have ed : (upd Hc q3 (.lst [v1])) q3 = some (.lst [v1]) := upd_same
      refine ⟨_, rfl, ?_⟩
      refine ⟨(by show 1 ≤ sizeLine; decide), fun q4 hq4 => ?_⟩
      have se := same_new (o := .lst [v1]) hq4
      have ee : (upd (upd Hc q3 (.lst [v1])) q4 (.lst [v1])) q4 = some (.lst [v1]) := upd_same
      refine ⟨⟨q3, q4, [v1], [v1], rfl, rfl, se _ _ ed, ee, .cons (dm_of p1) (.nil)⟩, fun He ext => ?_⟩
      have sae := ((sac.trans sd).trans se).trans ext
      refine app_t (ta.same sae) (by decide) hl (sa0.trans sae) rfl fun H9 s9 t9 => hU _ _ ⟨a, rfl, s9, t9⟩
    rintro _ H7 ⟨_, rfl, s7, t7⟩
    -- NoName
    refine seq_pair (fun σ' H' => ∃ a : Addr, σ' = [some (.ref g), some v1, some v2, some v3, some v4, some (.ref l), some (.ref a)] ∧ Same H H' ∧ Lt H' l 8) (fun U hU => ?_) ?_
    · skip
      refine ⟨_, rfl, ?_⟩
      refine ⟨rfl, made_er (fs := ["name"]) (ws := [v1]) rfl fun a Ha ha sa ea => ?_⟩
      have sa0 := s7.trans sa
      have ta := t7.same sa
      refine ⟨_, rfl, .inl ⟨rfl, _, SqL.of ta⟩, ?_⟩
      refine ⟨_, rfl, a, "NoName", 0, _, rfl, (List.mem_of_getElem? (i := 11) rfl), ea, fun Hc sac => ?_⟩
      refine ⟨rfl, _, rfl, iteP (by decide +kernel) ?_⟩
      refine ⟨_, rfl, a, _, _, _, rfl, ea.same sac, XNoName, nNoName _ (by simp), rfl, ?_⟩
      refine ⟨(by show 1 ≤ sizeLine; decide), fun q3 hq3 => ?_⟩
      have sd := same_new (o := .lst [v1]) hq3
      have ed : (upd Hc q3 (.lst [v1])) q3 = some (.lst [v1]) := upd_same
      refine ⟨_, rfl, ?_⟩
      refine ⟨(by show 1 ≤ sizeLine; decide), fun q4 hq4 => ?_⟩
      have se := same_new (o := .lst [v1]) hq4
      have ee : (upd (upd Hc q3 (.lst [v1])) q4 (.lst [v1])) q4 = some (.lst [v1]) := upd_same
      refine ⟨⟨q3, q4, [v1], [v1], rfl, rfl, se _ _ ed, ee, .cons (dm_of p1) (.nil)⟩, fun He ext => ?_⟩
      have sae := ((sac.trans sd).trans se).trans ext
      refine app_t (ta.same sae) (by decide) hl (sa0.trans sae) rfl fun H9 s9 t9 => hU _ _ ⟨a, rfl, s9, t9⟩
    rintro _ H8 ⟨_, rfl, s8, t8⟩
    -- NoText
    refine seq_pair (fun σ' H' => ∃ a : Addr, σ' = [some (.ref g), some v1, some v2, some v3, some v4, some (.ref l), some (.ref a)] ∧ Same H H' ∧ Lt H' l 9) (fun U hU => ?_) ?_
    · skip
      refine ⟨_, rfl, ?_⟩
      refine ⟨(by show 1 ≤ 1000; decide), made_er (fs := ["line"]) (ws := [v3]) rfl fun a Ha ha sa ea => ?_⟩
      have sa0 := s8.trans sa
      have ta := t8.same sa
      refine ⟨_, rfl, .inl ⟨rfl, _, SqL.of ta⟩, ?_⟩
      refine ⟨_, rfl, a, "NoText", 0, _, rfl, (List.mem_of_getElem? (i := 12) rfl), ea, fun q Hb hq sb eq => ?_⟩
      refine ⟨(by show 1 ≤ sizeLine; decide), fun q2 hq2 => ?_⟩
      have sc := same_new (o := .lst [.str "NoText"]) hq2
      have ec : (upd Hb q2 (.lst [.str "NoText"])) q2 = some (.lst [.str "NoText"]) := upd_same
      generalize (upd Hb q2 (.lst [.str "NoText"])) = Hc at sc ec ⊢
      refine ⟨.list [.str "NoText"], .list [.str "NoText"], .lst (SqL.of (sc _ _ eq)) (.cons (.str _) .nil), .lst (SqL.of ec) (.cons (.str _) .nil), rfl, rfl, by decide, _, rfl, iteP (by decide +kernel) ?_⟩
      have sac := sb.trans sc
      refine ⟨_, rfl, a, _, _, _, rfl, ea.same sac, XNoText, nNoText _ (by simp), rfl, ?_⟩
      refine ⟨(by show 1 ≤ sizeLine; decide), fun q3 hq3 => ?_⟩
      have sd := same_new (o := .lst [v3]) hq3
      have ed : (upd Hc q3 (.lst [v3])) q3 = some (.lst [v3]) := upd_same
      refine ⟨_, rfl, ?_⟩
      refine ⟨(by show 1 ≤ sizeLine; decide), fun q4 hq4 => ?_⟩
      have se := same_new (o := .lst [v3]) hq4
      have ee : (upd (upd Hc q3 (.lst [v3])) q4 (.lst [v3])) q4 = some (.lst [v3]) := upd_same
      refine ⟨⟨q3, q4, [v3], [v3], rfl, rfl, se _ _ ed, ee, .cons (dm_of p3) (.nil)⟩, fun He ext => ?_⟩
      have sae := ((sac.trans sd).trans se).trans ext
      refine app_t (ta.same sae) (by decide) hl (sa0.trans sae) rfl fun H9 s9 t9 => hU _ _ ⟨a, rfl, s9, t9⟩
    rintro _ H9 ⟨_, rfl, s9, t9⟩
    -- NoText
    refine seq_pair (fun σ' H' => ∃ a : Addr, σ' = [some (.ref g), some v1, some v2, some v3, some v4, some (.ref l), some (.ref a)] ∧ Same H H' ∧ Lt H' l 10) (fun U hU => ?_) ?_
    · skip
      refine ⟨_, rfl, ?_⟩
      refine ⟨rfl, made_er (fs := ["line"]) (ws := [v3]) rfl fun a Ha ha sa ea => ?_⟩
      have sa0 := s9.trans sa
      have ta := t9.same sa
      refine ⟨_, rfl, .inl ⟨rfl, _, SqL.of ta⟩, ?_⟩
      refine ⟨_, rfl, a, "NoText", 0, _, rfl, (List.mem_of_getElem? (i := 12) rfl), ea, fun Hc sac => ?_⟩
      refine ⟨rfl, _, rfl, iteP (by decide +kernel) ?_⟩
      refine ⟨_, rfl, a, _, _, _, rfl, ea.same sac, XNoText, nNoText _ (by simp), rfl, ?_⟩
      refine ⟨(by show 1 ≤ sizeLine; decide), fun q3 hq3 => ?_⟩
      have sd := same_new (o := .lst [v3]) hq3
      have ed : (upd Hc q3 (.lst [v3])) q3 = some (.lst [v3]) := upd_same
      refine ⟨_, rfl, ?_⟩
      refine ⟨(by show 1 ≤ sizeLine; decide), fun q4 hq4 => ?_⟩
      have se := same_new (o := .lst [v3]) hq4
      have ee : (upd (upd Hc q3 (.lst [v3])) q4 (.lst [v3])) q4 = some (.lst [v3]) := upd_same
      refine ⟨⟨q3, q4, [v3], [v3], rfl, rfl, se _ _ ed, ee, .cons (dm_of p3) (.nil)⟩, fun He ext => ?_⟩
      have sae := ((sac.trans sd).trans se).trans ext
      refine app_t (ta.same sae) (by decide) hl (sa0.trans sae) rfl fun H9 s9 t9 => hU _ _ ⟨a, rfl, s9, t9⟩
    rintro _ H10 ⟨_, rfl, s10, t10⟩
    -- NoCommand
    refine seq_pair (fun σ' H' => ∃ a : Addr, σ' = [some (.ref g), some v1, some v2, some v3, some v4, some (.ref l), some (.ref a)] ∧ Same H H' ∧ Lt H' l 11) (fun U hU => ?_) ?_
    · skip
      refine ⟨_, rfl, ?_⟩
      refine ⟨(by show 1 ≤ 1000; decide), made_er (fs := ["command"]) (ws := [v1]) rfl fun a Ha ha sa ea => ?_⟩
      have sa0 := s10.trans sa
      have ta := t10.same sa
      refine ⟨_, rfl, .inl ⟨rfl, _, SqL.of ta⟩, ?_⟩
      refine ⟨_, rfl, a, "NoCommand", 0, _, rfl, (List.mem_of_getElem? (i := 13) rfl), ea, fun q Hb hq sb eq => ?_⟩
      refine ⟨(by show 1 ≤ sizeLine; decide), fun q2 hq2 => ?_⟩
      have sc := same_new (o := .lst [.str "NoCommand"]) hq2
      have ec : (upd Hb q2 (.lst [.str "NoCommand"])) q2 = some (.lst [.str "NoCommand"]) := upd_same
      generalize (upd Hb q2 (.lst [.str "NoCommand"])) = Hc at sc ec ⊢
      refine ⟨.list [.str "NoCommand"], .list [.str "NoCommand"], .lst (SqL.of (sc _ _ eq)) (.cons (.str _) .nil), .lst (SqL.of ec) (.cons (.str _) .nil), rfl, rfl, by decide, _, rfl, iteP (by decide +kernel) ?_⟩
      have sac := sb.trans sc
      refine ⟨_, rfl, a, _, _, _, rfl, ea.same sac, XNoCommand, nNoCommand _ (by simp), rfl, ?_⟩
      refine ⟨(by show 1 ≤ sizeLine; decide), fun q3 hq3 => ?_⟩
      have sd := same_new (o := .lst [v1]) hq3
      have ed : (upd Hc q3 (.lst [v1])) q3 = some (.lst [v1]) := upd_same
      refine ⟨_, rfl, ?_⟩
      refine ⟨(by show 1 ≤ sizeLine; decide), fun q4 hq4 => ?_⟩
      have se := same_new (o := .lst [v1]) hq4
      have ee : (upd (upd Hc q3 (.lst [v1])) q4 (.lst [v1])) q4 = some (.lst [v1]) := upd_same
      refine ⟨⟨q3, q4, [v1], [v1], rfl, rfl, se _ _ ed, ee, .cons (dm_of p1) (.nil)⟩, fun He ext => ?_⟩
      have sae := ((sac.trans sd).trans se).trans ext
      refine app_t (ta.same sae) (by decide) hl (sa0.trans sae) rfl fun H9 s9 t9 => hU _ _ ⟨a, rfl, s9, t9⟩
    rintro _ H11 ⟨_, rfl, s11, t11⟩
    -- NoCommand
    refine seq_pair (fun σ' H' => ∃ a : Addr, σ' = [some (.ref g), some v1, some v2, some v3, some v4, some (.ref l), some (.ref a)] ∧ Same H H' ∧ Lt H' l 12) (fun U hU => ?_) ?_
    · skip
      refine ⟨_, rfl, ?_⟩
      refine ⟨rfl, made_er (fs := ["command"]) (ws := [v1]) rfl fun a Ha ha sa ea => ?_⟩
      have sa0 := s11.trans sa
      have ta := t11.same sa
      refine ⟨_, rfl, .inl ⟨rfl, _, SqL.of ta⟩, ?_⟩
      refine ⟨_, rfl, a, "NoCommand", 0, _, rfl, (List.mem_of_getElem? (i := 13) rfl), ea, fun Hc sac => ?_⟩
      refine ⟨rfl, _, rfl, iteP (by decide +kernel) ?_⟩
      refine ⟨_, rfl, a, _, _, _, rfl, ea.same sac, XNoCommand, nNoCommand _ (by simp), rfl, ?_⟩
      refine ⟨(by show 1 ≤ sizeLine; decide), fun q3 hq3 => ?_⟩
      have sd := same_new (o := .lst [v1]) hq3
      have ed : (upd Hc q3 (.lst [v1])) q3 = some (.lst [v1]) := upd_same
      refine ⟨_, rfl, ?_⟩
      refine ⟨(by show 1 ≤ sizeLine; decide), fun q4 hq4 => ?_⟩
      have se := same_new (o := .lst [v1]) hq4
      have ee : (upd (upd Hc q3 (.lst [v1])) q4 (.lst [v1])) q4 = some (.lst [v1]) := upd_same
      refine ⟨⟨q3, q4, [v1], [v1], rfl, rfl, se _ _ ed, ee, .cons (dm_of p1) (.nil)⟩, fun He ext => ?_⟩
      have sae := ((sac.trans sd).trans se).trans ext
      refine app_t (ta.same sae) (by decide) hl (sa0.trans sae) rfl fun H9 s9 t9 => hU _ _ ⟨a, rfl, s9, t9⟩
    rintro _ H12 ⟨_, rfl, s12, t12⟩
    -- Halted
    refine seq_pair (fun σ' H' => ∃ a : Addr, σ' = [some (.ref g), some v1, some v2, some v3, some v4, some (.ref l), some (.ref a)] ∧ Same H H' ∧ Lt H' l 13) (fun U hU => ?_) ?_
    · skip
      refine ⟨_, rfl, ?_⟩
      refine ⟨_, rfl, ?_⟩
      refine ⟨(by show 2 ≤ 1000; decide), made_er (fs := ["index", "answers"]) (ws := [v3, v4]) rfl fun a Ha ha sa ea => ?_⟩
      have sa0 := s12.trans sa
      have ta := t12.same sa
      refine ⟨_, rfl, .inl ⟨rfl, _, SqL.of ta⟩, ?_⟩
      refine ⟨_, rfl, a, "Halted", 0, _, rfl, (List.mem_of_getElem? (i := 14) rfl), ea, fun q Hb hq sb eq => ?_⟩
      refine ⟨(by show 1 ≤ sizeLine; decide), fun q2 hq2 => ?_⟩
      have sc := same_new (o := .lst [.str "Halted"]) hq2
      have ec : (upd Hb q2 (.lst [.str "Halted"])) q2 = some (.lst [.str "Halted"]) := upd_same
      generalize (upd Hb q2 (.lst [.str "Halted"])) = Hc at sc ec ⊢
      refine ⟨.list [.str "Halted"], .list [.str "Halted"], .lst (SqL.of (sc _ _ eq)) (.cons (.str _) .nil), .lst (SqL.of ec) (.cons (.str _) .nil), rfl, rfl, by decide, _, rfl, iteP (by decide +kernel) ?_⟩
      have sac := sb.trans sc
      refine ⟨_, rfl, a, _, _, _, rfl, ea.same sac, XHalted, nHalted _ (by simp), rfl, ?_⟩
      refine ⟨_, rfl, a, _, _, _, rfl, ea.same sac, XHalted, nHalted _ (by simp), rfl, ?_⟩
      refine ⟨(by show 2 ≤ sizeLine; decide), fun q3 hq3 => ?_⟩
      have sd := same_new (o := .lst [v3, v4]) hq3
      have ed : (upd Hc q3 (.lst [v3, v4])) q3 = some (.lst [v3, v4]) := upd_same
      refine ⟨_, rfl, ?_⟩
      refine ⟨_, rfl, ?_⟩
      refine ⟨(by show 2 ≤ sizeLine; decide), fun q4 hq4 => ?_⟩
      have se := same_new (o := .lst [v3, v4]) hq4
      have ee : (upd (upd Hc q3 (.lst [v3, v4])) q4 (.lst [v3, v4])) q4 = some (.lst [v3, v4]) := upd_same
      refine ⟨⟨q3, q4, [v3, v4], [v3, v4], rfl, rfl, se _ _ ed, ee, .cons (dm_of p3) (.cons (dm_of p4) (.nil))⟩, fun He ext => ?_⟩
      have sae := ((sac.trans sd).trans se).trans ext
      refine app_t (ta.same sae) (by decide) hl (sa0.trans sae) rfl fun H9 s9 t9 => hU _ _ ⟨a, rfl, s9, t9⟩
    rintro _ H13 ⟨_, rfl, s13, t13⟩
    -- Halted
    refine seq_pair (fun σ' H' => ∃ a : Addr, σ' = [some (.ref g), some v1, some v2, some v3, some v4, some (.ref l), some (.ref a)] ∧ Same H H' ∧ Lt H' l 14) (fun U hU => ?_) ?_
    · skip
      refine ⟨_, rfl, ?_⟩
      refine ⟨_, rfl, ?_⟩
      refine ⟨rfl, made_er (fs := ["index", "answers"]) (ws := [v3, v4]) rfl fun a Ha ha sa ea => ?_⟩
      have sa0 := s13.trans sa
      have ta := t13.same sa
      refine ⟨_, rfl, .inl ⟨rfl, _, SqL.of ta⟩, ?_⟩
      refine ⟨_, rfl, a, "Halted", 0, _, rfl, (List.mem_of_getElem? (i := 14) rfl), ea, fun Hc sac => ?_⟩
      refine ⟨rfl, _, rfl, iteP (by decide +kernel) ?_⟩
      refine ⟨_, rfl, a, _, _, _, rfl, ea.same sac, XHalted, nHalted _ (by simp), rfl, ?_⟩
      refine ⟨_, rfl, a, _, _, _, rfl, ea.same sac, XHalted, nHalted _ (by simp), rfl, ?_⟩
      refine ⟨(by show 2 ≤ sizeLine; decide), fun q3 hq3 => ?_⟩
      have sd := same_new (o := .lst [v3, v4]) hq3
      have ed : (upd Hc q3 (.lst [v3, v4])) q3 = some (.lst [v3, v4]) := upd_same
      refine ⟨_, rfl, ?_⟩
      refine ⟨_, rfl, ?_⟩
      refine ⟨(by show 2 ≤ sizeLine; decide), fun q4 hq4 => ?_⟩
      have se := same_new (o := .lst [v3, v4]) hq4
      have ee : (upd (upd Hc q3 (.lst [v3, v4])) q4 (.lst [v3, v4])) q4 = some (.lst [v3, v4]) := upd_same
      refine ⟨⟨q3, q4, [v3, v4], [v3, v4], rfl, rfl, se _ _ ed, ee, .cons (dm_of p3) (.cons (dm_of p4) (.nil))⟩, fun He ext => ?_⟩
      have sae := ((sac.trans sd).trans se).trans ext
      refine app_t (ta.same sae) (by decide) hl (sa0.trans sae) rfl fun H9 s9 t9 => hU _ _ ⟨a, rfl, s9, t9⟩
    rintro _ H14 ⟨_, rfl, s14, t14⟩
    refine ⟨_, rfl, l, _, rfl, SqL.of t14, ?_⟩
    rw [all_reps]
    exact out _ s14
end
end K18
namespace K18
open PySem PySem.Spec PyProof.Rows L2 Par
abbrev slPart2_ : Stmt := topS 62
section
variable {P : Program} {w : World} {K : PySem.W.Frag} {mg : Str → Option Value} {base : Heap}
abbrev nPart2 : List Str := ["_law_given_here", "_law_near", "_law_found", "_law_e"]
theorem scPart2 : FnScope nPart2 ["_law_given_here"] (defScope slPart2_) := ⟨rfl, rfl, rfl, by decide +kernel, rfl, by decide +kernel, by decide +kernel⟩
theorem ok_part2 {f : Addr} {fd : FuncData} (F : Fun K "_law_part_2" "_law_part_2" slPart2_ f fd) (B : Bl mg) (EK : ExK K mg) (DW : Has P w K mg base "_law_words" 3 ["_law_e"] (spWords (K := K))) (DB : Has P w K mg base "_law_base" 2 ["_law_e"] (spBase (K := K))) (DNoEntry : HasEr P w K mg base "NoEntry" ["stamp"] ["stamp"] (fun us ws => us ++ ws) (fun vs zs => vs ++ zs)) (DNoProcedure : HasEr P w K mg base "NoProcedure" ["name"] ["name"] (fun us ws => us ++ ws) (fun vs zs => vs ++ zs)) (DNoHand : HasEr P w K mg base "NoHand" ["hand"] ["hand"] (fun us ws => us ++ ws) (fun vs zs => vs ++ zs)) (DNoHistory : HasEr P w K mg base "NoHistory" ["name"] ["name"] (fun us ws => us ++ ws) (fun vs zs => vs ++ zs)) : FnG P w K mg base CX0 4 f fd ["_law_given_here"] spPart := by
  obtain ⟨fW, fdW, GW, mW, kW, bW⟩ := DW
  obtain ⟨fB, fdB, GB, mB, kB, bB⟩ := DB
  obtain ⟨fNoEntry, fdNoEntry, TNoEntry, XNoEntry, nNoEntry, iNoEntry, tNoEntry, GNoEntry, bNoEntry, kNoEntry⟩ := DNoEntry
  obtain ⟨fNoProcedure, fdNoProcedure, TNoProcedure, XNoProcedure, nNoProcedure, iNoProcedure, tNoProcedure, GNoProcedure, bNoProcedure, kNoProcedure⟩ := DNoProcedure
  obtain ⟨fNoHand, fdNoHand, TNoHand, XNoHand, nNoHand, iNoHand, tNoHand, GNoHand, bNoHand, kNoHand⟩ := DNoHand
  obtain ⟨fNoHistory, fdNoHistory, TNoHistory, XNoHistory, nNoHistory, iNoHistory, tNoHistory, GNoHistory, bNoHistory, kNoHistory⟩ := DNoHistory
  refine fnG_of F scPart2 (fun vs H Q E h => ?_) (fun cdv A outer s H vs Q E gs hr h => ?_)
  · obtain ⟨g, rfl, _⟩ := h
    rfl
  · obtain ⟨g, rfl, hg, out⟩ := h
    have hu := hr.units
    have hu1 := hu_of hr
    have r1 : Room 1 _ := hr.mono (by decide)
    have r2 : Room 2 _ := hr.mono (by decide)
    have r3 : Room 3 _ := hr
    refine ⟨_, (pss_cons (ps_set (i := 1) scPart2.nd rfl (Or.inl rfl) (pe_dget hu1 (pv 0) pe_str (fun _ _ => rfl)))
      (pss_cons (ps_set (i := 2) scPart2.nd rfl (Or.inl rfl) (pe_lst pa_nil))
      (pss_cons (ps_set (i := 3) scPart2.nd rfl (Or.inl rfl) (pe_mkEr TNoEntry iNoEntry tNoEntry GNoEntry r3 bNoEntry pass0 (by rfl) (EK.mgc _ (List.mem_of_getElem? (i := 15) rfl)) (pa_cons (pv 1) pa_nil)))
      (pss_cons (ps_expr (pe_bm PySem.F.plainAttrs_list PySem.F.slot_list_append PySem.F.type_list_append mt_append (pv 2) (pa_cons (pe_and (pe_cmpR (op_eqP hu) (pe_call GW r3 (by rfl) mW kW bW .nil pass0 (pa_cons (pv 3) pa_nil)) (pe_lst (pa_cons pe_str pa_nil)) (nomark _)) (pe_one (pe_cmpR (op_eqG (rcG_list mon_dm eqG_dm) r1) (pe_lst (pa_cons (pe_fe (pv 3)) pa_nil)) (pe_lst (pa_cons (pv 1) pa_nil)) (nomark _)))) pa_nil)))
      (pss_cons (ps_set (i := 3) scPart2.nd rfl (Or.inl rfl) (pe_mkEk (ks := ["stamp"]) TNoEntry iNoEntry tNoEntry GNoEntry r3 kNoEntry pass0 (by rfl) (EK.mgc _ (List.mem_of_getElem? (i := 15) rfl)) (pk_cons (pv 1) pk_nil)))
      (pss_cons (ps_expr (pe_bm PySem.F.plainAttrs_list PySem.F.slot_list_append PySem.F.type_list_append mt_append (pv 2) (pa_cons (pe_and (pe_cmpR op_eq (pe_call GB r2 (by rfl) mB kB bB .nil pass0 (pa_cons (pv 3) pa_nil)) pe_int (nomark _)) (pe_one (pe_cmpR (op_eqG (rcG_list mon_dm eqG_dm) r1) (pe_lst (pa_cons (pe_fe (pv 3)) pa_nil)) (pe_lst (pa_cons (pv 1) pa_nil)) (nomark _)))) pa_nil)))
      (pss_cons (ps_set (i := 3) scPart2.nd rfl (Or.inl rfl) (pe_mkEr TNoProcedure iNoProcedure tNoProcedure GNoProcedure r3 bNoProcedure pass0 (by rfl) (EK.mgc _ (List.mem_of_getElem? (i := 16) rfl)) (pa_cons (pv 1) pa_nil)))
      (pss_cons (ps_expr (pe_bm PySem.F.plainAttrs_list PySem.F.slot_list_append PySem.F.type_list_append mt_append (pv 2) (pa_cons (pe_and (pe_cmpR (op_eqP hu) (pe_call GW r3 (by rfl) mW kW bW .nil pass0 (pa_cons (pv 3) pa_nil)) (pe_lst (pa_cons pe_str pa_nil)) (nomark _)) (pe_one (pe_cmpR (op_eqG (rcG_list mon_dm eqG_dm) r1) (pe_lst (pa_cons (pe_fe (pv 3)) pa_nil)) (pe_lst (pa_cons (pv 1) pa_nil)) (nomark _)))) pa_nil)))
      (pss_cons (ps_set (i := 3) scPart2.nd rfl (Or.inl rfl) (pe_mkEk (ks := ["name"]) TNoProcedure iNoProcedure tNoProcedure GNoProcedure r3 kNoProcedure pass0 (by rfl) (EK.mgc _ (List.mem_of_getElem? (i := 16) rfl)) (pk_cons (pv 1) pk_nil)))
      (pss_cons (ps_expr (pe_bm PySem.F.plainAttrs_list PySem.F.slot_list_append PySem.F.type_list_append mt_append (pv 2) (pa_cons (pe_and (pe_cmpR op_eq (pe_call GB r2 (by rfl) mB kB bB .nil pass0 (pa_cons (pv 3) pa_nil)) pe_int (nomark _)) (pe_one (pe_cmpR (op_eqG (rcG_list mon_dm eqG_dm) r1) (pe_lst (pa_cons (pe_fe (pv 3)) pa_nil)) (pe_lst (pa_cons (pv 1) pa_nil)) (nomark _)))) pa_nil)))
      (pss_cons (ps_set (i := 3) scPart2.nd rfl (Or.inl rfl) (pe_mkEr TNoHand iNoHand tNoHand GNoHand r3 bNoHand pass0 (by rfl) (EK.mgc _ (List.mem_of_getElem? (i := 17) rfl)) (pa_cons (pv 1) pa_nil)))
      (pss_cons (ps_expr (pe_bm PySem.F.plainAttrs_list PySem.F.slot_list_append PySem.F.type_list_append mt_append (pv 2) (pa_cons (pe_and (pe_cmpR (op_eqP hu) (pe_call GW r3 (by rfl) mW kW bW .nil pass0 (pa_cons (pv 3) pa_nil)) (pe_lst (pa_cons pe_str pa_nil)) (nomark _)) (pe_one (pe_cmpR (op_eqG (rcG_list mon_dm eqG_dm) r1) (pe_lst (pa_cons (pe_fe (pv 3)) pa_nil)) (pe_lst (pa_cons (pv 1) pa_nil)) (nomark _)))) pa_nil)))
      (pss_cons (ps_set (i := 3) scPart2.nd rfl (Or.inl rfl) (pe_mkEk (ks := ["hand"]) TNoHand iNoHand tNoHand GNoHand r3 kNoHand pass0 (by rfl) (EK.mgc _ (List.mem_of_getElem? (i := 17) rfl)) (pk_cons (pv 1) pk_nil)))
      (pss_cons (ps_expr (pe_bm PySem.F.plainAttrs_list PySem.F.slot_list_append PySem.F.type_list_append mt_append (pv 2) (pa_cons (pe_and (pe_cmpR op_eq (pe_call GB r2 (by rfl) mB kB bB .nil pass0 (pa_cons (pv 3) pa_nil)) pe_int (nomark _)) (pe_one (pe_cmpR (op_eqG (rcG_list mon_dm eqG_dm) r1) (pe_lst (pa_cons (pe_fe (pv 3)) pa_nil)) (pe_lst (pa_cons (pv 1) pa_nil)) (nomark _)))) pa_nil)))
      (pss_cons (ps_set (i := 3) scPart2.nd rfl (Or.inl rfl) (pe_mkEr TNoHistory iNoHistory tNoHistory GNoHistory r3 bNoHistory pass0 (by rfl) (EK.mgc _ (List.mem_of_getElem? (i := 18) rfl)) (pa_cons (pv 1) pa_nil)))
      (pss_cons (ps_expr (pe_bm PySem.F.plainAttrs_list PySem.F.slot_list_append PySem.F.type_list_append mt_append (pv 2) (pa_cons (pe_and (pe_cmpR (op_eqP hu) (pe_call GW r3 (by rfl) mW kW bW .nil pass0 (pa_cons (pv 3) pa_nil)) (pe_lst (pa_cons pe_str pa_nil)) (nomark _)) (pe_one (pe_cmpR (op_eqG (rcG_list mon_dm eqG_dm) r1) (pe_lst (pa_cons (pe_fe (pv 3)) pa_nil)) (pe_lst (pa_cons (pv 1) pa_nil)) (nomark _)))) pa_nil)))
      (pss_cons (ps_set (i := 3) scPart2.nd rfl (Or.inl rfl) (pe_mkEk (ks := ["name"]) TNoHistory iNoHistory tNoHistory GNoHistory r3 kNoHistory pass0 (by rfl) (EK.mgc _ (List.mem_of_getElem? (i := 18) rfl)) (pk_cons (pv 1) pk_nil)))
      (pss_cons (ps_expr (pe_bm PySem.F.plainAttrs_list PySem.F.slot_list_append PySem.F.type_list_append mt_append (pv 2) (pa_cons (pe_and (pe_cmpR op_eq (pe_call GB r2 (by rfl) mB kB bB .nil pass0 (pa_cons (pv 3) pa_nil)) pe_int (nomark _)) (pe_one (pe_cmpR (op_eqG (rcG_list mon_dm eqG_dm) r1) (pe_lst (pa_cons (pe_fe (pv 3)) pa_nil)) (pe_lst (pa_cons (pv 1) pa_nil)) (nomark _)))) pa_nil)))
      (pss_one (ps_ret (pe_callB (cr_all rfl) (by rfl) B.all (by decide +kernel) (pa_cons (pv 2) pa_nil)))))))))))))))))))))), ?_⟩
    obtain ⟨v1, d1, p1⟩ := hg.get (k := "near") (by decide)
    refine ⟨_, rfl, g, v1, rfl, d1, ?_⟩
    refine ⟨(by show 0 ≤ sizeLine; decide), fun l hl => ?_⟩
    have s0 : Same H (upd H l (.lst [])) := same_new hl
    have t0 : Lt (upd H l (.lst [])) l 0 := upd_same
    generalize (upd H l (.lst [])) = H0 at s0 t0 ⊢
    dsimp only [gName]
    -- NoEntry
    refine seq_pair (fun σ' H' => ∃ a : Addr, σ' = [some (.ref g), some v1, some (.ref l), some (.ref a)] ∧ Same H H' ∧ Lt H' l 1) (fun U hU => ?_) ?_
    · skip
      refine ⟨_, rfl, ?_⟩
      refine ⟨(by show 1 ≤ 1000; decide), made_er (fs := ["stamp"]) (ws := [v1]) rfl fun a Ha ha sa ea => ?_⟩
      have sa0 := s0.trans sa
      have ta := t0.same sa
      refine ⟨_, rfl, .inl ⟨rfl, _, SqL.of ta⟩, ?_⟩
      refine ⟨_, rfl, a, "NoEntry", 1, _, rfl, (List.mem_of_getElem? (i := 15) rfl), ea, fun q Hb hq sb eq => ?_⟩
      refine ⟨(by show 1 ≤ sizeLine; decide), fun q2 hq2 => ?_⟩
      have sc := same_new (o := .lst [.str "NoEntry"]) hq2
      have ec : (upd Hb q2 (.lst [.str "NoEntry"])) q2 = some (.lst [.str "NoEntry"]) := upd_same
      generalize (upd Hb q2 (.lst [.str "NoEntry"])) = Hc at sc ec ⊢
      refine ⟨.list [.str "NoEntry"], .list [.str "NoEntry"], .lst (SqL.of (sc _ _ eq)) (.cons (.str _) .nil), .lst (SqL.of ec) (.cons (.str _) .nil), rfl, rfl, by decide, _, rfl, iteP (by decide +kernel) ?_⟩
      have sac := sb.trans sc
      refine ⟨_, rfl, a, _, _, _, rfl, ea.same sac, XNoEntry, nNoEntry _ (by simp), rfl, ?_⟩
      refine ⟨(by show 1 ≤ sizeLine; decide), fun q3 hq3 => ?_⟩
      have sd := same_new (o := .lst [v1]) hq3
      have ed : (upd Hc q3 (.lst [v1])) q3 = some (.lst [v1]) := upd_same
      refine ⟨_, rfl, ?_⟩
      refine ⟨(by show 1 ≤ sizeLine; decide), fun q4 hq4 => ?_⟩
      have se := same_new (o := .lst [v1]) hq4
      have ee : (upd (upd Hc q3 (.lst [v1])) q4 (.lst [v1])) q4 = some (.lst [v1]) := upd_same
      refine ⟨⟨q3, q4, [v1], [v1], rfl, rfl, se _ _ ed, ee, .cons (dm_of p1) (.nil)⟩, fun He ext => ?_⟩
      have sae := ((sac.trans sd).trans se).trans ext
      refine app_t (ta.same sae) (by decide) hl (sa0.trans sae) rfl fun H9 s9 t9 => hU _ _ ⟨a, rfl, s9, t9⟩
    rintro _ H1 ⟨_, rfl, s1, t1⟩
    -- NoEntry
    refine seq_pair (fun σ' H' => ∃ a : Addr, σ' = [some (.ref g), some v1, some (.ref l), some (.ref a)] ∧ Same H H' ∧ Lt H' l 2) (fun U hU => ?_) ?_
    · skip
      refine ⟨_, rfl, ?_⟩
      refine ⟨rfl, made_er (fs := ["stamp"]) (ws := [v1]) rfl fun a Ha ha sa ea => ?_⟩
      have sa0 := s1.trans sa
      have ta := t1.same sa
      refine ⟨_, rfl, .inl ⟨rfl, _, SqL.of ta⟩, ?_⟩
      refine ⟨_, rfl, a, "NoEntry", 1, _, rfl, (List.mem_of_getElem? (i := 15) rfl), ea, fun Hc sac => ?_⟩
      refine ⟨rfl, _, rfl, iteP (by decide +kernel) ?_⟩
      refine ⟨_, rfl, a, _, _, _, rfl, ea.same sac, XNoEntry, nNoEntry _ (by simp), rfl, ?_⟩
      refine ⟨(by show 1 ≤ sizeLine; decide), fun q3 hq3 => ?_⟩
      have sd := same_new (o := .lst [v1]) hq3
      have ed : (upd Hc q3 (.lst [v1])) q3 = some (.lst [v1]) := upd_same
      refine ⟨_, rfl, ?_⟩
      refine ⟨(by show 1 ≤ sizeLine; decide), fun q4 hq4 => ?_⟩
      have se := same_new (o := .lst [v1]) hq4
      have ee : (upd (upd Hc q3 (.lst [v1])) q4 (.lst [v1])) q4 = some (.lst [v1]) := upd_same
      refine ⟨⟨q3, q4, [v1], [v1], rfl, rfl, se _ _ ed, ee, .cons (dm_of p1) (.nil)⟩, fun He ext => ?_⟩
      have sae := ((sac.trans sd).trans se).trans ext
      refine app_t (ta.same sae) (by decide) hl (sa0.trans sae) rfl fun H9 s9 t9 => hU _ _ ⟨a, rfl, s9, t9⟩
    rintro _ H2 ⟨_, rfl, s2, t2⟩
    -- NoProcedure
    refine seq_pair (fun σ' H' => ∃ a : Addr, σ' = [some (.ref g), some v1, some (.ref l), some (.ref a)] ∧ Same H H' ∧ Lt H' l 3) (fun U hU => ?_) ?_
    · skip
      refine ⟨_, rfl, ?_⟩
      refine ⟨(by show 1 ≤ 1000; decide), made_er (fs := ["name"]) (ws := [v1]) rfl fun a Ha ha sa ea => ?_⟩
      have sa0 := s2.trans sa
      have ta := t2.same sa
      refine ⟨_, rfl, .inl ⟨rfl, _, SqL.of ta⟩, ?_⟩
      refine ⟨_, rfl, a, "NoProcedure", 1, _, rfl, (List.mem_of_getElem? (i := 16) rfl), ea, fun q Hb hq sb eq => ?_⟩
      refine ⟨(by show 1 ≤ sizeLine; decide), fun q2 hq2 => ?_⟩
      have sc := same_new (o := .lst [.str "NoProcedure"]) hq2
      have ec : (upd Hb q2 (.lst [.str "NoProcedure"])) q2 = some (.lst [.str "NoProcedure"]) := upd_same
      generalize (upd Hb q2 (.lst [.str "NoProcedure"])) = Hc at sc ec ⊢
      refine ⟨.list [.str "NoProcedure"], .list [.str "NoProcedure"], .lst (SqL.of (sc _ _ eq)) (.cons (.str _) .nil), .lst (SqL.of ec) (.cons (.str _) .nil), rfl, rfl, by decide, _, rfl, iteP (by decide +kernel) ?_⟩
      have sac := sb.trans sc
      refine ⟨_, rfl, a, _, _, _, rfl, ea.same sac, XNoProcedure, nNoProcedure _ (by simp), rfl, ?_⟩
      refine ⟨(by show 1 ≤ sizeLine; decide), fun q3 hq3 => ?_⟩
      have sd := same_new (o := .lst [v1]) hq3
      have ed : (upd Hc q3 (.lst [v1])) q3 = some (.lst [v1]) := upd_same
      refine ⟨_, rfl, ?_⟩
      refine ⟨(by show 1 ≤ sizeLine; decide), fun q4 hq4 => ?_⟩
      have se := same_new (o := .lst [v1]) hq4
      have ee : (upd (upd Hc q3 (.lst [v1])) q4 (.lst [v1])) q4 = some (.lst [v1]) := upd_same
      refine ⟨⟨q3, q4, [v1], [v1], rfl, rfl, se _ _ ed, ee, .cons (dm_of p1) (.nil)⟩, fun He ext => ?_⟩
      have sae := ((sac.trans sd).trans se).trans ext
      refine app_t (ta.same sae) (by decide) hl (sa0.trans sae) rfl fun H9 s9 t9 => hU _ _ ⟨a, rfl, s9, t9⟩
    rintro _ H3 ⟨_, rfl, s3, t3⟩
    -- NoProcedure
    refine seq_pair (fun σ' H' => ∃ a : Addr, σ' = [some (.ref g), some v1, some (.ref l), some (.ref a)] ∧ Same H H' ∧ Lt H' l 4) (fun U hU => ?_) ?_
    · skip
      refine ⟨_, rfl, ?_⟩
      refine ⟨rfl, made_er (fs := ["name"]) (ws := [v1]) rfl fun a Ha ha sa ea => ?_⟩
      have sa0 := s3.trans sa
      have ta := t3.same sa
      refine ⟨_, rfl, .inl ⟨rfl, _, SqL.of ta⟩, ?_⟩
      refine ⟨_, rfl, a, "NoProcedure", 1, _, rfl, (List.mem_of_getElem? (i := 16) rfl), ea, fun Hc sac => ?_⟩
      refine ⟨rfl, _, rfl, iteP (by decide +kernel) ?_⟩
      refine ⟨_, rfl, a, _, _, _, rfl, ea.same sac, XNoProcedure, nNoProcedure _ (by simp), rfl, ?_⟩
      refine ⟨(by show 1 ≤ sizeLine; decide), fun q3 hq3 => ?_⟩
      have sd := same_new (o := .lst [v1]) hq3
      have ed : (upd Hc q3 (.lst [v1])) q3 = some (.lst [v1]) := upd_same
      refine ⟨_, rfl, ?_⟩
      refine ⟨(by show 1 ≤ sizeLine; decide), fun q4 hq4 => ?_⟩
      have se := same_new (o := .lst [v1]) hq4
      have ee : (upd (upd Hc q3 (.lst [v1])) q4 (.lst [v1])) q4 = some (.lst [v1]) := upd_same
      refine ⟨⟨q3, q4, [v1], [v1], rfl, rfl, se _ _ ed, ee, .cons (dm_of p1) (.nil)⟩, fun He ext => ?_⟩
      have sae := ((sac.trans sd).trans se).trans ext
      refine app_t (ta.same sae) (by decide) hl (sa0.trans sae) rfl fun H9 s9 t9 => hU _ _ ⟨a, rfl, s9, t9⟩
    rintro _ H4 ⟨_, rfl, s4, t4⟩
    -- NoHand
    refine seq_pair (fun σ' H' => ∃ a : Addr, σ' = [some (.ref g), some v1, some (.ref l), some (.ref a)] ∧ Same H H' ∧ Lt H' l 5) (fun U hU => ?_) ?_
    · skip
      refine ⟨_, rfl, ?_⟩
      refine ⟨(by show 1 ≤ 1000; decide), made_er (fs := ["hand"]) (ws := [v1]) rfl fun a Ha ha sa ea => ?_⟩
      have sa0 := s4.trans sa
      have ta := t4.same sa
      refine ⟨_, rfl, .inl ⟨rfl, _, SqL.of ta⟩, ?_⟩
      refine ⟨_, rfl, a, "NoHand", 1, _, rfl, (List.mem_of_getElem? (i := 17) rfl), ea, fun q Hb hq sb eq => ?_⟩
      refine ⟨(by show 1 ≤ sizeLine; decide), fun q2 hq2 => ?_⟩
      have sc := same_new (o := .lst [.str "NoHand"]) hq2
      have ec : (upd Hb q2 (.lst [.str "NoHand"])) q2 = some (.lst [.str "NoHand"]) := upd_same
      generalize (upd Hb q2 (.lst [.str "NoHand"])) = Hc at sc ec ⊢
      refine ⟨.list [.str "NoHand"], .list [.str "NoHand"], .lst (SqL.of (sc _ _ eq)) (.cons (.str _) .nil), .lst (SqL.of ec) (.cons (.str _) .nil), rfl, rfl, by decide, _, rfl, iteP (by decide +kernel) ?_⟩
      have sac := sb.trans sc
      refine ⟨_, rfl, a, _, _, _, rfl, ea.same sac, XNoHand, nNoHand _ (by simp), rfl, ?_⟩
      refine ⟨(by show 1 ≤ sizeLine; decide), fun q3 hq3 => ?_⟩
      have sd := same_new (o := .lst [v1]) hq3
      have ed : (upd Hc q3 (.lst [v1])) q3 = some (.lst [v1]) := upd_same
      refine ⟨_, rfl, ?_⟩
      refine ⟨(by show 1 ≤ sizeLine; decide), fun q4 hq4 => ?_⟩
      have se := same_new (o := .lst [v1]) hq4
      have ee : (upd (upd Hc q3 (.lst [v1])) q4 (.lst [v1])) q4 = some (.lst [v1]) := upd_same
      refine ⟨⟨q3, q4, [v1], [v1], rfl, rfl, se _ _ ed, ee, .cons (dm_of p1) (.nil)⟩, fun He ext => ?_⟩
      have sae := ((sac.trans sd).trans se).trans ext
      refine app_t (ta.same sae) (by decide) hl (sa0.trans sae) rfl fun H9 s9 t9 => hU _ _ ⟨a, rfl, s9, t9⟩
    rintro _ H5 ⟨_, rfl, s5, t5⟩
    -- NoHand
    refine seq_pair (fun σ' H' => ∃ a : Addr, σ' = [some (.ref g), some v1, some (.ref l), some (.ref a)] ∧ Same H H' ∧ Lt H' l 6) (fun U hU => ?_) ?_
    · skip
      refine ⟨_, rfl, ?_⟩
      refine ⟨rfl, made_er (fs := ["hand"]) (ws := [v1]) rfl fun a Ha ha sa ea => ?_⟩
      have sa0 := s5.trans sa
      have ta := t5.same sa
      refine ⟨_, rfl, .inl ⟨rfl, _, SqL.of ta⟩, ?_⟩
      refine ⟨_, rfl, a, "NoHand", 1, _, rfl, (List.mem_of_getElem? (i := 17) rfl), ea, fun Hc sac => ?_⟩
      refine ⟨rfl, _, rfl, iteP (by decide +kernel) ?_⟩
      refine ⟨_, rfl, a, _, _, _, rfl, ea.same sac, XNoHand, nNoHand _ (by simp), rfl, ?_⟩
      refine ⟨(by show 1 ≤ sizeLine; decide), fun q3 hq3 => ?_⟩
      have sd := same_new (o := .lst [v1]) hq3
      have ed : (upd Hc q3 (.lst [v1])) q3 = some (.lst [v1]) := upd_same
      refine ⟨_, rfl, ?_⟩
      refine ⟨(by show 1 ≤ sizeLine; decide), fun q4 hq4 => ?_⟩
      have se := same_new (o := .lst [v1]) hq4
      have ee : (upd (upd Hc q3 (.lst [v1])) q4 (.lst [v1])) q4 = some (.lst [v1]) := upd_same
      refine ⟨⟨q3, q4, [v1], [v1], rfl, rfl, se _ _ ed, ee, .cons (dm_of p1) (.nil)⟩, fun He ext => ?_⟩
      have sae := ((sac.trans sd).trans se).trans ext
      refine app_t (ta.same sae) (by decide) hl (sa0.trans sae) rfl fun H9 s9 t9 => hU _ _ ⟨a, rfl, s9, t9⟩
    rintro _ H6 ⟨_, rfl, s6, t6⟩
    -- NoHistory
    refine seq_pair (fun σ' H' => ∃ a : Addr, σ' = [some (.ref g), some v1, some (.ref l), some (.ref a)] ∧ Same H H' ∧ Lt H' l 7) (fun U hU => ?_) ?_
    · skip
      refine ⟨_, rfl, ?_⟩
      refine ⟨(by show 1 ≤ 1000; decide), made_er (fs := ["name"]) (ws := [v1]) rfl fun a Ha ha sa ea => ?_⟩
      have sa0 := s6.trans sa
      have ta := t6.same sa
      refine ⟨_, rfl, .inl ⟨rfl, _, SqL.of ta⟩, ?_⟩
      refine ⟨_, rfl, a, "NoHistory", 1, _, rfl, (List.mem_of_getElem? (i := 18) rfl), ea, fun q Hb hq sb eq => ?_⟩
      refine ⟨(by show 1 ≤ sizeLine; decide), fun q2 hq2 => ?_⟩
      have sc := same_new (o := .lst [.str "NoHistory"]) hq2
      have ec : (upd Hb q2 (.lst [.str "NoHistory"])) q2 = some (.lst [.str "NoHistory"]) := upd_same
      generalize (upd Hb q2 (.lst [.str "NoHistory"])) = Hc at sc ec ⊢
      refine ⟨.list [.str "NoHistory"], .list [.str "NoHistory"], .lst (SqL.of (sc _ _ eq)) (.cons (.str _) .nil), .lst (SqL.of ec) (.cons (.str _) .nil), rfl, rfl, by decide, _, rfl, iteP (by decide +kernel) ?_⟩
      have sac := sb.trans sc
      refine ⟨_, rfl, a, _, _, _, rfl, ea.same sac, XNoHistory, nNoHistory _ (by simp), rfl, ?_⟩
      refine ⟨(by show 1 ≤ sizeLine; decide), fun q3 hq3 => ?_⟩
      have sd := same_new (o := .lst [v1]) hq3
      have ed : (upd Hc q3 (.lst [v1])) q3 = some (.lst [v1]) := upd_same
      refine ⟨_, rfl, ?_⟩
      refine ⟨(by show 1 ≤ sizeLine; decide), fun q4 hq4 => ?_⟩
      have se := same_new (o := .lst [v1]) hq4
      have ee : (upd (upd Hc q3 (.lst [v1])) q4 (.lst [v1])) q4 = some (.lst [v1]) := upd_same
      refine ⟨⟨q3, q4, [v1], [v1], rfl, rfl, se _ _ ed, ee, .cons (dm_of p1) (.nil)⟩, fun He ext => ?_⟩
      have sae := ((sac.trans sd).trans se).trans ext
      refine app_t (ta.same sae) (by decide) hl (sa0.trans sae) rfl fun H9 s9 t9 => hU _ _ ⟨a, rfl, s9, t9⟩
    rintro _ H7 ⟨_, rfl, s7, t7⟩
    -- NoHistory
    refine seq_pair (fun σ' H' => ∃ a : Addr, σ' = [some (.ref g), some v1, some (.ref l), some (.ref a)] ∧ Same H H' ∧ Lt H' l 8) (fun U hU => ?_) ?_
    · skip
      refine ⟨_, rfl, ?_⟩
      refine ⟨rfl, made_er (fs := ["name"]) (ws := [v1]) rfl fun a Ha ha sa ea => ?_⟩
      have sa0 := s7.trans sa
      have ta := t7.same sa
      refine ⟨_, rfl, .inl ⟨rfl, _, SqL.of ta⟩, ?_⟩
      refine ⟨_, rfl, a, "NoHistory", 1, _, rfl, (List.mem_of_getElem? (i := 18) rfl), ea, fun Hc sac => ?_⟩
      refine ⟨rfl, _, rfl, iteP (by decide +kernel) ?_⟩
      refine ⟨_, rfl, a, _, _, _, rfl, ea.same sac, XNoHistory, nNoHistory _ (by simp), rfl, ?_⟩
      refine ⟨(by show 1 ≤ sizeLine; decide), fun q3 hq3 => ?_⟩
      have sd := same_new (o := .lst [v1]) hq3
      have ed : (upd Hc q3 (.lst [v1])) q3 = some (.lst [v1]) := upd_same
      refine ⟨_, rfl, ?_⟩
      refine ⟨(by show 1 ≤ sizeLine; decide), fun q4 hq4 => ?_⟩
      have se := same_new (o := .lst [v1]) hq4
      have ee : (upd (upd Hc q3 (.lst [v1])) q4 (.lst [v1])) q4 = some (.lst [v1]) := upd_same
      refine ⟨⟨q3, q4, [v1], [v1], rfl, rfl, se _ _ ed, ee, .cons (dm_of p1) (.nil)⟩, fun He ext => ?_⟩
      have sae := ((sac.trans sd).trans se).trans ext
      refine app_t (ta.same sae) (by decide) hl (sa0.trans sae) rfl fun H9 s9 t9 => hU _ _ ⟨a, rfl, s9, t9⟩
    rintro _ H8 ⟨_, rfl, s8, t8⟩
    refine ⟨_, rfl, l, _, rfl, SqL.of t8, ?_⟩
    rw [all_reps]
    exact out _ s8
end
end K18
namespace K18
open PySem PySem.Spec PyProof.Rows L2 Par
abbrev slPart3_ : Stmt := topS 63
section
variable {P : Program} {w : World} {K : PySem.W.Frag} {mg : Str → Option Value} {base : Heap}
abbrev nPart3 : List Str := ["_law_given_here", "_law_word", "_law_whole", "_law_mark", "_law_found", "_law_e"]
theorem scPart3 : FnScope nPart3 ["_law_given_here"] (defScope slPart3_) := ⟨rfl, rfl, rfl, by decide +kernel, rfl, by decide +kernel, by decide +kernel⟩
theorem ok_part3 {f : Addr} {fd : FuncData} (F : Fun K "_law_part_3" "_law_part_3" slPart3_ f fd) (B : Bl mg) (EK : ExK K mg) (DW : Has P w K mg base "_law_words" 3 ["_law_e"] (spWords (K := K))) (DB : Has P w K mg base "_law_base" 2 ["_law_e"] (spBase (K := K))) (DTaken : HasEr P w K mg base "Taken" ["stamp"] ["stamp"] (fun us ws => us ++ ws) (fun vs zs => vs ++ zs)) (DStanding : HasEr P w K mg base "Standing" ["stamp"] ["stamp"] (fun us ws => us ++ ws) (fun vs zs => vs ++ zs)) (DRemoved : HasEr P w K mg base "Removed" ["stamp"] ["stamp"] (fun us ws => us ++ ws) (fun vs zs => vs ++ zs)) (DFolded : HasEr P w K mg base "Folded" ["stamp"] ["stamp"] (fun us ws => us ++ ws) (fun vs zs => vs ++ zs)) (DClash : HasEr P w K mg base "Clash" ["stamp"] ["stamp"] (fun us ws => us ++ ws) (fun vs zs => vs ++ zs)) (DNotOwn : HasEr P w K mg base "NotOwn" ["stamp"] ["stamp"] (fun us ws => us ++ ws) (fun vs zs => vs ++ zs)) (DNotHeard : HasEr P w K mg base "NotHeard" ["hand"] ["hand"] (fun us ws => us ++ ws) (fun vs zs => vs ++ zs)) (DBehind : HasEr P w K mg base "Behind" ["time"] ["time"] (fun us ws => us ++ ws) (fun vs zs => vs ++ zs)) : FnG P w K mg base CX0 4 f fd ["_law_given_here"] spPart := by
  obtain ⟨fW, fdW, GW, mW, kW, bW⟩ := DW
  obtain ⟨fB, fdB, GB, mB, kB, bB⟩ := DB
  obtain ⟨fTaken, fdTaken, TTaken, XTaken, nTaken, iTaken, tTaken, GTaken, bTaken, kTaken⟩ := DTaken
  obtain ⟨fStanding, fdStanding, TStanding, XStanding, nStanding, iStanding, tStanding, GStanding, bStanding, kStanding⟩ := DStanding
  obtain ⟨fRemoved, fdRemoved, TRemoved, XRemoved, nRemoved, iRemoved, tRemoved, GRemoved, bRemoved, kRemoved⟩ := DRemoved
  obtain ⟨fFolded, fdFolded, TFolded, XFolded, nFolded, iFolded, tFolded, GFolded, bFolded, kFolded⟩ := DFolded
  obtain ⟨fClash, fdClash, TClash, XClash, nClash, iClash, tClash, GClash, bClash, kClash⟩ := DClash
  obtain ⟨fNotOwn, fdNotOwn, TNotOwn, XNotOwn, nNotOwn, iNotOwn, tNotOwn, GNotOwn, bNotOwn, kNotOwn⟩ := DNotOwn
  obtain ⟨fNotHeard, fdNotHeard, TNotHeard, XNotHeard, nNotHeard, iNotHeard, tNotHeard, GNotHeard, bNotHeard, kNotHeard⟩ := DNotHeard
  obtain ⟨fBehind, fdBehind, TBehind, XBehind, nBehind, iBehind, tBehind, GBehind, bBehind, kBehind⟩ := DBehind
  refine fnG_of F scPart3 (fun vs H Q E h => ?_) (fun cdv A outer s H vs Q E gs hr h => ?_)
  · obtain ⟨g, rfl, _⟩ := h
    rfl
  · obtain ⟨g, rfl, hg, out⟩ := h
    have hu := hr.units
    have hu1 := hu_of hr
    have r1 : Room 1 _ := hr.mono (by decide)
    have r2 : Room 2 _ := hr.mono (by decide)
    have r3 : Room 3 _ := hr
    refine ⟨_, (pss_cons (ps_set (i := 1) scPart3.nd rfl (Or.inl rfl) (pe_dget hu1 (pv 0) pe_str (fun _ _ => rfl)))
      (pss_cons (ps_set (i := 2) scPart3.nd rfl (Or.inl rfl) (pe_dget hu1 (pv 0) pe_str (fun _ _ => rfl)))
      (pss_cons (ps_set (i := 3) scPart3.nd rfl (Or.inl rfl) (pe_dget hu1 (pv 0) pe_str (fun _ _ => rfl)))
      (pss_cons (ps_set (i := 4) scPart3.nd rfl (Or.inl rfl) (pe_lst pa_nil))
      (pss_cons (ps_set (i := 5) scPart3.nd rfl (Or.inl rfl) (pe_mkEr TTaken iTaken tTaken GTaken r3 bTaken pass0 (by rfl) (EK.mgc _ (List.mem_of_getElem? (i := 19) rfl)) (pa_cons (pv 3) pa_nil)))
      (pss_cons (ps_expr (pe_bm PySem.F.plainAttrs_list PySem.F.slot_list_append PySem.F.type_list_append mt_append (pv 4) (pa_cons (pe_and (pe_cmpR (op_eqP hu) (pe_call GW r3 (by rfl) mW kW bW .nil pass0 (pa_cons (pv 5) pa_nil)) (pe_lst (pa_cons pe_str pa_nil)) (nomark _)) (pe_one (pe_cmpR (op_eqG (rcG_list mon_dm eqG_dm) r1) (pe_lst (pa_cons (pe_fe (pv 5)) pa_nil)) (pe_lst (pa_cons (pv 3) pa_nil)) (nomark _)))) pa_nil)))
      (pss_cons (ps_set (i := 5) scPart3.nd rfl (Or.inl rfl) (pe_mkEk (ks := ["stamp"]) TTaken iTaken tTaken GTaken r3 kTaken pass0 (by rfl) (EK.mgc _ (List.mem_of_getElem? (i := 19) rfl)) (pk_cons (pv 3) pk_nil)))
      (pss_cons (ps_expr (pe_bm PySem.F.plainAttrs_list PySem.F.slot_list_append PySem.F.type_list_append mt_append (pv 4) (pa_cons (pe_and (pe_cmpR op_eq (pe_call GB r2 (by rfl) mB kB bB .nil pass0 (pa_cons (pv 5) pa_nil)) pe_int (nomark _)) (pe_one (pe_cmpR (op_eqG (rcG_list mon_dm eqG_dm) r1) (pe_lst (pa_cons (pe_fe (pv 5)) pa_nil)) (pe_lst (pa_cons (pv 3) pa_nil)) (nomark _)))) pa_nil)))
      (pss_cons (ps_set (i := 5) scPart3.nd rfl (Or.inl rfl) (pe_mkEr TStanding iStanding tStanding GStanding r3 bStanding pass0 (by rfl) (EK.mgc _ (List.mem_of_getElem? (i := 20) rfl)) (pa_cons (pv 3) pa_nil)))
      (pss_cons (ps_expr (pe_bm PySem.F.plainAttrs_list PySem.F.slot_list_append PySem.F.type_list_append mt_append (pv 4) (pa_cons (pe_and (pe_cmpR (op_eqP hu) (pe_call GW r3 (by rfl) mW kW bW .nil pass0 (pa_cons (pv 5) pa_nil)) (pe_lst (pa_cons pe_str pa_nil)) (nomark _)) (pe_one (pe_cmpR (op_eqG (rcG_list mon_dm eqG_dm) r1) (pe_lst (pa_cons (pe_fe (pv 5)) pa_nil)) (pe_lst (pa_cons (pv 3) pa_nil)) (nomark _)))) pa_nil)))
      (pss_cons (ps_set (i := 5) scPart3.nd rfl (Or.inl rfl) (pe_mkEk (ks := ["stamp"]) TStanding iStanding tStanding GStanding r3 kStanding pass0 (by rfl) (EK.mgc _ (List.mem_of_getElem? (i := 20) rfl)) (pk_cons (pv 3) pk_nil)))
      (pss_cons (ps_expr (pe_bm PySem.F.plainAttrs_list PySem.F.slot_list_append PySem.F.type_list_append mt_append (pv 4) (pa_cons (pe_and (pe_cmpR op_eq (pe_call GB r2 (by rfl) mB kB bB .nil pass0 (pa_cons (pv 5) pa_nil)) pe_int (nomark _)) (pe_one (pe_cmpR (op_eqG (rcG_list mon_dm eqG_dm) r1) (pe_lst (pa_cons (pe_fe (pv 5)) pa_nil)) (pe_lst (pa_cons (pv 3) pa_nil)) (nomark _)))) pa_nil)))
      (pss_cons (ps_set (i := 5) scPart3.nd rfl (Or.inl rfl) (pe_mkEr TRemoved iRemoved tRemoved GRemoved r3 bRemoved pass0 (by rfl) (EK.mgc _ (List.mem_of_getElem? (i := 21) rfl)) (pa_cons (pv 3) pa_nil)))
      (pss_cons (ps_expr (pe_bm PySem.F.plainAttrs_list PySem.F.slot_list_append PySem.F.type_list_append mt_append (pv 4) (pa_cons (pe_and (pe_cmpR (op_eqP hu) (pe_call GW r3 (by rfl) mW kW bW .nil pass0 (pa_cons (pv 5) pa_nil)) (pe_lst (pa_cons pe_str pa_nil)) (nomark _)) (pe_one (pe_cmpR (op_eqG (rcG_list mon_dm eqG_dm) r1) (pe_lst (pa_cons (pe_fe (pv 5)) pa_nil)) (pe_lst (pa_cons (pv 3) pa_nil)) (nomark _)))) pa_nil)))
      (pss_cons (ps_set (i := 5) scPart3.nd rfl (Or.inl rfl) (pe_mkEk (ks := ["stamp"]) TRemoved iRemoved tRemoved GRemoved r3 kRemoved pass0 (by rfl) (EK.mgc _ (List.mem_of_getElem? (i := 21) rfl)) (pk_cons (pv 3) pk_nil)))
      (pss_cons (ps_expr (pe_bm PySem.F.plainAttrs_list PySem.F.slot_list_append PySem.F.type_list_append mt_append (pv 4) (pa_cons (pe_and (pe_cmpR op_eq (pe_call GB r2 (by rfl) mB kB bB .nil pass0 (pa_cons (pv 5) pa_nil)) pe_int (nomark _)) (pe_one (pe_cmpR (op_eqG (rcG_list mon_dm eqG_dm) r1) (pe_lst (pa_cons (pe_fe (pv 5)) pa_nil)) (pe_lst (pa_cons (pv 3) pa_nil)) (nomark _)))) pa_nil)))
      (pss_cons (ps_set (i := 5) scPart3.nd rfl (Or.inl rfl) (pe_mkEr TFolded iFolded tFolded GFolded r3 bFolded pass0 (by rfl) (EK.mgc _ (List.mem_of_getElem? (i := 22) rfl)) (pa_cons (pv 3) pa_nil)))
      (pss_cons (ps_expr (pe_bm PySem.F.plainAttrs_list PySem.F.slot_list_append PySem.F.type_list_append mt_append (pv 4) (pa_cons (pe_and (pe_cmpR (op_eqP hu) (pe_call GW r3 (by rfl) mW kW bW .nil pass0 (pa_cons (pv 5) pa_nil)) (pe_lst (pa_cons pe_str pa_nil)) (nomark _)) (pe_one (pe_cmpR (op_eqG (rcG_list mon_dm eqG_dm) r1) (pe_lst (pa_cons (pe_fe (pv 5)) pa_nil)) (pe_lst (pa_cons (pv 3) pa_nil)) (nomark _)))) pa_nil)))
      (pss_cons (ps_set (i := 5) scPart3.nd rfl (Or.inl rfl) (pe_mkEk (ks := ["stamp"]) TFolded iFolded tFolded GFolded r3 kFolded pass0 (by rfl) (EK.mgc _ (List.mem_of_getElem? (i := 22) rfl)) (pk_cons (pv 3) pk_nil)))
      (pss_cons (ps_expr (pe_bm PySem.F.plainAttrs_list PySem.F.slot_list_append PySem.F.type_list_append mt_append (pv 4) (pa_cons (pe_and (pe_cmpR op_eq (pe_call GB r2 (by rfl) mB kB bB .nil pass0 (pa_cons (pv 5) pa_nil)) pe_int (nomark _)) (pe_one (pe_cmpR (op_eqG (rcG_list mon_dm eqG_dm) r1) (pe_lst (pa_cons (pe_fe (pv 5)) pa_nil)) (pe_lst (pa_cons (pv 3) pa_nil)) (nomark _)))) pa_nil)))
      (pss_cons (ps_set (i := 5) scPart3.nd rfl (Or.inl rfl) (pe_mkEr TClash iClash tClash GClash r3 bClash pass0 (by rfl) (EK.mgc _ (List.mem_of_getElem? (i := 23) rfl)) (pa_cons (pv 3) pa_nil)))
      (pss_cons (ps_expr (pe_bm PySem.F.plainAttrs_list PySem.F.slot_list_append PySem.F.type_list_append mt_append (pv 4) (pa_cons (pe_and (pe_cmpR (op_eqP hu) (pe_call GW r3 (by rfl) mW kW bW .nil pass0 (pa_cons (pv 5) pa_nil)) (pe_lst (pa_cons pe_str pa_nil)) (nomark _)) (pe_one (pe_cmpR (op_eqG (rcG_list mon_dm eqG_dm) r1) (pe_lst (pa_cons (pe_fe (pv 5)) pa_nil)) (pe_lst (pa_cons (pv 3) pa_nil)) (nomark _)))) pa_nil)))
      (pss_cons (ps_set (i := 5) scPart3.nd rfl (Or.inl rfl) (pe_mkEk (ks := ["stamp"]) TClash iClash tClash GClash r3 kClash pass0 (by rfl) (EK.mgc _ (List.mem_of_getElem? (i := 23) rfl)) (pk_cons (pv 3) pk_nil)))
      (pss_cons (ps_expr (pe_bm PySem.F.plainAttrs_list PySem.F.slot_list_append PySem.F.type_list_append mt_append (pv 4) (pa_cons (pe_and (pe_cmpR op_eq (pe_call GB r2 (by rfl) mB kB bB .nil pass0 (pa_cons (pv 5) pa_nil)) pe_int (nomark _)) (pe_one (pe_cmpR (op_eqG (rcG_list mon_dm eqG_dm) r1) (pe_lst (pa_cons (pe_fe (pv 5)) pa_nil)) (pe_lst (pa_cons (pv 3) pa_nil)) (nomark _)))) pa_nil)))
      (pss_cons (ps_set (i := 5) scPart3.nd rfl (Or.inl rfl) (pe_mkEr TNotOwn iNotOwn tNotOwn GNotOwn r3 bNotOwn pass0 (by rfl) (EK.mgc _ (List.mem_of_getElem? (i := 24) rfl)) (pa_cons (pv 3) pa_nil)))
      (pss_cons (ps_expr (pe_bm PySem.F.plainAttrs_list PySem.F.slot_list_append PySem.F.type_list_append mt_append (pv 4) (pa_cons (pe_and (pe_cmpR (op_eqP hu) (pe_call GW r3 (by rfl) mW kW bW .nil pass0 (pa_cons (pv 5) pa_nil)) (pe_lst (pa_cons pe_str pa_nil)) (nomark _)) (pe_one (pe_cmpR (op_eqG (rcG_list mon_dm eqG_dm) r1) (pe_lst (pa_cons (pe_fe (pv 5)) pa_nil)) (pe_lst (pa_cons (pv 3) pa_nil)) (nomark _)))) pa_nil)))
      (pss_cons (ps_set (i := 5) scPart3.nd rfl (Or.inl rfl) (pe_mkEk (ks := ["stamp"]) TNotOwn iNotOwn tNotOwn GNotOwn r3 kNotOwn pass0 (by rfl) (EK.mgc _ (List.mem_of_getElem? (i := 24) rfl)) (pk_cons (pv 3) pk_nil)))
      (pss_cons (ps_expr (pe_bm PySem.F.plainAttrs_list PySem.F.slot_list_append PySem.F.type_list_append mt_append (pv 4) (pa_cons (pe_and (pe_cmpR op_eq (pe_call GB r2 (by rfl) mB kB bB .nil pass0 (pa_cons (pv 5) pa_nil)) pe_int (nomark _)) (pe_one (pe_cmpR (op_eqG (rcG_list mon_dm eqG_dm) r1) (pe_lst (pa_cons (pe_fe (pv 5)) pa_nil)) (pe_lst (pa_cons (pv 3) pa_nil)) (nomark _)))) pa_nil)))
      (pss_cons (ps_set (i := 5) scPart3.nd rfl (Or.inl rfl) (pe_mkEr TNotHeard iNotHeard tNotHeard GNotHeard r3 bNotHeard pass0 (by rfl) (EK.mgc _ (List.mem_of_getElem? (i := 25) rfl)) (pa_cons (pv 1) pa_nil)))
      (pss_cons (ps_expr (pe_bm PySem.F.plainAttrs_list PySem.F.slot_list_append PySem.F.type_list_append mt_append (pv 4) (pa_cons (pe_and (pe_cmpR (op_eqP hu) (pe_call GW r3 (by rfl) mW kW bW .nil pass0 (pa_cons (pv 5) pa_nil)) (pe_lst (pa_cons pe_str pa_nil)) (nomark _)) (pe_one (pe_cmpR (op_eqG (rcG_list mon_dm eqG_dm) r1) (pe_lst (pa_cons (pe_fe (pv 5)) pa_nil)) (pe_lst (pa_cons (pv 1) pa_nil)) (nomark _)))) pa_nil)))
      (pss_cons (ps_set (i := 5) scPart3.nd rfl (Or.inl rfl) (pe_mkEk (ks := ["hand"]) TNotHeard iNotHeard tNotHeard GNotHeard r3 kNotHeard pass0 (by rfl) (EK.mgc _ (List.mem_of_getElem? (i := 25) rfl)) (pk_cons (pv 1) pk_nil)))
      (pss_cons (ps_expr (pe_bm PySem.F.plainAttrs_list PySem.F.slot_list_append PySem.F.type_list_append mt_append (pv 4) (pa_cons (pe_and (pe_cmpR op_eq (pe_call GB r2 (by rfl) mB kB bB .nil pass0 (pa_cons (pv 5) pa_nil)) pe_int (nomark _)) (pe_one (pe_cmpR (op_eqG (rcG_list mon_dm eqG_dm) r1) (pe_lst (pa_cons (pe_fe (pv 5)) pa_nil)) (pe_lst (pa_cons (pv 1) pa_nil)) (nomark _)))) pa_nil)))
      (pss_cons (ps_set (i := 5) scPart3.nd rfl (Or.inl rfl) (pe_mkEr TBehind iBehind tBehind GBehind r3 bBehind pass0 (by rfl) (EK.mgc _ (List.mem_of_getElem? (i := 26) rfl)) (pa_cons (pv 2) pa_nil)))
      (pss_cons (ps_expr (pe_bm PySem.F.plainAttrs_list PySem.F.slot_list_append PySem.F.type_list_append mt_append (pv 4) (pa_cons (pe_and (pe_cmpR (op_eqP hu) (pe_call GW r3 (by rfl) mW kW bW .nil pass0 (pa_cons (pv 5) pa_nil)) (pe_lst (pa_cons pe_str pa_nil)) (nomark _)) (pe_one (pe_cmpR (op_eqG (rcG_list mon_dm eqG_dm) r1) (pe_lst (pa_cons (pe_fe (pv 5)) pa_nil)) (pe_lst (pa_cons (pv 2) pa_nil)) (nomark _)))) pa_nil)))
      (pss_cons (ps_set (i := 5) scPart3.nd rfl (Or.inl rfl) (pe_mkEk (ks := ["time"]) TBehind iBehind tBehind GBehind r3 kBehind pass0 (by rfl) (EK.mgc _ (List.mem_of_getElem? (i := 26) rfl)) (pk_cons (pv 2) pk_nil)))
      (pss_cons (ps_expr (pe_bm PySem.F.plainAttrs_list PySem.F.slot_list_append PySem.F.type_list_append mt_append (pv 4) (pa_cons (pe_and (pe_cmpR op_eq (pe_call GB r2 (by rfl) mB kB bB .nil pass0 (pa_cons (pv 5) pa_nil)) pe_int (nomark _)) (pe_one (pe_cmpR (op_eqG (rcG_list mon_dm eqG_dm) r1) (pe_lst (pa_cons (pe_fe (pv 5)) pa_nil)) (pe_lst (pa_cons (pv 2) pa_nil)) (nomark _)))) pa_nil)))
      (pss_one (ps_ret (pe_callB (cr_all rfl) (by rfl) B.all (by decide +kernel) (pa_cons (pv 4) pa_nil)))))))))))))))))))))))))))))))))))))))), ?_⟩
    obtain ⟨v1, d1, p1⟩ := hg.get (k := "word") (by decide)
    refine ⟨_, rfl, g, v1, rfl, d1, ?_⟩
    obtain ⟨v2, d2, p2⟩ := hg.get (k := "whole") (by decide)
    refine ⟨_, rfl, g, v2, rfl, d2, ?_⟩
    obtain ⟨v3, d3, p3⟩ := hg.get (k := "mark") (by decide)
    refine ⟨_, rfl, g, v3, rfl, d3, ?_⟩
    refine ⟨(by show 0 ≤ sizeLine; decide), fun l hl => ?_⟩
    have s0 : Same H (upd H l (.lst [])) := same_new hl
    have t0 : Lt (upd H l (.lst [])) l 0 := upd_same
    generalize (upd H l (.lst [])) = H0 at s0 t0 ⊢
    dsimp only [gName]
    -- Taken
    refine seq_pair (fun σ' H' => ∃ a : Addr, σ' = [some (.ref g), some v1, some v2, some v3, some (.ref l), some (.ref a)] ∧ Same H H' ∧ Lt H' l 1) (fun U hU => ?_) ?_
    · skip
      refine ⟨_, rfl, ?_⟩
      refine ⟨(by show 1 ≤ 1000; decide), made_er (fs := ["stamp"]) (ws := [v3]) rfl fun a Ha ha sa ea => ?_⟩
      have sa0 := s0.trans sa
      have ta := t0.same sa
      refine ⟨_, rfl, .inl ⟨rfl, _, SqL.of ta⟩, ?_⟩
      refine ⟨_, rfl, a, "Taken", 2, _, rfl, (List.mem_of_getElem? (i := 19) rfl), ea, fun q Hb hq sb eq => ?_⟩
      refine ⟨(by show 1 ≤ sizeLine; decide), fun q2 hq2 => ?_⟩
      have sc := same_new (o := .lst [.str "Taken"]) hq2
      have ec : (upd Hb q2 (.lst [.str "Taken"])) q2 = some (.lst [.str "Taken"]) := upd_same
      generalize (upd Hb q2 (.lst [.str "Taken"])) = Hc at sc ec ⊢
      refine ⟨.list [.str "Taken"], .list [.str "Taken"], .lst (SqL.of (sc _ _ eq)) (.cons (.str _) .nil), .lst (SqL.of ec) (.cons (.str _) .nil), rfl, rfl, by decide, _, rfl, iteP (by decide +kernel) ?_⟩
      have sac := sb.trans sc
      refine ⟨_, rfl, a, _, _, _, rfl, ea.same sac, XTaken, nTaken _ (by simp), rfl, ?_⟩
      refine ⟨(by show 1 ≤ sizeLine; decide), fun q3 hq3 => ?_⟩
      have sd := same_new (o := .lst [v3]) hq3
      have ed : (upd Hc q3 (.lst [v3])) q3 = some (.lst [v3]) := upd_same
      refine ⟨_, rfl, ?_⟩
      refine ⟨(by show 1 ≤ sizeLine; decide), fun q4 hq4 => ?_⟩
      have se := same_new (o := .lst [v3]) hq4
      have ee : (upd (upd Hc q3 (.lst [v3])) q4 (.lst [v3])) q4 = some (.lst [v3]) := upd_same
      refine ⟨⟨q3, q4, [v3], [v3], rfl, rfl, se _ _ ed, ee, .cons (dm_of p3) (.nil)⟩, fun He ext => ?_⟩
      have sae := ((sac.trans sd).trans se).trans ext
      refine app_t (ta.same sae) (by decide) hl (sa0.trans sae) rfl fun H9 s9 t9 => hU _ _ ⟨a, rfl, s9, t9⟩
    rintro _ H1 ⟨_, rfl, s1, t1⟩
    -- Taken
    refine seq_pair (fun σ' H' => ∃ a : Addr, σ' = [some (.ref g), some v1, some v2, some v3, some (.ref l), some (.ref a)] ∧ Same H H' ∧ Lt H' l 2) (fun U hU => ?_) ?_
    · skip
      refine ⟨_, rfl, ?_⟩
      refine ⟨rfl, made_er (fs := ["stamp"]) (ws := [v3]) rfl fun a Ha ha sa ea => ?_⟩
      have sa0 := s1.trans sa
      have ta := t1.same sa
      refine ⟨_, rfl, .inl ⟨rfl, _, SqL.of ta⟩, ?_⟩
      refine ⟨_, rfl, a, "Taken", 2, _, rfl, (List.mem_of_getElem? (i := 19) rfl), ea, fun Hc sac => ?_⟩
      refine ⟨rfl, _, rfl, iteP (by decide +kernel) ?_⟩
      refine ⟨_, rfl, a, _, _, _, rfl, ea.same sac, XTaken, nTaken _ (by simp), rfl, ?_⟩
      refine ⟨(by show 1 ≤ sizeLine; decide), fun q3 hq3 => ?_⟩
      have sd := same_new (o := .lst [v3]) hq3
      have ed : (upd Hc q3 (.lst [v3])) q3 = some (.lst [v3]) := upd_same
      refine ⟨_, rfl, ?_⟩
      refine ⟨(by show 1 ≤ sizeLine; decide), fun q4 hq4 => ?_⟩
      have se := same_new (o := .lst [v3]) hq4
      have ee : (upd (upd Hc q3 (.lst [v3])) q4 (.lst [v3])) q4 = some (.lst [v3]) := upd_same
      refine ⟨⟨q3, q4, [v3], [v3], rfl, rfl, se _ _ ed, ee, .cons (dm_of p3) (.nil)⟩, fun He ext => ?_⟩
      have sae := ((sac.trans sd).trans se).trans ext
      refine app_t (ta.same sae) (by decide) hl (sa0.trans sae) rfl fun H9 s9 t9 => hU _ _ ⟨a, rfl, s9, t9⟩
    rintro _ H2 ⟨_, rfl, s2, t2⟩
    -- Standing
    refine seq_pair (fun σ' H' => ∃ a : Addr, σ' = [some (.ref g), some v1, some v2, some v3, some (.ref l), some (.ref a)] ∧ Same H H' ∧ Lt H' l 3) (fun U hU => ?_) ?_
    · skip
      refine ⟨_, rfl, ?_⟩
      refine ⟨(by show 1 ≤ 1000; decide), made_er (fs := ["stamp"]) (ws := [v3]) rfl fun a Ha ha sa ea => ?_⟩
      have sa0 := s2.trans sa
      have ta := t2.same sa
      refine ⟨_, rfl, .inl ⟨rfl, _, SqL.of ta⟩, ?_⟩
      refine ⟨_, rfl, a, "Standing", 2, _, rfl, (List.mem_of_getElem? (i := 20) rfl), ea, fun q Hb hq sb eq => ?_⟩
      refine ⟨(by show 1 ≤ sizeLine; decide), fun q2 hq2 => ?_⟩
      have sc := same_new (o := .lst [.str "Standing"]) hq2
      have ec : (upd Hb q2 (.lst [.str "Standing"])) q2 = some (.lst [.str "Standing"]) := upd_same
      generalize (upd Hb q2 (.lst [.str "Standing"])) = Hc at sc ec ⊢
      refine ⟨.list [.str "Standing"], .list [.str "Standing"], .lst (SqL.of (sc _ _ eq)) (.cons (.str _) .nil), .lst (SqL.of ec) (.cons (.str _) .nil), rfl, rfl, by decide, _, rfl, iteP (by decide +kernel) ?_⟩
      have sac := sb.trans sc
      refine ⟨_, rfl, a, _, _, _, rfl, ea.same sac, XStanding, nStanding _ (by simp), rfl, ?_⟩
      refine ⟨(by show 1 ≤ sizeLine; decide), fun q3 hq3 => ?_⟩
      have sd := same_new (o := .lst [v3]) hq3
      have ed : (upd Hc q3 (.lst [v3])) q3 = some (.lst [v3]) := upd_same
      refine ⟨_, rfl, ?_⟩
      refine ⟨(by show 1 ≤ sizeLine; decide), fun q4 hq4 => ?_⟩
      have se := same_new (o := .lst [v3]) hq4
      have ee : (upd (upd Hc q3 (.lst [v3])) q4 (.lst [v3])) q4 = some (.lst [v3]) := upd_same
      refine ⟨⟨q3, q4, [v3], [v3], rfl, rfl, se _ _ ed, ee, .cons (dm_of p3) (.nil)⟩, fun He ext => ?_⟩
      have sae := ((sac.trans sd).trans se).trans ext
      refine app_t (ta.same sae) (by decide) hl (sa0.trans sae) rfl fun H9 s9 t9 => hU _ _ ⟨a, rfl, s9, t9⟩
    rintro _ H3 ⟨_, rfl, s3, t3⟩
    -- Standing
    refine seq_pair (fun σ' H' => ∃ a : Addr, σ' = [some (.ref g), some v1, some v2, some v3, some (.ref l), some (.ref a)] ∧ Same H H' ∧ Lt H' l 4) (fun U hU => ?_) ?_
    · skip
      refine ⟨_, rfl, ?_⟩
      refine ⟨rfl, made_er (fs := ["stamp"]) (ws := [v3]) rfl fun a Ha ha sa ea => ?_⟩
      have sa0 := s3.trans sa
      have ta := t3.same sa
      refine ⟨_, rfl, .inl ⟨rfl, _, SqL.of ta⟩, ?_⟩
      refine ⟨_, rfl, a, "Standing", 2, _, rfl, (List.mem_of_getElem? (i := 20) rfl), ea, fun Hc sac => ?_⟩
      refine ⟨rfl, _, rfl, iteP (by decide +kernel) ?_⟩
      refine ⟨_, rfl, a, _, _, _, rfl, ea.same sac, XStanding, nStanding _ (by simp), rfl, ?_⟩
      refine ⟨(by show 1 ≤ sizeLine; decide), fun q3 hq3 => ?_⟩
      have sd := same_new (o := .lst [v3]) hq3
      have ed : (upd Hc q3 (.lst [v3])) q3 = some (.lst [v3]) := upd_same
      refine ⟨_, rfl, ?_⟩
      refine ⟨(by show 1 ≤ sizeLine; decide), fun q4 hq4 => ?_⟩
      have se := same_new (o := .lst [v3]) hq4
      have ee : (upd (upd Hc q3 (.lst [v3])) q4 (.lst [v3])) q4 = some (.lst [v3]) := upd_same
      refine ⟨⟨q3, q4, [v3], [v3], rfl, rfl, se _ _ ed, ee, .cons (dm_of p3) (.nil)⟩, fun He ext => ?_⟩
      have sae := ((sac.trans sd).trans se).trans ext
      refine app_t (ta.same sae) (by decide) hl (sa0.trans sae) rfl fun H9 s9 t9 => hU _ _ ⟨a, rfl, s9, t9⟩
    rintro _ H4 ⟨_, rfl, s4, t4⟩
    -- Removed
    refine seq_pair (fun σ' H' => ∃ a : Addr, σ' = [some (.ref g), some v1, some v2, some v3, some (.ref l), some (.ref a)] ∧ Same H H' ∧ Lt H' l 5) (fun U hU => ?_) ?_
    · skip
      refine ⟨_, rfl, ?_⟩
      refine ⟨(by show 1 ≤ 1000; decide), made_er (fs := ["stamp"]) (ws := [v3]) rfl fun a Ha ha sa ea => ?_⟩
      have sa0 := s4.trans sa
      have ta := t4.same sa
      refine ⟨_, rfl, .inl ⟨rfl, _, SqL.of ta⟩, ?_⟩
      refine ⟨_, rfl, a, "Removed", 2, _, rfl, (List.mem_of_getElem? (i := 21) rfl), ea, fun q Hb hq sb eq => ?_⟩
      refine ⟨(by show 1 ≤ sizeLine; decide), fun q2 hq2 => ?_⟩
      have sc := same_new (o := .lst [.str "Removed"]) hq2
      have ec : (upd Hb q2 (.lst [.str "Removed"])) q2 = some (.lst [.str "Removed"]) := upd_same
      generalize (upd Hb q2 (.lst [.str "Removed"])) = Hc at sc ec ⊢
      refine ⟨.list [.str "Removed"], .list [.str "Removed"], .lst (SqL.of (sc _ _ eq)) (.cons (.str _) .nil), .lst (SqL.of ec) (.cons (.str _) .nil), rfl, rfl, by decide, _, rfl, iteP (by decide +kernel) ?_⟩
      have sac := sb.trans sc
      refine ⟨_, rfl, a, _, _, _, rfl, ea.same sac, XRemoved, nRemoved _ (by simp), rfl, ?_⟩
      refine ⟨(by show 1 ≤ sizeLine; decide), fun q3 hq3 => ?_⟩
      have sd := same_new (o := .lst [v3]) hq3
      have ed : (upd Hc q3 (.lst [v3])) q3 = some (.lst [v3]) := upd_same
      refine ⟨_, rfl, ?_⟩
      refine ⟨(by show 1 ≤ sizeLine; decide), fun q4 hq4 => ?_⟩
      have se := same_new (o := .lst [v3]) hq4
      have ee : (upd (upd Hc q3 (.lst [v3])) q4 (.lst [v3])) q4 = some (.lst [v3]) := upd_same
      refine ⟨⟨q3, q4, [v3], [v3], rfl, rfl, se _ _ ed, ee, .cons (dm_of p3) (.nil)⟩, fun He ext => ?_⟩
      have sae := ((sac.trans sd).trans se).trans ext
      refine app_t (ta.same sae) (by decide) hl (sa0.trans sae) rfl fun H9 s9 t9 => hU _ _ ⟨a, rfl, s9, t9⟩
    rintro _ H5 ⟨_, rfl, s5, t5⟩
    -- Removed
    refine seq_pair (fun σ' H' => ∃ a : Addr, σ' = [some (.ref g), some v1, some v2, some v3, some (.ref l), some (.ref a)] ∧ Same H H' ∧ Lt H' l 6) (fun U hU => ?_) ?_
    · skip
      refine ⟨_, rfl, ?_⟩
      refine ⟨rfl, made_er (fs := ["stamp"]) (ws := [v3]) rfl fun a Ha ha sa ea => ?_⟩
      have sa0 := s5.trans sa
      have ta := t5.same sa
      refine ⟨_, rfl, .inl ⟨rfl, _, SqL.of ta⟩, ?_⟩
      refine ⟨_, rfl, a, "Removed", 2, _, rfl, (List.mem_of_getElem? (i := 21) rfl), ea, fun Hc sac => ?_⟩
      refine ⟨rfl, _, rfl, iteP (by decide +kernel) ?_⟩
      refine ⟨_, rfl, a, _, _, _, rfl, ea.same sac, XRemoved, nRemoved _ (by simp), rfl, ?_⟩
      refine ⟨(by show 1 ≤ sizeLine; decide), fun q3 hq3 => ?_⟩
      have sd := same_new (o := .lst [v3]) hq3
      have ed : (upd Hc q3 (.lst [v3])) q3 = some (.lst [v3]) := upd_same
      refine ⟨_, rfl, ?_⟩
      refine ⟨(by show 1 ≤ sizeLine; decide), fun q4 hq4 => ?_⟩
      have se := same_new (o := .lst [v3]) hq4
      have ee : (upd (upd Hc q3 (.lst [v3])) q4 (.lst [v3])) q4 = some (.lst [v3]) := upd_same
      refine ⟨⟨q3, q4, [v3], [v3], rfl, rfl, se _ _ ed, ee, .cons (dm_of p3) (.nil)⟩, fun He ext => ?_⟩
      have sae := ((sac.trans sd).trans se).trans ext
      refine app_t (ta.same sae) (by decide) hl (sa0.trans sae) rfl fun H9 s9 t9 => hU _ _ ⟨a, rfl, s9, t9⟩
    rintro _ H6 ⟨_, rfl, s6, t6⟩
    -- Folded
    refine seq_pair (fun σ' H' => ∃ a : Addr, σ' = [some (.ref g), some v1, some v2, some v3, some (.ref l), some (.ref a)] ∧ Same H H' ∧ Lt H' l 7) (fun U hU => ?_) ?_
    · skip
      refine ⟨_, rfl, ?_⟩
      refine ⟨(by show 1 ≤ 1000; decide), made_er (fs := ["stamp"]) (ws := [v3]) rfl fun a Ha ha sa ea => ?_⟩
      have sa0 := s6.trans sa
      have ta := t6.same sa
      refine ⟨_, rfl, .inl ⟨rfl, _, SqL.of ta⟩, ?_⟩
      refine ⟨_, rfl, a, "Folded", 2, _, rfl, (List.mem_of_getElem? (i := 22) rfl), ea, fun q Hb hq sb eq => ?_⟩
      refine ⟨(by show 1 ≤ sizeLine; decide), fun q2 hq2 => ?_⟩
      have sc := same_new (o := .lst [.str "Folded"]) hq2
      have ec : (upd Hb q2 (.lst [.str "Folded"])) q2 = some (.lst [.str "Folded"]) := upd_same
      generalize (upd Hb q2 (.lst [.str "Folded"])) = Hc at sc ec ⊢
      refine ⟨.list [.str "Folded"], .list [.str "Folded"], .lst (SqL.of (sc _ _ eq)) (.cons (.str _) .nil), .lst (SqL.of ec) (.cons (.str _) .nil), rfl, rfl, by decide, _, rfl, iteP (by decide +kernel) ?_⟩
      have sac := sb.trans sc
      refine ⟨_, rfl, a, _, _, _, rfl, ea.same sac, XFolded, nFolded _ (by simp), rfl, ?_⟩
      refine ⟨(by show 1 ≤ sizeLine; decide), fun q3 hq3 => ?_⟩
      have sd := same_new (o := .lst [v3]) hq3
      have ed : (upd Hc q3 (.lst [v3])) q3 = some (.lst [v3]) := upd_same
      refine ⟨_, rfl, ?_⟩
      refine ⟨(by show 1 ≤ sizeLine; decide), fun q4 hq4 => ?_⟩
      have se := same_new (o := .lst [v3]) hq4
      have ee : (upd (upd Hc q3 (.lst [v3])) q4 (.lst [v3])) q4 = some (.lst [v3]) := upd_same
      refine ⟨⟨q3, q4, [v3], [v3], rfl, rfl, se _ _ ed, ee, .cons (dm_of p3) (.nil)⟩, fun He ext => ?_⟩
      have sae := ((sac.trans sd).trans se).trans ext
      refine app_t (ta.same sae) (by decide) hl (sa0.trans sae) rfl fun H9 s9 t9 => hU _ _ ⟨a, rfl, s9, t9⟩
    rintro _ H7 ⟨_, rfl, s7, t7⟩
    -- Folded
    refine seq_pair (fun σ' H' => ∃ a : Addr, σ' = [some (.ref g), some v1, some v2, some v3, some (.ref l), some (.ref a)] ∧ Same H H' ∧ Lt H' l 8) (fun U hU => ?_) ?_
    · skip
      refine ⟨_, rfl, ?_⟩
      refine ⟨rfl, made_er (fs := ["stamp"]) (ws := [v3]) rfl fun a Ha ha sa ea => ?_⟩
      have sa0 := s7.trans sa
      have ta := t7.same sa
      refine ⟨_, rfl, .inl ⟨rfl, _, SqL.of ta⟩, ?_⟩
      refine ⟨_, rfl, a, "Folded", 2, _, rfl, (List.mem_of_getElem? (i := 22) rfl), ea, fun Hc sac => ?_⟩
      refine ⟨rfl, _, rfl, iteP (by decide +kernel) ?_⟩
      refine ⟨_, rfl, a, _, _, _, rfl, ea.same sac, XFolded, nFolded _ (by simp), rfl, ?_⟩
      refine ⟨(by show 1 ≤ sizeLine; decide), fun q3 hq3 => ?_⟩
      have sd := same_new (o := .lst [v3]) hq3
      have ed : (upd Hc q3 (.lst [v3])) q3 = some (.lst [v3]) := upd_same
      refine ⟨_, rfl, ?_⟩
      refine ⟨(by show 1 ≤ sizeLine; decide), fun q4 hq4 => ?_⟩
      have se := same_new (o := .lst [v3]) hq4
      have ee : (upd (upd Hc q3 (.lst [v3])) q4 (.lst [v3])) q4 = some (.lst [v3]) := upd_same
      refine ⟨⟨q3, q4, [v3], [v3], rfl, rfl, se _ _ ed, ee, .cons (dm_of p3) (.nil)⟩, fun He ext => ?_⟩
      have sae := ((sac.trans sd).trans se).trans ext
      refine app_t (ta.same sae) (by decide) hl (sa0.trans sae) rfl fun H9 s9 t9 => hU _ _ ⟨a, rfl, s9, t9⟩
    rintro _ H8 ⟨_, rfl, s8, t8⟩
    -- Clash
    refine seq_pair (fun σ' H' => ∃ a : Addr, σ' = [some (.ref g), some v1, some v2, some v3, some (.ref l), some (.ref a)] ∧ Same H H' ∧ Lt H' l 9) (fun U hU => ?_) ?_
    · skip
      refine ⟨_, rfl, ?_⟩
      refine ⟨(by show 1 ≤ 1000; decide), made_er (fs := ["stamp"]) (ws := [v3]) rfl fun a Ha ha sa ea => ?_⟩
      have sa0 := s8.trans sa
      have ta := t8.same sa
      refine ⟨_, rfl, .inl ⟨rfl, _, SqL.of ta⟩, ?_⟩
      refine ⟨_, rfl, a, "Clash", 2, _, rfl, (List.mem_of_getElem? (i := 23) rfl), ea, fun q Hb hq sb eq => ?_⟩
      refine ⟨(by show 1 ≤ sizeLine; decide), fun q2 hq2 => ?_⟩
      have sc := same_new (o := .lst [.str "Clash"]) hq2
      have ec : (upd Hb q2 (.lst [.str "Clash"])) q2 = some (.lst [.str "Clash"]) := upd_same
      generalize (upd Hb q2 (.lst [.str "Clash"])) = Hc at sc ec ⊢
      refine ⟨.list [.str "Clash"], .list [.str "Clash"], .lst (SqL.of (sc _ _ eq)) (.cons (.str _) .nil), .lst (SqL.of ec) (.cons (.str _) .nil), rfl, rfl, by decide, _, rfl, iteP (by decide +kernel) ?_⟩
      have sac := sb.trans sc
      refine ⟨_, rfl, a, _, _, _, rfl, ea.same sac, XClash, nClash _ (by simp), rfl, ?_⟩
      refine ⟨(by show 1 ≤ sizeLine; decide), fun q3 hq3 => ?_⟩
      have sd := same_new (o := .lst [v3]) hq3
      have ed : (upd Hc q3 (.lst [v3])) q3 = some (.lst [v3]) := upd_same
      refine ⟨_, rfl, ?_⟩
      refine ⟨(by show 1 ≤ sizeLine; decide), fun q4 hq4 => ?_⟩
      have se := same_new (o := .lst [v3]) hq4
      have ee : (upd (upd Hc q3 (.lst [v3])) q4 (.lst [v3])) q4 = some (.lst [v3]) := upd_same
      refine ⟨⟨q3, q4, [v3], [v3], rfl, rfl, se _ _ ed, ee, .cons (dm_of p3) (.nil)⟩, fun He ext => ?_⟩
      have sae := ((sac.trans sd).trans se).trans ext
      refine app_t (ta.same sae) (by decide) hl (sa0.trans sae) rfl fun H9 s9 t9 => hU _ _ ⟨a, rfl, s9, t9⟩
    rintro _ H9 ⟨_, rfl, s9, t9⟩
    -- Clash
    refine seq_pair (fun σ' H' => ∃ a : Addr, σ' = [some (.ref g), some v1, some v2, some v3, some (.ref l), some (.ref a)] ∧ Same H H' ∧ Lt H' l 10) (fun U hU => ?_) ?_
    · skip
      refine ⟨_, rfl, ?_⟩
      refine ⟨rfl, made_er (fs := ["stamp"]) (ws := [v3]) rfl fun a Ha ha sa ea => ?_⟩
      have sa0 := s9.trans sa
      have ta := t9.same sa
      refine ⟨_, rfl, .inl ⟨rfl, _, SqL.of ta⟩, ?_⟩
      refine ⟨_, rfl, a, "Clash", 2, _, rfl, (List.mem_of_getElem? (i := 23) rfl), ea, fun Hc sac => ?_⟩
      refine ⟨rfl, _, rfl, iteP (by decide +kernel) ?_⟩
      refine ⟨_, rfl, a, _, _, _, rfl, ea.same sac, XClash, nClash _ (by simp), rfl, ?_⟩
      refine ⟨(by show 1 ≤ sizeLine; decide), fun q3 hq3 => ?_⟩
      have sd := same_new (o := .lst [v3]) hq3
      have ed : (upd Hc q3 (.lst [v3])) q3 = some (.lst [v3]) := upd_same
      refine ⟨_, rfl, ?_⟩
      refine ⟨(by show 1 ≤ sizeLine; decide), fun q4 hq4 => ?_⟩
      have se := same_new (o := .lst [v3]) hq4
      have ee : (upd (upd Hc q3 (.lst [v3])) q4 (.lst [v3])) q4 = some (.lst [v3]) := upd_same
      refine ⟨⟨q3, q4, [v3], [v3], rfl, rfl, se _ _ ed, ee, .cons (dm_of p3) (.nil)⟩, fun He ext => ?_⟩
      have sae := ((sac.trans sd).trans se).trans ext
      refine app_t (ta.same sae) (by decide) hl (sa0.trans sae) rfl fun H9 s9 t9 => hU _ _ ⟨a, rfl, s9, t9⟩
    rintro _ H10 ⟨_, rfl, s10, t10⟩
    -- NotOwn
    refine seq_pair (fun σ' H' => ∃ a : Addr, σ' = [some (.ref g), some v1, some v2, some v3, some (.ref l), some (.ref a)] ∧ Same H H' ∧ Lt H' l 11) (fun U hU => ?_) ?_
    · skip
      refine ⟨_, rfl, ?_⟩
      refine ⟨(by show 1 ≤ 1000; decide), made_er (fs := ["stamp"]) (ws := [v3]) rfl fun a Ha ha sa ea => ?_⟩
      have sa0 := s10.trans sa
      have ta := t10.same sa
      refine ⟨_, rfl, .inl ⟨rfl, _, SqL.of ta⟩, ?_⟩
      refine ⟨_, rfl, a, "NotOwn", 2, _, rfl, (List.mem_of_getElem? (i := 24) rfl), ea, fun q Hb hq sb eq => ?_⟩
      refine ⟨(by show 1 ≤ sizeLine; decide), fun q2 hq2 => ?_⟩
      have sc := same_new (o := .lst [.str "NotOwn"]) hq2
      have ec : (upd Hb q2 (.lst [.str "NotOwn"])) q2 = some (.lst [.str "NotOwn"]) := upd_same
      generalize (upd Hb q2 (.lst [.str "NotOwn"])) = Hc at sc ec ⊢
      refine ⟨.list [.str "NotOwn"], .list [.str "NotOwn"], .lst (SqL.of (sc _ _ eq)) (.cons (.str _) .nil), .lst (SqL.of ec) (.cons (.str _) .nil), rfl, rfl, by decide, _, rfl, iteP (by decide +kernel) ?_⟩
      have sac := sb.trans sc
      refine ⟨_, rfl, a, _, _, _, rfl, ea.same sac, XNotOwn, nNotOwn _ (by simp), rfl, ?_⟩
      refine ⟨(by show 1 ≤ sizeLine; decide), fun q3 hq3 => ?_⟩
      have sd := same_new (o := .lst [v3]) hq3
      have ed : (upd Hc q3 (.lst [v3])) q3 = some (.lst [v3]) := upd_same
      refine ⟨_, rfl, ?_⟩
      refine ⟨(by show 1 ≤ sizeLine; decide), fun q4 hq4 => ?_⟩
      have se := same_new (o := .lst [v3]) hq4
      have ee : (upd (upd Hc q3 (.lst [v3])) q4 (.lst [v3])) q4 = some (.lst [v3]) := upd_same
      refine ⟨⟨q3, q4, [v3], [v3], rfl, rfl, se _ _ ed, ee, .cons (dm_of p3) (.nil)⟩, fun He ext => ?_⟩
      have sae := ((sac.trans sd).trans se).trans ext
      refine app_t (ta.same sae) (by decide) hl (sa0.trans sae) rfl fun H9 s9 t9 => hU _ _ ⟨a, rfl, s9, t9⟩
    rintro _ H11 ⟨_, rfl, s11, t11⟩
    -- NotOwn
    refine seq_pair (fun σ' H' => ∃ a : Addr, σ' = [some (.ref g), some v1, some v2, some v3, some (.ref l), some (.ref a)] ∧ Same H H' ∧ Lt H' l 12) (fun U hU => ?_) ?_
    · skip
      refine ⟨_, rfl, ?_⟩
      refine ⟨rfl, made_er (fs := ["stamp"]) (ws := [v3]) rfl fun a Ha ha sa ea => ?_⟩
      have sa0 := s11.trans sa
      have ta := t11.same sa
      refine ⟨_, rfl, .inl ⟨rfl, _, SqL.of ta⟩, ?_⟩
      refine ⟨_, rfl, a, "NotOwn", 2, _, rfl, (List.mem_of_getElem? (i := 24) rfl), ea, fun Hc sac => ?_⟩
      refine ⟨rfl, _, rfl, iteP (by decide +kernel) ?_⟩
      refine ⟨_, rfl, a, _, _, _, rfl, ea.same sac, XNotOwn, nNotOwn _ (by simp), rfl, ?_⟩
      refine ⟨(by show 1 ≤ sizeLine; decide), fun q3 hq3 => ?_⟩
      have sd := same_new (o := .lst [v3]) hq3
      have ed : (upd Hc q3 (.lst [v3])) q3 = some (.lst [v3]) := upd_same
      refine ⟨_, rfl, ?_⟩
      refine ⟨(by show 1 ≤ sizeLine; decide), fun q4 hq4 => ?_⟩
      have se := same_new (o := .lst [v3]) hq4
      have ee : (upd (upd Hc q3 (.lst [v3])) q4 (.lst [v3])) q4 = some (.lst [v3]) := upd_same
      refine ⟨⟨q3, q4, [v3], [v3], rfl, rfl, se _ _ ed, ee, .cons (dm_of p3) (.nil)⟩, fun He ext => ?_⟩
      have sae := ((sac.trans sd).trans se).trans ext
      refine app_t (ta.same sae) (by decide) hl (sa0.trans sae) rfl fun H9 s9 t9 => hU _ _ ⟨a, rfl, s9, t9⟩
    rintro _ H12 ⟨_, rfl, s12, t12⟩
    -- NotHeard
    refine seq_pair (fun σ' H' => ∃ a : Addr, σ' = [some (.ref g), some v1, some v2, some v3, some (.ref l), some (.ref a)] ∧ Same H H' ∧ Lt H' l 13) (fun U hU => ?_) ?_
    · skip
      refine ⟨_, rfl, ?_⟩
      refine ⟨(by show 1 ≤ 1000; decide), made_er (fs := ["hand"]) (ws := [v1]) rfl fun a Ha ha sa ea => ?_⟩
      have sa0 := s12.trans sa
      have ta := t12.same sa
      refine ⟨_, rfl, .inl ⟨rfl, _, SqL.of ta⟩, ?_⟩
      refine ⟨_, rfl, a, "NotHeard", 2, _, rfl, (List.mem_of_getElem? (i := 25) rfl), ea, fun q Hb hq sb eq => ?_⟩
      refine ⟨(by show 1 ≤ sizeLine; decide), fun q2 hq2 => ?_⟩
      have sc := same_new (o := .lst [.str "NotHeard"]) hq2
      have ec : (upd Hb q2 (.lst [.str "NotHeard"])) q2 = some (.lst [.str "NotHeard"]) := upd_same
      generalize (upd Hb q2 (.lst [.str "NotHeard"])) = Hc at sc ec ⊢
      refine ⟨.list [.str "NotHeard"], .list [.str "NotHeard"], .lst (SqL.of (sc _ _ eq)) (.cons (.str _) .nil), .lst (SqL.of ec) (.cons (.str _) .nil), rfl, rfl, by decide, _, rfl, iteP (by decide +kernel) ?_⟩
      have sac := sb.trans sc
      refine ⟨_, rfl, a, _, _, _, rfl, ea.same sac, XNotHeard, nNotHeard _ (by simp), rfl, ?_⟩
      refine ⟨(by show 1 ≤ sizeLine; decide), fun q3 hq3 => ?_⟩
      have sd := same_new (o := .lst [v1]) hq3
      have ed : (upd Hc q3 (.lst [v1])) q3 = some (.lst [v1]) := upd_same
      refine ⟨_, rfl, ?_⟩
      refine ⟨(by show 1 ≤ sizeLine; decide), fun q4 hq4 => ?_⟩
      have se := same_new (o := .lst [v1]) hq4
      have ee : (upd (upd Hc q3 (.lst [v1])) q4 (.lst [v1])) q4 = some (.lst [v1]) := upd_same
      refine ⟨⟨q3, q4, [v1], [v1], rfl, rfl, se _ _ ed, ee, .cons (dm_of p1) (.nil)⟩, fun He ext => ?_⟩
      have sae := ((sac.trans sd).trans se).trans ext
      refine app_t (ta.same sae) (by decide) hl (sa0.trans sae) rfl fun H9 s9 t9 => hU _ _ ⟨a, rfl, s9, t9⟩
    rintro _ H13 ⟨_, rfl, s13, t13⟩
    -- NotHeard
    refine seq_pair (fun σ' H' => ∃ a : Addr, σ' = [some (.ref g), some v1, some v2, some v3, some (.ref l), some (.ref a)] ∧ Same H H' ∧ Lt H' l 14) (fun U hU => ?_) ?_
    · skip
      refine ⟨_, rfl, ?_⟩
      refine ⟨rfl, made_er (fs := ["hand"]) (ws := [v1]) rfl fun a Ha ha sa ea => ?_⟩
      have sa0 := s13.trans sa
      have ta := t13.same sa
      refine ⟨_, rfl, .inl ⟨rfl, _, SqL.of ta⟩, ?_⟩
      refine ⟨_, rfl, a, "NotHeard", 2, _, rfl, (List.mem_of_getElem? (i := 25) rfl), ea, fun Hc sac => ?_⟩
      refine ⟨rfl, _, rfl, iteP (by decide +kernel) ?_⟩
      refine ⟨_, rfl, a, _, _, _, rfl, ea.same sac, XNotHeard, nNotHeard _ (by simp), rfl, ?_⟩
      refine ⟨(by show 1 ≤ sizeLine; decide), fun q3 hq3 => ?_⟩
      have sd := same_new (o := .lst [v1]) hq3
      have ed : (upd Hc q3 (.lst [v1])) q3 = some (.lst [v1]) := upd_same
      refine ⟨_, rfl, ?_⟩
      refine ⟨(by show 1 ≤ sizeLine; decide), fun q4 hq4 => ?_⟩
      have se := same_new (o := .lst [v1]) hq4
      have ee : (upd (upd Hc q3 (.lst [v1])) q4 (.lst [v1])) q4 = some (.lst [v1]) := upd_same
      refine ⟨⟨q3, q4, [v1], [v1], rfl, rfl, se _ _ ed, ee, .cons (dm_of p1) (.nil)⟩, fun He ext => ?_⟩
      have sae := ((sac.trans sd).trans se).trans ext
      refine app_t (ta.same sae) (by decide) hl (sa0.trans sae) rfl fun H9 s9 t9 => hU _ _ ⟨a, rfl, s9, t9⟩
    rintro _ H14 ⟨_, rfl, s14, t14⟩
    -- Behind
    refine seq_pair (fun σ' H' => ∃ a : Addr, σ' = [some (.ref g), some v1, some v2, some v3, some (.ref l), some (.ref a)] ∧ Same H H' ∧ Lt H' l 15) (fun U hU => ?_) ?_
    · skip
      refine ⟨_, rfl, ?_⟩
      refine ⟨(by show 1 ≤ 1000; decide), made_er (fs := ["time"]) (ws := [v2]) rfl fun a Ha ha sa ea => ?_⟩
      have sa0 := s14.trans sa
      have ta := t14.same sa
      refine ⟨_, rfl, .inl ⟨rfl, _, SqL.of ta⟩, ?_⟩
      refine ⟨_, rfl, a, "Behind", 2, _, rfl, (List.mem_of_getElem? (i := 26) rfl), ea, fun q Hb hq sb eq => ?_⟩
      refine ⟨(by show 1 ≤ sizeLine; decide), fun q2 hq2 => ?_⟩
      have sc := same_new (o := .lst [.str "Behind"]) hq2
      have ec : (upd Hb q2 (.lst [.str "Behind"])) q2 = some (.lst [.str "Behind"]) := upd_same
      generalize (upd Hb q2 (.lst [.str "Behind"])) = Hc at sc ec ⊢
      refine ⟨.list [.str "Behind"], .list [.str "Behind"], .lst (SqL.of (sc _ _ eq)) (.cons (.str _) .nil), .lst (SqL.of ec) (.cons (.str _) .nil), rfl, rfl, by decide, _, rfl, iteP (by decide +kernel) ?_⟩
      have sac := sb.trans sc
      refine ⟨_, rfl, a, _, _, _, rfl, ea.same sac, XBehind, nBehind _ (by simp), rfl, ?_⟩
      refine ⟨(by show 1 ≤ sizeLine; decide), fun q3 hq3 => ?_⟩
      have sd := same_new (o := .lst [v2]) hq3
      have ed : (upd Hc q3 (.lst [v2])) q3 = some (.lst [v2]) := upd_same
      refine ⟨_, rfl, ?_⟩
      refine ⟨(by show 1 ≤ sizeLine; decide), fun q4 hq4 => ?_⟩
      have se := same_new (o := .lst [v2]) hq4
      have ee : (upd (upd Hc q3 (.lst [v2])) q4 (.lst [v2])) q4 = some (.lst [v2]) := upd_same
      refine ⟨⟨q3, q4, [v2], [v2], rfl, rfl, se _ _ ed, ee, .cons (dm_of p2) (.nil)⟩, fun He ext => ?_⟩
      have sae := ((sac.trans sd).trans se).trans ext
      refine app_t (ta.same sae) (by decide) hl (sa0.trans sae) rfl fun H9 s9 t9 => hU _ _ ⟨a, rfl, s9, t9⟩
    rintro _ H15 ⟨_, rfl, s15, t15⟩
    -- Behind
    refine seq_pair (fun σ' H' => ∃ a : Addr, σ' = [some (.ref g), some v1, some v2, some v3, some (.ref l), some (.ref a)] ∧ Same H H' ∧ Lt H' l 16) (fun U hU => ?_) ?_
    · skip
      refine ⟨_, rfl, ?_⟩
      refine ⟨rfl, made_er (fs := ["time"]) (ws := [v2]) rfl fun a Ha ha sa ea => ?_⟩
      have sa0 := s15.trans sa
      have ta := t15.same sa
      refine ⟨_, rfl, .inl ⟨rfl, _, SqL.of ta⟩, ?_⟩
      refine ⟨_, rfl, a, "Behind", 2, _, rfl, (List.mem_of_getElem? (i := 26) rfl), ea, fun Hc sac => ?_⟩
      refine ⟨rfl, _, rfl, iteP (by decide +kernel) ?_⟩
      refine ⟨_, rfl, a, _, _, _, rfl, ea.same sac, XBehind, nBehind _ (by simp), rfl, ?_⟩
      refine ⟨(by show 1 ≤ sizeLine; decide), fun q3 hq3 => ?_⟩
      have sd := same_new (o := .lst [v2]) hq3
      have ed : (upd Hc q3 (.lst [v2])) q3 = some (.lst [v2]) := upd_same
      refine ⟨_, rfl, ?_⟩
      refine ⟨(by show 1 ≤ sizeLine; decide), fun q4 hq4 => ?_⟩
      have se := same_new (o := .lst [v2]) hq4
      have ee : (upd (upd Hc q3 (.lst [v2])) q4 (.lst [v2])) q4 = some (.lst [v2]) := upd_same
      refine ⟨⟨q3, q4, [v2], [v2], rfl, rfl, se _ _ ed, ee, .cons (dm_of p2) (.nil)⟩, fun He ext => ?_⟩
      have sae := ((sac.trans sd).trans se).trans ext
      refine app_t (ta.same sae) (by decide) hl (sa0.trans sae) rfl fun H9 s9 t9 => hU _ _ ⟨a, rfl, s9, t9⟩
    rintro _ H16 ⟨_, rfl, s16, t16⟩
    refine ⟨_, rfl, l, _, rfl, SqL.of t16, ?_⟩
    rw [all_reps]
    exact out _ s16
end
end K18
namespace K18
open PySem PySem.Spec PyProof.Rows L2 Par
abbrev slPart4_ : Stmt := topS 64
section
variable {P : Program} {w : World} {K : PySem.W.Frag} {mg : Str → Option Value} {base : Heap}
abbrev nPart4 : List Str := ["_law_given_here", "_law_first", "_law_spots_here", "_law_found", "_law_e"]
theorem scPart4 : FnScope nPart4 ["_law_given_here"] (defScope slPart4_) := ⟨rfl, rfl, rfl, by decide +kernel, rfl, by decide +kernel, by decide +kernel⟩
theorem ok_part4 {f : Addr} {fd : FuncData} (F : Fun K "_law_part_4" "_law_part_4" slPart4_ f fd) (B : Bl mg) (EK : ExK K mg) (DW : Has P w K mg base "_law_words" 3 ["_law_e"] (spWords (K := K))) (DB : Has P w K mg base "_law_base" 2 ["_law_e"] (spBase (K := K))) (DUnchanged : HasEr P w K mg base "Unchanged" ["value"] ["value"] (fun us ws => us ++ ws) (fun vs zs => vs ++ zs)) (DKnown : HasEr P w K mg base "Known" ["cells"] ["cells"] (fun us ws => us ++ ws) (fun vs zs => vs ++ zs)) (DUnknown : HasEr P w K mg base "Unknown" ["cells"] ["cells"] (fun us ws => us ++ ws) (fun vs zs => vs ++ zs)) : FnG P w K mg base CX0 4 f fd ["_law_given_here"] spPart := by
  obtain ⟨fW, fdW, GW, mW, kW, bW⟩ := DW
  obtain ⟨fB, fdB, GB, mB, kB, bB⟩ := DB
  obtain ⟨fUnchanged, fdUnchanged, TUnchanged, XUnchanged, nUnchanged, iUnchanged, tUnchanged, GUnchanged, bUnchanged, kUnchanged⟩ := DUnchanged
  obtain ⟨fKnown, fdKnown, TKnown, XKnown, nKnown, iKnown, tKnown, GKnown, bKnown, kKnown⟩ := DKnown
  obtain ⟨fUnknown, fdUnknown, TUnknown, XUnknown, nUnknown, iUnknown, tUnknown, GUnknown, bUnknown, kUnknown⟩ := DUnknown
  refine fnG_of F scPart4 (fun vs H Q E h => ?_) (fun cdv A outer s H vs Q E gs hr h => ?_)
  · obtain ⟨g, rfl, _⟩ := h
    rfl
  · obtain ⟨g, rfl, hg, out⟩ := h
    have hu := hr.units
    have hu1 := hu_of hr
    have r1 : Room 1 _ := hr.mono (by decide)
    have r2 : Room 2 _ := hr.mono (by decide)
    have r3 : Room 3 _ := hr
    refine ⟨_, (pss_cons (ps_set (i := 1) scPart4.nd rfl (Or.inl rfl) (pe_dget hu1 (pv 0) pe_str (fun _ _ => rfl)))
      (pss_cons (ps_set (i := 2) scPart4.nd rfl (Or.inl rfl) (pe_dget hu1 (pv 0) pe_str (fun _ _ => rfl)))
      (pss_cons (ps_set (i := 3) scPart4.nd rfl (Or.inl rfl) (pe_lst pa_nil))
      (pss_cons (ps_set (i := 4) scPart4.nd rfl (Or.inl rfl) (pe_mkEr TUnchanged iUnchanged tUnchanged GUnchanged r3 bUnchanged pass0 (by rfl) (EK.mgc _ (List.mem_of_getElem? (i := 27) rfl)) (pa_cons (pv 1) pa_nil)))
      (pss_cons (ps_expr (pe_bm PySem.F.plainAttrs_list PySem.F.slot_list_append PySem.F.type_list_append mt_append (pv 3) (pa_cons (pe_and (pe_cmpR (op_eqP hu) (pe_call GW r3 (by rfl) mW kW bW .nil pass0 (pa_cons (pv 4) pa_nil)) (pe_lst (pa_cons pe_str pa_nil)) (nomark _)) (pe_one (pe_cmpR (op_eqG (rcG_list mon_dm eqG_dm) r1) (pe_lst (pa_cons (pe_fe (pv 4)) pa_nil)) (pe_lst (pa_cons (pv 1) pa_nil)) (nomark _)))) pa_nil)))
      (pss_cons (ps_set (i := 4) scPart4.nd rfl (Or.inl rfl) (pe_mkEk (ks := ["value"]) TUnchanged iUnchanged tUnchanged GUnchanged r3 kUnchanged pass0 (by rfl) (EK.mgc _ (List.mem_of_getElem? (i := 27) rfl)) (pk_cons (pv 1) pk_nil)))
      (pss_cons (ps_expr (pe_bm PySem.F.plainAttrs_list PySem.F.slot_list_append PySem.F.type_list_append mt_append (pv 3) (pa_cons (pe_and (pe_cmpR op_eq (pe_call GB r2 (by rfl) mB kB bB .nil pass0 (pa_cons (pv 4) pa_nil)) pe_int (nomark _)) (pe_one (pe_cmpR (op_eqG (rcG_list mon_dm eqG_dm) r1) (pe_lst (pa_cons (pe_fe (pv 4)) pa_nil)) (pe_lst (pa_cons (pv 1) pa_nil)) (nomark _)))) pa_nil)))
      (pss_cons (ps_set (i := 4) scPart4.nd rfl (Or.inl rfl) (pe_mkEr TKnown iKnown tKnown GKnown r3 bKnown pass0 (by rfl) (EK.mgc _ (List.mem_of_getElem? (i := 28) rfl)) (pa_cons (pv 2) pa_nil)))
      (pss_cons (ps_expr (pe_bm PySem.F.plainAttrs_list PySem.F.slot_list_append PySem.F.type_list_append mt_append (pv 3) (pa_cons (pe_and (pe_cmpR (op_eqP hu) (pe_call GW r3 (by rfl) mW kW bW .nil pass0 (pa_cons (pv 4) pa_nil)) (pe_lst (pa_cons pe_str pa_nil)) (nomark _)) (pe_one (pe_cmpR (op_eqG (rcG_list mon_dm eqG_dm) r1) (pe_lst (pa_cons (pe_fe (pv 4)) pa_nil)) (pe_lst (pa_cons (pv 2) pa_nil)) (nomark _)))) pa_nil)))
      (pss_cons (ps_set (i := 4) scPart4.nd rfl (Or.inl rfl) (pe_mkEk (ks := ["cells"]) TKnown iKnown tKnown GKnown r3 kKnown pass0 (by rfl) (EK.mgc _ (List.mem_of_getElem? (i := 28) rfl)) (pk_cons (pv 2) pk_nil)))
      (pss_cons (ps_expr (pe_bm PySem.F.plainAttrs_list PySem.F.slot_list_append PySem.F.type_list_append mt_append (pv 3) (pa_cons (pe_and (pe_cmpR op_eq (pe_call GB r2 (by rfl) mB kB bB .nil pass0 (pa_cons (pv 4) pa_nil)) pe_int (nomark _)) (pe_one (pe_cmpR (op_eqG (rcG_list mon_dm eqG_dm) r1) (pe_lst (pa_cons (pe_fe (pv 4)) pa_nil)) (pe_lst (pa_cons (pv 2) pa_nil)) (nomark _)))) pa_nil)))
      (pss_cons (ps_set (i := 4) scPart4.nd rfl (Or.inl rfl) (pe_mkEr TUnknown iUnknown tUnknown GUnknown r3 bUnknown pass0 (by rfl) (EK.mgc _ (List.mem_of_getElem? (i := 29) rfl)) (pa_cons (pv 2) pa_nil)))
      (pss_cons (ps_expr (pe_bm PySem.F.plainAttrs_list PySem.F.slot_list_append PySem.F.type_list_append mt_append (pv 3) (pa_cons (pe_and (pe_cmpR (op_eqP hu) (pe_call GW r3 (by rfl) mW kW bW .nil pass0 (pa_cons (pv 4) pa_nil)) (pe_lst (pa_cons pe_str pa_nil)) (nomark _)) (pe_one (pe_cmpR (op_eqG (rcG_list mon_dm eqG_dm) r1) (pe_lst (pa_cons (pe_fe (pv 4)) pa_nil)) (pe_lst (pa_cons (pv 2) pa_nil)) (nomark _)))) pa_nil)))
      (pss_cons (ps_set (i := 4) scPart4.nd rfl (Or.inl rfl) (pe_mkEk (ks := ["cells"]) TUnknown iUnknown tUnknown GUnknown r3 kUnknown pass0 (by rfl) (EK.mgc _ (List.mem_of_getElem? (i := 29) rfl)) (pk_cons (pv 2) pk_nil)))
      (pss_cons (ps_expr (pe_bm PySem.F.plainAttrs_list PySem.F.slot_list_append PySem.F.type_list_append mt_append (pv 3) (pa_cons (pe_and (pe_cmpR op_eq (pe_call GB r2 (by rfl) mB kB bB .nil pass0 (pa_cons (pv 4) pa_nil)) pe_int (nomark _)) (pe_one (pe_cmpR (op_eqG (rcG_list mon_dm eqG_dm) r1) (pe_lst (pa_cons (pe_fe (pv 4)) pa_nil)) (pe_lst (pa_cons (pv 2) pa_nil)) (nomark _)))) pa_nil)))
      (pss_one (ps_ret (pe_callB (cr_all rfl) (by rfl) B.all (by decide +kernel) (pa_cons (pv 3) pa_nil))))))))))))))))))), ?_⟩
    obtain ⟨v1, d1, p1⟩ := hg.get (k := "first") (by decide)
    refine ⟨_, rfl, g, v1, rfl, d1, ?_⟩
    obtain ⟨v2, d2, p2⟩ := hg.get (k := "spots") (by decide)
    refine ⟨_, rfl, g, v2, rfl, d2, ?_⟩
    refine ⟨(by show 0 ≤ sizeLine; decide), fun l hl => ?_⟩
    have s0 : Same H (upd H l (.lst [])) := same_new hl
    have t0 : Lt (upd H l (.lst [])) l 0 := upd_same
    generalize (upd H l (.lst [])) = H0 at s0 t0 ⊢
    dsimp only [gName]
    -- Unchanged
    refine seq_pair (fun σ' H' => ∃ a : Addr, σ' = [some (.ref g), some v1, some v2, some (.ref l), some (.ref a)] ∧ Same H H' ∧ Lt H' l 1) (fun U hU => ?_) ?_
    · skip
      refine ⟨_, rfl, ?_⟩
      refine ⟨(by show 1 ≤ 1000; decide), made_er (fs := ["value"]) (ws := [v1]) rfl fun a Ha ha sa ea => ?_⟩
      have sa0 := s0.trans sa
      have ta := t0.same sa
      refine ⟨_, rfl, .inl ⟨rfl, _, SqL.of ta⟩, ?_⟩
      refine ⟨_, rfl, a, "Unchanged", 2, _, rfl, (List.mem_of_getElem? (i := 27) rfl), ea, fun q Hb hq sb eq => ?_⟩
      refine ⟨(by show 1 ≤ sizeLine; decide), fun q2 hq2 => ?_⟩
      have sc := same_new (o := .lst [.str "Unchanged"]) hq2
      have ec : (upd Hb q2 (.lst [.str "Unchanged"])) q2 = some (.lst [.str "Unchanged"]) := upd_same
      generalize (upd Hb q2 (.lst [.str "Unchanged"])) = Hc at sc ec ⊢
      refine ⟨.list [.str "Unchanged"], .list [.str "Unchanged"], .lst (SqL.of (sc _ _ eq)) (.cons (.str _) .nil), .lst (SqL.of ec) (.cons (.str _) .nil), rfl, rfl, by decide, _, rfl, iteP (by decide +kernel) ?_⟩
      have sac := sb.trans sc
      refine ⟨_, rfl, a, _, _, _, rfl, ea.same sac, XUnchanged, nUnchanged _ (by simp), rfl, ?_⟩
      refine ⟨(by show 1 ≤ sizeLine; decide), fun q3 hq3 => ?_⟩
      have sd := same_new (o := .lst [v1]) hq3
      have ed : (upd Hc q3 (.lst [v1])) q3 = some (.lst [v1]) := upd_same
      refine ⟨_, rfl, ?_⟩
      refine ⟨(by show 1 ≤ sizeLine; decide), fun q4 hq4 => ?_⟩
      have se := same_new (o := .lst [v1]) hq4
      have ee : (upd (upd Hc q3 (.lst [v1])) q4 (.lst [v1])) q4 = some (.lst [v1]) := upd_same
      refine ⟨⟨q3, q4, [v1], [v1], rfl, rfl, se _ _ ed, ee, .cons (dm_of p1) (.nil)⟩, fun He ext => ?_⟩
      have sae := ((sac.trans sd).trans se).trans ext
      refine app_t (ta.same sae) (by decide) hl (sa0.trans sae) rfl fun H9 s9 t9 => hU _ _ ⟨a, rfl, s9, t9⟩
    rintro _ H1 ⟨_, rfl, s1, t1⟩
    -- Unchanged
    refine seq_pair (fun σ' H' => ∃ a : Addr, σ' = [some (.ref g), some v1, some v2, some (.ref l), some (.ref a)] ∧ Same H H' ∧ Lt H' l 2) (fun U hU => ?_) ?_
    · skip
      refine ⟨_, rfl, ?_⟩
      refine ⟨rfl, made_er (fs := ["value"]) (ws := [v1]) rfl fun a Ha ha sa ea => ?_⟩
      have sa0 := s1.trans sa
      have ta := t1.same sa
      refine ⟨_, rfl, .inl ⟨rfl, _, SqL.of ta⟩, ?_⟩
      refine ⟨_, rfl, a, "Unchanged", 2, _, rfl, (List.mem_of_getElem? (i := 27) rfl), ea, fun Hc sac => ?_⟩
      refine ⟨rfl, _, rfl, iteP (by decide +kernel) ?_⟩
      refine ⟨_, rfl, a, _, _, _, rfl, ea.same sac, XUnchanged, nUnchanged _ (by simp), rfl, ?_⟩
      refine ⟨(by show 1 ≤ sizeLine; decide), fun q3 hq3 => ?_⟩
      have sd := same_new (o := .lst [v1]) hq3
      have ed : (upd Hc q3 (.lst [v1])) q3 = some (.lst [v1]) := upd_same
      refine ⟨_, rfl, ?_⟩
      refine ⟨(by show 1 ≤ sizeLine; decide), fun q4 hq4 => ?_⟩
      have se := same_new (o := .lst [v1]) hq4
      have ee : (upd (upd Hc q3 (.lst [v1])) q4 (.lst [v1])) q4 = some (.lst [v1]) := upd_same
      refine ⟨⟨q3, q4, [v1], [v1], rfl, rfl, se _ _ ed, ee, .cons (dm_of p1) (.nil)⟩, fun He ext => ?_⟩
      have sae := ((sac.trans sd).trans se).trans ext
      refine app_t (ta.same sae) (by decide) hl (sa0.trans sae) rfl fun H9 s9 t9 => hU _ _ ⟨a, rfl, s9, t9⟩
    rintro _ H2 ⟨_, rfl, s2, t2⟩
    -- Known
    refine seq_pair (fun σ' H' => ∃ a : Addr, σ' = [some (.ref g), some v1, some v2, some (.ref l), some (.ref a)] ∧ Same H H' ∧ Lt H' l 3) (fun U hU => ?_) ?_
    · skip
      refine ⟨_, rfl, ?_⟩
      refine ⟨(by show 1 ≤ 1000; decide), made_er (fs := ["cells"]) (ws := [v2]) rfl fun a Ha ha sa ea => ?_⟩
      have sa0 := s2.trans sa
      have ta := t2.same sa
      refine ⟨_, rfl, .inl ⟨rfl, _, SqL.of ta⟩, ?_⟩
      refine ⟨_, rfl, a, "Known", 2, _, rfl, (List.mem_of_getElem? (i := 28) rfl), ea, fun q Hb hq sb eq => ?_⟩
      refine ⟨(by show 1 ≤ sizeLine; decide), fun q2 hq2 => ?_⟩
      have sc := same_new (o := .lst [.str "Known"]) hq2
      have ec : (upd Hb q2 (.lst [.str "Known"])) q2 = some (.lst [.str "Known"]) := upd_same
      generalize (upd Hb q2 (.lst [.str "Known"])) = Hc at sc ec ⊢
      refine ⟨.list [.str "Known"], .list [.str "Known"], .lst (SqL.of (sc _ _ eq)) (.cons (.str _) .nil), .lst (SqL.of ec) (.cons (.str _) .nil), rfl, rfl, by decide, _, rfl, iteP (by decide +kernel) ?_⟩
      have sac := sb.trans sc
      refine ⟨_, rfl, a, _, _, _, rfl, ea.same sac, XKnown, nKnown _ (by simp), rfl, ?_⟩
      refine ⟨(by show 1 ≤ sizeLine; decide), fun q3 hq3 => ?_⟩
      have sd := same_new (o := .lst [v2]) hq3
      have ed : (upd Hc q3 (.lst [v2])) q3 = some (.lst [v2]) := upd_same
      refine ⟨_, rfl, ?_⟩
      refine ⟨(by show 1 ≤ sizeLine; decide), fun q4 hq4 => ?_⟩
      have se := same_new (o := .lst [v2]) hq4
      have ee : (upd (upd Hc q3 (.lst [v2])) q4 (.lst [v2])) q4 = some (.lst [v2]) := upd_same
      refine ⟨⟨q3, q4, [v2], [v2], rfl, rfl, se _ _ ed, ee, .cons (dm_of p2) (.nil)⟩, fun He ext => ?_⟩
      have sae := ((sac.trans sd).trans se).trans ext
      refine app_t (ta.same sae) (by decide) hl (sa0.trans sae) rfl fun H9 s9 t9 => hU _ _ ⟨a, rfl, s9, t9⟩
    rintro _ H3 ⟨_, rfl, s3, t3⟩
    -- Known
    refine seq_pair (fun σ' H' => ∃ a : Addr, σ' = [some (.ref g), some v1, some v2, some (.ref l), some (.ref a)] ∧ Same H H' ∧ Lt H' l 4) (fun U hU => ?_) ?_
    · skip
      refine ⟨_, rfl, ?_⟩
      refine ⟨rfl, made_er (fs := ["cells"]) (ws := [v2]) rfl fun a Ha ha sa ea => ?_⟩
      have sa0 := s3.trans sa
      have ta := t3.same sa
      refine ⟨_, rfl, .inl ⟨rfl, _, SqL.of ta⟩, ?_⟩
      refine ⟨_, rfl, a, "Known", 2, _, rfl, (List.mem_of_getElem? (i := 28) rfl), ea, fun Hc sac => ?_⟩
      refine ⟨rfl, _, rfl, iteP (by decide +kernel) ?_⟩
      refine ⟨_, rfl, a, _, _, _, rfl, ea.same sac, XKnown, nKnown _ (by simp), rfl, ?_⟩
      refine ⟨(by show 1 ≤ sizeLine; decide), fun q3 hq3 => ?_⟩
      have sd := same_new (o := .lst [v2]) hq3
      have ed : (upd Hc q3 (.lst [v2])) q3 = some (.lst [v2]) := upd_same
      refine ⟨_, rfl, ?_⟩
      refine ⟨(by show 1 ≤ sizeLine; decide), fun q4 hq4 => ?_⟩
      have se := same_new (o := .lst [v2]) hq4
      have ee : (upd (upd Hc q3 (.lst [v2])) q4 (.lst [v2])) q4 = some (.lst [v2]) := upd_same
      refine ⟨⟨q3, q4, [v2], [v2], rfl, rfl, se _ _ ed, ee, .cons (dm_of p2) (.nil)⟩, fun He ext => ?_⟩
      have sae := ((sac.trans sd).trans se).trans ext
      refine app_t (ta.same sae) (by decide) hl (sa0.trans sae) rfl fun H9 s9 t9 => hU _ _ ⟨a, rfl, s9, t9⟩
    rintro _ H4 ⟨_, rfl, s4, t4⟩
    -- Unknown
    refine seq_pair (fun σ' H' => ∃ a : Addr, σ' = [some (.ref g), some v1, some v2, some (.ref l), some (.ref a)] ∧ Same H H' ∧ Lt H' l 5) (fun U hU => ?_) ?_
    · skip
      refine ⟨_, rfl, ?_⟩
      refine ⟨(by show 1 ≤ 1000; decide), made_er (fs := ["cells"]) (ws := [v2]) rfl fun a Ha ha sa ea => ?_⟩
      have sa0 := s4.trans sa
      have ta := t4.same sa
      refine ⟨_, rfl, .inl ⟨rfl, _, SqL.of ta⟩, ?_⟩
      refine ⟨_, rfl, a, "Unknown", 2, _, rfl, (List.mem_of_getElem? (i := 29) rfl), ea, fun q Hb hq sb eq => ?_⟩
      refine ⟨(by show 1 ≤ sizeLine; decide), fun q2 hq2 => ?_⟩
      have sc := same_new (o := .lst [.str "Unknown"]) hq2
      have ec : (upd Hb q2 (.lst [.str "Unknown"])) q2 = some (.lst [.str "Unknown"]) := upd_same
      generalize (upd Hb q2 (.lst [.str "Unknown"])) = Hc at sc ec ⊢
      refine ⟨.list [.str "Unknown"], .list [.str "Unknown"], .lst (SqL.of (sc _ _ eq)) (.cons (.str _) .nil), .lst (SqL.of ec) (.cons (.str _) .nil), rfl, rfl, by decide, _, rfl, iteP (by decide +kernel) ?_⟩
      have sac := sb.trans sc
      refine ⟨_, rfl, a, _, _, _, rfl, ea.same sac, XUnknown, nUnknown _ (by simp), rfl, ?_⟩
      refine ⟨(by show 1 ≤ sizeLine; decide), fun q3 hq3 => ?_⟩
      have sd := same_new (o := .lst [v2]) hq3
      have ed : (upd Hc q3 (.lst [v2])) q3 = some (.lst [v2]) := upd_same
      refine ⟨_, rfl, ?_⟩
      refine ⟨(by show 1 ≤ sizeLine; decide), fun q4 hq4 => ?_⟩
      have se := same_new (o := .lst [v2]) hq4
      have ee : (upd (upd Hc q3 (.lst [v2])) q4 (.lst [v2])) q4 = some (.lst [v2]) := upd_same
      refine ⟨⟨q3, q4, [v2], [v2], rfl, rfl, se _ _ ed, ee, .cons (dm_of p2) (.nil)⟩, fun He ext => ?_⟩
      have sae := ((sac.trans sd).trans se).trans ext
      refine app_t (ta.same sae) (by decide) hl (sa0.trans sae) rfl fun H9 s9 t9 => hU _ _ ⟨a, rfl, s9, t9⟩
    rintro _ H5 ⟨_, rfl, s5, t5⟩
    -- Unknown
    refine seq_pair (fun σ' H' => ∃ a : Addr, σ' = [some (.ref g), some v1, some v2, some (.ref l), some (.ref a)] ∧ Same H H' ∧ Lt H' l 6) (fun U hU => ?_) ?_
    · skip
      refine ⟨_, rfl, ?_⟩
      refine ⟨rfl, made_er (fs := ["cells"]) (ws := [v2]) rfl fun a Ha ha sa ea => ?_⟩
      have sa0 := s5.trans sa
      have ta := t5.same sa
      refine ⟨_, rfl, .inl ⟨rfl, _, SqL.of ta⟩, ?_⟩
      refine ⟨_, rfl, a, "Unknown", 2, _, rfl, (List.mem_of_getElem? (i := 29) rfl), ea, fun Hc sac => ?_⟩
      refine ⟨rfl, _, rfl, iteP (by decide +kernel) ?_⟩
      refine ⟨_, rfl, a, _, _, _, rfl, ea.same sac, XUnknown, nUnknown _ (by simp), rfl, ?_⟩
      refine ⟨(by show 1 ≤ sizeLine; decide), fun q3 hq3 => ?_⟩
      have sd := same_new (o := .lst [v2]) hq3
      have ed : (upd Hc q3 (.lst [v2])) q3 = some (.lst [v2]) := upd_same
      refine ⟨_, rfl, ?_⟩
      refine ⟨(by show 1 ≤ sizeLine; decide), fun q4 hq4 => ?_⟩
      have se := same_new (o := .lst [v2]) hq4
      have ee : (upd (upd Hc q3 (.lst [v2])) q4 (.lst [v2])) q4 = some (.lst [v2]) := upd_same
      refine ⟨⟨q3, q4, [v2], [v2], rfl, rfl, se _ _ ed, ee, .cons (dm_of p2) (.nil)⟩, fun He ext => ?_⟩
      have sae := ((sac.trans sd).trans se).trans ext
      refine app_t (ta.same sae) (by decide) hl (sa0.trans sae) rfl fun H9 s9 t9 => hU _ _ ⟨a, rfl, s9, t9⟩
    rintro _ H6 ⟨_, rfl, s6, t6⟩
    refine ⟨_, rfl, l, _, rfl, SqL.of t6, ?_⟩
    rw [all_reps]
    exact out _ s6
end
end K18
namespace K18
open PySem PySem.Spec PyProof.Rows L2 Par
abbrev slPart5_ : Stmt := topS 65
section
variable {P : Program} {w : World} {K : PySem.W.Frag} {mg : Str → Option Value} {base : Heap}
abbrev nPart5 : List Str := ["_law_given_here", "_law_whole", "_law_least", "_law_found", "_law_e"]
theorem scPart5 : FnScope nPart5 ["_law_given_here"] (defScope slPart5_) := ⟨rfl, rfl, rfl, by decide +kernel, rfl, by decide +kernel, by decide +kernel⟩
theorem ok_part5 {f : Addr} {fd : FuncData} (F : Fun K "_law_part_5" "_law_part_5" slPart5_ f fd) (B : Bl mg) (EK : ExK K mg) (DW : Has P w K mg base "_law_words" 3 ["_law_e"] (spWords (K := K))) (DB : Has P w K mg base "_law_base" 2 ["_law_e"] (spBase (K := K))) (DTooWide : HasEr P w K mg base "TooWide" ["needed"] ["needed"] (fun us ws => us ++ ws) (fun vs zs => vs ++ zs)) (DTooMany : HasEr P w K mg base "TooMany" ["limit"] ["limit"] (fun us ws => us ++ ws) (fun vs zs => vs ++ zs)) (DUnlike : HasEr P w K mg base "Unlike" ["one", "other"] ["other", "one"] (fun us ws => us ++ ws.reverse) (fun vs zs => vs ++ zs.reverse)) : FnG P w K mg base CX0 4 f fd ["_law_given_here"] spPart := by
  obtain ⟨fW, fdW, GW, mW, kW, bW⟩ := DW
  obtain ⟨fB, fdB, GB, mB, kB, bB⟩ := DB
  obtain ⟨fTooWide, fdTooWide, TTooWide, XTooWide, nTooWide, iTooWide, tTooWide, GTooWide, bTooWide, kTooWide⟩ := DTooWide
  obtain ⟨fTooMany, fdTooMany, TTooMany, XTooMany, nTooMany, iTooMany, tTooMany, GTooMany, bTooMany, kTooMany⟩ := DTooMany
  obtain ⟨fUnlike, fdUnlike, TUnlike, XUnlike, nUnlike, iUnlike, tUnlike, GUnlike, bUnlike, kUnlike⟩ := DUnlike
  refine fnG_of F scPart5 (fun vs H Q E h => ?_) (fun cdv A outer s H vs Q E gs hr h => ?_)
  · obtain ⟨g, rfl, _⟩ := h
    rfl
  · obtain ⟨g, rfl, hg, out⟩ := h
    have hu := hr.units
    have hu1 := hu_of hr
    have r1 : Room 1 _ := hr.mono (by decide)
    have r2 : Room 2 _ := hr.mono (by decide)
    have r3 : Room 3 _ := hr
    refine ⟨_, (pss_cons (ps_set (i := 1) scPart5.nd rfl (Or.inl rfl) (pe_dget hu1 (pv 0) pe_str (fun _ _ => rfl)))
      (pss_cons (ps_set (i := 2) scPart5.nd rfl (Or.inl rfl) (pe_dget hu1 (pv 0) pe_str (fun _ _ => rfl)))
      (pss_cons (ps_set (i := 3) scPart5.nd rfl (Or.inl rfl) (pe_lst pa_nil))
      (pss_cons (ps_set (i := 4) scPart5.nd rfl (Or.inl rfl) (pe_mkEr TTooWide iTooWide tTooWide GTooWide r3 bTooWide pass0 (by rfl) (EK.mgc _ (List.mem_of_getElem? (i := 30) rfl)) (pa_cons (pv 1) pa_nil)))
      (pss_cons (ps_expr (pe_bm PySem.F.plainAttrs_list PySem.F.slot_list_append PySem.F.type_list_append mt_append (pv 3) (pa_cons (pe_and (pe_cmpR (op_eqP hu) (pe_call GW r3 (by rfl) mW kW bW .nil pass0 (pa_cons (pv 4) pa_nil)) (pe_lst (pa_cons pe_str pa_nil)) (nomark _)) (pe_one (pe_cmpR (op_eqG (rcG_list mon_dm eqG_dm) r1) (pe_lst (pa_cons (pe_fe (pv 4)) pa_nil)) (pe_lst (pa_cons (pv 1) pa_nil)) (nomark _)))) pa_nil)))
      (pss_cons (ps_set (i := 4) scPart5.nd rfl (Or.inl rfl) (pe_mkEk (ks := ["needed"]) TTooWide iTooWide tTooWide GTooWide r3 kTooWide pass0 (by rfl) (EK.mgc _ (List.mem_of_getElem? (i := 30) rfl)) (pk_cons (pv 1) pk_nil)))
      (pss_cons (ps_expr (pe_bm PySem.F.plainAttrs_list PySem.F.slot_list_append PySem.F.type_list_append mt_append (pv 3) (pa_cons (pe_and (pe_cmpR op_eq (pe_call GB r2 (by rfl) mB kB bB .nil pass0 (pa_cons (pv 4) pa_nil)) pe_int (nomark _)) (pe_one (pe_cmpR (op_eqG (rcG_list mon_dm eqG_dm) r1) (pe_lst (pa_cons (pe_fe (pv 4)) pa_nil)) (pe_lst (pa_cons (pv 1) pa_nil)) (nomark _)))) pa_nil)))
      (pss_cons (ps_set (i := 4) scPart5.nd rfl (Or.inl rfl) (pe_mkEr TTooMany iTooMany tTooMany GTooMany r3 bTooMany pass0 (by rfl) (EK.mgc _ (List.mem_of_getElem? (i := 31) rfl)) (pa_cons (pv 1) pa_nil)))
      (pss_cons (ps_expr (pe_bm PySem.F.plainAttrs_list PySem.F.slot_list_append PySem.F.type_list_append mt_append (pv 3) (pa_cons (pe_and (pe_cmpR (op_eqP hu) (pe_call GW r3 (by rfl) mW kW bW .nil pass0 (pa_cons (pv 4) pa_nil)) (pe_lst (pa_cons pe_str pa_nil)) (nomark _)) (pe_one (pe_cmpR (op_eqG (rcG_list mon_dm eqG_dm) r1) (pe_lst (pa_cons (pe_fe (pv 4)) pa_nil)) (pe_lst (pa_cons (pv 1) pa_nil)) (nomark _)))) pa_nil)))
      (pss_cons (ps_set (i := 4) scPart5.nd rfl (Or.inl rfl) (pe_mkEk (ks := ["limit"]) TTooMany iTooMany tTooMany GTooMany r3 kTooMany pass0 (by rfl) (EK.mgc _ (List.mem_of_getElem? (i := 31) rfl)) (pk_cons (pv 1) pk_nil)))
      (pss_cons (ps_expr (pe_bm PySem.F.plainAttrs_list PySem.F.slot_list_append PySem.F.type_list_append mt_append (pv 3) (pa_cons (pe_and (pe_cmpR op_eq (pe_call GB r2 (by rfl) mB kB bB .nil pass0 (pa_cons (pv 4) pa_nil)) pe_int (nomark _)) (pe_one (pe_cmpR (op_eqG (rcG_list mon_dm eqG_dm) r1) (pe_lst (pa_cons (pe_fe (pv 4)) pa_nil)) (pe_lst (pa_cons (pv 1) pa_nil)) (nomark _)))) pa_nil)))
      (pss_cons (ps_set (i := 4) scPart5.nd rfl (Or.inl rfl) (pe_mkEr TUnlike iUnlike tUnlike GUnlike r3 bUnlike pass0 (by rfl) (EK.mgc _ (List.mem_of_getElem? (i := 32) rfl)) (pa_cons (pv 1) (pa_cons (pv 2) pa_nil))))
      (pss_cons (ps_expr (pe_bm PySem.F.plainAttrs_list PySem.F.slot_list_append PySem.F.type_list_append mt_append (pv 3) (pa_cons (pe_and (pe_cmpR (op_eqP hu) (pe_call GW r3 (by rfl) mW kW bW .nil pass0 (pa_cons (pv 4) pa_nil)) (pe_lst (pa_cons pe_str pa_nil)) (nomark _)) (pe_one (pe_cmpR (op_eqG (rcG_list mon_dm eqG_dm) r1) (pe_lst (pa_cons (pe_fe (pv 4)) (pa_cons (pe_fe (pv 4)) pa_nil))) (pe_lst (pa_cons (pv 1) (pa_cons (pv 2) pa_nil))) (nomark _)))) pa_nil)))
      (pss_cons (ps_set (i := 4) scPart5.nd rfl (Or.inl rfl) (pe_mkEk (ks := ["other", "one"]) TUnlike iUnlike tUnlike GUnlike r3 kUnlike pass0 (by rfl) (EK.mgc _ (List.mem_of_getElem? (i := 32) rfl)) (pk_cons (pv 2) (pk_cons (pv 1) pk_nil))))
      (pss_cons (ps_expr (pe_bm PySem.F.plainAttrs_list PySem.F.slot_list_append PySem.F.type_list_append mt_append (pv 3) (pa_cons (pe_and (pe_cmpR op_eq (pe_call GB r2 (by rfl) mB kB bB .nil pass0 (pa_cons (pv 4) pa_nil)) pe_int (nomark _)) (pe_one (pe_cmpR (op_eqG (rcG_list mon_dm eqG_dm) r1) (pe_lst (pa_cons (pe_fe (pv 4)) (pa_cons (pe_fe (pv 4)) pa_nil))) (pe_lst (pa_cons (pv 1) (pa_cons (pv 2) pa_nil))) (nomark _)))) pa_nil)))
      (pss_one (ps_ret (pe_callB (cr_all rfl) (by rfl) B.all (by decide +kernel) (pa_cons (pv 3) pa_nil))))))))))))))))))), ?_⟩
    obtain ⟨v1, d1, p1⟩ := hg.get (k := "whole") (by decide)
    refine ⟨_, rfl, g, v1, rfl, d1, ?_⟩
    obtain ⟨v2, d2, p2⟩ := hg.get (k := "least") (by decide)
    refine ⟨_, rfl, g, v2, rfl, d2, ?_⟩
    refine ⟨(by show 0 ≤ sizeLine; decide), fun l hl => ?_⟩
    have s0 : Same H (upd H l (.lst [])) := same_new hl
    have t0 : Lt (upd H l (.lst [])) l 0 := upd_same
    generalize (upd H l (.lst [])) = H0 at s0 t0 ⊢
    dsimp only [gName]
    -- TooWide
    refine seq_pair (fun σ' H' => ∃ a : Addr, σ' = [some (.ref g), some v1, some v2, some (.ref l), some (.ref a)] ∧ Same H H' ∧ Lt H' l 1) (fun U hU => ?_) ?_
    · skip
      refine ⟨_, rfl, ?_⟩
      refine ⟨(by show 1 ≤ 1000; decide), made_er (fs := ["needed"]) (ws := [v1]) rfl fun a Ha ha sa ea => ?_⟩
      have sa0 := s0.trans sa
      have ta := t0.same sa
      refine ⟨_, rfl, .inl ⟨rfl, _, SqL.of ta⟩, ?_⟩
      refine ⟨_, rfl, a, "TooWide", 3, _, rfl, (List.mem_of_getElem? (i := 30) rfl), ea, fun q Hb hq sb eq => ?_⟩
      refine ⟨(by show 1 ≤ sizeLine; decide), fun q2 hq2 => ?_⟩
      have sc := same_new (o := .lst [.str "TooWide"]) hq2
      have ec : (upd Hb q2 (.lst [.str "TooWide"])) q2 = some (.lst [.str "TooWide"]) := upd_same
      generalize (upd Hb q2 (.lst [.str "TooWide"])) = Hc at sc ec ⊢
      refine ⟨.list [.str "TooWide"], .list [.str "TooWide"], .lst (SqL.of (sc _ _ eq)) (.cons (.str _) .nil), .lst (SqL.of ec) (.cons (.str _) .nil), rfl, rfl, by decide, _, rfl, iteP (by decide +kernel) ?_⟩
      have sac := sb.trans sc
      refine ⟨_, rfl, a, _, _, _, rfl, ea.same sac, XTooWide, nTooWide _ (by simp), rfl, ?_⟩
      refine ⟨(by show 1 ≤ sizeLine; decide), fun q3 hq3 => ?_⟩
      have sd := same_new (o := .lst [v1]) hq3
      have ed : (upd Hc q3 (.lst [v1])) q3 = some (.lst [v1]) := upd_same
      refine ⟨_, rfl, ?_⟩
      refine ⟨(by show 1 ≤ sizeLine; decide), fun q4 hq4 => ?_⟩
      have se := same_new (o := .lst [v1]) hq4
      have ee : (upd (upd Hc q3 (.lst [v1])) q4 (.lst [v1])) q4 = some (.lst [v1]) := upd_same
      refine ⟨⟨q3, q4, [v1], [v1], rfl, rfl, se _ _ ed, ee, .cons (dm_of p1) (.nil)⟩, fun He ext => ?_⟩
      have sae := ((sac.trans sd).trans se).trans ext
      refine app_t (ta.same sae) (by decide) hl (sa0.trans sae) rfl fun H9 s9 t9 => hU _ _ ⟨a, rfl, s9, t9⟩
    rintro _ H1 ⟨_, rfl, s1, t1⟩
    -- TooWide
    refine seq_pair (fun σ' H' => ∃ a : Addr, σ' = [some (.ref g), some v1, some v2, some (.ref l), some (.ref a)] ∧ Same H H' ∧ Lt H' l 2) (fun U hU => ?_) ?_
    · skip
      refine ⟨_, rfl, ?_⟩
      refine ⟨rfl, made_er (fs := ["needed"]) (ws := [v1]) rfl fun a Ha ha sa ea => ?_⟩
      have sa0 := s1.trans sa
      have ta := t1.same sa
      refine ⟨_, rfl, .inl ⟨rfl, _, SqL.of ta⟩, ?_⟩
      refine ⟨_, rfl, a, "TooWide", 3, _, rfl, (List.mem_of_getElem? (i := 30) rfl), ea, fun Hc sac => ?_⟩
      refine ⟨rfl, _, rfl, iteP (by decide +kernel) ?_⟩
      refine ⟨_, rfl, a, _, _, _, rfl, ea.same sac, XTooWide, nTooWide _ (by simp), rfl, ?_⟩
      refine ⟨(by show 1 ≤ sizeLine; decide), fun q3 hq3 => ?_⟩
      have sd := same_new (o := .lst [v1]) hq3
      have ed : (upd Hc q3 (.lst [v1])) q3 = some (.lst [v1]) := upd_same
      refine ⟨_, rfl, ?_⟩
      refine ⟨(by show 1 ≤ sizeLine; decide), fun q4 hq4 => ?_⟩
      have se := same_new (o := .lst [v1]) hq4
      have ee : (upd (upd Hc q3 (.lst [v1])) q4 (.lst [v1])) q4 = some (.lst [v1]) := upd_same
      refine ⟨⟨q3, q4, [v1], [v1], rfl, rfl, se _ _ ed, ee, .cons (dm_of p1) (.nil)⟩, fun He ext => ?_⟩
      have sae := ((sac.trans sd).trans se).trans ext
      refine app_t (ta.same sae) (by decide) hl (sa0.trans sae) rfl fun H9 s9 t9 => hU _ _ ⟨a, rfl, s9, t9⟩
    rintro _ H2 ⟨_, rfl, s2, t2⟩
    -- TooMany
    refine seq_pair (fun σ' H' => ∃ a : Addr, σ' = [some (.ref g), some v1, some v2, some (.ref l), some (.ref a)] ∧ Same H H' ∧ Lt H' l 3) (fun U hU => ?_) ?_
    · skip
      refine ⟨_, rfl, ?_⟩
      refine ⟨(by show 1 ≤ 1000; decide), made_er (fs := ["limit"]) (ws := [v1]) rfl fun a Ha ha sa ea => ?_⟩
      have sa0 := s2.trans sa
      have ta := t2.same sa
      refine ⟨_, rfl, .inl ⟨rfl, _, SqL.of ta⟩, ?_⟩
      refine ⟨_, rfl, a, "TooMany", 3, _, rfl, (List.mem_of_getElem? (i := 31) rfl), ea, fun q Hb hq sb eq => ?_⟩
      refine ⟨(by show 1 ≤ sizeLine; decide), fun q2 hq2 => ?_⟩
      have sc := same_new (o := .lst [.str "TooMany"]) hq2
      have ec : (upd Hb q2 (.lst [.str "TooMany"])) q2 = some (.lst [.str "TooMany"]) := upd_same
      generalize (upd Hb q2 (.lst [.str "TooMany"])) = Hc at sc ec ⊢
      refine ⟨.list [.str "TooMany"], .list [.str "TooMany"], .lst (SqL.of (sc _ _ eq)) (.cons (.str _) .nil), .lst (SqL.of ec) (.cons (.str _) .nil), rfl, rfl, by decide, _, rfl, iteP (by decide +kernel) ?_⟩
      have sac := sb.trans sc
      refine ⟨_, rfl, a, _, _, _, rfl, ea.same sac, XTooMany, nTooMany _ (by simp), rfl, ?_⟩
      refine ⟨(by show 1 ≤ sizeLine; decide), fun q3 hq3 => ?_⟩
      have sd := same_new (o := .lst [v1]) hq3
      have ed : (upd Hc q3 (.lst [v1])) q3 = some (.lst [v1]) := upd_same
      refine ⟨_, rfl, ?_⟩
      refine ⟨(by show 1 ≤ sizeLine; decide), fun q4 hq4 => ?_⟩
      have se := same_new (o := .lst [v1]) hq4
      have ee : (upd (upd Hc q3 (.lst [v1])) q4 (.lst [v1])) q4 = some (.lst [v1]) := upd_same
      refine ⟨⟨q3, q4, [v1], [v1], rfl, rfl, se _ _ ed, ee, .cons (dm_of p1) (.nil)⟩, fun He ext => ?_⟩
      have sae := ((sac.trans sd).trans se).trans ext
      refine app_t (ta.same sae) (by decide) hl (sa0.trans sae) rfl fun H9 s9 t9 => hU _ _ ⟨a, rfl, s9, t9⟩
    rintro _ H3 ⟨_, rfl, s3, t3⟩
    -- TooMany
    refine seq_pair (fun σ' H' => ∃ a : Addr, σ' = [some (.ref g), some v1, some v2, some (.ref l), some (.ref a)] ∧ Same H H' ∧ Lt H' l 4) (fun U hU => ?_) ?_
    · skip
      refine ⟨_, rfl, ?_⟩
      refine ⟨rfl, made_er (fs := ["limit"]) (ws := [v1]) rfl fun a Ha ha sa ea => ?_⟩
      have sa0 := s3.trans sa
      have ta := t3.same sa
      refine ⟨_, rfl, .inl ⟨rfl, _, SqL.of ta⟩, ?_⟩
      refine ⟨_, rfl, a, "TooMany", 3, _, rfl, (List.mem_of_getElem? (i := 31) rfl), ea, fun Hc sac => ?_⟩
      refine ⟨rfl, _, rfl, iteP (by decide +kernel) ?_⟩
      refine ⟨_, rfl, a, _, _, _, rfl, ea.same sac, XTooMany, nTooMany _ (by simp), rfl, ?_⟩
      refine ⟨(by show 1 ≤ sizeLine; decide), fun q3 hq3 => ?_⟩
      have sd := same_new (o := .lst [v1]) hq3
      have ed : (upd Hc q3 (.lst [v1])) q3 = some (.lst [v1]) := upd_same
      refine ⟨_, rfl, ?_⟩
      refine ⟨(by show 1 ≤ sizeLine; decide), fun q4 hq4 => ?_⟩
      have se := same_new (o := .lst [v1]) hq4
      have ee : (upd (upd Hc q3 (.lst [v1])) q4 (.lst [v1])) q4 = some (.lst [v1]) := upd_same
      refine ⟨⟨q3, q4, [v1], [v1], rfl, rfl, se _ _ ed, ee, .cons (dm_of p1) (.nil)⟩, fun He ext => ?_⟩
      have sae := ((sac.trans sd).trans se).trans ext
      refine app_t (ta.same sae) (by decide) hl (sa0.trans sae) rfl fun H9 s9 t9 => hU _ _ ⟨a, rfl, s9, t9⟩
    rintro _ H4 ⟨_, rfl, s4, t4⟩
    -- Unlike
    refine seq_pair (fun σ' H' => ∃ a : Addr, σ' = [some (.ref g), some v1, some v2, some (.ref l), some (.ref a)] ∧ Same H H' ∧ Lt H' l 5) (fun U hU => ?_) ?_
    · skip
      refine ⟨_, rfl, ?_⟩
      refine ⟨_, rfl, ?_⟩
      refine ⟨(by show 2 ≤ 1000; decide), made_er (fs := ["one", "other"]) (ws := [v1, v2]) rfl fun a Ha ha sa ea => ?_⟩
      have sa0 := s4.trans sa
      have ta := t4.same sa
      refine ⟨_, rfl, .inl ⟨rfl, _, SqL.of ta⟩, ?_⟩
      refine ⟨_, rfl, a, "Unlike", 3, _, rfl, (List.mem_of_getElem? (i := 32) rfl), ea, fun q Hb hq sb eq => ?_⟩
      refine ⟨(by show 1 ≤ sizeLine; decide), fun q2 hq2 => ?_⟩
      have sc := same_new (o := .lst [.str "Unlike"]) hq2
      have ec : (upd Hb q2 (.lst [.str "Unlike"])) q2 = some (.lst [.str "Unlike"]) := upd_same
      generalize (upd Hb q2 (.lst [.str "Unlike"])) = Hc at sc ec ⊢
      refine ⟨.list [.str "Unlike"], .list [.str "Unlike"], .lst (SqL.of (sc _ _ eq)) (.cons (.str _) .nil), .lst (SqL.of ec) (.cons (.str _) .nil), rfl, rfl, by decide, _, rfl, iteP (by decide +kernel) ?_⟩
      have sac := sb.trans sc
      refine ⟨_, rfl, a, _, _, _, rfl, ea.same sac, XUnlike, nUnlike _ (by simp), rfl, ?_⟩
      refine ⟨_, rfl, a, _, _, _, rfl, ea.same sac, XUnlike, nUnlike _ (by simp), rfl, ?_⟩
      refine ⟨(by show 2 ≤ sizeLine; decide), fun q3 hq3 => ?_⟩
      have sd := same_new (o := .lst [v1, v2]) hq3
      have ed : (upd Hc q3 (.lst [v1, v2])) q3 = some (.lst [v1, v2]) := upd_same
      refine ⟨_, rfl, ?_⟩
      refine ⟨_, rfl, ?_⟩
      refine ⟨(by show 2 ≤ sizeLine; decide), fun q4 hq4 => ?_⟩
      have se := same_new (o := .lst [v1, v2]) hq4
      have ee : (upd (upd Hc q3 (.lst [v1, v2])) q4 (.lst [v1, v2])) q4 = some (.lst [v1, v2]) := upd_same
      refine ⟨⟨q3, q4, [v1, v2], [v1, v2], rfl, rfl, se _ _ ed, ee, .cons (dm_of p1) (.cons (dm_of p2) (.nil))⟩, fun He ext => ?_⟩
      have sae := ((sac.trans sd).trans se).trans ext
      refine app_t (ta.same sae) (by decide) hl (sa0.trans sae) rfl fun H9 s9 t9 => hU _ _ ⟨a, rfl, s9, t9⟩
    rintro _ H5 ⟨_, rfl, s5, t5⟩
    -- Unlike
    refine seq_pair (fun σ' H' => ∃ a : Addr, σ' = [some (.ref g), some v1, some v2, some (.ref l), some (.ref a)] ∧ Same H H' ∧ Lt H' l 6) (fun U hU => ?_) ?_
    · skip
      refine ⟨_, rfl, ?_⟩
      refine ⟨_, rfl, ?_⟩
      refine ⟨rfl, made_er (fs := ["one", "other"]) (ws := [v1, v2]) rfl fun a Ha ha sa ea => ?_⟩
      have sa0 := s5.trans sa
      have ta := t5.same sa
      refine ⟨_, rfl, .inl ⟨rfl, _, SqL.of ta⟩, ?_⟩
      refine ⟨_, rfl, a, "Unlike", 3, _, rfl, (List.mem_of_getElem? (i := 32) rfl), ea, fun Hc sac => ?_⟩
      refine ⟨rfl, _, rfl, iteP (by decide +kernel) ?_⟩
      refine ⟨_, rfl, a, _, _, _, rfl, ea.same sac, XUnlike, nUnlike _ (by simp), rfl, ?_⟩
      refine ⟨_, rfl, a, _, _, _, rfl, ea.same sac, XUnlike, nUnlike _ (by simp), rfl, ?_⟩
      refine ⟨(by show 2 ≤ sizeLine; decide), fun q3 hq3 => ?_⟩
      have sd := same_new (o := .lst [v1, v2]) hq3
      have ed : (upd Hc q3 (.lst [v1, v2])) q3 = some (.lst [v1, v2]) := upd_same
      refine ⟨_, rfl, ?_⟩
      refine ⟨_, rfl, ?_⟩
      refine ⟨(by show 2 ≤ sizeLine; decide), fun q4 hq4 => ?_⟩
      have se := same_new (o := .lst [v1, v2]) hq4
      have ee : (upd (upd Hc q3 (.lst [v1, v2])) q4 (.lst [v1, v2])) q4 = some (.lst [v1, v2]) := upd_same
      refine ⟨⟨q3, q4, [v1, v2], [v1, v2], rfl, rfl, se _ _ ed, ee, .cons (dm_of p1) (.cons (dm_of p2) (.nil))⟩, fun He ext => ?_⟩
      have sae := ((sac.trans sd).trans se).trans ext
      refine app_t (ta.same sae) (by decide) hl (sa0.trans sae) rfl fun H9 s9 t9 => hU _ _ ⟨a, rfl, s9, t9⟩
    rintro _ H6 ⟨_, rfl, s6, t6⟩
    refine ⟨_, rfl, l, _, rfl, SqL.of t6, ?_⟩
    rw [all_reps]
    exact out _ s6
end
end K18
namespace K18
open PySem PySem.Spec PyProof.Rows L2 Par
abbrev slAll0 : Stmt := topS 67
section
variable {P : Program} {w : World} {K : PySem.W.Frag} {mg : Str → Option Value} {base : Heap}
abbrev nAll : List Str := ["_law_given_here", "_law_found"]
theorem scAll : FnScope nAll ["_law_given_here"] (defScope slAll0) := ⟨rfl, rfl, rfl, by decide +kernel, rfl, by decide +kernel, by decide +kernel⟩
def HasG (P : Program) (w : World) (K : PySem.W.Frag) (mg : Str → Option Value) (base : Heap) (x : Str) (lv : Nat) (ps : List Str) (sp : Sp) : Prop :=
  ∃ f fd, FnG P w K mg base CX0 lv f fd ps sp ∧ mg x = some (.ref f) ∧ PySem.W.keepIn K (.ref f) = true ∧ Binds K fd ps []
theorem ok_all {f : Addr} {fd : FuncData} (F : Fun K "_law_all_right" "_law_all_right" slAll0 f fd) (B : Bl mg) (EK : ExK K mg) (D0 : HasG P w K mg base "_law_part_0" 4 ["_law_given_here"] spPart) (D1 : HasG P w K mg base "_law_part_1" 4 ["_law_given_here"] spPart) (D2 : HasG P w K mg base "_law_part_2" 4 ["_law_given_here"] spPart) (D3 : HasG P w K mg base "_law_part_3" 4 ["_law_given_here"] spPart) (D4 : HasG P w K mg base "_law_part_4" 4 ["_law_given_here"] spPart) (D5 : HasG P w K mg base "_law_part_5" 4 ["_law_given_here"] spPart) : FnG P w K mg base CX0 5 f fd ["_law_given_here"] spPart := by
  obtain ⟨f0, fd0, G0, m0, k0, b0⟩ := D0
  obtain ⟨f1, fd1, G1, m1, k1, b1⟩ := D1
  obtain ⟨f2, fd2, G2, m2, k2, b2⟩ := D2
  obtain ⟨f3, fd3, G3, m3, k3, b3⟩ := D3
  obtain ⟨f4, fd4, G4, m4, k4, b4⟩ := D4
  obtain ⟨f5, fd5, G5, m5, k5, b5⟩ := D5
  refine fnG_of F scAll (fun vs H Q E h => ?_) (fun cdv A outer s H vs Q E gs hr h => ?_)
  · obtain ⟨g, rfl, _⟩ := h
    rfl
  · obtain ⟨g, rfl, hg, out⟩ := h
    have hu := hr.units
    have hu1 := hu_of hr
    refine ⟨_, (pss_cons (ps_set (i := 1) scAll.nd rfl (Or.inl rfl) (pe_lst pa_nil))
      (pss_cons (ps_expr (pe_bm PySem.F.plainAttrs_list PySem.F.slot_list_append PySem.F.type_list_append mt_append (pv 1) (pa_cons (pe_callG G0 gs hr (by rfl) m0 k0 b0 pass0 (pa_cons (pv 0) pa_nil)) pa_nil)))
      (pss_cons (ps_expr (pe_bm PySem.F.plainAttrs_list PySem.F.slot_list_append PySem.F.type_list_append mt_append (pv 1) (pa_cons (pe_callG G1 gs hr (by rfl) m1 k1 b1 pass0 (pa_cons (pv 0) pa_nil)) pa_nil)))
      (pss_cons (ps_expr (pe_bm PySem.F.plainAttrs_list PySem.F.slot_list_append PySem.F.type_list_append mt_append (pv 1) (pa_cons (pe_callG G2 gs hr (by rfl) m2 k2 b2 pass0 (pa_cons (pv 0) pa_nil)) pa_nil)))
      (pss_cons (ps_expr (pe_bm PySem.F.plainAttrs_list PySem.F.slot_list_append PySem.F.type_list_append mt_append (pv 1) (pa_cons (pe_callG G3 gs hr (by rfl) m3 k3 b3 pass0 (pa_cons (pv 0) pa_nil)) pa_nil)))
      (pss_cons (ps_expr (pe_bm PySem.F.plainAttrs_list PySem.F.slot_list_append PySem.F.type_list_append mt_append (pv 1) (pa_cons (pe_callG G4 gs hr (by rfl) m4 k4 b4 pass0 (pa_cons (pv 0) pa_nil)) pa_nil)))
      (pss_cons (ps_expr (pe_bm PySem.F.plainAttrs_list PySem.F.slot_list_append PySem.F.type_list_append mt_append (pv 1) (pa_cons (pe_callG G5 gs hr (by rfl) m5 k5 b5 pass0 (pa_cons (pv 0) pa_nil)) pa_nil)))
      (pss_one (ps_ret (pe_callB (cr_all rfl) (by rfl) B.all (by decide +kernel) (pa_cons (pv 1) pa_nil))))))))))), ?_⟩
    refine ⟨(by show 0 ≤ sizeLine; decide), fun l hl => ?_⟩
    have s0 : Same H (upd H l (.lst [])) := same_new hl
    have t0 : Lt (upd H l (.lst [])) l 0 := upd_same
    generalize (upd H l (.lst [])) = H0 at s0 t0 ⊢
    refine ⟨_, rfl, .inl ⟨rfl, _, SqL.of t0⟩, ?_⟩
    refine ⟨_, rfl, g, rfl, hg.same s0, fun Ha0 sa0 => ?_⟩
    refine app_t (t0.same sa0) (by decide) hl (s0.trans sa0) rfl fun H1 s1 t1 => ?_
    refine ⟨_, rfl, .inl ⟨rfl, _, SqL.of t1⟩, ?_⟩
    refine ⟨_, rfl, g, rfl, hg.same s1, fun Ha1 sa1 => ?_⟩
    refine app_t (t1.same sa1) (by decide) hl (s1.trans sa1) rfl fun H2 s2 t2 => ?_
    refine ⟨_, rfl, .inl ⟨rfl, _, SqL.of t2⟩, ?_⟩
    refine ⟨_, rfl, g, rfl, hg.same s2, fun Ha2 sa2 => ?_⟩
    refine app_t (t2.same sa2) (by decide) hl (s2.trans sa2) rfl fun H3 s3 t3 => ?_
    refine ⟨_, rfl, .inl ⟨rfl, _, SqL.of t3⟩, ?_⟩
    refine ⟨_, rfl, g, rfl, hg.same s3, fun Ha3 sa3 => ?_⟩
    refine app_t (t3.same sa3) (by decide) hl (s3.trans sa3) rfl fun H4 s4 t4 => ?_
    refine ⟨_, rfl, .inl ⟨rfl, _, SqL.of t4⟩, ?_⟩
    refine ⟨_, rfl, g, rfl, hg.same s4, fun Ha4 sa4 => ?_⟩
    refine app_t (t4.same sa4) (by decide) hl (s4.trans sa4) rfl fun H5 s5 t5 => ?_
    refine ⟨_, rfl, .inl ⟨rfl, _, SqL.of t5⟩, ?_⟩
    refine ⟨_, rfl, g, rfl, hg.same s5, fun Ha5 sa5 => ?_⟩
    refine app_t (t5.same sa5) (by decide) hl (s5.trans sa5) rfl fun H6 s6 t6 => ?_
    refine ⟨_, rfl, l, _, rfl, SqL.of t6, ?_⟩
    rw [all_reps]
    exact out _ s6
def spLaw (K : PySem.W.Frag) : Sp := fun vs H Q _ => ∃ (a : Addr) (ns : List Int), vs = [.ref a] ∧ SqL K H a (ns.map V.int) ∧ ns.length ≤ 63 ∧ ∀ H', Q (.bl true) H'
abbrev nLaw : List Str := ["_law_script", "_law_k", "_law_pot_here", "_law_turn"]
theorem scLaw : FnScope nLaw ["_law_script"] (defScope sLaw) := ⟨rfl, rfl, rfl, by decide +kernel, rfl, by decide +kernel, by decide +kernel⟩
theorem ok_law {f : Addr} {fd : FuncData} (F : Fun K "law" "law" sLaw f fd) (B : Bl mg) (DP : Has P w K mg base "_law_pot" 2 ["_law_script", "_law_k"] (spPot K)) (DG : Has P w K mg base "_law_given" 8 ["_law_pot_here"] spGiven) (DA : HasG P w K mg base "_law_all_right" 5 ["_law_given_here"] spPart): FnG P w K mg base CX0 9 f fd ["_law_script"] (spLaw K) := by
  obtain ⟨fP, fdP, GP, mP, kP, bP⟩ := DP
  obtain ⟨fG, fdG, GG, mG, kG, bG⟩ := DG
  obtain ⟨fA, fdA, GA, mA, kA, bA⟩ := DA
  refine fnG_of F scLaw (fun vs H Q E h => ?_) (fun cdv A outer s H vs Q E gs hr h => ?_)
  · obtain ⟨a, ns, rfl, _⟩ := h
    rfl
  · obtain ⟨a, ns, rfl, hS, hlen, out⟩ := h
    have r2 : Room 2 _ := hr.mono (by decide)
    have r5 : Room 5 _ := hr.mono (by decide)
    have r8 : Room 8 _ := hr
    refine ⟨_, (pss_cons (ps_for PassesOwn.never rfl (pi_range1 (by rfl) B.range (pa_cons (pe_callB (call_max2 rfl) (by rfl) B.max (by decide +kernel) (pa_cons pe_int (pa_cons (pe_callB (call_min2 rfl) (by rfl) B.min (by decide +kernel) (pa_cons pe_int (pa_cons (pe_callB call_len_seq (by rfl) B.len PySem.boot_len (pa_cons (pv 0) pa_nil)) pa_nil))) pa_nil))) pa_nil)) (pg_name (i := 1) scLaw.nd rfl (Or.inl rfl)) (pss_cons (ps_set (i := 2) scLaw.nd rfl (Or.inl rfl) (pe_call GP r2 (by rfl) mP kP bP .nil pass0 (pa_cons (pv 0) (pa_cons (pv 1) pa_nil))))
      (pss_one (ps_for PassesOwn.never rfl (pi_range1 (by rfl) B.range (pa_cons pe_int pa_nil)) (pg_name (i := 3) scLaw.nd rfl (Or.inl rfl)) (pss_one (ps_if (pt_not (pt_val (pe_callG GA gs r5 (by rfl) mA kA bA pass0 (pa_cons (pe_call GG r8 (by rfl) mG kG bG .nil pass0 (pa_cons (pv 2) pa_nil)) pa_nil)))) (pss_one (ps_ret pe_bl)) pss_nil))))))
      (pss_one (ps_ret pe_bl))), ?_⟩
    refine ⟨_, rfl, a, _, rfl, .inl hS, _, _, rfl, _, _, rfl, _, rfl, ?_, ?_, ?_⟩
    · rw [List.length_map]
      split <;> split <;> omega
    · rw [List.length_map]
      split <;> split <;> omega
    refine for_range (lo := 0) (fun i σ H' => Same H H' ∧ ∃ (kv pv tv : Option V), σ = [some (.ref a), kv, pv, tv]) ⟨Same.refl _, none, none, none, rfl⟩ ?_ ?_
    · rintro i σ H2 hi ⟨s2, kv, pv0, tv, rfl⟩
      have hi8 : i < 6 := by
        rw [List.length_map] at hi
        revert hi
        split <;> split <;> omega
      refine ⟨_, rfl, _, rfl, a, ns, i, (by rw [Int.zero_add]; rfl), s2.seq hS, by omega, fun p H3 hp s3 pot3 => ?_⟩
      have s03 := s2.trans s3
      refine ⟨4, rfl, by decide, by decide, ?_⟩
      refine for_range (lo := 0) (n := 4) (fun j σ H' => Same H H' ∧ PotAt H' p ∧ ∃ (tv : Option V), σ = [some (.ref a), some (.int (0 + (i : Int))), some (.ref p), tv]) ⟨s03, pot3, tv, rfl⟩ ?_ ?_
      · rintro j σ H4 hj ⟨s4, pot4, tv4, rfl⟩
        refine ⟨_, rfl, p, rfl, pot4, fun g H5 b5 pot5 gv gp => ?_⟩
        refine ⟨g, rfl, gv, fun H6 s6 => ?_⟩
        have s6' : Same H H6 := fun z o e => s6 _ _ (b5 _ _ (ne_of_none (s2 _ _ e) hp) (s4 z o e))
        refine ⟨_, rfl, iteF ?_⟩
        exact ⟨s6', pot5.same s6, _, rfl⟩
      · rintro σ H7 ⟨s7, pot7, tv7, rfl⟩
        exact ⟨s7, _, _, _, rfl⟩
    · rintro σ H8 ⟨s8, kv, pv0, tv, rfl⟩
      exact out H8
end
end K18
namespace K18
open PySem PySem.Spec PyProof.Rows L2 Par
theorem kb_size {K : PySem.W.Frag} {x : Str} {st : Stmt} {f : Addr} {fd : FuncData} {y : Str} (F : FunD K x x (defArgs st) (defBody st) (defScope st) [] [("size", .int 40)] f fd)
    (h : ∀ (D : Addr) (doc pm : Value) (an : Option Addr) (cdv ct u v : Value), bindArgs (PySem.W.fnOf x x (defArgs st) (defBody st) (defScope st) .none (.ref D) doc pm an cdv ct) ⟨[u], [("size", v)]⟩ = pure [(y, u), ("size", v)]) :
    KBn K fd [y, "size"] 1 ["size"] (fun us ws => us ++ ws) (fun vs zs => vs ++ zs) := by
  obtain ⟨oc, od, dV, kV, doc, pm, an, cdv, ct, osl, rfl, lk, hcd, hD, hK⟩ := F.ex
  rcases hD with ⟨_, rfl⟩ | ⟨e, _⟩
  · rcases hK with e | ⟨D, rfl, hq⟩
    · cases e
    · refine ⟨fun s us ws X l1 l2 => ?_, fun r1 r2 => r1.append r2⟩
      match us, ws, l1, l2 with
      | [u], [v], _, _ => exact .of_eq (h D doc pm an cdv ct u v)
  · exact absurd rfl e
theorem kb_one {K : PySem.W.Frag} {x q : Str} {st : Stmt} {f : Addr} {fd : FuncData} {y : Str} (F : Fun K x q st f fd)
    (h : ∀ (kV doc pm : Value) (an : Option Addr) (cdv ct u v : Value), bindArgs (PySem.W.fnOf x q (defArgs st) (defBody st) (defScope st) .none kV doc pm an cdv ct) ⟨[u], [(y, v)]⟩ = pure ([("self", u), (y, v)] : List (Str × Value))) :
    KBn K fd ["self", y] 1 [y] (fun us ws => us ++ ws) (fun vs zs => vs ++ zs) := by
  obtain ⟨oc, od, kV, doc, pm, an, cdv, ct, osl, rfl, lk, hcd⟩ := F.ex
  refine ⟨fun s us ws X l1 l2 => ?_, fun r1 r2 => r1.append r2⟩
  match us, ws, l1, l2 with
  | [u], [v], _, _ => exact .of_eq (h kV doc pm an cdv ct u v)
theorem kb_ini {K : PySem.W.Frag} {f e : Addr} {fd : FuncData} {n : Nat} {ks : List Str} (F : FunD K "__init__" "Board.__init__" (defArgs mInit) (defBody mInit) (defScope mInit) [] [("up", .ref e)] f fd)
    (h : ∀ (D : Addr) (doc pm : Value) (an : Option Addr) (cdv ct : Value) (us ws : List Value), us.length = n → ws.length = ks.length →
      bindArgs (PySem.W.fnOf "__init__" "Board.__init__" (defArgs mInit) (defBody mInit) (defScope mInit) .none (.ref D) doc pm an cdv ct) ⟨us, ks.zip ws⟩ = pure ((["self", "size", "up"] : List Str).zip (us ++ ws))) :
    KBn K fd ["self", "size", "up"] n ks (fun us ws => us ++ ws) (fun vs zs => vs ++ zs) := by
  obtain ⟨oc, od, dV, kV, doc, pm, an, cdv, ct, osl, rfl, lk, hcd, hD, hK⟩ := F.ex
  rcases hD with ⟨_, rfl⟩ | ⟨e, _⟩
  · rcases hK with e | ⟨D, rfl, hq⟩
    · cases e
    · exact ⟨fun s us ws X l1 l2 => .of_eq (h D doc pm an cdv ct us ws l1 l2), fun r1 r2 => r1.append r2⟩
  · exact absurd rfl e
theorem all_mk {l : PySem.W.OpenLaw} {w : World} {K : PySem.W.Frag} {h : Heap} {mg : Str → Option Value} {fa : Addr} (X : K.In h) (G : h.Ns mainGlobals mg) (hfa : mg "law" = some (.ref fa))
    {f1 : Addr} {oc1 kV1 dc1 pm1 cd1 ct1 : Value} {od1 an1 : Option Addr} {sl1 : Array (Option Value)}
    {f2 : Addr} {oc2 kV2 dc2 pm2 cd2 ct2 : Value} {od2 an2 : Option Addr} {sl2 : Array (Option Value)}
    {f3 : Addr} {oc3 kV3 dc3 pm3 cd3 ct3 : Value} {od3 an3 : Option Addr} {sl3 : Array (Option Value)}
    {f5 : Addr} {oc5 kV5 dc5 pm5 cd5 ct5 : Value} {od5 an5 : Option Addr} {sl5 : Array (Option Value)}
    {f20 : Addr} {oc20 kV20 dc20 pm20 cd20 ct20 : Value} {od20 an20 : Option Addr} {sl20 : Array (Option Value)}
    {f21 : Addr} {oc21 kV21 dc21 pm21 cd21 ct21 : Value} {od21 an21 : Option Addr} {sl21 : Array (Option Value)}
    {f22 : Addr} {oc22 kV22 dc22 pm22 cd22 ct22 : Value} {od22 an22 : Option Addr} {sl22 : Array (Option Value)}
    {f23 : Addr} {oc23 kV23 dc23 pm23 cd23 ct23 : Value} {od23 an23 : Option Addr} {sl23 : Array (Option Value)}
    {f24 : Addr} {oc24 kV24 dc24 pm24 cd24 ct24 : Value} {od24 an24 : Option Addr} {sl24 : Array (Option Value)}
    {f25 : Addr} {oc25 kV25 dc25 pm25 cd25 ct25 : Value} {od25 an25 : Option Addr} {sl25 : Array (Option Value)}
    {f26 : Addr} {oc26 kV26 dc26 pm26 cd26 ct26 : Value} {od26 an26 : Option Addr} {sl26 : Array (Option Value)}
    {f27 : Addr} {oc27 kV27 dc27 pm27 cd27 ct27 : Value} {od27 an27 : Option Addr} {sl27 : Array (Option Value)}
    {f30 : Addr} {oc30 kV30 dc30 pm30 cd30 ct30 : Value} {od30 an30 : Option Addr} {sl30 : Array (Option Value)}
    {f31 : Addr} {oc31 kV31 dc31 pm31 cd31 ct31 : Value} {od31 an31 : Option Addr} {sl31 : Array (Option Value)}
    {f32 : Addr} {oc32 kV32 dc32 pm32 cd32 ct32 : Value} {od32 an32 : Option Addr} {sl32 : Array (Option Value)}
    {f33 : Addr} {oc33 kV33 dc33 pm33 cd33 ct33 : Value} {od33 an33 : Option Addr} {sl33 : Array (Option Value)}
    {f34 : Addr} {oc34 kV34 dc34 pm34 cd34 ct34 : Value} {od34 an34 : Option Addr} {sl34 : Array (Option Value)}
    {f35 : Addr} {oc35 kV35 dc35 pm35 cd35 ct35 : Value} {od35 an35 : Option Addr} {sl35 : Array (Option Value)}
    {f36 : Addr} {oc36 kV36 dc36 pm36 cd36 ct36 : Value} {od36 an36 : Option Addr} {sl36 : Array (Option Value)}
    {f37 : Addr} {oc37 kV37 dc37 pm37 cd37 ct37 : Value} {od37 an37 : Option Addr} {sl37 : Array (Option Value)}
    {f38 : Addr} {oc38 kV38 dc38 pm38 cd38 ct38 : Value} {od38 an38 : Option Addr} {sl38 : Array (Option Value)}
    {f4 D4 : Addr} {t4 : Tok} {oc4 dc4 pm4 cd4 ct4 : Value} {od4 an4 : Option Addr} {sl4 : Array (Option Value)}
    {f6 D6 : Addr} {t6 : Tok} {oc6 dc6 pm6 cd6 ct6 : Value} {od6 an6 : Option Addr} {sl6 : Array (Option Value)}
    {C : Addr}
    {fI DI e : Addr} {ocI dcI pmI cdI ctI : Value} {odI anI : Option Addr} {slI : Array (Option Value)} {ode : Option Addr} {ne : Nat} {sle : Array (Option Value)}
    {tM : Tok}
    {zNoSize : Addr}
    {fNoSize : Addr} {ocNoSize kVNoSize dcNoSize pmNoSize cdNoSize ctNoSize : Value} {odNoSize anNoSize : Option Addr} {slNoSize : Array (Option Value)}
    {zNoCell : Addr}
    {fNoCell : Addr} {ocNoCell kVNoCell dcNoCell pmNoCell cdNoCell ctNoCell : Value} {odNoCell anNoCell : Option Addr} {slNoCell : Array (Option Value)}
    {zNoCells : Addr}
    {fNoCells : Addr} {ocNoCells kVNoCells dcNoCells pmNoCells cdNoCells ctNoCells : Value} {odNoCells anNoCells : Option Addr} {slNoCells : Array (Option Value)}
    {zNoFlip : Addr}
    {fNoFlip : Addr} {ocNoFlip kVNoFlip dcNoFlip pmNoFlip cdNoFlip ctNoFlip : Value} {odNoFlip anNoFlip : Option Addr} {slNoFlip : Array (Option Value)}
    {zNoTable : Addr}
    {fNoTable : Addr} {ocNoTable kVNoTable dcNoTable pmNoTable cdNoTable ctNoTable : Value} {odNoTable anNoTable : Option Addr} {slNoTable : Array (Option Value)}
    {zNoTime : Addr}
    {fNoTime : Addr} {ocNoTime kVNoTime dcNoTime pmNoTime cdNoTime ctNoTime : Value} {odNoTime anNoTime : Option Addr} {slNoTime : Array (Option Value)}
    {zNoStamp : Addr}
    {fNoStamp : Addr} {ocNoStamp kVNoStamp dcNoStamp pmNoStamp cdNoStamp ctNoStamp : Value} {odNoStamp anNoStamp : Option Addr} {slNoStamp : Array (Option Value)}
    {zNoCount : Addr}
    {fNoCount : Addr} {ocNoCount kVNoCount dcNoCount pmNoCount cdNoCount ctNoCount : Value} {odNoCount anNoCount : Option Addr} {slNoCount : Array (Option Value)}
    {zNoProgram : Addr}
    {fNoProgram : Addr} {ocNoProgram kVNoProgram dcNoProgram pmNoProgram cdNoProgram ctNoProgram : Value} {odNoProgram anNoProgram : Option Addr} {slNoProgram : Array (Option Value)}
    {zNoHands : Addr}
    {fNoHands : Addr} {ocNoHands kVNoHands dcNoHands pmNoHands cdNoHands ctNoHands : Value} {odNoHands anNoHands : Option Addr} {slNoHands : Array (Option Value)}
    {zNoEntries : Addr}
    {fNoEntries : Addr} {ocNoEntries kVNoEntries dcNoEntries pmNoEntries cdNoEntries ctNoEntries : Value} {odNoEntries anNoEntries : Option Addr} {slNoEntries : Array (Option Value)}
    {zNoName : Addr}
    {fNoName : Addr} {ocNoName kVNoName dcNoName pmNoName cdNoName ctNoName : Value} {odNoName anNoName : Option Addr} {slNoName : Array (Option Value)}
    {zNoText : Addr}
    {fNoText : Addr} {ocNoText kVNoText dcNoText pmNoText cdNoText ctNoText : Value} {odNoText anNoText : Option Addr} {slNoText : Array (Option Value)}
    {zNoCommand : Addr}
    {fNoCommand : Addr} {ocNoCommand kVNoCommand dcNoCommand pmNoCommand cdNoCommand ctNoCommand : Value} {odNoCommand anNoCommand : Option Addr} {slNoCommand : Array (Option Value)}
    {zHalted : Addr}
    {fHalted : Addr} {ocHalted kVHalted dcHalted pmHalted cdHalted ctHalted : Value} {odHalted anHalted : Option Addr} {slHalted : Array (Option Value)}
    {zNoEntry : Addr}
    {fNoEntry : Addr} {ocNoEntry kVNoEntry dcNoEntry pmNoEntry cdNoEntry ctNoEntry : Value} {odNoEntry anNoEntry : Option Addr} {slNoEntry : Array (Option Value)}
    {zNoProcedure : Addr}
    {fNoProcedure : Addr} {ocNoProcedure kVNoProcedure dcNoProcedure pmNoProcedure cdNoProcedure ctNoProcedure : Value} {odNoProcedure anNoProcedure : Option Addr} {slNoProcedure : Array (Option Value)}
    {zNoHand : Addr}
    {fNoHand : Addr} {ocNoHand kVNoHand dcNoHand pmNoHand cdNoHand ctNoHand : Value} {odNoHand anNoHand : Option Addr} {slNoHand : Array (Option Value)}
    {zNoHistory : Addr}
    {fNoHistory : Addr} {ocNoHistory kVNoHistory dcNoHistory pmNoHistory cdNoHistory ctNoHistory : Value} {odNoHistory anNoHistory : Option Addr} {slNoHistory : Array (Option Value)}
    {zTaken : Addr}
    {fTaken : Addr} {ocTaken kVTaken dcTaken pmTaken cdTaken ctTaken : Value} {odTaken anTaken : Option Addr} {slTaken : Array (Option Value)}
    {zStanding : Addr}
    {fStanding : Addr} {ocStanding kVStanding dcStanding pmStanding cdStanding ctStanding : Value} {odStanding anStanding : Option Addr} {slStanding : Array (Option Value)}
    {zRemoved : Addr}
    {fRemoved : Addr} {ocRemoved kVRemoved dcRemoved pmRemoved cdRemoved ctRemoved : Value} {odRemoved anRemoved : Option Addr} {slRemoved : Array (Option Value)}
    {zFolded : Addr}
    {fFolded : Addr} {ocFolded kVFolded dcFolded pmFolded cdFolded ctFolded : Value} {odFolded anFolded : Option Addr} {slFolded : Array (Option Value)}
    {zClash : Addr}
    {fClash : Addr} {ocClash kVClash dcClash pmClash cdClash ctClash : Value} {odClash anClash : Option Addr} {slClash : Array (Option Value)}
    {zNotOwn : Addr}
    {fNotOwn : Addr} {ocNotOwn kVNotOwn dcNotOwn pmNotOwn cdNotOwn ctNotOwn : Value} {odNotOwn anNotOwn : Option Addr} {slNotOwn : Array (Option Value)}
    {zNotHeard : Addr}
    {fNotHeard : Addr} {ocNotHeard kVNotHeard dcNotHeard pmNotHeard cdNotHeard ctNotHeard : Value} {odNotHeard anNotHeard : Option Addr} {slNotHeard : Array (Option Value)}
    {zBehind : Addr}
    {fBehind : Addr} {ocBehind kVBehind dcBehind pmBehind cdBehind ctBehind : Value} {odBehind anBehind : Option Addr} {slBehind : Array (Option Value)}
    {zUnchanged : Addr}
    {fUnchanged : Addr} {ocUnchanged kVUnchanged dcUnchanged pmUnchanged cdUnchanged ctUnchanged : Value} {odUnchanged anUnchanged : Option Addr} {slUnchanged : Array (Option Value)}
    {zKnown : Addr}
    {fKnown : Addr} {ocKnown kVKnown dcKnown pmKnown cdKnown ctKnown : Value} {odKnown anKnown : Option Addr} {slKnown : Array (Option Value)}
    {zUnknown : Addr}
    {fUnknown : Addr} {ocUnknown kVUnknown dcUnknown pmUnknown cdUnknown ctUnknown : Value} {odUnknown anUnknown : Option Addr} {slUnknown : Array (Option Value)}
    {zTooWide : Addr}
    {fTooWide : Addr} {ocTooWide kVTooWide dcTooWide pmTooWide cdTooWide ctTooWide : Value} {odTooWide anTooWide : Option Addr} {slTooWide : Array (Option Value)}
    {zTooMany : Addr}
    {fTooMany : Addr} {ocTooMany kVTooMany dcTooMany pmTooMany cdTooMany ctTooMany : Value} {odTooMany anTooMany : Option Addr} {slTooMany : Array (Option Value)}
    {zUnlike : Addr}
    {fUnlike : Addr} {ocUnlike kVUnlike dcUnlike pmUnlike cdUnlike ctUnlike : Value} {odUnlike anUnlike : Option Addr} {slUnlike : Array (Option Value)}
    (a1 : PySem.W.nsIn K mainGlobals "is_integer" = some (some (.ref f1)))
    (l1 : K.lookup f1 = some ⟨oc1, od1, .func (PySem.W.fnOf "is_integer" "is_integer" (defArgs sInteger) (defBody sInteger) (defScope sInteger) .none kV1 dc1 pm1 an1 cd1 ct1), sl1⟩)
    (c1 : PySem.W.codeIn K cd1 "is_integer" = true)
    (k1 : PySem.W.keepIn K (.ref f1) = true)
    (a2 : PySem.W.nsIn K mainGlobals "is_integer_between" = some (some (.ref f2)))
    (l2 : K.lookup f2 = some ⟨oc2, od2, .func (PySem.W.fnOf "is_integer_between" "is_integer_between" (defArgs sBetween) (defBody sBetween) (defScope sBetween) .none kV2 dc2 pm2 an2 cd2 ct2), sl2⟩)
    (c2 : PySem.W.codeIn K cd2 "is_integer_between" = true)
    (k2 : PySem.W.keepIn K (.ref f2) = true)
    (a3 : PySem.W.nsIn K mainGlobals "is_size" = some (some (.ref f3)))
    (l3 : K.lookup f3 = some ⟨oc3, od3, .func (PySem.W.fnOf "is_size" "is_size" (defArgs sIsSize) (defBody sIsSize) (defScope sIsSize) .none kV3 dc3 pm3 an3 cd3 ct3), sl3⟩)
    (c3 : PySem.W.codeIn K cd3 "is_size" = true)
    (k3 : PySem.W.keepIn K (.ref f3) = true)
    (a5 : PySem.W.nsIn K mainGlobals "are_cells" = some (some (.ref f5)))
    (l5 : K.lookup f5 = some ⟨oc5, od5, .func (PySem.W.fnOf "are_cells" "are_cells" (defArgs sAre) (defBody sAre) (defScope sAre) .none kV5 dc5 pm5 an5 cd5 ct5), sl5⟩)
    (c5 : PySem.W.codeIn K cd5 "are_cells" = true)
    (k5 : PySem.W.keepIn K (.ref f5) = true)
    (a20 : PySem.W.nsIn K mainGlobals "_law_pot" = some (some (.ref f20)))
    (l20 : K.lookup f20 = some ⟨oc20, od20, .func (PySem.W.fnOf "_law_pot" "_law_pot" (defArgs sPot) (defBody sPot) (defScope sPot) .none kV20 dc20 pm20 an20 cd20 ct20), sl20⟩)
    (c20 : PySem.W.codeIn K cd20 "_law_pot" = true)
    (k20 : PySem.W.keepIn K (.ref f20) = true)
    (a21 : PySem.W.nsIn K mainGlobals "_law_draw" = some (some (.ref f21)))
    (l21 : K.lookup f21 = some ⟨oc21, od21, .func (PySem.W.fnOf "_law_draw" "_law_draw" (defArgs sDraw) (defBody sDraw) (defScope sDraw) .none kV21 dc21 pm21 an21 cd21 ct21), sl21⟩)
    (c21 : PySem.W.codeIn K cd21 "_law_draw" = true)
    (k21 : PySem.W.keepIn K (.ref f21) = true)
    (a22 : PySem.W.nsIn K mainGlobals "_law_spots" = some (some (.ref f22)))
    (l22 : K.lookup f22 = some ⟨oc22, od22, .func (PySem.W.fnOf "_law_spots" "_law_spots" (defArgs sSpots) (defBody sSpots) (defScope sSpots) .none kV22 dc22 pm22 an22 cd22 ct22), sl22⟩)
    (c22 : PySem.W.codeIn K cd22 "_law_spots" = true)
    (k22 : PySem.W.keepIn K (.ref f22) = true)
    (a23 : PySem.W.nsIn K mainGlobals "_law_any_thing" = some (some (.ref f23)))
    (l23 : K.lookup f23 = some ⟨oc23, od23, .func (PySem.W.fnOf "_law_any_thing" "_law_any_thing" (defArgs slAny0) (defBody slAny0) (defScope slAny0) .none kV23 dc23 pm23 an23 cd23 ct23), sl23⟩)
    (c23 : PySem.W.codeIn K cd23 "_law_any_thing" = true)
    (k23 : PySem.W.keepIn K (.ref f23) = true)
    (a24 : PySem.W.nsIn K mainGlobals "_law_base" = some (some (.ref f24)))
    (l24 : K.lookup f24 = some ⟨oc24, od24, .func (PySem.W.fnOf "_law_base" "_law_base" (defArgs slBase0) (defBody slBase0) (defScope slBase0) .none kV24 dc24 pm24 an24 cd24 ct24), sl24⟩)
    (c24 : PySem.W.codeIn K cd24 "_law_base" = true)
    (k24 : PySem.W.keepIn K (.ref f24) = true)
    (a25 : PySem.W.nsIn K mainGlobals "_law_first_words" = some (some (.ref f25)))
    (l25 : K.lookup f25 = some ⟨oc25, od25, .func (PySem.W.fnOf "_law_first_words" "_law_first_words" (defArgs slFirst0) (defBody slFirst0) (defScope slFirst0) .none kV25 dc25 pm25 an25 cd25 ct25), sl25⟩)
    (c25 : PySem.W.codeIn K cd25 "_law_first_words" = true)
    (k25 : PySem.W.keepIn K (.ref f25) = true)
    (a26 : PySem.W.nsIn K mainGlobals "_law_last_words" = some (some (.ref f26)))
    (l26 : K.lookup f26 = some ⟨oc26, od26, .func (PySem.W.fnOf "_law_last_words" "_law_last_words" (defArgs slLast0) (defBody slLast0) (defScope slLast0) .none kV26 dc26 pm26 an26 cd26 ct26), sl26⟩)
    (c26 : PySem.W.codeIn K cd26 "_law_last_words" = true)
    (k26 : PySem.W.keepIn K (.ref f26) = true)
    (a27 : PySem.W.nsIn K mainGlobals "_law_words" = some (some (.ref f27)))
    (l27 : K.lookup f27 = some ⟨oc27, od27, .func (PySem.W.fnOf "_law_words" "_law_words" (defArgs slWords0) (defBody slWords0) (defScope slWords0) .none kV27 dc27 pm27 an27 cd27 ct27), sl27⟩)
    (c27 : PySem.W.codeIn K cd27 "_law_words" = true)
    (k27 : PySem.W.keepIn K (.ref f27) = true)
    (a30 : PySem.W.nsIn K mainGlobals "_law_part_0" = some (some (.ref f30)))
    (l30 : K.lookup f30 = some ⟨oc30, od30, .func (PySem.W.fnOf "_law_part_0" "_law_part_0" (defArgs slPart0_) (defBody slPart0_) (defScope slPart0_) .none kV30 dc30 pm30 an30 cd30 ct30), sl30⟩)
    (c30 : PySem.W.codeIn K cd30 "_law_part_0" = true)
    (k30 : PySem.W.keepIn K (.ref f30) = true)
    (a31 : PySem.W.nsIn K mainGlobals "_law_part_1" = some (some (.ref f31)))
    (l31 : K.lookup f31 = some ⟨oc31, od31, .func (PySem.W.fnOf "_law_part_1" "_law_part_1" (defArgs slPart1_) (defBody slPart1_) (defScope slPart1_) .none kV31 dc31 pm31 an31 cd31 ct31), sl31⟩)
    (c31 : PySem.W.codeIn K cd31 "_law_part_1" = true)
    (k31 : PySem.W.keepIn K (.ref f31) = true)
    (a32 : PySem.W.nsIn K mainGlobals "_law_part_2" = some (some (.ref f32)))
    (l32 : K.lookup f32 = some ⟨oc32, od32, .func (PySem.W.fnOf "_law_part_2" "_law_part_2" (defArgs slPart2_) (defBody slPart2_) (defScope slPart2_) .none kV32 dc32 pm32 an32 cd32 ct32), sl32⟩)
    (c32 : PySem.W.codeIn K cd32 "_law_part_2" = true)
    (k32 : PySem.W.keepIn K (.ref f32) = true)
    (a33 : PySem.W.nsIn K mainGlobals "_law_part_3" = some (some (.ref f33)))
    (l33 : K.lookup f33 = some ⟨oc33, od33, .func (PySem.W.fnOf "_law_part_3" "_law_part_3" (defArgs slPart3_) (defBody slPart3_) (defScope slPart3_) .none kV33 dc33 pm33 an33 cd33 ct33), sl33⟩)
    (c33 : PySem.W.codeIn K cd33 "_law_part_3" = true)
    (k33 : PySem.W.keepIn K (.ref f33) = true)
    (a34 : PySem.W.nsIn K mainGlobals "_law_part_4" = some (some (.ref f34)))
    (l34 : K.lookup f34 = some ⟨oc34, od34, .func (PySem.W.fnOf "_law_part_4" "_law_part_4" (defArgs slPart4_) (defBody slPart4_) (defScope slPart4_) .none kV34 dc34 pm34 an34 cd34 ct34), sl34⟩)
    (c34 : PySem.W.codeIn K cd34 "_law_part_4" = true)
    (k34 : PySem.W.keepIn K (.ref f34) = true)
    (a35 : PySem.W.nsIn K mainGlobals "_law_part_5" = some (some (.ref f35)))
    (l35 : K.lookup f35 = some ⟨oc35, od35, .func (PySem.W.fnOf "_law_part_5" "_law_part_5" (defArgs slPart5_) (defBody slPart5_) (defScope slPart5_) .none kV35 dc35 pm35 an35 cd35 ct35), sl35⟩)
    (c35 : PySem.W.codeIn K cd35 "_law_part_5" = true)
    (k35 : PySem.W.keepIn K (.ref f35) = true)
    (a36 : PySem.W.nsIn K mainGlobals "_law_given" = some (some (.ref f36)))
    (l36 : K.lookup f36 = some ⟨oc36, od36, .func (PySem.W.fnOf "_law_given" "_law_given" (defArgs slGiven0) (defBody slGiven0) (defScope slGiven0) .none kV36 dc36 pm36 an36 cd36 ct36), sl36⟩)
    (c36 : PySem.W.codeIn K cd36 "_law_given" = true)
    (k36 : PySem.W.keepIn K (.ref f36) = true)
    (a37 : PySem.W.nsIn K mainGlobals "_law_all_right" = some (some (.ref f37)))
    (l37 : K.lookup f37 = some ⟨oc37, od37, .func (PySem.W.fnOf "_law_all_right" "_law_all_right" (defArgs slAll0) (defBody slAll0) (defScope slAll0) .none kV37 dc37 pm37 an37 cd37 ct37), sl37⟩)
    (c37 : PySem.W.codeIn K cd37 "_law_all_right" = true)
    (k37 : PySem.W.keepIn K (.ref f37) = true)
    (a38 : PySem.W.nsIn K mainGlobals "law" = some (some (.ref f38)))
    (l38 : K.lookup f38 = some ⟨oc38, od38, .func (PySem.W.fnOf "law" "law" (defArgs sLaw) (defBody sLaw) (defScope sLaw) .none kV38 dc38 pm38 an38 cd38 ct38), sl38⟩)
    (c38 : PySem.W.codeIn K cd38 "law" = true)
    (k38 : PySem.W.keepIn K (.ref f38) = true)
    (a4 : PySem.W.nsIn K mainGlobals "is_cell" = some (some (.ref f4)))
    (l4 : K.lookup f4 = some ⟨oc4, od4, .func (PySem.W.fnOf "is_cell" "is_cell" (defArgs sIsCell) (defBody sIsCell) (defScope sIsCell) .none (.ref D4) dc4 pm4 an4 cd4 ct4), sl4⟩)
    (d4 : PySem.W.nsIn K D4 "size" = some (some (.int 40 t4)))
    (c4 : PySem.W.codeIn K cd4 "is_cell" = true)
    (k4 : PySem.W.keepIn K (.ref f4) = true)
    (a6 : PySem.W.nsIn K mainGlobals "cell_tuple" = some (some (.ref f6)))
    (l6 : K.lookup f6 = some ⟨oc6, od6, .func (PySem.W.fnOf "cell_tuple" "cell_tuple" (defArgs sCells) (defBody sCells) (defScope sCells) .none (.ref D6) dc6 pm6 an6 cd6 ct6), sl6⟩)
    (d6 : PySem.W.nsIn K D6 "size" = some (some (.int 40 t6)))
    (c6 : PySem.W.codeIn K cd6 "cell_tuple" = true)
    (k6 : PySem.W.keepIn K (.ref f6) = true)
    (aC : PySem.W.nsIn K mainGlobals "Board" = some (some (.ref C)))
    (pgC : PySem.W.plainGet K C Str.empty = true)
    (hdC : PySem.W.hasDictIn K C = true)
    (poC : PySem.W.plainOver K C = true)
    (saC : PySem.W.findIn K (.ref C) "__setattr__" = some (some (.builtin "object.__setattr__")))
    (mkC : PySem.W.makesIn K C = true)
    (kcC : PySem.W.keepIn K (.ref C) = true)
    (nf0C : PySem.W.findIn K (.ref C) "states" = some none)
    (iI : PySem.W.findIn K (.ref C) "__init__" = some (some (.ref fI)))
    (nI : PySem.W.isFn K (.ref fI) = true)
    (lI : K.lookup fI = some ⟨ocI, odI, .func (PySem.W.fnOf "__init__" "Board.__init__" (defArgs mInit) (defBody mInit) (defScope mInit) .none (.ref DI) dcI pmI anI cdI ctI), slI⟩)
    (dI : PySem.W.nsIn K DI "up" = some (some (.ref e)))
    (le : K.lookup e = some ⟨.type "tuple", ode, .seq #[] ne, sle⟩)
    (cI : PySem.W.codeIn K cdI "Board.__init__" = true)
    (kI : PySem.W.keepIn K (.ref fI) = true)
    (c_M : PySem.W.nsIn K mainGlobals "MOST_CELLS" = some (some (.int 40 tM)))
    (aNoSize : PySem.W.nsIn K mainGlobals "NoSize" = some (some (.ref zNoSize)))
    (iNoSize : PySem.W.findIn K (.ref zNoSize) "__init__" = some (some (.ref fNoSize)))
    (tNoSize : PySem.W.typeIn K (.ref fNoSize) = some (.type "function"))
    (lNoSize : K.lookup fNoSize = some ⟨ocNoSize, odNoSize, .func (PySem.W.fnOf "__init__" "NoSize.__init__" (defArgs siNoSize) (defBody siNoSize) (defScope siNoSize) .none kVNoSize dcNoSize pmNoSize anNoSize cdNoSize ctNoSize), slNoSize⟩)
    (cNoSize : PySem.W.codeIn K cdNoSize "NoSize.__init__" = true)
    (kNoSize : PySem.W.keepIn K (.ref fNoSize) = true)
    (aNoCell : PySem.W.nsIn K mainGlobals "NoCell" = some (some (.ref zNoCell)))
    (iNoCell : PySem.W.findIn K (.ref zNoCell) "__init__" = some (some (.ref fNoCell)))
    (tNoCell : PySem.W.typeIn K (.ref fNoCell) = some (.type "function"))
    (lNoCell : K.lookup fNoCell = some ⟨ocNoCell, odNoCell, .func (PySem.W.fnOf "__init__" "NoCell.__init__" (defArgs siNoCell) (defBody siNoCell) (defScope siNoCell) .none kVNoCell dcNoCell pmNoCell anNoCell cdNoCell ctNoCell), slNoCell⟩)
    (cNoCell : PySem.W.codeIn K cdNoCell "NoCell.__init__" = true)
    (kNoCell : PySem.W.keepIn K (.ref fNoCell) = true)
    (aNoCells : PySem.W.nsIn K mainGlobals "NoCells" = some (some (.ref zNoCells)))
    (iNoCells : PySem.W.findIn K (.ref zNoCells) "__init__" = some (some (.ref fNoCells)))
    (tNoCells : PySem.W.typeIn K (.ref fNoCells) = some (.type "function"))
    (lNoCells : K.lookup fNoCells = some ⟨ocNoCells, odNoCells, .func (PySem.W.fnOf "__init__" "NoCells.__init__" (defArgs siNoCells) (defBody siNoCells) (defScope siNoCells) .none kVNoCells dcNoCells pmNoCells anNoCells cdNoCells ctNoCells), slNoCells⟩)
    (cNoCells : PySem.W.codeIn K cdNoCells "NoCells.__init__" = true)
    (kNoCells : PySem.W.keepIn K (.ref fNoCells) = true)
    (aNoFlip : PySem.W.nsIn K mainGlobals "NoFlip" = some (some (.ref zNoFlip)))
    (iNoFlip : PySem.W.findIn K (.ref zNoFlip) "__init__" = some (some (.ref fNoFlip)))
    (tNoFlip : PySem.W.typeIn K (.ref fNoFlip) = some (.type "function"))
    (lNoFlip : K.lookup fNoFlip = some ⟨ocNoFlip, odNoFlip, .func (PySem.W.fnOf "__init__" "NoFlip.__init__" (defArgs siNoFlip) (defBody siNoFlip) (defScope siNoFlip) .none kVNoFlip dcNoFlip pmNoFlip anNoFlip cdNoFlip ctNoFlip), slNoFlip⟩)
    (cNoFlip : PySem.W.codeIn K cdNoFlip "NoFlip.__init__" = true)
    (kNoFlip : PySem.W.keepIn K (.ref fNoFlip) = true)
    (aNoTable : PySem.W.nsIn K mainGlobals "NoTable" = some (some (.ref zNoTable)))
    (iNoTable : PySem.W.findIn K (.ref zNoTable) "__init__" = some (some (.ref fNoTable)))
    (tNoTable : PySem.W.typeIn K (.ref fNoTable) = some (.type "function"))
    (lNoTable : K.lookup fNoTable = some ⟨ocNoTable, odNoTable, .func (PySem.W.fnOf "__init__" "NoTable.__init__" (defArgs siNoTable) (defBody siNoTable) (defScope siNoTable) .none kVNoTable dcNoTable pmNoTable anNoTable cdNoTable ctNoTable), slNoTable⟩)
    (cNoTable : PySem.W.codeIn K cdNoTable "NoTable.__init__" = true)
    (kNoTable : PySem.W.keepIn K (.ref fNoTable) = true)
    (aNoTime : PySem.W.nsIn K mainGlobals "NoTime" = some (some (.ref zNoTime)))
    (iNoTime : PySem.W.findIn K (.ref zNoTime) "__init__" = some (some (.ref fNoTime)))
    (tNoTime : PySem.W.typeIn K (.ref fNoTime) = some (.type "function"))
    (lNoTime : K.lookup fNoTime = some ⟨ocNoTime, odNoTime, .func (PySem.W.fnOf "__init__" "NoTime.__init__" (defArgs siNoTime) (defBody siNoTime) (defScope siNoTime) .none kVNoTime dcNoTime pmNoTime anNoTime cdNoTime ctNoTime), slNoTime⟩)
    (cNoTime : PySem.W.codeIn K cdNoTime "NoTime.__init__" = true)
    (kNoTime : PySem.W.keepIn K (.ref fNoTime) = true)
    (aNoStamp : PySem.W.nsIn K mainGlobals "NoStamp" = some (some (.ref zNoStamp)))
    (iNoStamp : PySem.W.findIn K (.ref zNoStamp) "__init__" = some (some (.ref fNoStamp)))
    (tNoStamp : PySem.W.typeIn K (.ref fNoStamp) = some (.type "function"))
    (lNoStamp : K.lookup fNoStamp = some ⟨ocNoStamp, odNoStamp, .func (PySem.W.fnOf "__init__" "NoStamp.__init__" (defArgs siNoStamp) (defBody siNoStamp) (defScope siNoStamp) .none kVNoStamp dcNoStamp pmNoStamp anNoStamp cdNoStamp ctNoStamp), slNoStamp⟩)
    (cNoStamp : PySem.W.codeIn K cdNoStamp "NoStamp.__init__" = true)
    (kNoStamp : PySem.W.keepIn K (.ref fNoStamp) = true)
    (aNoCount : PySem.W.nsIn K mainGlobals "NoCount" = some (some (.ref zNoCount)))
    (iNoCount : PySem.W.findIn K (.ref zNoCount) "__init__" = some (some (.ref fNoCount)))
    (tNoCount : PySem.W.typeIn K (.ref fNoCount) = some (.type "function"))
    (lNoCount : K.lookup fNoCount = some ⟨ocNoCount, odNoCount, .func (PySem.W.fnOf "__init__" "NoCount.__init__" (defArgs siNoCount) (defBody siNoCount) (defScope siNoCount) .none kVNoCount dcNoCount pmNoCount anNoCount cdNoCount ctNoCount), slNoCount⟩)
    (cNoCount : PySem.W.codeIn K cdNoCount "NoCount.__init__" = true)
    (kNoCount : PySem.W.keepIn K (.ref fNoCount) = true)
    (aNoProgram : PySem.W.nsIn K mainGlobals "NoProgram" = some (some (.ref zNoProgram)))
    (iNoProgram : PySem.W.findIn K (.ref zNoProgram) "__init__" = some (some (.ref fNoProgram)))
    (tNoProgram : PySem.W.typeIn K (.ref fNoProgram) = some (.type "function"))
    (lNoProgram : K.lookup fNoProgram = some ⟨ocNoProgram, odNoProgram, .func (PySem.W.fnOf "__init__" "NoProgram.__init__" (defArgs siNoProgram) (defBody siNoProgram) (defScope siNoProgram) .none kVNoProgram dcNoProgram pmNoProgram anNoProgram cdNoProgram ctNoProgram), slNoProgram⟩)
    (cNoProgram : PySem.W.codeIn K cdNoProgram "NoProgram.__init__" = true)
    (kNoProgram : PySem.W.keepIn K (.ref fNoProgram) = true)
    (aNoHands : PySem.W.nsIn K mainGlobals "NoHands" = some (some (.ref zNoHands)))
    (iNoHands : PySem.W.findIn K (.ref zNoHands) "__init__" = some (some (.ref fNoHands)))
    (tNoHands : PySem.W.typeIn K (.ref fNoHands) = some (.type "function"))
    (lNoHands : K.lookup fNoHands = some ⟨ocNoHands, odNoHands, .func (PySem.W.fnOf "__init__" "NoHands.__init__" (defArgs siNoHands) (defBody siNoHands) (defScope siNoHands) .none kVNoHands dcNoHands pmNoHands anNoHands cdNoHands ctNoHands), slNoHands⟩)
    (cNoHands : PySem.W.codeIn K cdNoHands "NoHands.__init__" = true)
    (kNoHands : PySem.W.keepIn K (.ref fNoHands) = true)
    (aNoEntries : PySem.W.nsIn K mainGlobals "NoEntries" = some (some (.ref zNoEntries)))
    (iNoEntries : PySem.W.findIn K (.ref zNoEntries) "__init__" = some (some (.ref fNoEntries)))
    (tNoEntries : PySem.W.typeIn K (.ref fNoEntries) = some (.type "function"))
    (lNoEntries : K.lookup fNoEntries = some ⟨ocNoEntries, odNoEntries, .func (PySem.W.fnOf "__init__" "NoEntries.__init__" (defArgs siNoEntries) (defBody siNoEntries) (defScope siNoEntries) .none kVNoEntries dcNoEntries pmNoEntries anNoEntries cdNoEntries ctNoEntries), slNoEntries⟩)
    (cNoEntries : PySem.W.codeIn K cdNoEntries "NoEntries.__init__" = true)
    (kNoEntries : PySem.W.keepIn K (.ref fNoEntries) = true)
    (aNoName : PySem.W.nsIn K mainGlobals "NoName" = some (some (.ref zNoName)))
    (iNoName : PySem.W.findIn K (.ref zNoName) "__init__" = some (some (.ref fNoName)))
    (tNoName : PySem.W.typeIn K (.ref fNoName) = some (.type "function"))
    (lNoName : K.lookup fNoName = some ⟨ocNoName, odNoName, .func (PySem.W.fnOf "__init__" "NoName.__init__" (defArgs siNoName) (defBody siNoName) (defScope siNoName) .none kVNoName dcNoName pmNoName anNoName cdNoName ctNoName), slNoName⟩)
    (cNoName : PySem.W.codeIn K cdNoName "NoName.__init__" = true)
    (kNoName : PySem.W.keepIn K (.ref fNoName) = true)
    (aNoText : PySem.W.nsIn K mainGlobals "NoText" = some (some (.ref zNoText)))
    (iNoText : PySem.W.findIn K (.ref zNoText) "__init__" = some (some (.ref fNoText)))
    (tNoText : PySem.W.typeIn K (.ref fNoText) = some (.type "function"))
    (lNoText : K.lookup fNoText = some ⟨ocNoText, odNoText, .func (PySem.W.fnOf "__init__" "NoText.__init__" (defArgs siNoText) (defBody siNoText) (defScope siNoText) .none kVNoText dcNoText pmNoText anNoText cdNoText ctNoText), slNoText⟩)
    (cNoText : PySem.W.codeIn K cdNoText "NoText.__init__" = true)
    (kNoText : PySem.W.keepIn K (.ref fNoText) = true)
    (aNoCommand : PySem.W.nsIn K mainGlobals "NoCommand" = some (some (.ref zNoCommand)))
    (iNoCommand : PySem.W.findIn K (.ref zNoCommand) "__init__" = some (some (.ref fNoCommand)))
    (tNoCommand : PySem.W.typeIn K (.ref fNoCommand) = some (.type "function"))
    (lNoCommand : K.lookup fNoCommand = some ⟨ocNoCommand, odNoCommand, .func (PySem.W.fnOf "__init__" "NoCommand.__init__" (defArgs siNoCommand) (defBody siNoCommand) (defScope siNoCommand) .none kVNoCommand dcNoCommand pmNoCommand anNoCommand cdNoCommand ctNoCommand), slNoCommand⟩)
    (cNoCommand : PySem.W.codeIn K cdNoCommand "NoCommand.__init__" = true)
    (kNoCommand : PySem.W.keepIn K (.ref fNoCommand) = true)
    (aHalted : PySem.W.nsIn K mainGlobals "Halted" = some (some (.ref zHalted)))
    (iHalted : PySem.W.findIn K (.ref zHalted) "__init__" = some (some (.ref fHalted)))
    (tHalted : PySem.W.typeIn K (.ref fHalted) = some (.type "function"))
    (lHalted : K.lookup fHalted = some ⟨ocHalted, odHalted, .func (PySem.W.fnOf "__init__" "Halted.__init__" (defArgs siHalted) (defBody siHalted) (defScope siHalted) .none kVHalted dcHalted pmHalted anHalted cdHalted ctHalted), slHalted⟩)
    (cHalted : PySem.W.codeIn K cdHalted "Halted.__init__" = true)
    (kHalted : PySem.W.keepIn K (.ref fHalted) = true)
    (aNoEntry : PySem.W.nsIn K mainGlobals "NoEntry" = some (some (.ref zNoEntry)))
    (iNoEntry : PySem.W.findIn K (.ref zNoEntry) "__init__" = some (some (.ref fNoEntry)))
    (tNoEntry : PySem.W.typeIn K (.ref fNoEntry) = some (.type "function"))
    (lNoEntry : K.lookup fNoEntry = some ⟨ocNoEntry, odNoEntry, .func (PySem.W.fnOf "__init__" "NoEntry.__init__" (defArgs siNoEntry) (defBody siNoEntry) (defScope siNoEntry) .none kVNoEntry dcNoEntry pmNoEntry anNoEntry cdNoEntry ctNoEntry), slNoEntry⟩)
    (cNoEntry : PySem.W.codeIn K cdNoEntry "NoEntry.__init__" = true)
    (kNoEntry : PySem.W.keepIn K (.ref fNoEntry) = true)
    (aNoProcedure : PySem.W.nsIn K mainGlobals "NoProcedure" = some (some (.ref zNoProcedure)))
    (iNoProcedure : PySem.W.findIn K (.ref zNoProcedure) "__init__" = some (some (.ref fNoProcedure)))
    (tNoProcedure : PySem.W.typeIn K (.ref fNoProcedure) = some (.type "function"))
    (lNoProcedure : K.lookup fNoProcedure = some ⟨ocNoProcedure, odNoProcedure, .func (PySem.W.fnOf "__init__" "NoProcedure.__init__" (defArgs siNoProcedure) (defBody siNoProcedure) (defScope siNoProcedure) .none kVNoProcedure dcNoProcedure pmNoProcedure anNoProcedure cdNoProcedure ctNoProcedure), slNoProcedure⟩)
    (cNoProcedure : PySem.W.codeIn K cdNoProcedure "NoProcedure.__init__" = true)
    (kNoProcedure : PySem.W.keepIn K (.ref fNoProcedure) = true)
    (aNoHand : PySem.W.nsIn K mainGlobals "NoHand" = some (some (.ref zNoHand)))
    (iNoHand : PySem.W.findIn K (.ref zNoHand) "__init__" = some (some (.ref fNoHand)))
    (tNoHand : PySem.W.typeIn K (.ref fNoHand) = some (.type "function"))
    (lNoHand : K.lookup fNoHand = some ⟨ocNoHand, odNoHand, .func (PySem.W.fnOf "__init__" "NoHand.__init__" (defArgs siNoHand) (defBody siNoHand) (defScope siNoHand) .none kVNoHand dcNoHand pmNoHand anNoHand cdNoHand ctNoHand), slNoHand⟩)
    (cNoHand : PySem.W.codeIn K cdNoHand "NoHand.__init__" = true)
    (kNoHand : PySem.W.keepIn K (.ref fNoHand) = true)
    (aNoHistory : PySem.W.nsIn K mainGlobals "NoHistory" = some (some (.ref zNoHistory)))
    (iNoHistory : PySem.W.findIn K (.ref zNoHistory) "__init__" = some (some (.ref fNoHistory)))
    (tNoHistory : PySem.W.typeIn K (.ref fNoHistory) = some (.type "function"))
    (lNoHistory : K.lookup fNoHistory = some ⟨ocNoHistory, odNoHistory, .func (PySem.W.fnOf "__init__" "NoHistory.__init__" (defArgs siNoHistory) (defBody siNoHistory) (defScope siNoHistory) .none kVNoHistory dcNoHistory pmNoHistory anNoHistory cdNoHistory ctNoHistory), slNoHistory⟩)
    (cNoHistory : PySem.W.codeIn K cdNoHistory "NoHistory.__init__" = true)
    (kNoHistory : PySem.W.keepIn K (.ref fNoHistory) = true)
    (aTaken : PySem.W.nsIn K mainGlobals "Taken" = some (some (.ref zTaken)))
    (iTaken : PySem.W.findIn K (.ref zTaken) "__init__" = some (some (.ref fTaken)))
    (tTaken : PySem.W.typeIn K (.ref fTaken) = some (.type "function"))
    (lTaken : K.lookup fTaken = some ⟨ocTaken, odTaken, .func (PySem.W.fnOf "__init__" "Taken.__init__" (defArgs siTaken) (defBody siTaken) (defScope siTaken) .none kVTaken dcTaken pmTaken anTaken cdTaken ctTaken), slTaken⟩)
    (cTaken : PySem.W.codeIn K cdTaken "Taken.__init__" = true)
    (kTaken : PySem.W.keepIn K (.ref fTaken) = true)
    (aStanding : PySem.W.nsIn K mainGlobals "Standing" = some (some (.ref zStanding)))
    (iStanding : PySem.W.findIn K (.ref zStanding) "__init__" = some (some (.ref fStanding)))
    (tStanding : PySem.W.typeIn K (.ref fStanding) = some (.type "function"))
    (lStanding : K.lookup fStanding = some ⟨ocStanding, odStanding, .func (PySem.W.fnOf "__init__" "Standing.__init__" (defArgs siStanding) (defBody siStanding) (defScope siStanding) .none kVStanding dcStanding pmStanding anStanding cdStanding ctStanding), slStanding⟩)
    (cStanding : PySem.W.codeIn K cdStanding "Standing.__init__" = true)
    (kStanding : PySem.W.keepIn K (.ref fStanding) = true)
    (aRemoved : PySem.W.nsIn K mainGlobals "Removed" = some (some (.ref zRemoved)))
    (iRemoved : PySem.W.findIn K (.ref zRemoved) "__init__" = some (some (.ref fRemoved)))
    (tRemoved : PySem.W.typeIn K (.ref fRemoved) = some (.type "function"))
    (lRemoved : K.lookup fRemoved = some ⟨ocRemoved, odRemoved, .func (PySem.W.fnOf "__init__" "Removed.__init__" (defArgs siRemoved) (defBody siRemoved) (defScope siRemoved) .none kVRemoved dcRemoved pmRemoved anRemoved cdRemoved ctRemoved), slRemoved⟩)
    (cRemoved : PySem.W.codeIn K cdRemoved "Removed.__init__" = true)
    (kRemoved : PySem.W.keepIn K (.ref fRemoved) = true)
    (aFolded : PySem.W.nsIn K mainGlobals "Folded" = some (some (.ref zFolded)))
    (iFolded : PySem.W.findIn K (.ref zFolded) "__init__" = some (some (.ref fFolded)))
    (tFolded : PySem.W.typeIn K (.ref fFolded) = some (.type "function"))
    (lFolded : K.lookup fFolded = some ⟨ocFolded, odFolded, .func (PySem.W.fnOf "__init__" "Folded.__init__" (defArgs siFolded) (defBody siFolded) (defScope siFolded) .none kVFolded dcFolded pmFolded anFolded cdFolded ctFolded), slFolded⟩)
    (cFolded : PySem.W.codeIn K cdFolded "Folded.__init__" = true)
    (kFolded : PySem.W.keepIn K (.ref fFolded) = true)
    (aClash : PySem.W.nsIn K mainGlobals "Clash" = some (some (.ref zClash)))
    (iClash : PySem.W.findIn K (.ref zClash) "__init__" = some (some (.ref fClash)))
    (tClash : PySem.W.typeIn K (.ref fClash) = some (.type "function"))
    (lClash : K.lookup fClash = some ⟨ocClash, odClash, .func (PySem.W.fnOf "__init__" "Clash.__init__" (defArgs siClash) (defBody siClash) (defScope siClash) .none kVClash dcClash pmClash anClash cdClash ctClash), slClash⟩)
    (cClash : PySem.W.codeIn K cdClash "Clash.__init__" = true)
    (kClash : PySem.W.keepIn K (.ref fClash) = true)
    (aNotOwn : PySem.W.nsIn K mainGlobals "NotOwn" = some (some (.ref zNotOwn)))
    (iNotOwn : PySem.W.findIn K (.ref zNotOwn) "__init__" = some (some (.ref fNotOwn)))
    (tNotOwn : PySem.W.typeIn K (.ref fNotOwn) = some (.type "function"))
    (lNotOwn : K.lookup fNotOwn = some ⟨ocNotOwn, odNotOwn, .func (PySem.W.fnOf "__init__" "NotOwn.__init__" (defArgs siNotOwn) (defBody siNotOwn) (defScope siNotOwn) .none kVNotOwn dcNotOwn pmNotOwn anNotOwn cdNotOwn ctNotOwn), slNotOwn⟩)
    (cNotOwn : PySem.W.codeIn K cdNotOwn "NotOwn.__init__" = true)
    (kNotOwn : PySem.W.keepIn K (.ref fNotOwn) = true)
    (aNotHeard : PySem.W.nsIn K mainGlobals "NotHeard" = some (some (.ref zNotHeard)))
    (iNotHeard : PySem.W.findIn K (.ref zNotHeard) "__init__" = some (some (.ref fNotHeard)))
    (tNotHeard : PySem.W.typeIn K (.ref fNotHeard) = some (.type "function"))
    (lNotHeard : K.lookup fNotHeard = some ⟨ocNotHeard, odNotHeard, .func (PySem.W.fnOf "__init__" "NotHeard.__init__" (defArgs siNotHeard) (defBody siNotHeard) (defScope siNotHeard) .none kVNotHeard dcNotHeard pmNotHeard anNotHeard cdNotHeard ctNotHeard), slNotHeard⟩)
    (cNotHeard : PySem.W.codeIn K cdNotHeard "NotHeard.__init__" = true)
    (kNotHeard : PySem.W.keepIn K (.ref fNotHeard) = true)
    (aBehind : PySem.W.nsIn K mainGlobals "Behind" = some (some (.ref zBehind)))
    (iBehind : PySem.W.findIn K (.ref zBehind) "__init__" = some (some (.ref fBehind)))
    (tBehind : PySem.W.typeIn K (.ref fBehind) = some (.type "function"))
    (lBehind : K.lookup fBehind = some ⟨ocBehind, odBehind, .func (PySem.W.fnOf "__init__" "Behind.__init__" (defArgs siBehind) (defBody siBehind) (defScope siBehind) .none kVBehind dcBehind pmBehind anBehind cdBehind ctBehind), slBehind⟩)
    (cBehind : PySem.W.codeIn K cdBehind "Behind.__init__" = true)
    (kBehind : PySem.W.keepIn K (.ref fBehind) = true)
    (aUnchanged : PySem.W.nsIn K mainGlobals "Unchanged" = some (some (.ref zUnchanged)))
    (iUnchanged : PySem.W.findIn K (.ref zUnchanged) "__init__" = some (some (.ref fUnchanged)))
    (tUnchanged : PySem.W.typeIn K (.ref fUnchanged) = some (.type "function"))
    (lUnchanged : K.lookup fUnchanged = some ⟨ocUnchanged, odUnchanged, .func (PySem.W.fnOf "__init__" "Unchanged.__init__" (defArgs siUnchanged) (defBody siUnchanged) (defScope siUnchanged) .none kVUnchanged dcUnchanged pmUnchanged anUnchanged cdUnchanged ctUnchanged), slUnchanged⟩)
    (cUnchanged : PySem.W.codeIn K cdUnchanged "Unchanged.__init__" = true)
    (kUnchanged : PySem.W.keepIn K (.ref fUnchanged) = true)
    (aKnown : PySem.W.nsIn K mainGlobals "Known" = some (some (.ref zKnown)))
    (iKnown : PySem.W.findIn K (.ref zKnown) "__init__" = some (some (.ref fKnown)))
    (tKnown : PySem.W.typeIn K (.ref fKnown) = some (.type "function"))
    (lKnown : K.lookup fKnown = some ⟨ocKnown, odKnown, .func (PySem.W.fnOf "__init__" "Known.__init__" (defArgs siKnown) (defBody siKnown) (defScope siKnown) .none kVKnown dcKnown pmKnown anKnown cdKnown ctKnown), slKnown⟩)
    (cKnown : PySem.W.codeIn K cdKnown "Known.__init__" = true)
    (kKnown : PySem.W.keepIn K (.ref fKnown) = true)
    (aUnknown : PySem.W.nsIn K mainGlobals "Unknown" = some (some (.ref zUnknown)))
    (iUnknown : PySem.W.findIn K (.ref zUnknown) "__init__" = some (some (.ref fUnknown)))
    (tUnknown : PySem.W.typeIn K (.ref fUnknown) = some (.type "function"))
    (lUnknown : K.lookup fUnknown = some ⟨ocUnknown, odUnknown, .func (PySem.W.fnOf "__init__" "Unknown.__init__" (defArgs siUnknown) (defBody siUnknown) (defScope siUnknown) .none kVUnknown dcUnknown pmUnknown anUnknown cdUnknown ctUnknown), slUnknown⟩)
    (cUnknown : PySem.W.codeIn K cdUnknown "Unknown.__init__" = true)
    (kUnknown : PySem.W.keepIn K (.ref fUnknown) = true)
    (aTooWide : PySem.W.nsIn K mainGlobals "TooWide" = some (some (.ref zTooWide)))
    (iTooWide : PySem.W.findIn K (.ref zTooWide) "__init__" = some (some (.ref fTooWide)))
    (tTooWide : PySem.W.typeIn K (.ref fTooWide) = some (.type "function"))
    (lTooWide : K.lookup fTooWide = some ⟨ocTooWide, odTooWide, .func (PySem.W.fnOf "__init__" "TooWide.__init__" (defArgs siTooWide) (defBody siTooWide) (defScope siTooWide) .none kVTooWide dcTooWide pmTooWide anTooWide cdTooWide ctTooWide), slTooWide⟩)
    (cTooWide : PySem.W.codeIn K cdTooWide "TooWide.__init__" = true)
    (kTooWide : PySem.W.keepIn K (.ref fTooWide) = true)
    (aTooMany : PySem.W.nsIn K mainGlobals "TooMany" = some (some (.ref zTooMany)))
    (iTooMany : PySem.W.findIn K (.ref zTooMany) "__init__" = some (some (.ref fTooMany)))
    (tTooMany : PySem.W.typeIn K (.ref fTooMany) = some (.type "function"))
    (lTooMany : K.lookup fTooMany = some ⟨ocTooMany, odTooMany, .func (PySem.W.fnOf "__init__" "TooMany.__init__" (defArgs siTooMany) (defBody siTooMany) (defScope siTooMany) .none kVTooMany dcTooMany pmTooMany anTooMany cdTooMany ctTooMany), slTooMany⟩)
    (cTooMany : PySem.W.codeIn K cdTooMany "TooMany.__init__" = true)
    (kTooMany : PySem.W.keepIn K (.ref fTooMany) = true)
    (aUnlike : PySem.W.nsIn K mainGlobals "Unlike" = some (some (.ref zUnlike)))
    (iUnlike : PySem.W.findIn K (.ref zUnlike) "__init__" = some (some (.ref fUnlike)))
    (tUnlike : PySem.W.typeIn K (.ref fUnlike) = some (.type "function"))
    (lUnlike : K.lookup fUnlike = some ⟨ocUnlike, odUnlike, .func (PySem.W.fnOf "__init__" "Unlike.__init__" (defArgs siUnlike) (defBody siUnlike) (defScope siUnlike) .none kVUnlike dcUnlike pmUnlike anUnlike cdUnlike ctUnlike), slUnlike⟩)
    (cUnlike : PySem.W.codeIn K cdUnlike "Unlike.__init__" = true)
    (kUnlike : PySem.W.keepIn K (.ref fUnlike) = true)
    (qA : prA K = true)
    (qB : prB K = true)
    (qC : prC K = true)
    (hnO : PySem.W.specialIn K (.builtin "object.__class__") "__get__" = some (some (.builtin "getset_descriptor.__get__")))
    (htO : PySem.W.takesIn K (.builtin "object.__class__") = some true)
    (z_len : PySem.W.nsIn K mainGlobals "len" = some none)
    (z_abs : PySem.W.nsIn K mainGlobals "abs" = some none)
    (z_max : PySem.W.nsIn K mainGlobals "max" = some none)
    (z_min : PySem.W.nsIn K mainGlobals "min" = some none)
    (z_divmod : PySem.W.nsIn K mainGlobals "divmod" = some none)
    (z_list : PySem.W.nsIn K mainGlobals "list" = some none)
    (z_tuple : PySem.W.nsIn K mainGlobals "tuple" = some none)
    (z_range : PySem.W.nsIn K mainGlobals "range" = some none)
    (z_isinstance : PySem.W.nsIn K mainGlobals "isinstance" = some none)
    (z_bool : PySem.W.nsIn K mainGlobals "bool" = some none)
    (z_int : PySem.W.nsIn K mainGlobals "int" = some none)
    (z_sorted : PySem.W.nsIn K mainGlobals "sorted" = some none)
    (z_set : PySem.W.nsIn K mainGlobals "set" = some none)
    (z_all : PySem.W.nsIn K mainGlobals "all" = some none)
    (z_enumerate : PySem.W.nsIn K mainGlobals "enumerate" = some none)
    (z_repr : PySem.W.nsIn K mainGlobals "repr" = some none)
    (z_sum : PySem.W.nsIn K mainGlobals "sum" = some none)
    (z_str : PySem.W.nsIn K mainGlobals "str" = some none)
    (z_ValueError : PySem.W.nsIn K mainGlobals "ValueError" = some none)
    (z_LookupError : PySem.W.nsIn K mainGlobals "LookupError" = some none)
    (z_RuntimeError : PySem.W.nsIn K mainGlobals "RuntimeError" = some none)
    (z_ArithmeticError : PySem.W.nsIn K mainGlobals "ArithmeticError" = some none) :
    ∃ fd : FuncData, (∀ (s : Shared) (v : Value), BindsTo s fd ⟨[v], []⟩ [("_law_script", v)]) ∧ ∀ base : Heap, K.In base → base.Ns mainGlobals mg → FnG l.prog w K mg base CX0 9 fa fd ["_law_script"] (spLaw K) := by
  have e0 := hfa.symm.trans (PySem.W.mg_of X G a38)
  cases e0
  have B : Bl mg := ⟨PySem.W.mg_none_of X G z_len, PySem.W.mg_none_of X G z_abs, PySem.W.mg_none_of X G z_max, PySem.W.mg_none_of X G z_min, PySem.W.mg_none_of X G z_divmod, PySem.W.mg_none_of X G z_list, PySem.W.mg_none_of X G z_tuple, PySem.W.mg_none_of X G z_range, PySem.W.mg_none_of X G z_isinstance, PySem.W.mg_none_of X G z_bool, PySem.W.mg_none_of X G z_int, PySem.W.mg_none_of X G z_sorted, PySem.W.mg_none_of X G z_set, PySem.W.mg_none_of X G z_all, PySem.W.mg_none_of X G z_enumerate, PySem.W.mg_none_of X G z_repr, PySem.W.mg_none_of X G z_sum⟩
  have F1 := fun_mk (st := sInteger) l1 c1 k1
  have b1 := F1.binds (ps := ["thing"]) fun _ _ _ _ _ _ us hl => match us, hl with | [_], _ => rfl
  have m1 := PySem.W.mg_of X G a1
  have F2 := fun_mk (st := sBetween) l2 c2 k2
  have b2 := F2.binds (ps := ["thing", "low", "high"]) fun _ _ _ _ _ _ us hl => match us, hl with | [_, _, _], _ => rfl
  have m2 := PySem.W.mg_of X G a2
  have F3 := fun_mk (st := sIsSize) l3 c3 k3
  have b3 := F3.binds (ps := ["thing"]) fun _ _ _ _ _ _ us hl => match us, hl with | [_], _ => rfl
  have m3 := PySem.W.mg_of X G a3
  have F5 := fun_mk (st := sAre) l5 c5 k5
  have b5 := F5.binds (ps := ["things", "size"]) fun _ _ _ _ _ _ us hl => match us, hl with | [_, _], _ => rfl
  have m5 := PySem.W.mg_of X G a5
  have F20 := fun_mk (st := sPot) l20 c20 k20
  have b20 := F20.binds (ps := ["_law_script", "_law_k"]) fun _ _ _ _ _ _ us hl => match us, hl with | [_, _], _ => rfl
  have m20 := PySem.W.mg_of X G a20
  have F21 := fun_mk (st := sDraw) l21 c21 k21
  have b21 := F21.binds (ps := ["_law_pot_here", "_law_many"]) fun _ _ _ _ _ _ us hl => match us, hl with | [_, _], _ => rfl
  have m21 := PySem.W.mg_of X G a21
  have F22 := fun_mk (st := sSpots) l22 c22 k22
  have b22 := F22.binds (ps := ["_law_pot_here", "_law_least", "_law_width"]) fun _ _ _ _ _ _ us hl => match us, hl with | [_, _, _], _ => rfl
  have m22 := PySem.W.mg_of X G a22
  have F23 := fun_mk (st := slAny0) l23 c23 k23
  have b23 := F23.binds (ps := ["_law_pot_here"]) fun _ _ _ _ _ _ us hl => match us, hl with | [_], _ => rfl
  have m23 := PySem.W.mg_of X G a23
  have F24 := fun_mk (st := slBase0) l24 c24 k24
  have b24 := F24.binds (ps := ["_law_e"]) fun _ _ _ _ _ _ us hl => match us, hl with | [_], _ => rfl
  have m24 := PySem.W.mg_of X G a24
  have F25 := fun_mk (st := slFirst0) l25 c25 k25
  have b25 := F25.binds (ps := ["_law_e"]) fun _ _ _ _ _ _ us hl => match us, hl with | [_], _ => rfl
  have m25 := PySem.W.mg_of X G a25
  have F26 := fun_mk (st := slLast0) l26 c26 k26
  have b26 := F26.binds (ps := ["_law_e"]) fun _ _ _ _ _ _ us hl => match us, hl with | [_], _ => rfl
  have m26 := PySem.W.mg_of X G a26
  have F27 := fun_mk (st := slWords0) l27 c27 k27
  have b27 := F27.binds (ps := ["_law_e"]) fun _ _ _ _ _ _ us hl => match us, hl with | [_], _ => rfl
  have m27 := PySem.W.mg_of X G a27
  have F30 := fun_mk (st := slPart0_) l30 c30 k30
  have b30 := F30.binds (ps := ["_law_given_here"]) fun _ _ _ _ _ _ us hl => match us, hl with | [_], _ => rfl
  have m30 := PySem.W.mg_of X G a30
  have F31 := fun_mk (st := slPart1_) l31 c31 k31
  have b31 := F31.binds (ps := ["_law_given_here"]) fun _ _ _ _ _ _ us hl => match us, hl with | [_], _ => rfl
  have m31 := PySem.W.mg_of X G a31
  have F32 := fun_mk (st := slPart2_) l32 c32 k32
  have b32 := F32.binds (ps := ["_law_given_here"]) fun _ _ _ _ _ _ us hl => match us, hl with | [_], _ => rfl
  have m32 := PySem.W.mg_of X G a32
  have F33 := fun_mk (st := slPart3_) l33 c33 k33
  have b33 := F33.binds (ps := ["_law_given_here"]) fun _ _ _ _ _ _ us hl => match us, hl with | [_], _ => rfl
  have m33 := PySem.W.mg_of X G a33
  have F34 := fun_mk (st := slPart4_) l34 c34 k34
  have b34 := F34.binds (ps := ["_law_given_here"]) fun _ _ _ _ _ _ us hl => match us, hl with | [_], _ => rfl
  have m34 := PySem.W.mg_of X G a34
  have F35 := fun_mk (st := slPart5_) l35 c35 k35
  have b35 := F35.binds (ps := ["_law_given_here"]) fun _ _ _ _ _ _ us hl => match us, hl with | [_], _ => rfl
  have m35 := PySem.W.mg_of X G a35
  have F36 := fun_mk (st := slGiven0) l36 c36 k36
  have b36 := F36.binds (ps := ["_law_pot_here"]) fun _ _ _ _ _ _ us hl => match us, hl with | [_], _ => rfl
  have m36 := PySem.W.mg_of X G a36
  have F37 := fun_mk (st := slAll0) l37 c37 k37
  have b37 := F37.binds (ps := ["_law_given_here"]) fun _ _ _ _ _ _ us hl => match us, hl with | [_], _ => rfl
  have m37 := PySem.W.mg_of X G a37
  have F38 := fun_mk (st := sLaw) l38 c38 k38
  have b38 := F38.binds (ps := ["_law_script"]) fun _ _ _ _ _ _ us hl => match us, hl with | [_], _ => rfl
  have m38 := PySem.W.mg_of X G a38
  have F4 : FunD K "is_cell" "is_cell" (defArgs sIsCell) (defBody sIsCell) (defScope sIsCell) [] [("size", .int 40)] f4 _ := ⟨⟨oc4, od4, .none, .ref D4, dc4, pm4, an4, cd4, ct4, sl4, rfl, l4, c4, .inl ⟨rfl, rfl⟩, .inr ⟨D4, rfl, fun q hq => by
    rw [List.mem_singleton.mp hq]
    exact ⟨_, d4, _, rfl⟩⟩⟩, k4⟩
  have m4 := PySem.W.mg_of X G a4
  have kb4 := kb_size (st := sIsCell) (y := "thing") F4 (fun _ _ _ _ _ _ _ _ => rfl)
  obtain ⟨ds4, hd4, bd4⟩ := F4.binds0 (ps := ["thing", "size"]) 1 (by simp) rfl (fun D doc pm an cdv ct us ks h1 h2 => match us, ks, h1, h2 with | [_], [_], _, _ => ⟨_, _, _, _, _, _, rfl, rfl, rfl⟩)
  have F6 : FunD K "cell_tuple" "cell_tuple" (defArgs sCells) (defBody sCells) (defScope sCells) [] [("size", .int 40)] f6 _ := ⟨⟨oc6, od6, .none, .ref D6, dc6, pm6, an6, cd6, ct6, sl6, rfl, l6, c6, .inl ⟨rfl, rfl⟩, .inr ⟨D6, rfl, fun q hq => by
    rw [List.mem_singleton.mp hq]
    exact ⟨_, d6, _, rfl⟩⟩⟩, k6⟩
  have m6 := PySem.W.mg_of X G a6
  have kb6 := kb_size (st := sCells) (y := "things") F6 (fun _ _ _ _ _ _ _ _ => rfl)
  obtain ⟨ds6, hd6, bd6⟩ := F6.binds0 (ps := ["things", "size"]) 1 (by simp) rfl (fun D doc pm an cdv ct us ks h1 h2 => match us, ks, h1, h2 with | [_], [_], _, _ => ⟨_, _, _, _, _, _, rfl, rfl, rfl⟩)
  have FI : FunD K "__init__" "Board.__init__" (defArgs mInit) (defBody mInit) (defScope mInit) [] [("up", .ref e)] fI _ := ⟨⟨ocI, odI, .none, .ref DI, dcI, pmI, anI, cdI, ctI, slI, rfl, lI, cI, .inl ⟨rfl, rfl⟩, .inr ⟨DI, rfl, fun q hq => by
    rw [List.mem_singleton.mp hq]
    exact ⟨_, dI, rfl⟩⟩⟩, kI⟩
  have kbI2 := kb_ini (n := 2) (ks := ["up"]) FI (fun D doc pm an cdv ct us ws h1 h2 => match us, ws, h1, h2 with | [_, _], [_], _, _ => rfl)
  have kbI1 := kb_ini (n := 1) (ks := ["size", "up"]) FI (fun D doc pm an cdv ct us ws h1 h2 => match us, ws, h1, h2 with | [_], [_, _], _, _ => rfl)
  obtain ⟨dsI, hdI, bI⟩ := FI.binds0 (ps := ["self", "size", "up"]) 2 (by simp) rfl (fun D doc pm an cdv ct us ks h1 h2 => match us, ks, h1, h2 with | [_, _], [_], _, _ => ⟨_, _, _, _, _, _, rfl, rfl, rfl⟩)
  have mkI : Mk K C fI := ⟨mkC, iI, nI, kcC⟩
  have g_M := PySem.W.mg_of X G c_M
  have FNoSize := fun_mk (st := siNoSize) lNoSize cNoSize kNoSize
  have bNoSize := FNoSize.binds (ps := ["self", "value"]) fun _ _ _ _ _ _ us hl => match us, hl with | [_, _], _ => rfl
  obtain rfl : Ea K "NoSize" = zNoSize := ga_eq aNoSize
  have FNoCell := fun_mk (st := siNoCell) lNoCell cNoCell kNoCell
  have bNoCell := FNoCell.binds (ps := ["self", "cell"]) fun _ _ _ _ _ _ us hl => match us, hl with | [_, _], _ => rfl
  obtain rfl : Ea K "NoCell" = zNoCell := ga_eq aNoCell
  have FNoCells := fun_mk (st := siNoCells) lNoCells cNoCells kNoCells
  have bNoCells := FNoCells.binds (ps := ["self", "cells"]) fun _ _ _ _ _ _ us hl => match us, hl with | [_, _], _ => rfl
  obtain rfl : Ea K "NoCells" = zNoCells := ga_eq aNoCells
  have FNoFlip := fun_mk (st := siNoFlip) lNoFlip cNoFlip kNoFlip
  have bNoFlip := FNoFlip.binds (ps := ["self", "why"]) fun _ _ _ _ _ _ us hl => match us, hl with | [_, _], _ => rfl
  obtain rfl : Ea K "NoFlip" = zNoFlip := ga_eq aNoFlip
  have FNoTable := fun_mk (st := siNoTable) lNoTable cNoTable kNoTable
  have bNoTable := FNoTable.binds (ps := ["self", "why"]) fun _ _ _ _ _ _ us hl => match us, hl with | [_, _], _ => rfl
  obtain rfl : Ea K "NoTable" = zNoTable := ga_eq aNoTable
  have FNoTime := fun_mk (st := siNoTime) lNoTime cNoTime kNoTime
  have bNoTime := FNoTime.binds (ps := ["self", "time"]) fun _ _ _ _ _ _ us hl => match us, hl with | [_, _], _ => rfl
  obtain rfl : Ea K "NoTime" = zNoTime := ga_eq aNoTime
  have FNoStamp := fun_mk (st := siNoStamp) lNoStamp cNoStamp kNoStamp
  have bNoStamp := FNoStamp.binds (ps := ["self", "stamp"]) fun _ _ _ _ _ _ us hl => match us, hl with | [_, _], _ => rfl
  obtain rfl : Ea K "NoStamp" = zNoStamp := ga_eq aNoStamp
  have FNoCount := fun_mk (st := siNoCount) lNoCount cNoCount kNoCount
  have bNoCount := FNoCount.binds (ps := ["self", "count"]) fun _ _ _ _ _ _ us hl => match us, hl with | [_, _], _ => rfl
  obtain rfl : Ea K "NoCount" = zNoCount := ga_eq aNoCount
  have FNoProgram := fun_mk (st := siNoProgram) lNoProgram cNoProgram kNoProgram
  have bNoProgram := FNoProgram.binds (ps := ["self", "why", "where"]) fun _ _ _ _ _ _ us hl => match us, hl with | [_, _, _], _ => rfl
  obtain rfl : Ea K "NoProgram" = zNoProgram := ga_eq aNoProgram
  have FNoHands := fun_mk (st := siNoHands) lNoHands cNoHands kNoHands
  have bNoHands := FNoHands.binds (ps := ["self", "value"]) fun _ _ _ _ _ _ us hl => match us, hl with | [_, _], _ => rfl
  obtain rfl : Ea K "NoHands" = zNoHands := ga_eq aNoHands
  have FNoEntries := fun_mk (st := siNoEntries) lNoEntries cNoEntries kNoEntries
  have bNoEntries := FNoEntries.binds (ps := ["self", "index"]) fun _ _ _ _ _ _ us hl => match us, hl with | [_, _], _ => rfl
  obtain rfl : Ea K "NoEntries" = zNoEntries := ga_eq aNoEntries
  have FNoName := fun_mk (st := siNoName) lNoName cNoName kNoName
  have bNoName := FNoName.binds (ps := ["self", "name"]) fun _ _ _ _ _ _ us hl => match us, hl with | [_, _], _ => rfl
  obtain rfl : Ea K "NoName" = zNoName := ga_eq aNoName
  have FNoText := fun_mk (st := siNoText) lNoText cNoText kNoText
  have bNoText := FNoText.binds (ps := ["self", "line"]) fun _ _ _ _ _ _ us hl => match us, hl with | [_, _], _ => rfl
  obtain rfl : Ea K "NoText" = zNoText := ga_eq aNoText
  have FNoCommand := fun_mk (st := siNoCommand) lNoCommand cNoCommand kNoCommand
  have bNoCommand := FNoCommand.binds (ps := ["self", "command"]) fun _ _ _ _ _ _ us hl => match us, hl with | [_, _], _ => rfl
  obtain rfl : Ea K "NoCommand" = zNoCommand := ga_eq aNoCommand
  have FHalted := fun_mk (st := siHalted) lHalted cHalted kHalted
  have bHalted := FHalted.binds (ps := ["self", "index", "answers"]) fun _ _ _ _ _ _ us hl => match us, hl with | [_, _, _], _ => rfl
  obtain rfl : Ea K "Halted" = zHalted := ga_eq aHalted
  have FNoEntry := fun_mk (st := siNoEntry) lNoEntry cNoEntry kNoEntry
  have bNoEntry := FNoEntry.binds (ps := ["self", "stamp"]) fun _ _ _ _ _ _ us hl => match us, hl with | [_, _], _ => rfl
  obtain rfl : Ea K "NoEntry" = zNoEntry := ga_eq aNoEntry
  have FNoProcedure := fun_mk (st := siNoProcedure) lNoProcedure cNoProcedure kNoProcedure
  have bNoProcedure := FNoProcedure.binds (ps := ["self", "name"]) fun _ _ _ _ _ _ us hl => match us, hl with | [_, _], _ => rfl
  obtain rfl : Ea K "NoProcedure" = zNoProcedure := ga_eq aNoProcedure
  have FNoHand := fun_mk (st := siNoHand) lNoHand cNoHand kNoHand
  have bNoHand := FNoHand.binds (ps := ["self", "hand"]) fun _ _ _ _ _ _ us hl => match us, hl with | [_, _], _ => rfl
  obtain rfl : Ea K "NoHand" = zNoHand := ga_eq aNoHand
  have FNoHistory := fun_mk (st := siNoHistory) lNoHistory cNoHistory kNoHistory
  have bNoHistory := FNoHistory.binds (ps := ["self", "name"]) fun _ _ _ _ _ _ us hl => match us, hl with | [_, _], _ => rfl
  obtain rfl : Ea K "NoHistory" = zNoHistory := ga_eq aNoHistory
  have FTaken := fun_mk (st := siTaken) lTaken cTaken kTaken
  have bTaken := FTaken.binds (ps := ["self", "stamp"]) fun _ _ _ _ _ _ us hl => match us, hl with | [_, _], _ => rfl
  obtain rfl : Ea K "Taken" = zTaken := ga_eq aTaken
  have FStanding := fun_mk (st := siStanding) lStanding cStanding kStanding
  have bStanding := FStanding.binds (ps := ["self", "stamp"]) fun _ _ _ _ _ _ us hl => match us, hl with | [_, _], _ => rfl
  obtain rfl : Ea K "Standing" = zStanding := ga_eq aStanding
  have FRemoved := fun_mk (st := siRemoved) lRemoved cRemoved kRemoved
  have bRemoved := FRemoved.binds (ps := ["self", "stamp"]) fun _ _ _ _ _ _ us hl => match us, hl with | [_, _], _ => rfl
  obtain rfl : Ea K "Removed" = zRemoved := ga_eq aRemoved
  have FFolded := fun_mk (st := siFolded) lFolded cFolded kFolded
  have bFolded := FFolded.binds (ps := ["self", "stamp"]) fun _ _ _ _ _ _ us hl => match us, hl with | [_, _], _ => rfl
  obtain rfl : Ea K "Folded" = zFolded := ga_eq aFolded
  have FClash := fun_mk (st := siClash) lClash cClash kClash
  have bClash := FClash.binds (ps := ["self", "stamp"]) fun _ _ _ _ _ _ us hl => match us, hl with | [_, _], _ => rfl
  obtain rfl : Ea K "Clash" = zClash := ga_eq aClash
  have FNotOwn := fun_mk (st := siNotOwn) lNotOwn cNotOwn kNotOwn
  have bNotOwn := FNotOwn.binds (ps := ["self", "stamp"]) fun _ _ _ _ _ _ us hl => match us, hl with | [_, _], _ => rfl
  obtain rfl : Ea K "NotOwn" = zNotOwn := ga_eq aNotOwn
  have FNotHeard := fun_mk (st := siNotHeard) lNotHeard cNotHeard kNotHeard
  have bNotHeard := FNotHeard.binds (ps := ["self", "hand"]) fun _ _ _ _ _ _ us hl => match us, hl with | [_, _], _ => rfl
  obtain rfl : Ea K "NotHeard" = zNotHeard := ga_eq aNotHeard
  have FBehind := fun_mk (st := siBehind) lBehind cBehind kBehind
  have bBehind := FBehind.binds (ps := ["self", "time"]) fun _ _ _ _ _ _ us hl => match us, hl with | [_, _], _ => rfl
  obtain rfl : Ea K "Behind" = zBehind := ga_eq aBehind
  have FUnchanged := fun_mk (st := siUnchanged) lUnchanged cUnchanged kUnchanged
  have bUnchanged := FUnchanged.binds (ps := ["self", "value"]) fun _ _ _ _ _ _ us hl => match us, hl with | [_, _], _ => rfl
  obtain rfl : Ea K "Unchanged" = zUnchanged := ga_eq aUnchanged
  have FKnown := fun_mk (st := siKnown) lKnown cKnown kKnown
  have bKnown := FKnown.binds (ps := ["self", "cells"]) fun _ _ _ _ _ _ us hl => match us, hl with | [_, _], _ => rfl
  obtain rfl : Ea K "Known" = zKnown := ga_eq aKnown
  have FUnknown := fun_mk (st := siUnknown) lUnknown cUnknown kUnknown
  have bUnknown := FUnknown.binds (ps := ["self", "cells"]) fun _ _ _ _ _ _ us hl => match us, hl with | [_, _], _ => rfl
  obtain rfl : Ea K "Unknown" = zUnknown := ga_eq aUnknown
  have FTooWide := fun_mk (st := siTooWide) lTooWide cTooWide kTooWide
  have bTooWide := FTooWide.binds (ps := ["self", "needed"]) fun _ _ _ _ _ _ us hl => match us, hl with | [_, _], _ => rfl
  obtain rfl : Ea K "TooWide" = zTooWide := ga_eq aTooWide
  have FTooMany := fun_mk (st := siTooMany) lTooMany cTooMany kTooMany
  have bTooMany := FTooMany.binds (ps := ["self", "limit"]) fun _ _ _ _ _ _ us hl => match us, hl with | [_, _], _ => rfl
  obtain rfl : Ea K "TooMany" = zTooMany := ga_eq aTooMany
  have FUnlike := fun_mk (st := siUnlike) lUnlike cUnlike kUnlike
  have bUnlike := FUnlike.binds (ps := ["self", "one", "other"]) fun _ _ _ _ _ _ us hl => match us, hl with | [_, _, _], _ => rfl
  obtain rfl : Ea K "Unlike" = zUnlike := ga_eq aUnlike
  obtain ⟨qA1, qA23⟩ := He.ba qA
  obtain ⟨qA2, qA3⟩ := He.ba qA23
  have ER : ∀ p ∈ exP, ErrC K (Ea K p.1) ∧ XfC K (Ea K p.1) ∧ ExcC K (Ea K p.1) := fun p hp => erB_ok (base_lt p hp) hnO htO (He.ba (List.all_eq_true.mp qA1 p hp)).2
  have NF : ∀ p ∈ exF, ∀ f ∈ p.2, PySem.W.findIn K (.ref (Ea K p.1)) f = some none := fun p hp f hf => of_decide_eq_true (List.all_eq_true.mp (List.all_eq_true.mp qA3 p hp) f hf)
  have EK : ExK K mg := ⟨fun p hp => PySem.W.mg_of X G (of_decide_eq_true (He.ba (List.all_eq_true.mp qA1 p hp)).1), fun p hp => PySem.W.mg_of X G (of_decide_eq_true (List.all_eq_true.mp qA2 p hp)), fun p hp => (ER p hp).2.2, fun p hp q hq => of_decide_eq_true (List.all_eq_true.mp (List.all_eq_true.mp qB p hp) q hq), fun p hp q hq => of_decide_eq_true (List.all_eq_true.mp (He.ba (List.all_eq_true.mp qC p hp)).1 q hq), fun p hp q hq => of_decide_eq_true (List.all_eq_true.mp (He.ba (List.all_eq_true.mp qC p hp)).2 q hq), PySem.W.mg_none_of X G z_ValueError, PySem.W.mg_none_of X G z_LookupError, PySem.W.mg_none_of X G z_RuntimeError, PySem.W.mg_none_of X G z_ArithmeticError, PySem.W.mg_none_of X G z_sum, PySem.W.mg_none_of X G z_all, PySem.W.mg_none_of X G z_str⟩
  have T : BC K mg C := ⟨⟨pgC, hdC, poC, saC⟩, nf0C, PySem.W.mg_of X G aC⟩
  refine ⟨PySem.W.fnOf "law" "law" (defArgs sLaw) (defBody sLaw) (defScope sLaw) .none kV38 dc38 pm38 an38 cd38 ct38, fun s v => .of_eq rfl, fun base _ _ => ?_⟩
  have HNi : Has l.prog w K mg base "is_integer" 1 ["thing"] spInteger := ⟨f1, _, ok_integer F1 B, m1, k1, b1⟩
  have HB : Has l.prog w K mg base "is_integer_between" 2 ["thing", "low", "high"] spBetween := ⟨f2, _, ok_between F2 B HNi, m2, k2, b2⟩
  have HZ : Has l.prog w K mg base "is_size" 3 ["thing"] spIsSize := ⟨f3, _, ok_issize F3 ⟨_, g_M⟩ HB, m3, k3, b3⟩
  have HC : HasN l.prog w K mg base "is_cell" 3 "thing" spIsCell := ⟨f4, _, ok_iscell F4 HB, m4, k4, kb4⟩
  have HAr : Has l.prog w K mg base "are_cells" 4 ["things", "size"] (spAre K) := ⟨f5, _, ok_are F5 B HC, m5, k5, b5⟩
  have HE : HasN l.prog w K mg base "cell_tuple" 5 "things" (spCells K) := ⟨f6, _, ok_cells F6 B HAr, m6, k6, kb6⟩
  have HI : HasIni l.prog w K mg base C := ⟨fI, _, ok_init FI B T HZ HE, mkI, kbI2, kbI1, e, dsI, fun H => .inr ⟨_, #[], _, le, rfl, rfl, Nat.zero_le _, .nil⟩, hdI, bI⟩
  have HP : Has l.prog w K mg base "_law_pot" 2 ["_law_script", "_law_k"] (spPot K) := ⟨f20, _, ok_pot F20 B, m20, k20, b20⟩
  have HD : Has l.prog w K mg base "_law_draw" 2 ["_law_pot_here", "_law_many"] spDraw := ⟨f21, _, ok_draw F21 B, m21, k21, b21⟩
  have HS : Has l.prog w K mg base "_law_spots" 3 ["_law_pot_here", "_law_least", "_law_width"] spSpots := ⟨f22, _, ok_spots F22 B HD, m22, k22, b22⟩
  have HY : Has l.prog w K mg base "_law_any_thing" 3 ["_law_pot_here"] spAny := ⟨f23, _, ok_any F23 B HD, m23, k23, b23⟩
  have HBs : Has l.prog w K mg base "_law_base" 2 ["_law_e"] (spBase (K := K)) := ⟨f24, _, ok_base F24 B EK, m24, k24, b24⟩
  have HF1 : Has l.prog w K mg base "_law_first_words" 2 ["_law_e"] (spPick (K := K) (exP.take 18)) := ⟨f25, _, ok_First F25 B EK, m25, k25, b25⟩
  have HF2 : Has l.prog w K mg base "_law_last_words" 2 ["_law_e"] (spPick (K := K) (exP.drop 18)) := ⟨f26, _, ok_Last F26 B EK, m26, k26, b26⟩
  have HWd : Has l.prog w K mg base "_law_words" 3 ["_law_e"] (spWords (K := K)) := ⟨f27, _, ok_words F27 HF1 HF2, m27, k27, b27⟩
  have HGv : Has l.prog w K mg base "_law_given" 8 ["_law_pot_here"] spGiven := ⟨f36, _, ok_given F36 B EK T HI HD HS HY, m36, k36, b36⟩
  have XNoSize : HasEr l.prog w K mg base "NoSize" ["value"] ["value"] (fun us ws => us ++ ws) (fun vs zs => vs ++ zs) := ⟨fNoSize, _, (ER _ (List.mem_of_getElem? (i := 0) rfl)).1, (ER _ (List.mem_of_getElem? (i := 0) rfl)).2.1, NF _ (List.mem_of_getElem? (i := 0) rfl), iNoSize, tNoSize, ok_NoSize FNoSize (ER _ (List.mem_of_getElem? (i := 0) rfl)).1 (NF _ (List.mem_of_getElem? (i := 0) rfl)), bNoSize, kb_er1 FNoSize (fun _ _ _ _ _ _ _ _ => rfl)⟩
  have XNoCell : HasEr l.prog w K mg base "NoCell" ["cell"] ["cell"] (fun us ws => us ++ ws) (fun vs zs => vs ++ zs) := ⟨fNoCell, _, (ER _ (List.mem_of_getElem? (i := 1) rfl)).1, (ER _ (List.mem_of_getElem? (i := 1) rfl)).2.1, NF _ (List.mem_of_getElem? (i := 1) rfl), iNoCell, tNoCell, ok_NoCell FNoCell (ER _ (List.mem_of_getElem? (i := 1) rfl)).1 (NF _ (List.mem_of_getElem? (i := 1) rfl)), bNoCell, kb_er1 FNoCell (fun _ _ _ _ _ _ _ _ => rfl)⟩
  have XNoCells : HasEr l.prog w K mg base "NoCells" ["cells"] ["cells"] (fun us ws => us ++ ws) (fun vs zs => vs ++ zs) := ⟨fNoCells, _, (ER _ (List.mem_of_getElem? (i := 2) rfl)).1, (ER _ (List.mem_of_getElem? (i := 2) rfl)).2.1, NF _ (List.mem_of_getElem? (i := 2) rfl), iNoCells, tNoCells, ok_NoCells FNoCells (ER _ (List.mem_of_getElem? (i := 2) rfl)).1 (NF _ (List.mem_of_getElem? (i := 2) rfl)), bNoCells, kb_er1 FNoCells (fun _ _ _ _ _ _ _ _ => rfl)⟩
  have XNoFlip : HasEr l.prog w K mg base "NoFlip" ["why"] ["why"] (fun us ws => us ++ ws) (fun vs zs => vs ++ zs) := ⟨fNoFlip, _, (ER _ (List.mem_of_getElem? (i := 3) rfl)).1, (ER _ (List.mem_of_getElem? (i := 3) rfl)).2.1, NF _ (List.mem_of_getElem? (i := 3) rfl), iNoFlip, tNoFlip, ok_NoFlip FNoFlip (ER _ (List.mem_of_getElem? (i := 3) rfl)).1 (NF _ (List.mem_of_getElem? (i := 3) rfl)), bNoFlip, kb_er1 FNoFlip (fun _ _ _ _ _ _ _ _ => rfl)⟩
  have XNoTable : HasEr l.prog w K mg base "NoTable" ["why"] ["why"] (fun us ws => us ++ ws) (fun vs zs => vs ++ zs) := ⟨fNoTable, _, (ER _ (List.mem_of_getElem? (i := 4) rfl)).1, (ER _ (List.mem_of_getElem? (i := 4) rfl)).2.1, NF _ (List.mem_of_getElem? (i := 4) rfl), iNoTable, tNoTable, ok_NoTable FNoTable (ER _ (List.mem_of_getElem? (i := 4) rfl)).1 (NF _ (List.mem_of_getElem? (i := 4) rfl)), bNoTable, kb_er1 FNoTable (fun _ _ _ _ _ _ _ _ => rfl)⟩
  have XNoTime : HasEr l.prog w K mg base "NoTime" ["time"] ["time"] (fun us ws => us ++ ws) (fun vs zs => vs ++ zs) := ⟨fNoTime, _, (ER _ (List.mem_of_getElem? (i := 5) rfl)).1, (ER _ (List.mem_of_getElem? (i := 5) rfl)).2.1, NF _ (List.mem_of_getElem? (i := 5) rfl), iNoTime, tNoTime, ok_NoTime FNoTime (ER _ (List.mem_of_getElem? (i := 5) rfl)).1 (NF _ (List.mem_of_getElem? (i := 5) rfl)), bNoTime, kb_er1 FNoTime (fun _ _ _ _ _ _ _ _ => rfl)⟩
  have XNoStamp : HasEr l.prog w K mg base "NoStamp" ["stamp"] ["stamp"] (fun us ws => us ++ ws) (fun vs zs => vs ++ zs) := ⟨fNoStamp, _, (ER _ (List.mem_of_getElem? (i := 6) rfl)).1, (ER _ (List.mem_of_getElem? (i := 6) rfl)).2.1, NF _ (List.mem_of_getElem? (i := 6) rfl), iNoStamp, tNoStamp, ok_NoStamp FNoStamp (ER _ (List.mem_of_getElem? (i := 6) rfl)).1 (NF _ (List.mem_of_getElem? (i := 6) rfl)), bNoStamp, kb_er1 FNoStamp (fun _ _ _ _ _ _ _ _ => rfl)⟩
  have XNoCount : HasEr l.prog w K mg base "NoCount" ["count"] ["count"] (fun us ws => us ++ ws) (fun vs zs => vs ++ zs) := ⟨fNoCount, _, (ER _ (List.mem_of_getElem? (i := 7) rfl)).1, (ER _ (List.mem_of_getElem? (i := 7) rfl)).2.1, NF _ (List.mem_of_getElem? (i := 7) rfl), iNoCount, tNoCount, ok_NoCount FNoCount (ER _ (List.mem_of_getElem? (i := 7) rfl)).1 (NF _ (List.mem_of_getElem? (i := 7) rfl)), bNoCount, kb_er1 FNoCount (fun _ _ _ _ _ _ _ _ => rfl)⟩
  have XNoProgram : HasEr l.prog w K mg base "NoProgram" ["why", "where"] ["where", "why"] (fun us ws => us ++ ws.reverse) (fun vs zs => vs ++ zs.reverse) := ⟨fNoProgram, _, (ER _ (List.mem_of_getElem? (i := 8) rfl)).1, (ER _ (List.mem_of_getElem? (i := 8) rfl)).2.1, NF _ (List.mem_of_getElem? (i := 8) rfl), iNoProgram, tNoProgram, ok_NoProgram FNoProgram (ER _ (List.mem_of_getElem? (i := 8) rfl)).1 (NF _ (List.mem_of_getElem? (i := 8) rfl)), bNoProgram, kb_er2 FNoProgram (fun _ _ _ _ _ _ _ _ _ => rfl)⟩
  have XNoHands : HasEr l.prog w K mg base "NoHands" ["value"] ["value"] (fun us ws => us ++ ws) (fun vs zs => vs ++ zs) := ⟨fNoHands, _, (ER _ (List.mem_of_getElem? (i := 9) rfl)).1, (ER _ (List.mem_of_getElem? (i := 9) rfl)).2.1, NF _ (List.mem_of_getElem? (i := 9) rfl), iNoHands, tNoHands, ok_NoHands FNoHands (ER _ (List.mem_of_getElem? (i := 9) rfl)).1 (NF _ (List.mem_of_getElem? (i := 9) rfl)), bNoHands, kb_er1 FNoHands (fun _ _ _ _ _ _ _ _ => rfl)⟩
  have XNoEntries : HasEr l.prog w K mg base "NoEntries" ["index"] ["index"] (fun us ws => us ++ ws) (fun vs zs => vs ++ zs) := ⟨fNoEntries, _, (ER _ (List.mem_of_getElem? (i := 10) rfl)).1, (ER _ (List.mem_of_getElem? (i := 10) rfl)).2.1, NF _ (List.mem_of_getElem? (i := 10) rfl), iNoEntries, tNoEntries, ok_NoEntries FNoEntries (ER _ (List.mem_of_getElem? (i := 10) rfl)).1 (NF _ (List.mem_of_getElem? (i := 10) rfl)), bNoEntries, kb_er1 FNoEntries (fun _ _ _ _ _ _ _ _ => rfl)⟩
  have XNoName : HasEr l.prog w K mg base "NoName" ["name"] ["name"] (fun us ws => us ++ ws) (fun vs zs => vs ++ zs) := ⟨fNoName, _, (ER _ (List.mem_of_getElem? (i := 11) rfl)).1, (ER _ (List.mem_of_getElem? (i := 11) rfl)).2.1, NF _ (List.mem_of_getElem? (i := 11) rfl), iNoName, tNoName, ok_NoName FNoName (ER _ (List.mem_of_getElem? (i := 11) rfl)).1 (NF _ (List.mem_of_getElem? (i := 11) rfl)), bNoName, kb_er1 FNoName (fun _ _ _ _ _ _ _ _ => rfl)⟩
  have XNoText : HasEr l.prog w K mg base "NoText" ["line"] ["line"] (fun us ws => us ++ ws) (fun vs zs => vs ++ zs) := ⟨fNoText, _, (ER _ (List.mem_of_getElem? (i := 12) rfl)).1, (ER _ (List.mem_of_getElem? (i := 12) rfl)).2.1, NF _ (List.mem_of_getElem? (i := 12) rfl), iNoText, tNoText, ok_NoText FNoText (ER _ (List.mem_of_getElem? (i := 12) rfl)).1 (NF _ (List.mem_of_getElem? (i := 12) rfl)), bNoText, kb_er1 FNoText (fun _ _ _ _ _ _ _ _ => rfl)⟩
  have XNoCommand : HasEr l.prog w K mg base "NoCommand" ["command"] ["command"] (fun us ws => us ++ ws) (fun vs zs => vs ++ zs) := ⟨fNoCommand, _, (ER _ (List.mem_of_getElem? (i := 13) rfl)).1, (ER _ (List.mem_of_getElem? (i := 13) rfl)).2.1, NF _ (List.mem_of_getElem? (i := 13) rfl), iNoCommand, tNoCommand, ok_NoCommand FNoCommand (ER _ (List.mem_of_getElem? (i := 13) rfl)).1 (NF _ (List.mem_of_getElem? (i := 13) rfl)), bNoCommand, kb_er1 FNoCommand (fun _ _ _ _ _ _ _ _ => rfl)⟩
  have XHalted : HasEr l.prog w K mg base "Halted" ["index", "answers"] ["answers", "index"] (fun us ws => us ++ ws.reverse) (fun vs zs => vs ++ zs.reverse) := ⟨fHalted, _, (ER _ (List.mem_of_getElem? (i := 14) rfl)).1, (ER _ (List.mem_of_getElem? (i := 14) rfl)).2.1, NF _ (List.mem_of_getElem? (i := 14) rfl), iHalted, tHalted, ok_Halted FHalted (ER _ (List.mem_of_getElem? (i := 14) rfl)).1 (NF _ (List.mem_of_getElem? (i := 14) rfl)), bHalted, kb_er2 FHalted (fun _ _ _ _ _ _ _ _ _ => rfl)⟩
  have XNoEntry : HasEr l.prog w K mg base "NoEntry" ["stamp"] ["stamp"] (fun us ws => us ++ ws) (fun vs zs => vs ++ zs) := ⟨fNoEntry, _, (ER _ (List.mem_of_getElem? (i := 15) rfl)).1, (ER _ (List.mem_of_getElem? (i := 15) rfl)).2.1, NF _ (List.mem_of_getElem? (i := 15) rfl), iNoEntry, tNoEntry, ok_NoEntry FNoEntry (ER _ (List.mem_of_getElem? (i := 15) rfl)).1 (NF _ (List.mem_of_getElem? (i := 15) rfl)), bNoEntry, kb_er1 FNoEntry (fun _ _ _ _ _ _ _ _ => rfl)⟩
  have XNoProcedure : HasEr l.prog w K mg base "NoProcedure" ["name"] ["name"] (fun us ws => us ++ ws) (fun vs zs => vs ++ zs) := ⟨fNoProcedure, _, (ER _ (List.mem_of_getElem? (i := 16) rfl)).1, (ER _ (List.mem_of_getElem? (i := 16) rfl)).2.1, NF _ (List.mem_of_getElem? (i := 16) rfl), iNoProcedure, tNoProcedure, ok_NoProcedure FNoProcedure (ER _ (List.mem_of_getElem? (i := 16) rfl)).1 (NF _ (List.mem_of_getElem? (i := 16) rfl)), bNoProcedure, kb_er1 FNoProcedure (fun _ _ _ _ _ _ _ _ => rfl)⟩
  have XNoHand : HasEr l.prog w K mg base "NoHand" ["hand"] ["hand"] (fun us ws => us ++ ws) (fun vs zs => vs ++ zs) := ⟨fNoHand, _, (ER _ (List.mem_of_getElem? (i := 17) rfl)).1, (ER _ (List.mem_of_getElem? (i := 17) rfl)).2.1, NF _ (List.mem_of_getElem? (i := 17) rfl), iNoHand, tNoHand, ok_NoHand FNoHand (ER _ (List.mem_of_getElem? (i := 17) rfl)).1 (NF _ (List.mem_of_getElem? (i := 17) rfl)), bNoHand, kb_er1 FNoHand (fun _ _ _ _ _ _ _ _ => rfl)⟩
  have XNoHistory : HasEr l.prog w K mg base "NoHistory" ["name"] ["name"] (fun us ws => us ++ ws) (fun vs zs => vs ++ zs) := ⟨fNoHistory, _, (ER _ (List.mem_of_getElem? (i := 18) rfl)).1, (ER _ (List.mem_of_getElem? (i := 18) rfl)).2.1, NF _ (List.mem_of_getElem? (i := 18) rfl), iNoHistory, tNoHistory, ok_NoHistory FNoHistory (ER _ (List.mem_of_getElem? (i := 18) rfl)).1 (NF _ (List.mem_of_getElem? (i := 18) rfl)), bNoHistory, kb_er1 FNoHistory (fun _ _ _ _ _ _ _ _ => rfl)⟩
  have XTaken : HasEr l.prog w K mg base "Taken" ["stamp"] ["stamp"] (fun us ws => us ++ ws) (fun vs zs => vs ++ zs) := ⟨fTaken, _, (ER _ (List.mem_of_getElem? (i := 19) rfl)).1, (ER _ (List.mem_of_getElem? (i := 19) rfl)).2.1, NF _ (List.mem_of_getElem? (i := 19) rfl), iTaken, tTaken, ok_Taken FTaken (ER _ (List.mem_of_getElem? (i := 19) rfl)).1 (NF _ (List.mem_of_getElem? (i := 19) rfl)), bTaken, kb_er1 FTaken (fun _ _ _ _ _ _ _ _ => rfl)⟩
  have XStanding : HasEr l.prog w K mg base "Standing" ["stamp"] ["stamp"] (fun us ws => us ++ ws) (fun vs zs => vs ++ zs) := ⟨fStanding, _, (ER _ (List.mem_of_getElem? (i := 20) rfl)).1, (ER _ (List.mem_of_getElem? (i := 20) rfl)).2.1, NF _ (List.mem_of_getElem? (i := 20) rfl), iStanding, tStanding, ok_Standing FStanding (ER _ (List.mem_of_getElem? (i := 20) rfl)).1 (NF _ (List.mem_of_getElem? (i := 20) rfl)), bStanding, kb_er1 FStanding (fun _ _ _ _ _ _ _ _ => rfl)⟩
  have XRemoved : HasEr l.prog w K mg base "Removed" ["stamp"] ["stamp"] (fun us ws => us ++ ws) (fun vs zs => vs ++ zs) := ⟨fRemoved, _, (ER _ (List.mem_of_getElem? (i := 21) rfl)).1, (ER _ (List.mem_of_getElem? (i := 21) rfl)).2.1, NF _ (List.mem_of_getElem? (i := 21) rfl), iRemoved, tRemoved, ok_Removed FRemoved (ER _ (List.mem_of_getElem? (i := 21) rfl)).1 (NF _ (List.mem_of_getElem? (i := 21) rfl)), bRemoved, kb_er1 FRemoved (fun _ _ _ _ _ _ _ _ => rfl)⟩
  have XFolded : HasEr l.prog w K mg base "Folded" ["stamp"] ["stamp"] (fun us ws => us ++ ws) (fun vs zs => vs ++ zs) := ⟨fFolded, _, (ER _ (List.mem_of_getElem? (i := 22) rfl)).1, (ER _ (List.mem_of_getElem? (i := 22) rfl)).2.1, NF _ (List.mem_of_getElem? (i := 22) rfl), iFolded, tFolded, ok_Folded FFolded (ER _ (List.mem_of_getElem? (i := 22) rfl)).1 (NF _ (List.mem_of_getElem? (i := 22) rfl)), bFolded, kb_er1 FFolded (fun _ _ _ _ _ _ _ _ => rfl)⟩
  have XClash : HasEr l.prog w K mg base "Clash" ["stamp"] ["stamp"] (fun us ws => us ++ ws) (fun vs zs => vs ++ zs) := ⟨fClash, _, (ER _ (List.mem_of_getElem? (i := 23) rfl)).1, (ER _ (List.mem_of_getElem? (i := 23) rfl)).2.1, NF _ (List.mem_of_getElem? (i := 23) rfl), iClash, tClash, ok_Clash FClash (ER _ (List.mem_of_getElem? (i := 23) rfl)).1 (NF _ (List.mem_of_getElem? (i := 23) rfl)), bClash, kb_er1 FClash (fun _ _ _ _ _ _ _ _ => rfl)⟩
  have XNotOwn : HasEr l.prog w K mg base "NotOwn" ["stamp"] ["stamp"] (fun us ws => us ++ ws) (fun vs zs => vs ++ zs) := ⟨fNotOwn, _, (ER _ (List.mem_of_getElem? (i := 24) rfl)).1, (ER _ (List.mem_of_getElem? (i := 24) rfl)).2.1, NF _ (List.mem_of_getElem? (i := 24) rfl), iNotOwn, tNotOwn, ok_NotOwn FNotOwn (ER _ (List.mem_of_getElem? (i := 24) rfl)).1 (NF _ (List.mem_of_getElem? (i := 24) rfl)), bNotOwn, kb_er1 FNotOwn (fun _ _ _ _ _ _ _ _ => rfl)⟩
  have XNotHeard : HasEr l.prog w K mg base "NotHeard" ["hand"] ["hand"] (fun us ws => us ++ ws) (fun vs zs => vs ++ zs) := ⟨fNotHeard, _, (ER _ (List.mem_of_getElem? (i := 25) rfl)).1, (ER _ (List.mem_of_getElem? (i := 25) rfl)).2.1, NF _ (List.mem_of_getElem? (i := 25) rfl), iNotHeard, tNotHeard, ok_NotHeard FNotHeard (ER _ (List.mem_of_getElem? (i := 25) rfl)).1 (NF _ (List.mem_of_getElem? (i := 25) rfl)), bNotHeard, kb_er1 FNotHeard (fun _ _ _ _ _ _ _ _ => rfl)⟩
  have XBehind : HasEr l.prog w K mg base "Behind" ["time"] ["time"] (fun us ws => us ++ ws) (fun vs zs => vs ++ zs) := ⟨fBehind, _, (ER _ (List.mem_of_getElem? (i := 26) rfl)).1, (ER _ (List.mem_of_getElem? (i := 26) rfl)).2.1, NF _ (List.mem_of_getElem? (i := 26) rfl), iBehind, tBehind, ok_Behind FBehind (ER _ (List.mem_of_getElem? (i := 26) rfl)).1 (NF _ (List.mem_of_getElem? (i := 26) rfl)), bBehind, kb_er1 FBehind (fun _ _ _ _ _ _ _ _ => rfl)⟩
  have XUnchanged : HasEr l.prog w K mg base "Unchanged" ["value"] ["value"] (fun us ws => us ++ ws) (fun vs zs => vs ++ zs) := ⟨fUnchanged, _, (ER _ (List.mem_of_getElem? (i := 27) rfl)).1, (ER _ (List.mem_of_getElem? (i := 27) rfl)).2.1, NF _ (List.mem_of_getElem? (i := 27) rfl), iUnchanged, tUnchanged, ok_Unchanged FUnchanged (ER _ (List.mem_of_getElem? (i := 27) rfl)).1 (NF _ (List.mem_of_getElem? (i := 27) rfl)), bUnchanged, kb_er1 FUnchanged (fun _ _ _ _ _ _ _ _ => rfl)⟩
  have XKnown : HasEr l.prog w K mg base "Known" ["cells"] ["cells"] (fun us ws => us ++ ws) (fun vs zs => vs ++ zs) := ⟨fKnown, _, (ER _ (List.mem_of_getElem? (i := 28) rfl)).1, (ER _ (List.mem_of_getElem? (i := 28) rfl)).2.1, NF _ (List.mem_of_getElem? (i := 28) rfl), iKnown, tKnown, ok_Known FKnown (ER _ (List.mem_of_getElem? (i := 28) rfl)).1 (NF _ (List.mem_of_getElem? (i := 28) rfl)), bKnown, kb_er1 FKnown (fun _ _ _ _ _ _ _ _ => rfl)⟩
  have XUnknown : HasEr l.prog w K mg base "Unknown" ["cells"] ["cells"] (fun us ws => us ++ ws) (fun vs zs => vs ++ zs) := ⟨fUnknown, _, (ER _ (List.mem_of_getElem? (i := 29) rfl)).1, (ER _ (List.mem_of_getElem? (i := 29) rfl)).2.1, NF _ (List.mem_of_getElem? (i := 29) rfl), iUnknown, tUnknown, ok_Unknown FUnknown (ER _ (List.mem_of_getElem? (i := 29) rfl)).1 (NF _ (List.mem_of_getElem? (i := 29) rfl)), bUnknown, kb_er1 FUnknown (fun _ _ _ _ _ _ _ _ => rfl)⟩
  have XTooWide : HasEr l.prog w K mg base "TooWide" ["needed"] ["needed"] (fun us ws => us ++ ws) (fun vs zs => vs ++ zs) := ⟨fTooWide, _, (ER _ (List.mem_of_getElem? (i := 30) rfl)).1, (ER _ (List.mem_of_getElem? (i := 30) rfl)).2.1, NF _ (List.mem_of_getElem? (i := 30) rfl), iTooWide, tTooWide, ok_TooWide FTooWide (ER _ (List.mem_of_getElem? (i := 30) rfl)).1 (NF _ (List.mem_of_getElem? (i := 30) rfl)), bTooWide, kb_er1 FTooWide (fun _ _ _ _ _ _ _ _ => rfl)⟩
  have XTooMany : HasEr l.prog w K mg base "TooMany" ["limit"] ["limit"] (fun us ws => us ++ ws) (fun vs zs => vs ++ zs) := ⟨fTooMany, _, (ER _ (List.mem_of_getElem? (i := 31) rfl)).1, (ER _ (List.mem_of_getElem? (i := 31) rfl)).2.1, NF _ (List.mem_of_getElem? (i := 31) rfl), iTooMany, tTooMany, ok_TooMany FTooMany (ER _ (List.mem_of_getElem? (i := 31) rfl)).1 (NF _ (List.mem_of_getElem? (i := 31) rfl)), bTooMany, kb_er1 FTooMany (fun _ _ _ _ _ _ _ _ => rfl)⟩
  have XUnlike : HasEr l.prog w K mg base "Unlike" ["one", "other"] ["other", "one"] (fun us ws => us ++ ws.reverse) (fun vs zs => vs ++ zs.reverse) := ⟨fUnlike, _, (ER _ (List.mem_of_getElem? (i := 32) rfl)).1, (ER _ (List.mem_of_getElem? (i := 32) rfl)).2.1, NF _ (List.mem_of_getElem? (i := 32) rfl), iUnlike, tUnlike, ok_Unlike FUnlike (ER _ (List.mem_of_getElem? (i := 32) rfl)).1 (NF _ (List.mem_of_getElem? (i := 32) rfl)), bUnlike, kb_er2 FUnlike (fun _ _ _ _ _ _ _ _ _ => rfl)⟩
  have HQ0 : HasG l.prog w K mg base "_law_part_0" 4 ["_law_given_here"] spPart := ⟨f30, _, ok_part0 F30 B EK HWd HBs XNoSize XNoCell XNoCells XNoFlip XNoTable XNoTime XNoStamp XNoCount, m30, k30, b30⟩
  have HQ1 : HasG l.prog w K mg base "_law_part_1" 4 ["_law_given_here"] spPart := ⟨f31, _, ok_part1 F31 B EK HWd HBs XNoProgram XNoHands XNoEntries XNoName XNoText XNoCommand XHalted, m31, k31, b31⟩
  have HQ2 : HasG l.prog w K mg base "_law_part_2" 4 ["_law_given_here"] spPart := ⟨f32, _, ok_part2 F32 B EK HWd HBs XNoEntry XNoProcedure XNoHand XNoHistory, m32, k32, b32⟩
  have HQ3 : HasG l.prog w K mg base "_law_part_3" 4 ["_law_given_here"] spPart := ⟨f33, _, ok_part3 F33 B EK HWd HBs XTaken XStanding XRemoved XFolded XClash XNotOwn XNotHeard XBehind, m33, k33, b33⟩
  have HQ4 : HasG l.prog w K mg base "_law_part_4" 4 ["_law_given_here"] spPart := ⟨f34, _, ok_part4 F34 B EK HWd HBs XUnchanged XKnown XUnknown, m34, k34, b34⟩
  have HQ5 : HasG l.prog w K mg base "_law_part_5" 4 ["_law_given_here"] spPart := ⟨f35, _, ok_part5 F35 B EK HWd HBs XTooWide XTooMany XUnlike, m35, k35, b35⟩
  have HA : HasG l.prog w K mg base "_law_all_right" 5 ["_law_given_here"] spPart := ⟨f37, _, ok_all F37 B EK HQ0 HQ1 HQ2 HQ3 HQ4 HQ5, m37, k37, b37⟩
  exact ok_law F38 B HP HGv HA
end K18
namespace K18
open PySem PySem.Spec PyProof.Rows L2 Par
theorem all_of {l : PySem.W.OpenLaw} {w : World} {K : Hk.Fr} {h : Heap} {mg : Str → Option Value} {fa : Addr} (X : K.In h) (G : h.Ns mainGlobals mg) (hfa : mg "law" = some (.ref fa)) (c : Hk.Says hkF hkD K) :
    ∃ fd : FuncData, (∀ (s : Shared) (v : Value), BindsTo s fd ⟨[v], []⟩ [("_law_script", v)]) ∧ ∀ base : Heap, K.In base → base.Ns mainGlobals mg → FnG l.prog w K mg base CX0 9 fa fd ["_law_script"] (spLaw K) := by
  have a1 : PySem.W.nsIn K mainGlobals "is_integer" = some (some (.ref (He.ga K "is_integer"))) := of_decide_eq_true (c.fact 0 (f := fun K => decide (PySem.W.nsIn K mainGlobals "is_integer" = some (some (.ref (He.ga K "is_integer"))))) rfl)
  obtain ⟨oc1, od1, kV1, dc1, pm1, an1, cd1, ct1, sl1, l1, c1, k1⟩ := c.def_ 0 (d := ⟨fun K => (He.ga K "is_integer"), "is_integer", "is_integer", (topS 40)⟩) rfl
  have a2 : PySem.W.nsIn K mainGlobals "is_integer_between" = some (some (.ref (He.ga K "is_integer_between"))) := of_decide_eq_true (c.fact 1 (f := fun K => decide (PySem.W.nsIn K mainGlobals "is_integer_between" = some (some (.ref (He.ga K "is_integer_between"))))) rfl)
  obtain ⟨oc2, od2, kV2, dc2, pm2, an2, cd2, ct2, sl2, l2, c2, k2⟩ := c.def_ 1 (d := ⟨fun K => (He.ga K "is_integer_between"), "is_integer_between", "is_integer_between", (topS 41)⟩) rfl
  have a3 : PySem.W.nsIn K mainGlobals "is_size" = some (some (.ref (He.ga K "is_size"))) := of_decide_eq_true (c.fact 2 (f := fun K => decide (PySem.W.nsIn K mainGlobals "is_size" = some (some (.ref (He.ga K "is_size"))))) rfl)
  obtain ⟨oc3, od3, kV3, dc3, pm3, an3, cd3, ct3, sl3, l3, c3, k3⟩ := c.def_ 2 (d := ⟨fun K => (He.ga K "is_size"), "is_size", "is_size", (topS 44)⟩) rfl
  have a5 : PySem.W.nsIn K mainGlobals "are_cells" = some (some (.ref (He.ga K "are_cells"))) := of_decide_eq_true (c.fact 3 (f := fun K => decide (PySem.W.nsIn K mainGlobals "are_cells" = some (some (.ref (He.ga K "are_cells"))))) rfl)
  obtain ⟨oc5, od5, kV5, dc5, pm5, an5, cd5, ct5, sl5, l5, c5, k5⟩ := c.def_ 3 (d := ⟨fun K => (He.ga K "are_cells"), "are_cells", "are_cells", (topS 46)⟩) rfl
  have a20 : PySem.W.nsIn K mainGlobals "_law_pot" = some (some (.ref (He.ga K "_law_pot"))) := of_decide_eq_true (c.fact 4 (f := fun K => decide (PySem.W.nsIn K mainGlobals "_law_pot" = some (some (.ref (He.ga K "_law_pot"))))) rfl)
  obtain ⟨oc20, od20, kV20, dc20, pm20, an20, cd20, ct20, sl20, l20, c20, k20⟩ := c.def_ 4 (d := ⟨fun K => (He.ga K "_law_pot"), "_law_pot", "_law_pot", (topS 52)⟩) rfl
  have a21 : PySem.W.nsIn K mainGlobals "_law_draw" = some (some (.ref (He.ga K "_law_draw"))) := of_decide_eq_true (c.fact 5 (f := fun K => decide (PySem.W.nsIn K mainGlobals "_law_draw" = some (some (.ref (He.ga K "_law_draw"))))) rfl)
  obtain ⟨oc21, od21, kV21, dc21, pm21, an21, cd21, ct21, sl21, l21, c21, k21⟩ := c.def_ 5 (d := ⟨fun K => (He.ga K "_law_draw"), "_law_draw", "_law_draw", (topS 53)⟩) rfl
  have a22 : PySem.W.nsIn K mainGlobals "_law_spots" = some (some (.ref (He.ga K "_law_spots"))) := of_decide_eq_true (c.fact 6 (f := fun K => decide (PySem.W.nsIn K mainGlobals "_law_spots" = some (some (.ref (He.ga K "_law_spots"))))) rfl)
  obtain ⟨oc22, od22, kV22, dc22, pm22, an22, cd22, ct22, sl22, l22, c22, k22⟩ := c.def_ 6 (d := ⟨fun K => (He.ga K "_law_spots"), "_law_spots", "_law_spots", (topS 54)⟩) rfl
  have a23 : PySem.W.nsIn K mainGlobals "_law_any_thing" = some (some (.ref (He.ga K "_law_any_thing"))) := of_decide_eq_true (c.fact 7 (f := fun K => decide (PySem.W.nsIn K mainGlobals "_law_any_thing" = some (some (.ref (He.ga K "_law_any_thing"))))) rfl)
  obtain ⟨oc23, od23, kV23, dc23, pm23, an23, cd23, ct23, sl23, l23, c23, k23⟩ := c.def_ 7 (d := ⟨fun K => (He.ga K "_law_any_thing"), "_law_any_thing", "_law_any_thing", (topS 55)⟩) rfl
  have a24 : PySem.W.nsIn K mainGlobals "_law_base" = some (some (.ref (He.ga K "_law_base"))) := of_decide_eq_true (c.fact 8 (f := fun K => decide (PySem.W.nsIn K mainGlobals "_law_base" = some (some (.ref (He.ga K "_law_base"))))) rfl)
  obtain ⟨oc24, od24, kV24, dc24, pm24, an24, cd24, ct24, sl24, l24, c24, k24⟩ := c.def_ 8 (d := ⟨fun K => (He.ga K "_law_base"), "_law_base", "_law_base", (topS 56)⟩) rfl
  have a25 : PySem.W.nsIn K mainGlobals "_law_first_words" = some (some (.ref (He.ga K "_law_first_words"))) := of_decide_eq_true (c.fact 9 (f := fun K => decide (PySem.W.nsIn K mainGlobals "_law_first_words" = some (some (.ref (He.ga K "_law_first_words"))))) rfl)
  obtain ⟨oc25, od25, kV25, dc25, pm25, an25, cd25, ct25, sl25, l25, c25, k25⟩ := c.def_ 9 (d := ⟨fun K => (He.ga K "_law_first_words"), "_law_first_words", "_law_first_words", (topS 57)⟩) rfl
  have a26 : PySem.W.nsIn K mainGlobals "_law_last_words" = some (some (.ref (He.ga K "_law_last_words"))) := of_decide_eq_true (c.fact 10 (f := fun K => decide (PySem.W.nsIn K mainGlobals "_law_last_words" = some (some (.ref (He.ga K "_law_last_words"))))) rfl)
  obtain ⟨oc26, od26, kV26, dc26, pm26, an26, cd26, ct26, sl26, l26, c26, k26⟩ := c.def_ 10 (d := ⟨fun K => (He.ga K "_law_last_words"), "_law_last_words", "_law_last_words", (topS 58)⟩) rfl
  have a27 : PySem.W.nsIn K mainGlobals "_law_words" = some (some (.ref (He.ga K "_law_words"))) := of_decide_eq_true (c.fact 11 (f := fun K => decide (PySem.W.nsIn K mainGlobals "_law_words" = some (some (.ref (He.ga K "_law_words"))))) rfl)
  obtain ⟨oc27, od27, kV27, dc27, pm27, an27, cd27, ct27, sl27, l27, c27, k27⟩ := c.def_ 11 (d := ⟨fun K => (He.ga K "_law_words"), "_law_words", "_law_words", (topS 59)⟩) rfl
  have a30 : PySem.W.nsIn K mainGlobals "_law_part_0" = some (some (.ref (He.ga K "_law_part_0"))) := of_decide_eq_true (c.fact 12 (f := fun K => decide (PySem.W.nsIn K mainGlobals "_law_part_0" = some (some (.ref (He.ga K "_law_part_0"))))) rfl)
  obtain ⟨oc30, od30, kV30, dc30, pm30, an30, cd30, ct30, sl30, l30, c30, k30⟩ := c.def_ 12 (d := ⟨fun K => (He.ga K "_law_part_0"), "_law_part_0", "_law_part_0", (topS 60)⟩) rfl
  have a31 : PySem.W.nsIn K mainGlobals "_law_part_1" = some (some (.ref (He.ga K "_law_part_1"))) := of_decide_eq_true (c.fact 13 (f := fun K => decide (PySem.W.nsIn K mainGlobals "_law_part_1" = some (some (.ref (He.ga K "_law_part_1"))))) rfl)
  obtain ⟨oc31, od31, kV31, dc31, pm31, an31, cd31, ct31, sl31, l31, c31, k31⟩ := c.def_ 13 (d := ⟨fun K => (He.ga K "_law_part_1"), "_law_part_1", "_law_part_1", (topS 61)⟩) rfl
  have a32 : PySem.W.nsIn K mainGlobals "_law_part_2" = some (some (.ref (He.ga K "_law_part_2"))) := of_decide_eq_true (c.fact 14 (f := fun K => decide (PySem.W.nsIn K mainGlobals "_law_part_2" = some (some (.ref (He.ga K "_law_part_2"))))) rfl)
  obtain ⟨oc32, od32, kV32, dc32, pm32, an32, cd32, ct32, sl32, l32, c32, k32⟩ := c.def_ 14 (d := ⟨fun K => (He.ga K "_law_part_2"), "_law_part_2", "_law_part_2", (topS 62)⟩) rfl
  have a33 : PySem.W.nsIn K mainGlobals "_law_part_3" = some (some (.ref (He.ga K "_law_part_3"))) := of_decide_eq_true (c.fact 15 (f := fun K => decide (PySem.W.nsIn K mainGlobals "_law_part_3" = some (some (.ref (He.ga K "_law_part_3"))))) rfl)
  obtain ⟨oc33, od33, kV33, dc33, pm33, an33, cd33, ct33, sl33, l33, c33, k33⟩ := c.def_ 15 (d := ⟨fun K => (He.ga K "_law_part_3"), "_law_part_3", "_law_part_3", (topS 63)⟩) rfl
  have a34 : PySem.W.nsIn K mainGlobals "_law_part_4" = some (some (.ref (He.ga K "_law_part_4"))) := of_decide_eq_true (c.fact 16 (f := fun K => decide (PySem.W.nsIn K mainGlobals "_law_part_4" = some (some (.ref (He.ga K "_law_part_4"))))) rfl)
  obtain ⟨oc34, od34, kV34, dc34, pm34, an34, cd34, ct34, sl34, l34, c34, k34⟩ := c.def_ 16 (d := ⟨fun K => (He.ga K "_law_part_4"), "_law_part_4", "_law_part_4", (topS 64)⟩) rfl
  have a35 : PySem.W.nsIn K mainGlobals "_law_part_5" = some (some (.ref (He.ga K "_law_part_5"))) := of_decide_eq_true (c.fact 17 (f := fun K => decide (PySem.W.nsIn K mainGlobals "_law_part_5" = some (some (.ref (He.ga K "_law_part_5"))))) rfl)
  obtain ⟨oc35, od35, kV35, dc35, pm35, an35, cd35, ct35, sl35, l35, c35, k35⟩ := c.def_ 17 (d := ⟨fun K => (He.ga K "_law_part_5"), "_law_part_5", "_law_part_5", (topS 65)⟩) rfl
  have a36 : PySem.W.nsIn K mainGlobals "_law_given" = some (some (.ref (He.ga K "_law_given"))) := of_decide_eq_true (c.fact 18 (f := fun K => decide (PySem.W.nsIn K mainGlobals "_law_given" = some (some (.ref (He.ga K "_law_given"))))) rfl)
  obtain ⟨oc36, od36, kV36, dc36, pm36, an36, cd36, ct36, sl36, l36, c36, k36⟩ := c.def_ 18 (d := ⟨fun K => (He.ga K "_law_given"), "_law_given", "_law_given", (topS 66)⟩) rfl
  have a37 : PySem.W.nsIn K mainGlobals "_law_all_right" = some (some (.ref (He.ga K "_law_all_right"))) := of_decide_eq_true (c.fact 19 (f := fun K => decide (PySem.W.nsIn K mainGlobals "_law_all_right" = some (some (.ref (He.ga K "_law_all_right"))))) rfl)
  obtain ⟨oc37, od37, kV37, dc37, pm37, an37, cd37, ct37, sl37, l37, c37, k37⟩ := c.def_ 19 (d := ⟨fun K => (He.ga K "_law_all_right"), "_law_all_right", "_law_all_right", (topS 67)⟩) rfl
  have a38 : PySem.W.nsIn K mainGlobals "law" = some (some (.ref (He.ga K "law"))) := of_decide_eq_true (c.fact 20 (f := fun K => decide (PySem.W.nsIn K mainGlobals "law" = some (some (.ref (He.ga K "law"))))) rfl)
  obtain ⟨oc38, od38, kV38, dc38, pm38, an38, cd38, ct38, sl38, l38, c38, k38⟩ := c.def_ 20 (d := ⟨fun K => (He.ga K "law"), "law", "law", (topS 68)⟩) rfl
  have a4 : PySem.W.nsIn K mainGlobals "is_cell" = some (some (.ref (He.ga K "is_cell"))) := of_decide_eq_true (c.fact 21 (f := fun K => decide (PySem.W.nsIn K mainGlobals "is_cell" = some (some (.ref (He.ga K "is_cell"))))) rfl)
  obtain ⟨oc4, od4, dc4, pm4, an4, cd4, ct4, sl4, l4, c4, k4⟩ := Hk.kw_look (c.fact 22 (f := fun K => Hk.kwB K (He.ga K "is_cell")) rfl) (c.def_ 21 (d := ⟨fun K => (He.ga K "is_cell"), "is_cell", "is_cell", (topS 45)⟩) rfl)
  obtain ⟨t4, d4⟩ := Hk.int_ok (c.fact 23 (f := fun K => Hk.intB (PySem.W.nsIn K (Hk.kwA K (He.ga K "is_cell")) "size") (40)) rfl)
  have a6 : PySem.W.nsIn K mainGlobals "cell_tuple" = some (some (.ref (He.ga K "cell_tuple"))) := of_decide_eq_true (c.fact 24 (f := fun K => decide (PySem.W.nsIn K mainGlobals "cell_tuple" = some (some (.ref (He.ga K "cell_tuple"))))) rfl)
  obtain ⟨oc6, od6, dc6, pm6, an6, cd6, ct6, sl6, l6, c6, k6⟩ := Hk.kw_look (c.fact 25 (f := fun K => Hk.kwB K (He.ga K "cell_tuple")) rfl) (c.def_ 22 (d := ⟨fun K => (He.ga K "cell_tuple"), "cell_tuple", "cell_tuple", (topS 47)⟩) rfl)
  obtain ⟨t6, d6⟩ := Hk.int_ok (c.fact 26 (f := fun K => Hk.intB (PySem.W.nsIn K (Hk.kwA K (He.ga K "cell_tuple")) "size") (40)) rfl)
  have aC : PySem.W.nsIn K mainGlobals "Board" = some (some (.ref (He.ga K "Board"))) := of_decide_eq_true (c.fact 27 (f := fun K => decide (PySem.W.nsIn K mainGlobals "Board" = some (some (.ref (He.ga K "Board"))))) rfl)
  have pgC : PySem.W.plainGet K (He.ga K "Board") Str.empty = true := c.fact 28 (f := fun K => PySem.W.plainGet K (He.ga K "Board") Str.empty) rfl
  have hdC : PySem.W.hasDictIn K (He.ga K "Board") = true := c.fact 29 (f := fun K => PySem.W.hasDictIn K (He.ga K "Board")) rfl
  have poC : PySem.W.plainOver K (He.ga K "Board") = true := c.fact 30 (f := fun K => PySem.W.plainOver K (He.ga K "Board")) rfl
  have saC : PySem.W.findIn K (.ref (He.ga K "Board")) "__setattr__" = some (some (.builtin "object.__setattr__")) := of_decide_eq_true (c.fact 31 (f := fun K => decide (PySem.W.findIn K (.ref (He.ga K "Board")) "__setattr__" = some (some (.builtin "object.__setattr__")))) rfl)
  have mkC : PySem.W.makesIn K (He.ga K "Board") = true := c.fact 32 (f := fun K => PySem.W.makesIn K (He.ga K "Board")) rfl
  have kcC : PySem.W.keepIn K (.ref (He.ga K "Board")) = true := c.fact 33 (f := fun K => PySem.W.keepIn K (.ref (He.ga K "Board"))) rfl
  have nf0C : PySem.W.findIn K (.ref (He.ga K "Board")) "states" = some none := of_decide_eq_true (c.fact 34 (f := fun K => decide (PySem.W.findIn K (.ref (He.ga K "Board")) "states" = some none)) rfl)
  have iI : PySem.W.findIn K (.ref (He.ga K "Board")) "__init__" = some (some (.ref (He.ma K (He.ga K "Board") "__init__"))) := of_decide_eq_true (c.fact 35 (f := fun K => decide (PySem.W.findIn K (.ref (He.ga K "Board")) "__init__" = some (some (.ref (He.ma K (He.ga K "Board") "__init__"))))) rfl)
  have nI : PySem.W.isFn K (.ref (He.ma K (He.ga K "Board") "__init__")) = true := c.fact 36 (f := fun K => PySem.W.isFn K (.ref (He.ma K (He.ga K "Board") "__init__"))) rfl
  obtain ⟨ocI, odI, dcI, pmI, anI, cdI, ctI, slI, lI, cI, kI⟩ := Hk.kw_look (c.fact 37 (f := fun K => Hk.kwB K (He.ma K (He.ga K "Board") "__init__")) rfl) (c.def_ 23 (d := ⟨fun K => (He.ma K (He.ga K "Board") "__init__"), "__init__", "Board.__init__", (inClass (topS 50) 0)⟩) rfl)
  have dI := Hk.ref_ok (c.fact 38 (f := fun K => Hk.refB (PySem.W.nsIn K (Hk.kwA K (He.ma K (He.ga K "Board") "__init__")) "up")) rfl)
  obtain ⟨ode, ne, sle, le⟩ := Hk.nil_ok (c.fact 39 (f := fun K => Hk.nilB K (Hk.refA (PySem.W.nsIn K (Hk.kwA K (He.ma K (He.ga K "Board") "__init__")) "up"))) rfl)
  obtain ⟨tM, c_M⟩ := Hk.int_ok (c.fact 40 (f := fun K => Hk.intB (PySem.W.nsIn K mainGlobals "MOST_CELLS") (40)) rfl)
  have aNoSize : PySem.W.nsIn K mainGlobals "NoSize" = some (some (.ref (He.ga K "NoSize"))) := of_decide_eq_true (c.fact 41 (f := fun K => decide (PySem.W.nsIn K mainGlobals "NoSize" = some (some (.ref (He.ga K "NoSize"))))) rfl)
  have iNoSize : PySem.W.findIn K (.ref (He.ga K "NoSize")) "__init__" = some (some (.ref (He.ma K (He.ga K "NoSize") "__init__"))) := of_decide_eq_true (c.fact 42 (f := fun K => decide (PySem.W.findIn K (.ref (He.ga K "NoSize")) "__init__" = some (some (.ref (He.ma K (He.ga K "NoSize") "__init__"))))) rfl)
  have tNoSize : PySem.W.typeIn K (.ref (He.ma K (He.ga K "NoSize") "__init__")) = some (.type "function") := of_decide_eq_true (c.fact 43 (f := fun K => decide (PySem.W.typeIn K (.ref (He.ma K (He.ga K "NoSize") "__init__")) = some (.type "function"))) rfl)
  obtain ⟨ocNoSize, odNoSize, kVNoSize, dcNoSize, pmNoSize, anNoSize, cdNoSize, ctNoSize, slNoSize, lNoSize, cNoSize, kNoSize⟩ := c.def_ 24 (d := ⟨fun K => (He.ma K (He.ga K "NoSize") "__init__"), "__init__", "NoSize.__init__", (inClass (topS 3) 0)⟩) rfl
  have aNoCell : PySem.W.nsIn K mainGlobals "NoCell" = some (some (.ref (He.ga K "NoCell"))) := of_decide_eq_true (c.fact 44 (f := fun K => decide (PySem.W.nsIn K mainGlobals "NoCell" = some (some (.ref (He.ga K "NoCell"))))) rfl)
  have iNoCell : PySem.W.findIn K (.ref (He.ga K "NoCell")) "__init__" = some (some (.ref (He.ma K (He.ga K "NoCell") "__init__"))) := of_decide_eq_true (c.fact 45 (f := fun K => decide (PySem.W.findIn K (.ref (He.ga K "NoCell")) "__init__" = some (some (.ref (He.ma K (He.ga K "NoCell") "__init__"))))) rfl)
  have tNoCell : PySem.W.typeIn K (.ref (He.ma K (He.ga K "NoCell") "__init__")) = some (.type "function") := of_decide_eq_true (c.fact 46 (f := fun K => decide (PySem.W.typeIn K (.ref (He.ma K (He.ga K "NoCell") "__init__")) = some (.type "function"))) rfl)
  obtain ⟨ocNoCell, odNoCell, kVNoCell, dcNoCell, pmNoCell, anNoCell, cdNoCell, ctNoCell, slNoCell, lNoCell, cNoCell, kNoCell⟩ := c.def_ 25 (d := ⟨fun K => (He.ma K (He.ga K "NoCell") "__init__"), "__init__", "NoCell.__init__", (inClass (topS 4) 0)⟩) rfl
  have aNoCells : PySem.W.nsIn K mainGlobals "NoCells" = some (some (.ref (He.ga K "NoCells"))) := of_decide_eq_true (c.fact 47 (f := fun K => decide (PySem.W.nsIn K mainGlobals "NoCells" = some (some (.ref (He.ga K "NoCells"))))) rfl)
  have iNoCells : PySem.W.findIn K (.ref (He.ga K "NoCells")) "__init__" = some (some (.ref (He.ma K (He.ga K "NoCells") "__init__"))) := of_decide_eq_true (c.fact 48 (f := fun K => decide (PySem.W.findIn K (.ref (He.ga K "NoCells")) "__init__" = some (some (.ref (He.ma K (He.ga K "NoCells") "__init__"))))) rfl)
  have tNoCells : PySem.W.typeIn K (.ref (He.ma K (He.ga K "NoCells") "__init__")) = some (.type "function") := of_decide_eq_true (c.fact 49 (f := fun K => decide (PySem.W.typeIn K (.ref (He.ma K (He.ga K "NoCells") "__init__")) = some (.type "function"))) rfl)
  obtain ⟨ocNoCells, odNoCells, kVNoCells, dcNoCells, pmNoCells, anNoCells, cdNoCells, ctNoCells, slNoCells, lNoCells, cNoCells, kNoCells⟩ := c.def_ 26 (d := ⟨fun K => (He.ma K (He.ga K "NoCells") "__init__"), "__init__", "NoCells.__init__", (inClass (topS 5) 0)⟩) rfl
  have aNoFlip : PySem.W.nsIn K mainGlobals "NoFlip" = some (some (.ref (He.ga K "NoFlip"))) := of_decide_eq_true (c.fact 50 (f := fun K => decide (PySem.W.nsIn K mainGlobals "NoFlip" = some (some (.ref (He.ga K "NoFlip"))))) rfl)
  have iNoFlip : PySem.W.findIn K (.ref (He.ga K "NoFlip")) "__init__" = some (some (.ref (He.ma K (He.ga K "NoFlip") "__init__"))) := of_decide_eq_true (c.fact 51 (f := fun K => decide (PySem.W.findIn K (.ref (He.ga K "NoFlip")) "__init__" = some (some (.ref (He.ma K (He.ga K "NoFlip") "__init__"))))) rfl)
  have tNoFlip : PySem.W.typeIn K (.ref (He.ma K (He.ga K "NoFlip") "__init__")) = some (.type "function") := of_decide_eq_true (c.fact 52 (f := fun K => decide (PySem.W.typeIn K (.ref (He.ma K (He.ga K "NoFlip") "__init__")) = some (.type "function"))) rfl)
  obtain ⟨ocNoFlip, odNoFlip, kVNoFlip, dcNoFlip, pmNoFlip, anNoFlip, cdNoFlip, ctNoFlip, slNoFlip, lNoFlip, cNoFlip, kNoFlip⟩ := c.def_ 27 (d := ⟨fun K => (He.ma K (He.ga K "NoFlip") "__init__"), "__init__", "NoFlip.__init__", (inClass (topS 6) 0)⟩) rfl
  have aNoTable : PySem.W.nsIn K mainGlobals "NoTable" = some (some (.ref (He.ga K "NoTable"))) := of_decide_eq_true (c.fact 53 (f := fun K => decide (PySem.W.nsIn K mainGlobals "NoTable" = some (some (.ref (He.ga K "NoTable"))))) rfl)
  have iNoTable : PySem.W.findIn K (.ref (He.ga K "NoTable")) "__init__" = some (some (.ref (He.ma K (He.ga K "NoTable") "__init__"))) := of_decide_eq_true (c.fact 54 (f := fun K => decide (PySem.W.findIn K (.ref (He.ga K "NoTable")) "__init__" = some (some (.ref (He.ma K (He.ga K "NoTable") "__init__"))))) rfl)
  have tNoTable : PySem.W.typeIn K (.ref (He.ma K (He.ga K "NoTable") "__init__")) = some (.type "function") := of_decide_eq_true (c.fact 55 (f := fun K => decide (PySem.W.typeIn K (.ref (He.ma K (He.ga K "NoTable") "__init__")) = some (.type "function"))) rfl)
  obtain ⟨ocNoTable, odNoTable, kVNoTable, dcNoTable, pmNoTable, anNoTable, cdNoTable, ctNoTable, slNoTable, lNoTable, cNoTable, kNoTable⟩ := c.def_ 28 (d := ⟨fun K => (He.ma K (He.ga K "NoTable") "__init__"), "__init__", "NoTable.__init__", (inClass (topS 7) 0)⟩) rfl
  have aNoTime : PySem.W.nsIn K mainGlobals "NoTime" = some (some (.ref (He.ga K "NoTime"))) := of_decide_eq_true (c.fact 56 (f := fun K => decide (PySem.W.nsIn K mainGlobals "NoTime" = some (some (.ref (He.ga K "NoTime"))))) rfl)
  have iNoTime : PySem.W.findIn K (.ref (He.ga K "NoTime")) "__init__" = some (some (.ref (He.ma K (He.ga K "NoTime") "__init__"))) := of_decide_eq_true (c.fact 57 (f := fun K => decide (PySem.W.findIn K (.ref (He.ga K "NoTime")) "__init__" = some (some (.ref (He.ma K (He.ga K "NoTime") "__init__"))))) rfl)
  have tNoTime : PySem.W.typeIn K (.ref (He.ma K (He.ga K "NoTime") "__init__")) = some (.type "function") := of_decide_eq_true (c.fact 58 (f := fun K => decide (PySem.W.typeIn K (.ref (He.ma K (He.ga K "NoTime") "__init__")) = some (.type "function"))) rfl)
  obtain ⟨ocNoTime, odNoTime, kVNoTime, dcNoTime, pmNoTime, anNoTime, cdNoTime, ctNoTime, slNoTime, lNoTime, cNoTime, kNoTime⟩ := c.def_ 29 (d := ⟨fun K => (He.ma K (He.ga K "NoTime") "__init__"), "__init__", "NoTime.__init__", (inClass (topS 8) 0)⟩) rfl
  have aNoStamp : PySem.W.nsIn K mainGlobals "NoStamp" = some (some (.ref (He.ga K "NoStamp"))) := of_decide_eq_true (c.fact 59 (f := fun K => decide (PySem.W.nsIn K mainGlobals "NoStamp" = some (some (.ref (He.ga K "NoStamp"))))) rfl)
  have iNoStamp : PySem.W.findIn K (.ref (He.ga K "NoStamp")) "__init__" = some (some (.ref (He.ma K (He.ga K "NoStamp") "__init__"))) := of_decide_eq_true (c.fact 60 (f := fun K => decide (PySem.W.findIn K (.ref (He.ga K "NoStamp")) "__init__" = some (some (.ref (He.ma K (He.ga K "NoStamp") "__init__"))))) rfl)
  have tNoStamp : PySem.W.typeIn K (.ref (He.ma K (He.ga K "NoStamp") "__init__")) = some (.type "function") := of_decide_eq_true (c.fact 61 (f := fun K => decide (PySem.W.typeIn K (.ref (He.ma K (He.ga K "NoStamp") "__init__")) = some (.type "function"))) rfl)
  obtain ⟨ocNoStamp, odNoStamp, kVNoStamp, dcNoStamp, pmNoStamp, anNoStamp, cdNoStamp, ctNoStamp, slNoStamp, lNoStamp, cNoStamp, kNoStamp⟩ := c.def_ 30 (d := ⟨fun K => (He.ma K (He.ga K "NoStamp") "__init__"), "__init__", "NoStamp.__init__", (inClass (topS 9) 0)⟩) rfl
  have aNoCount : PySem.W.nsIn K mainGlobals "NoCount" = some (some (.ref (He.ga K "NoCount"))) := of_decide_eq_true (c.fact 62 (f := fun K => decide (PySem.W.nsIn K mainGlobals "NoCount" = some (some (.ref (He.ga K "NoCount"))))) rfl)
  have iNoCount : PySem.W.findIn K (.ref (He.ga K "NoCount")) "__init__" = some (some (.ref (He.ma K (He.ga K "NoCount") "__init__"))) := of_decide_eq_true (c.fact 63 (f := fun K => decide (PySem.W.findIn K (.ref (He.ga K "NoCount")) "__init__" = some (some (.ref (He.ma K (He.ga K "NoCount") "__init__"))))) rfl)
  have tNoCount : PySem.W.typeIn K (.ref (He.ma K (He.ga K "NoCount") "__init__")) = some (.type "function") := of_decide_eq_true (c.fact 64 (f := fun K => decide (PySem.W.typeIn K (.ref (He.ma K (He.ga K "NoCount") "__init__")) = some (.type "function"))) rfl)
  obtain ⟨ocNoCount, odNoCount, kVNoCount, dcNoCount, pmNoCount, anNoCount, cdNoCount, ctNoCount, slNoCount, lNoCount, cNoCount, kNoCount⟩ := c.def_ 31 (d := ⟨fun K => (He.ma K (He.ga K "NoCount") "__init__"), "__init__", "NoCount.__init__", (inClass (topS 10) 0)⟩) rfl
  have aNoProgram : PySem.W.nsIn K mainGlobals "NoProgram" = some (some (.ref (He.ga K "NoProgram"))) := of_decide_eq_true (c.fact 65 (f := fun K => decide (PySem.W.nsIn K mainGlobals "NoProgram" = some (some (.ref (He.ga K "NoProgram"))))) rfl)
  have iNoProgram : PySem.W.findIn K (.ref (He.ga K "NoProgram")) "__init__" = some (some (.ref (He.ma K (He.ga K "NoProgram") "__init__"))) := of_decide_eq_true (c.fact 66 (f := fun K => decide (PySem.W.findIn K (.ref (He.ga K "NoProgram")) "__init__" = some (some (.ref (He.ma K (He.ga K "NoProgram") "__init__"))))) rfl)
  have tNoProgram : PySem.W.typeIn K (.ref (He.ma K (He.ga K "NoProgram") "__init__")) = some (.type "function") := of_decide_eq_true (c.fact 67 (f := fun K => decide (PySem.W.typeIn K (.ref (He.ma K (He.ga K "NoProgram") "__init__")) = some (.type "function"))) rfl)
  obtain ⟨ocNoProgram, odNoProgram, kVNoProgram, dcNoProgram, pmNoProgram, anNoProgram, cdNoProgram, ctNoProgram, slNoProgram, lNoProgram, cNoProgram, kNoProgram⟩ := c.def_ 32 (d := ⟨fun K => (He.ma K (He.ga K "NoProgram") "__init__"), "__init__", "NoProgram.__init__", (inClass (topS 11) 0)⟩) rfl
  have aNoHands : PySem.W.nsIn K mainGlobals "NoHands" = some (some (.ref (He.ga K "NoHands"))) := of_decide_eq_true (c.fact 68 (f := fun K => decide (PySem.W.nsIn K mainGlobals "NoHands" = some (some (.ref (He.ga K "NoHands"))))) rfl)
  have iNoHands : PySem.W.findIn K (.ref (He.ga K "NoHands")) "__init__" = some (some (.ref (He.ma K (He.ga K "NoHands") "__init__"))) := of_decide_eq_true (c.fact 69 (f := fun K => decide (PySem.W.findIn K (.ref (He.ga K "NoHands")) "__init__" = some (some (.ref (He.ma K (He.ga K "NoHands") "__init__"))))) rfl)
  have tNoHands : PySem.W.typeIn K (.ref (He.ma K (He.ga K "NoHands") "__init__")) = some (.type "function") := of_decide_eq_true (c.fact 70 (f := fun K => decide (PySem.W.typeIn K (.ref (He.ma K (He.ga K "NoHands") "__init__")) = some (.type "function"))) rfl)
  obtain ⟨ocNoHands, odNoHands, kVNoHands, dcNoHands, pmNoHands, anNoHands, cdNoHands, ctNoHands, slNoHands, lNoHands, cNoHands, kNoHands⟩ := c.def_ 33 (d := ⟨fun K => (He.ma K (He.ga K "NoHands") "__init__"), "__init__", "NoHands.__init__", (inClass (topS 12) 0)⟩) rfl
  have aNoEntries : PySem.W.nsIn K mainGlobals "NoEntries" = some (some (.ref (He.ga K "NoEntries"))) := of_decide_eq_true (c.fact 71 (f := fun K => decide (PySem.W.nsIn K mainGlobals "NoEntries" = some (some (.ref (He.ga K "NoEntries"))))) rfl)
  have iNoEntries : PySem.W.findIn K (.ref (He.ga K "NoEntries")) "__init__" = some (some (.ref (He.ma K (He.ga K "NoEntries") "__init__"))) := of_decide_eq_true (c.fact 72 (f := fun K => decide (PySem.W.findIn K (.ref (He.ga K "NoEntries")) "__init__" = some (some (.ref (He.ma K (He.ga K "NoEntries") "__init__"))))) rfl)
  have tNoEntries : PySem.W.typeIn K (.ref (He.ma K (He.ga K "NoEntries") "__init__")) = some (.type "function") := of_decide_eq_true (c.fact 73 (f := fun K => decide (PySem.W.typeIn K (.ref (He.ma K (He.ga K "NoEntries") "__init__")) = some (.type "function"))) rfl)
  obtain ⟨ocNoEntries, odNoEntries, kVNoEntries, dcNoEntries, pmNoEntries, anNoEntries, cdNoEntries, ctNoEntries, slNoEntries, lNoEntries, cNoEntries, kNoEntries⟩ := c.def_ 34 (d := ⟨fun K => (He.ma K (He.ga K "NoEntries") "__init__"), "__init__", "NoEntries.__init__", (inClass (topS 13) 0)⟩) rfl
  have aNoName : PySem.W.nsIn K mainGlobals "NoName" = some (some (.ref (He.ga K "NoName"))) := of_decide_eq_true (c.fact 74 (f := fun K => decide (PySem.W.nsIn K mainGlobals "NoName" = some (some (.ref (He.ga K "NoName"))))) rfl)
  have iNoName : PySem.W.findIn K (.ref (He.ga K "NoName")) "__init__" = some (some (.ref (He.ma K (He.ga K "NoName") "__init__"))) := of_decide_eq_true (c.fact 75 (f := fun K => decide (PySem.W.findIn K (.ref (He.ga K "NoName")) "__init__" = some (some (.ref (He.ma K (He.ga K "NoName") "__init__"))))) rfl)
  have tNoName : PySem.W.typeIn K (.ref (He.ma K (He.ga K "NoName") "__init__")) = some (.type "function") := of_decide_eq_true (c.fact 76 (f := fun K => decide (PySem.W.typeIn K (.ref (He.ma K (He.ga K "NoName") "__init__")) = some (.type "function"))) rfl)
  obtain ⟨ocNoName, odNoName, kVNoName, dcNoName, pmNoName, anNoName, cdNoName, ctNoName, slNoName, lNoName, cNoName, kNoName⟩ := c.def_ 35 (d := ⟨fun K => (He.ma K (He.ga K "NoName") "__init__"), "__init__", "NoName.__init__", (inClass (topS 14) 0)⟩) rfl
  have aNoText : PySem.W.nsIn K mainGlobals "NoText" = some (some (.ref (He.ga K "NoText"))) := of_decide_eq_true (c.fact 77 (f := fun K => decide (PySem.W.nsIn K mainGlobals "NoText" = some (some (.ref (He.ga K "NoText"))))) rfl)
  have iNoText : PySem.W.findIn K (.ref (He.ga K "NoText")) "__init__" = some (some (.ref (He.ma K (He.ga K "NoText") "__init__"))) := of_decide_eq_true (c.fact 78 (f := fun K => decide (PySem.W.findIn K (.ref (He.ga K "NoText")) "__init__" = some (some (.ref (He.ma K (He.ga K "NoText") "__init__"))))) rfl)
  have tNoText : PySem.W.typeIn K (.ref (He.ma K (He.ga K "NoText") "__init__")) = some (.type "function") := of_decide_eq_true (c.fact 79 (f := fun K => decide (PySem.W.typeIn K (.ref (He.ma K (He.ga K "NoText") "__init__")) = some (.type "function"))) rfl)
  obtain ⟨ocNoText, odNoText, kVNoText, dcNoText, pmNoText, anNoText, cdNoText, ctNoText, slNoText, lNoText, cNoText, kNoText⟩ := c.def_ 36 (d := ⟨fun K => (He.ma K (He.ga K "NoText") "__init__"), "__init__", "NoText.__init__", (inClass (topS 15) 0)⟩) rfl
  have aNoCommand : PySem.W.nsIn K mainGlobals "NoCommand" = some (some (.ref (He.ga K "NoCommand"))) := of_decide_eq_true (c.fact 80 (f := fun K => decide (PySem.W.nsIn K mainGlobals "NoCommand" = some (some (.ref (He.ga K "NoCommand"))))) rfl)
  have iNoCommand : PySem.W.findIn K (.ref (He.ga K "NoCommand")) "__init__" = some (some (.ref (He.ma K (He.ga K "NoCommand") "__init__"))) := of_decide_eq_true (c.fact 81 (f := fun K => decide (PySem.W.findIn K (.ref (He.ga K "NoCommand")) "__init__" = some (some (.ref (He.ma K (He.ga K "NoCommand") "__init__"))))) rfl)
  have tNoCommand : PySem.W.typeIn K (.ref (He.ma K (He.ga K "NoCommand") "__init__")) = some (.type "function") := of_decide_eq_true (c.fact 82 (f := fun K => decide (PySem.W.typeIn K (.ref (He.ma K (He.ga K "NoCommand") "__init__")) = some (.type "function"))) rfl)
  obtain ⟨ocNoCommand, odNoCommand, kVNoCommand, dcNoCommand, pmNoCommand, anNoCommand, cdNoCommand, ctNoCommand, slNoCommand, lNoCommand, cNoCommand, kNoCommand⟩ := c.def_ 37 (d := ⟨fun K => (He.ma K (He.ga K "NoCommand") "__init__"), "__init__", "NoCommand.__init__", (inClass (topS 16) 0)⟩) rfl
  have aHalted : PySem.W.nsIn K mainGlobals "Halted" = some (some (.ref (He.ga K "Halted"))) := of_decide_eq_true (c.fact 83 (f := fun K => decide (PySem.W.nsIn K mainGlobals "Halted" = some (some (.ref (He.ga K "Halted"))))) rfl)
  have iHalted : PySem.W.findIn K (.ref (He.ga K "Halted")) "__init__" = some (some (.ref (He.ma K (He.ga K "Halted") "__init__"))) := of_decide_eq_true (c.fact 84 (f := fun K => decide (PySem.W.findIn K (.ref (He.ga K "Halted")) "__init__" = some (some (.ref (He.ma K (He.ga K "Halted") "__init__"))))) rfl)
  have tHalted : PySem.W.typeIn K (.ref (He.ma K (He.ga K "Halted") "__init__")) = some (.type "function") := of_decide_eq_true (c.fact 85 (f := fun K => decide (PySem.W.typeIn K (.ref (He.ma K (He.ga K "Halted") "__init__")) = some (.type "function"))) rfl)
  obtain ⟨ocHalted, odHalted, kVHalted, dcHalted, pmHalted, anHalted, cdHalted, ctHalted, slHalted, lHalted, cHalted, kHalted⟩ := c.def_ 38 (d := ⟨fun K => (He.ma K (He.ga K "Halted") "__init__"), "__init__", "Halted.__init__", (inClass (topS 17) 0)⟩) rfl
  have aNoEntry : PySem.W.nsIn K mainGlobals "NoEntry" = some (some (.ref (He.ga K "NoEntry"))) := of_decide_eq_true (c.fact 86 (f := fun K => decide (PySem.W.nsIn K mainGlobals "NoEntry" = some (some (.ref (He.ga K "NoEntry"))))) rfl)
  have iNoEntry : PySem.W.findIn K (.ref (He.ga K "NoEntry")) "__init__" = some (some (.ref (He.ma K (He.ga K "NoEntry") "__init__"))) := of_decide_eq_true (c.fact 87 (f := fun K => decide (PySem.W.findIn K (.ref (He.ga K "NoEntry")) "__init__" = some (some (.ref (He.ma K (He.ga K "NoEntry") "__init__"))))) rfl)
  have tNoEntry : PySem.W.typeIn K (.ref (He.ma K (He.ga K "NoEntry") "__init__")) = some (.type "function") := of_decide_eq_true (c.fact 88 (f := fun K => decide (PySem.W.typeIn K (.ref (He.ma K (He.ga K "NoEntry") "__init__")) = some (.type "function"))) rfl)
  obtain ⟨ocNoEntry, odNoEntry, kVNoEntry, dcNoEntry, pmNoEntry, anNoEntry, cdNoEntry, ctNoEntry, slNoEntry, lNoEntry, cNoEntry, kNoEntry⟩ := c.def_ 39 (d := ⟨fun K => (He.ma K (He.ga K "NoEntry") "__init__"), "__init__", "NoEntry.__init__", (inClass (topS 19) 0)⟩) rfl
  have aNoProcedure : PySem.W.nsIn K mainGlobals "NoProcedure" = some (some (.ref (He.ga K "NoProcedure"))) := of_decide_eq_true (c.fact 89 (f := fun K => decide (PySem.W.nsIn K mainGlobals "NoProcedure" = some (some (.ref (He.ga K "NoProcedure"))))) rfl)
  have iNoProcedure : PySem.W.findIn K (.ref (He.ga K "NoProcedure")) "__init__" = some (some (.ref (He.ma K (He.ga K "NoProcedure") "__init__"))) := of_decide_eq_true (c.fact 90 (f := fun K => decide (PySem.W.findIn K (.ref (He.ga K "NoProcedure")) "__init__" = some (some (.ref (He.ma K (He.ga K "NoProcedure") "__init__"))))) rfl)
  have tNoProcedure : PySem.W.typeIn K (.ref (He.ma K (He.ga K "NoProcedure") "__init__")) = some (.type "function") := of_decide_eq_true (c.fact 91 (f := fun K => decide (PySem.W.typeIn K (.ref (He.ma K (He.ga K "NoProcedure") "__init__")) = some (.type "function"))) rfl)
  obtain ⟨ocNoProcedure, odNoProcedure, kVNoProcedure, dcNoProcedure, pmNoProcedure, anNoProcedure, cdNoProcedure, ctNoProcedure, slNoProcedure, lNoProcedure, cNoProcedure, kNoProcedure⟩ := c.def_ 40 (d := ⟨fun K => (He.ma K (He.ga K "NoProcedure") "__init__"), "__init__", "NoProcedure.__init__", (inClass (topS 20) 0)⟩) rfl
  have aNoHand : PySem.W.nsIn K mainGlobals "NoHand" = some (some (.ref (He.ga K "NoHand"))) := of_decide_eq_true (c.fact 92 (f := fun K => decide (PySem.W.nsIn K mainGlobals "NoHand" = some (some (.ref (He.ga K "NoHand"))))) rfl)
  have iNoHand : PySem.W.findIn K (.ref (He.ga K "NoHand")) "__init__" = some (some (.ref (He.ma K (He.ga K "NoHand") "__init__"))) := of_decide_eq_true (c.fact 93 (f := fun K => decide (PySem.W.findIn K (.ref (He.ga K "NoHand")) "__init__" = some (some (.ref (He.ma K (He.ga K "NoHand") "__init__"))))) rfl)
  have tNoHand : PySem.W.typeIn K (.ref (He.ma K (He.ga K "NoHand") "__init__")) = some (.type "function") := of_decide_eq_true (c.fact 94 (f := fun K => decide (PySem.W.typeIn K (.ref (He.ma K (He.ga K "NoHand") "__init__")) = some (.type "function"))) rfl)
  obtain ⟨ocNoHand, odNoHand, kVNoHand, dcNoHand, pmNoHand, anNoHand, cdNoHand, ctNoHand, slNoHand, lNoHand, cNoHand, kNoHand⟩ := c.def_ 41 (d := ⟨fun K => (He.ma K (He.ga K "NoHand") "__init__"), "__init__", "NoHand.__init__", (inClass (topS 21) 0)⟩) rfl
  have aNoHistory : PySem.W.nsIn K mainGlobals "NoHistory" = some (some (.ref (He.ga K "NoHistory"))) := of_decide_eq_true (c.fact 95 (f := fun K => decide (PySem.W.nsIn K mainGlobals "NoHistory" = some (some (.ref (He.ga K "NoHistory"))))) rfl)
  have iNoHistory : PySem.W.findIn K (.ref (He.ga K "NoHistory")) "__init__" = some (some (.ref (He.ma K (He.ga K "NoHistory") "__init__"))) := of_decide_eq_true (c.fact 96 (f := fun K => decide (PySem.W.findIn K (.ref (He.ga K "NoHistory")) "__init__" = some (some (.ref (He.ma K (He.ga K "NoHistory") "__init__"))))) rfl)
  have tNoHistory : PySem.W.typeIn K (.ref (He.ma K (He.ga K "NoHistory") "__init__")) = some (.type "function") := of_decide_eq_true (c.fact 97 (f := fun K => decide (PySem.W.typeIn K (.ref (He.ma K (He.ga K "NoHistory") "__init__")) = some (.type "function"))) rfl)
  obtain ⟨ocNoHistory, odNoHistory, kVNoHistory, dcNoHistory, pmNoHistory, anNoHistory, cdNoHistory, ctNoHistory, slNoHistory, lNoHistory, cNoHistory, kNoHistory⟩ := c.def_ 42 (d := ⟨fun K => (He.ma K (He.ga K "NoHistory") "__init__"), "__init__", "NoHistory.__init__", (inClass (topS 22) 0)⟩) rfl
  have aTaken : PySem.W.nsIn K mainGlobals "Taken" = some (some (.ref (He.ga K "Taken"))) := of_decide_eq_true (c.fact 98 (f := fun K => decide (PySem.W.nsIn K mainGlobals "Taken" = some (some (.ref (He.ga K "Taken"))))) rfl)
  have iTaken : PySem.W.findIn K (.ref (He.ga K "Taken")) "__init__" = some (some (.ref (He.ma K (He.ga K "Taken") "__init__"))) := of_decide_eq_true (c.fact 99 (f := fun K => decide (PySem.W.findIn K (.ref (He.ga K "Taken")) "__init__" = some (some (.ref (He.ma K (He.ga K "Taken") "__init__"))))) rfl)
  have tTaken : PySem.W.typeIn K (.ref (He.ma K (He.ga K "Taken") "__init__")) = some (.type "function") := of_decide_eq_true (c.fact 100 (f := fun K => decide (PySem.W.typeIn K (.ref (He.ma K (He.ga K "Taken") "__init__")) = some (.type "function"))) rfl)
  obtain ⟨ocTaken, odTaken, kVTaken, dcTaken, pmTaken, anTaken, cdTaken, ctTaken, slTaken, lTaken, cTaken, kTaken⟩ := c.def_ 43 (d := ⟨fun K => (He.ma K (He.ga K "Taken") "__init__"), "__init__", "Taken.__init__", (inClass (topS 24) 0)⟩) rfl
  have aStanding : PySem.W.nsIn K mainGlobals "Standing" = some (some (.ref (He.ga K "Standing"))) := of_decide_eq_true (c.fact 101 (f := fun K => decide (PySem.W.nsIn K mainGlobals "Standing" = some (some (.ref (He.ga K "Standing"))))) rfl)
  have iStanding : PySem.W.findIn K (.ref (He.ga K "Standing")) "__init__" = some (some (.ref (He.ma K (He.ga K "Standing") "__init__"))) := of_decide_eq_true (c.fact 102 (f := fun K => decide (PySem.W.findIn K (.ref (He.ga K "Standing")) "__init__" = some (some (.ref (He.ma K (He.ga K "Standing") "__init__"))))) rfl)
  have tStanding : PySem.W.typeIn K (.ref (He.ma K (He.ga K "Standing") "__init__")) = some (.type "function") := of_decide_eq_true (c.fact 103 (f := fun K => decide (PySem.W.typeIn K (.ref (He.ma K (He.ga K "Standing") "__init__")) = some (.type "function"))) rfl)
  obtain ⟨ocStanding, odStanding, kVStanding, dcStanding, pmStanding, anStanding, cdStanding, ctStanding, slStanding, lStanding, cStanding, kStanding⟩ := c.def_ 44 (d := ⟨fun K => (He.ma K (He.ga K "Standing") "__init__"), "__init__", "Standing.__init__", (inClass (topS 25) 0)⟩) rfl
  have aRemoved : PySem.W.nsIn K mainGlobals "Removed" = some (some (.ref (He.ga K "Removed"))) := of_decide_eq_true (c.fact 104 (f := fun K => decide (PySem.W.nsIn K mainGlobals "Removed" = some (some (.ref (He.ga K "Removed"))))) rfl)
  have iRemoved : PySem.W.findIn K (.ref (He.ga K "Removed")) "__init__" = some (some (.ref (He.ma K (He.ga K "Removed") "__init__"))) := of_decide_eq_true (c.fact 105 (f := fun K => decide (PySem.W.findIn K (.ref (He.ga K "Removed")) "__init__" = some (some (.ref (He.ma K (He.ga K "Removed") "__init__"))))) rfl)
  have tRemoved : PySem.W.typeIn K (.ref (He.ma K (He.ga K "Removed") "__init__")) = some (.type "function") := of_decide_eq_true (c.fact 106 (f := fun K => decide (PySem.W.typeIn K (.ref (He.ma K (He.ga K "Removed") "__init__")) = some (.type "function"))) rfl)
  obtain ⟨ocRemoved, odRemoved, kVRemoved, dcRemoved, pmRemoved, anRemoved, cdRemoved, ctRemoved, slRemoved, lRemoved, cRemoved, kRemoved⟩ := c.def_ 45 (d := ⟨fun K => (He.ma K (He.ga K "Removed") "__init__"), "__init__", "Removed.__init__", (inClass (topS 26) 0)⟩) rfl
  have aFolded : PySem.W.nsIn K mainGlobals "Folded" = some (some (.ref (He.ga K "Folded"))) := of_decide_eq_true (c.fact 107 (f := fun K => decide (PySem.W.nsIn K mainGlobals "Folded" = some (some (.ref (He.ga K "Folded"))))) rfl)
  have iFolded : PySem.W.findIn K (.ref (He.ga K "Folded")) "__init__" = some (some (.ref (He.ma K (He.ga K "Folded") "__init__"))) := of_decide_eq_true (c.fact 108 (f := fun K => decide (PySem.W.findIn K (.ref (He.ga K "Folded")) "__init__" = some (some (.ref (He.ma K (He.ga K "Folded") "__init__"))))) rfl)
  have tFolded : PySem.W.typeIn K (.ref (He.ma K (He.ga K "Folded") "__init__")) = some (.type "function") := of_decide_eq_true (c.fact 109 (f := fun K => decide (PySem.W.typeIn K (.ref (He.ma K (He.ga K "Folded") "__init__")) = some (.type "function"))) rfl)
  obtain ⟨ocFolded, odFolded, kVFolded, dcFolded, pmFolded, anFolded, cdFolded, ctFolded, slFolded, lFolded, cFolded, kFolded⟩ := c.def_ 46 (d := ⟨fun K => (He.ma K (He.ga K "Folded") "__init__"), "__init__", "Folded.__init__", (inClass (topS 27) 0)⟩) rfl
  have aClash : PySem.W.nsIn K mainGlobals "Clash" = some (some (.ref (He.ga K "Clash"))) := of_decide_eq_true (c.fact 110 (f := fun K => decide (PySem.W.nsIn K mainGlobals "Clash" = some (some (.ref (He.ga K "Clash"))))) rfl)
  have iClash : PySem.W.findIn K (.ref (He.ga K "Clash")) "__init__" = some (some (.ref (He.ma K (He.ga K "Clash") "__init__"))) := of_decide_eq_true (c.fact 111 (f := fun K => decide (PySem.W.findIn K (.ref (He.ga K "Clash")) "__init__" = some (some (.ref (He.ma K (He.ga K "Clash") "__init__"))))) rfl)
  have tClash : PySem.W.typeIn K (.ref (He.ma K (He.ga K "Clash") "__init__")) = some (.type "function") := of_decide_eq_true (c.fact 112 (f := fun K => decide (PySem.W.typeIn K (.ref (He.ma K (He.ga K "Clash") "__init__")) = some (.type "function"))) rfl)
  obtain ⟨ocClash, odClash, kVClash, dcClash, pmClash, anClash, cdClash, ctClash, slClash, lClash, cClash, kClash⟩ := c.def_ 47 (d := ⟨fun K => (He.ma K (He.ga K "Clash") "__init__"), "__init__", "Clash.__init__", (inClass (topS 28) 0)⟩) rfl
  have aNotOwn : PySem.W.nsIn K mainGlobals "NotOwn" = some (some (.ref (He.ga K "NotOwn"))) := of_decide_eq_true (c.fact 113 (f := fun K => decide (PySem.W.nsIn K mainGlobals "NotOwn" = some (some (.ref (He.ga K "NotOwn"))))) rfl)
  have iNotOwn : PySem.W.findIn K (.ref (He.ga K "NotOwn")) "__init__" = some (some (.ref (He.ma K (He.ga K "NotOwn") "__init__"))) := of_decide_eq_true (c.fact 114 (f := fun K => decide (PySem.W.findIn K (.ref (He.ga K "NotOwn")) "__init__" = some (some (.ref (He.ma K (He.ga K "NotOwn") "__init__"))))) rfl)
  have tNotOwn : PySem.W.typeIn K (.ref (He.ma K (He.ga K "NotOwn") "__init__")) = some (.type "function") := of_decide_eq_true (c.fact 115 (f := fun K => decide (PySem.W.typeIn K (.ref (He.ma K (He.ga K "NotOwn") "__init__")) = some (.type "function"))) rfl)
  obtain ⟨ocNotOwn, odNotOwn, kVNotOwn, dcNotOwn, pmNotOwn, anNotOwn, cdNotOwn, ctNotOwn, slNotOwn, lNotOwn, cNotOwn, kNotOwn⟩ := c.def_ 48 (d := ⟨fun K => (He.ma K (He.ga K "NotOwn") "__init__"), "__init__", "NotOwn.__init__", (inClass (topS 29) 0)⟩) rfl
  have aNotHeard : PySem.W.nsIn K mainGlobals "NotHeard" = some (some (.ref (He.ga K "NotHeard"))) := of_decide_eq_true (c.fact 116 (f := fun K => decide (PySem.W.nsIn K mainGlobals "NotHeard" = some (some (.ref (He.ga K "NotHeard"))))) rfl)
  have iNotHeard : PySem.W.findIn K (.ref (He.ga K "NotHeard")) "__init__" = some (some (.ref (He.ma K (He.ga K "NotHeard") "__init__"))) := of_decide_eq_true (c.fact 117 (f := fun K => decide (PySem.W.findIn K (.ref (He.ga K "NotHeard")) "__init__" = some (some (.ref (He.ma K (He.ga K "NotHeard") "__init__"))))) rfl)
  have tNotHeard : PySem.W.typeIn K (.ref (He.ma K (He.ga K "NotHeard") "__init__")) = some (.type "function") := of_decide_eq_true (c.fact 118 (f := fun K => decide (PySem.W.typeIn K (.ref (He.ma K (He.ga K "NotHeard") "__init__")) = some (.type "function"))) rfl)
  obtain ⟨ocNotHeard, odNotHeard, kVNotHeard, dcNotHeard, pmNotHeard, anNotHeard, cdNotHeard, ctNotHeard, slNotHeard, lNotHeard, cNotHeard, kNotHeard⟩ := c.def_ 49 (d := ⟨fun K => (He.ma K (He.ga K "NotHeard") "__init__"), "__init__", "NotHeard.__init__", (inClass (topS 30) 0)⟩) rfl
  have aBehind : PySem.W.nsIn K mainGlobals "Behind" = some (some (.ref (He.ga K "Behind"))) := of_decide_eq_true (c.fact 119 (f := fun K => decide (PySem.W.nsIn K mainGlobals "Behind" = some (some (.ref (He.ga K "Behind"))))) rfl)
  have iBehind : PySem.W.findIn K (.ref (He.ga K "Behind")) "__init__" = some (some (.ref (He.ma K (He.ga K "Behind") "__init__"))) := of_decide_eq_true (c.fact 120 (f := fun K => decide (PySem.W.findIn K (.ref (He.ga K "Behind")) "__init__" = some (some (.ref (He.ma K (He.ga K "Behind") "__init__"))))) rfl)
  have tBehind : PySem.W.typeIn K (.ref (He.ma K (He.ga K "Behind") "__init__")) = some (.type "function") := of_decide_eq_true (c.fact 121 (f := fun K => decide (PySem.W.typeIn K (.ref (He.ma K (He.ga K "Behind") "__init__")) = some (.type "function"))) rfl)
  obtain ⟨ocBehind, odBehind, kVBehind, dcBehind, pmBehind, anBehind, cdBehind, ctBehind, slBehind, lBehind, cBehind, kBehind⟩ := c.def_ 50 (d := ⟨fun K => (He.ma K (He.ga K "Behind") "__init__"), "__init__", "Behind.__init__", (inClass (topS 31) 0)⟩) rfl
  have aUnchanged : PySem.W.nsIn K mainGlobals "Unchanged" = some (some (.ref (He.ga K "Unchanged"))) := of_decide_eq_true (c.fact 122 (f := fun K => decide (PySem.W.nsIn K mainGlobals "Unchanged" = some (some (.ref (He.ga K "Unchanged"))))) rfl)
  have iUnchanged : PySem.W.findIn K (.ref (He.ga K "Unchanged")) "__init__" = some (some (.ref (He.ma K (He.ga K "Unchanged") "__init__"))) := of_decide_eq_true (c.fact 123 (f := fun K => decide (PySem.W.findIn K (.ref (He.ga K "Unchanged")) "__init__" = some (some (.ref (He.ma K (He.ga K "Unchanged") "__init__"))))) rfl)
  have tUnchanged : PySem.W.typeIn K (.ref (He.ma K (He.ga K "Unchanged") "__init__")) = some (.type "function") := of_decide_eq_true (c.fact 124 (f := fun K => decide (PySem.W.typeIn K (.ref (He.ma K (He.ga K "Unchanged") "__init__")) = some (.type "function"))) rfl)
  obtain ⟨ocUnchanged, odUnchanged, kVUnchanged, dcUnchanged, pmUnchanged, anUnchanged, cdUnchanged, ctUnchanged, slUnchanged, lUnchanged, cUnchanged, kUnchanged⟩ := c.def_ 51 (d := ⟨fun K => (He.ma K (He.ga K "Unchanged") "__init__"), "__init__", "Unchanged.__init__", (inClass (topS 32) 0)⟩) rfl
  have aKnown : PySem.W.nsIn K mainGlobals "Known" = some (some (.ref (He.ga K "Known"))) := of_decide_eq_true (c.fact 125 (f := fun K => decide (PySem.W.nsIn K mainGlobals "Known" = some (some (.ref (He.ga K "Known"))))) rfl)
  have iKnown : PySem.W.findIn K (.ref (He.ga K "Known")) "__init__" = some (some (.ref (He.ma K (He.ga K "Known") "__init__"))) := of_decide_eq_true (c.fact 126 (f := fun K => decide (PySem.W.findIn K (.ref (He.ga K "Known")) "__init__" = some (some (.ref (He.ma K (He.ga K "Known") "__init__"))))) rfl)
  have tKnown : PySem.W.typeIn K (.ref (He.ma K (He.ga K "Known") "__init__")) = some (.type "function") := of_decide_eq_true (c.fact 127 (f := fun K => decide (PySem.W.typeIn K (.ref (He.ma K (He.ga K "Known") "__init__")) = some (.type "function"))) rfl)
  obtain ⟨ocKnown, odKnown, kVKnown, dcKnown, pmKnown, anKnown, cdKnown, ctKnown, slKnown, lKnown, cKnown, kKnown⟩ := c.def_ 52 (d := ⟨fun K => (He.ma K (He.ga K "Known") "__init__"), "__init__", "Known.__init__", (inClass (topS 33) 0)⟩) rfl
  have aUnknown : PySem.W.nsIn K mainGlobals "Unknown" = some (some (.ref (He.ga K "Unknown"))) := of_decide_eq_true (c.fact 128 (f := fun K => decide (PySem.W.nsIn K mainGlobals "Unknown" = some (some (.ref (He.ga K "Unknown"))))) rfl)
  have iUnknown : PySem.W.findIn K (.ref (He.ga K "Unknown")) "__init__" = some (some (.ref (He.ma K (He.ga K "Unknown") "__init__"))) := of_decide_eq_true (c.fact 129 (f := fun K => decide (PySem.W.findIn K (.ref (He.ga K "Unknown")) "__init__" = some (some (.ref (He.ma K (He.ga K "Unknown") "__init__"))))) rfl)
  have tUnknown : PySem.W.typeIn K (.ref (He.ma K (He.ga K "Unknown") "__init__")) = some (.type "function") := of_decide_eq_true (c.fact 130 (f := fun K => decide (PySem.W.typeIn K (.ref (He.ma K (He.ga K "Unknown") "__init__")) = some (.type "function"))) rfl)
  obtain ⟨ocUnknown, odUnknown, kVUnknown, dcUnknown, pmUnknown, anUnknown, cdUnknown, ctUnknown, slUnknown, lUnknown, cUnknown, kUnknown⟩ := c.def_ 53 (d := ⟨fun K => (He.ma K (He.ga K "Unknown") "__init__"), "__init__", "Unknown.__init__", (inClass (topS 34) 0)⟩) rfl
  have aTooWide : PySem.W.nsIn K mainGlobals "TooWide" = some (some (.ref (He.ga K "TooWide"))) := of_decide_eq_true (c.fact 131 (f := fun K => decide (PySem.W.nsIn K mainGlobals "TooWide" = some (some (.ref (He.ga K "TooWide"))))) rfl)
  have iTooWide : PySem.W.findIn K (.ref (He.ga K "TooWide")) "__init__" = some (some (.ref (He.ma K (He.ga K "TooWide") "__init__"))) := of_decide_eq_true (c.fact 132 (f := fun K => decide (PySem.W.findIn K (.ref (He.ga K "TooWide")) "__init__" = some (some (.ref (He.ma K (He.ga K "TooWide") "__init__"))))) rfl)
  have tTooWide : PySem.W.typeIn K (.ref (He.ma K (He.ga K "TooWide") "__init__")) = some (.type "function") := of_decide_eq_true (c.fact 133 (f := fun K => decide (PySem.W.typeIn K (.ref (He.ma K (He.ga K "TooWide") "__init__")) = some (.type "function"))) rfl)
  obtain ⟨ocTooWide, odTooWide, kVTooWide, dcTooWide, pmTooWide, anTooWide, cdTooWide, ctTooWide, slTooWide, lTooWide, cTooWide, kTooWide⟩ := c.def_ 54 (d := ⟨fun K => (He.ma K (He.ga K "TooWide") "__init__"), "__init__", "TooWide.__init__", (inClass (topS 36) 0)⟩) rfl
  have aTooMany : PySem.W.nsIn K mainGlobals "TooMany" = some (some (.ref (He.ga K "TooMany"))) := of_decide_eq_true (c.fact 134 (f := fun K => decide (PySem.W.nsIn K mainGlobals "TooMany" = some (some (.ref (He.ga K "TooMany"))))) rfl)
  have iTooMany : PySem.W.findIn K (.ref (He.ga K "TooMany")) "__init__" = some (some (.ref (He.ma K (He.ga K "TooMany") "__init__"))) := of_decide_eq_true (c.fact 135 (f := fun K => decide (PySem.W.findIn K (.ref (He.ga K "TooMany")) "__init__" = some (some (.ref (He.ma K (He.ga K "TooMany") "__init__"))))) rfl)
  have tTooMany : PySem.W.typeIn K (.ref (He.ma K (He.ga K "TooMany") "__init__")) = some (.type "function") := of_decide_eq_true (c.fact 136 (f := fun K => decide (PySem.W.typeIn K (.ref (He.ma K (He.ga K "TooMany") "__init__")) = some (.type "function"))) rfl)
  obtain ⟨ocTooMany, odTooMany, kVTooMany, dcTooMany, pmTooMany, anTooMany, cdTooMany, ctTooMany, slTooMany, lTooMany, cTooMany, kTooMany⟩ := c.def_ 55 (d := ⟨fun K => (He.ma K (He.ga K "TooMany") "__init__"), "__init__", "TooMany.__init__", (inClass (topS 37) 0)⟩) rfl
  have aUnlike : PySem.W.nsIn K mainGlobals "Unlike" = some (some (.ref (He.ga K "Unlike"))) := of_decide_eq_true (c.fact 137 (f := fun K => decide (PySem.W.nsIn K mainGlobals "Unlike" = some (some (.ref (He.ga K "Unlike"))))) rfl)
  have iUnlike : PySem.W.findIn K (.ref (He.ga K "Unlike")) "__init__" = some (some (.ref (He.ma K (He.ga K "Unlike") "__init__"))) := of_decide_eq_true (c.fact 138 (f := fun K => decide (PySem.W.findIn K (.ref (He.ga K "Unlike")) "__init__" = some (some (.ref (He.ma K (He.ga K "Unlike") "__init__"))))) rfl)
  have tUnlike : PySem.W.typeIn K (.ref (He.ma K (He.ga K "Unlike") "__init__")) = some (.type "function") := of_decide_eq_true (c.fact 139 (f := fun K => decide (PySem.W.typeIn K (.ref (He.ma K (He.ga K "Unlike") "__init__")) = some (.type "function"))) rfl)
  obtain ⟨ocUnlike, odUnlike, kVUnlike, dcUnlike, pmUnlike, anUnlike, cdUnlike, ctUnlike, slUnlike, lUnlike, cUnlike, kUnlike⟩ := c.def_ 56 (d := ⟨fun K => (He.ma K (He.ga K "Unlike") "__init__"), "__init__", "Unlike.__init__", (inClass (topS 38) 0)⟩) rfl
  have qA : prA K = true := c.fact 140 (f := fun K => prA K) rfl
  have qB : prB K = true := c.fact 141 (f := fun K => prB K) rfl
  have qC : prC K = true := c.fact 142 (f := fun K => prC K) rfl
  have hnO : PySem.W.specialIn K (.builtin "object.__class__") "__get__" = some (some (.builtin "getset_descriptor.__get__")) := of_decide_eq_true (c.fact 143 (f := fun K => decide (PySem.W.specialIn K (.builtin "object.__class__") "__get__" = some (some (.builtin "getset_descriptor.__get__")))) rfl)
  have htO : PySem.W.takesIn K (.builtin "object.__class__") = some true := of_decide_eq_true (c.fact 144 (f := fun K => decide (PySem.W.takesIn K (.builtin "object.__class__") = some true)) rfl)
  have z_len : PySem.W.nsIn K mainGlobals "len" = some none := of_decide_eq_true (c.fact 145 (f := fun K => decide (PySem.W.nsIn K mainGlobals "len" = some none)) rfl)
  have z_abs : PySem.W.nsIn K mainGlobals "abs" = some none := of_decide_eq_true (c.fact 146 (f := fun K => decide (PySem.W.nsIn K mainGlobals "abs" = some none)) rfl)
  have z_max : PySem.W.nsIn K mainGlobals "max" = some none := of_decide_eq_true (c.fact 147 (f := fun K => decide (PySem.W.nsIn K mainGlobals "max" = some none)) rfl)
  have z_min : PySem.W.nsIn K mainGlobals "min" = some none := of_decide_eq_true (c.fact 148 (f := fun K => decide (PySem.W.nsIn K mainGlobals "min" = some none)) rfl)
  have z_divmod : PySem.W.nsIn K mainGlobals "divmod" = some none := of_decide_eq_true (c.fact 149 (f := fun K => decide (PySem.W.nsIn K mainGlobals "divmod" = some none)) rfl)
  have z_list : PySem.W.nsIn K mainGlobals "list" = some none := of_decide_eq_true (c.fact 150 (f := fun K => decide (PySem.W.nsIn K mainGlobals "list" = some none)) rfl)
  have z_tuple : PySem.W.nsIn K mainGlobals "tuple" = some none := of_decide_eq_true (c.fact 151 (f := fun K => decide (PySem.W.nsIn K mainGlobals "tuple" = some none)) rfl)
  have z_range : PySem.W.nsIn K mainGlobals "range" = some none := of_decide_eq_true (c.fact 152 (f := fun K => decide (PySem.W.nsIn K mainGlobals "range" = some none)) rfl)
  have z_isinstance : PySem.W.nsIn K mainGlobals "isinstance" = some none := of_decide_eq_true (c.fact 153 (f := fun K => decide (PySem.W.nsIn K mainGlobals "isinstance" = some none)) rfl)
  have z_bool : PySem.W.nsIn K mainGlobals "bool" = some none := of_decide_eq_true (c.fact 154 (f := fun K => decide (PySem.W.nsIn K mainGlobals "bool" = some none)) rfl)
  have z_int : PySem.W.nsIn K mainGlobals "int" = some none := of_decide_eq_true (c.fact 155 (f := fun K => decide (PySem.W.nsIn K mainGlobals "int" = some none)) rfl)
  have z_sorted : PySem.W.nsIn K mainGlobals "sorted" = some none := of_decide_eq_true (c.fact 156 (f := fun K => decide (PySem.W.nsIn K mainGlobals "sorted" = some none)) rfl)
  have z_set : PySem.W.nsIn K mainGlobals "set" = some none := of_decide_eq_true (c.fact 157 (f := fun K => decide (PySem.W.nsIn K mainGlobals "set" = some none)) rfl)
  have z_all : PySem.W.nsIn K mainGlobals "all" = some none := of_decide_eq_true (c.fact 158 (f := fun K => decide (PySem.W.nsIn K mainGlobals "all" = some none)) rfl)
  have z_enumerate : PySem.W.nsIn K mainGlobals "enumerate" = some none := of_decide_eq_true (c.fact 159 (f := fun K => decide (PySem.W.nsIn K mainGlobals "enumerate" = some none)) rfl)
  have z_repr : PySem.W.nsIn K mainGlobals "repr" = some none := of_decide_eq_true (c.fact 160 (f := fun K => decide (PySem.W.nsIn K mainGlobals "repr" = some none)) rfl)
  have z_sum : PySem.W.nsIn K mainGlobals "sum" = some none := of_decide_eq_true (c.fact 161 (f := fun K => decide (PySem.W.nsIn K mainGlobals "sum" = some none)) rfl)
  have z_str : PySem.W.nsIn K mainGlobals "str" = some none := of_decide_eq_true (c.fact 162 (f := fun K => decide (PySem.W.nsIn K mainGlobals "str" = some none)) rfl)
  have z_ValueError : PySem.W.nsIn K mainGlobals "ValueError" = some none := of_decide_eq_true (c.fact 163 (f := fun K => decide (PySem.W.nsIn K mainGlobals "ValueError" = some none)) rfl)
  have z_LookupError : PySem.W.nsIn K mainGlobals "LookupError" = some none := of_decide_eq_true (c.fact 164 (f := fun K => decide (PySem.W.nsIn K mainGlobals "LookupError" = some none)) rfl)
  have z_RuntimeError : PySem.W.nsIn K mainGlobals "RuntimeError" = some none := of_decide_eq_true (c.fact 165 (f := fun K => decide (PySem.W.nsIn K mainGlobals "RuntimeError" = some none)) rfl)
  have z_ArithmeticError : PySem.W.nsIn K mainGlobals "ArithmeticError" = some none := of_decide_eq_true (c.fact 166 (f := fun K => decide (PySem.W.nsIn K mainGlobals "ArithmeticError" = some none)) rfl)
  exact all_mk X G hfa a1 l1 c1 k1 a2 l2 c2 k2 a3 l3 c3 k3 a5 l5 c5 k5 a20 l20 c20 k20 a21 l21 c21 k21 a22 l22 c22 k22 a23 l23 c23 k23 a24 l24 c24 k24 a25 l25 c25 k25 a26 l26 c26 k26 a27 l27 c27 k27 a30 l30 c30 k30 a31 l31 c31 k31 a32 l32 c32 k32 a33 l33 c33 k33 a34 l34 c34 k34 a35 l35 c35 k35 a36 l36 c36 k36 a37 l37 c37 k37 a38 l38 c38 k38 a4 l4 d4 c4 k4 a6 l6 d6 c6 k6 aC pgC hdC poC saC mkC kcC nf0C iI nI lI dI le cI kI c_M aNoSize iNoSize tNoSize lNoSize cNoSize kNoSize aNoCell iNoCell tNoCell lNoCell cNoCell kNoCell aNoCells iNoCells tNoCells lNoCells cNoCells kNoCells aNoFlip iNoFlip tNoFlip lNoFlip cNoFlip kNoFlip aNoTable iNoTable tNoTable lNoTable cNoTable kNoTable aNoTime iNoTime tNoTime lNoTime cNoTime kNoTime aNoStamp iNoStamp tNoStamp lNoStamp cNoStamp kNoStamp aNoCount iNoCount tNoCount lNoCount cNoCount kNoCount aNoProgram iNoProgram tNoProgram lNoProgram cNoProgram kNoProgram aNoHands iNoHands tNoHands lNoHands cNoHands kNoHands aNoEntries iNoEntries tNoEntries lNoEntries cNoEntries kNoEntries aNoName iNoName tNoName lNoName cNoName kNoName aNoText iNoText tNoText lNoText cNoText kNoText aNoCommand iNoCommand tNoCommand lNoCommand cNoCommand kNoCommand aHalted iHalted tHalted lHalted cHalted kHalted aNoEntry iNoEntry tNoEntry lNoEntry cNoEntry kNoEntry aNoProcedure iNoProcedure tNoProcedure lNoProcedure cNoProcedure kNoProcedure aNoHand iNoHand tNoHand lNoHand cNoHand kNoHand aNoHistory iNoHistory tNoHistory lNoHistory cNoHistory kNoHistory aTaken iTaken tTaken lTaken cTaken kTaken aStanding iStanding tStanding lStanding cStanding kStanding aRemoved iRemoved tRemoved lRemoved cRemoved kRemoved aFolded iFolded tFolded lFolded cFolded kFolded aClash iClash tClash lClash cClash kClash aNotOwn iNotOwn tNotOwn lNotOwn cNotOwn kNotOwn aNotHeard iNotHeard tNotHeard lNotHeard cNotHeard kNotHeard aBehind iBehind tBehind lBehind cBehind kBehind aUnchanged iUnchanged tUnchanged lUnchanged cUnchanged kUnchanged aKnown iKnown tKnown lKnown cKnown kKnown aUnknown iUnknown tUnknown lUnknown cUnknown kUnknown aTooWide iTooWide tTooWide lTooWide cTooWide kTooWide aTooMany iTooMany tTooMany lTooMany cTooMany kTooMany aUnlike iUnlike tUnlike lUnlike cUnlike kUnlike qA qB qC hnO htO z_len z_abs z_max z_min z_divmod z_list z_tuple z_range z_isinstance z_bool z_int z_sorted z_set z_all z_enumerate z_repr z_sum z_str z_ValueError z_LookupError z_RuntimeError z_ArithmeticError
end K18
open PySem PySem.W PySem.Calls PyProof.Rows
set_option maxHeartbeats 0 in
theorem PySem.Challenge.cw_paritycells_k18_errors_made_holds : PySem.Challenge.rw_paritycells_k18_errors_made.Holds := by
  w_on; o_law
  refine HandSHeadRun.head_any (r := OpenLaw.row PySem.Challenge.rw_paritycells_k18_errors_made) (q := view (OpenLaw.row PySem.Challenge.rw_paritycells_k18_errors_made).prog [68]) (H := K18.hkH) (ob := K18.hkO) (M := 14000) (loose := K18.hkN) (d := HandSHeadRun.topDef (OpenLaw.row PySem.Challenge.rw_paritycells_k18_errors_made).prog 68) (kwd := []) K18.hkO_eq
    (by kernel_rfl) (fun s => by kernel_rfl) K18.hkRun (by kernel_rfl) (by kernel_rfl) (by kernel_rfl) (by rfl) (by first | assumption | decide +kernel) (by decide +kernel) ⟨rfl, rfl, rfl, rfl, rfl, by decide +kernel⟩ ?hw ?hc
  case hw => w_witness2
  case hc =>
    refine Hk.walkE (l := PySem.Challenge.rw_paritycells_k18_errors_made) (k := 9) (x := "_law_script") (sp := K18.spLaw) rfl (by decide) (by kernel_rfl) ⟨rfl, by decide, by decide⟩ ?F (fun K H a ns hl _ hS => ⟨a, ns, rfl, hS, hl, fun _ => rfl⟩)
    intro w mg fa h Y G hmg0
    obtain ⟨K, KX, c⟩ := Y
    have hmg : mg ("law" : PySem.Str) = some (.ref fa) := by
      have e : (HandSHeadRun.topDef (OpenLaw.row PySem.Challenge.rw_paritycells_k18_errors_made).prog 68).name = ("law" : PySem.Str) := by kernel_rfl
      rw [← e]
      exact hmg0
    obtain ⟨fd, hb, hF⟩ := K18.all_of (l := PySem.Challenge.rw_paritycells_k18_errors_made) (w := w) KX G hmg c
    exact ⟨K, fd, KX, hb, hF⟩
