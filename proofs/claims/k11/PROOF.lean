import PyProof.Rows.All
import Wide.All
import OpenK.AllK
import Wide.FinOn
import HandS.ForMost
import HandS.ForExc
import HandS.ExcInit
import HandS.ExcIs
import HandS.ExcField
import HandS.IsInst
import HandS.Defaults
import HandS.SortInts
import HandS.SetFor
import HandS.More
import HandS.Conv
import HandS.WideBits
import HandS.TupAny
import HandS.SuiteRaise
import HandS.TryMany
import KE.GoesMore
import HandS.Walk
import KE.KExcIs
import HandS.CallSlots
import HandS.MakeKwOnly
import PySem.Challenge.RW_paritycells_k11_cells_of_any_value
set_option Elab.async false
set_option linter.all false
set_option maxRecDepth 100000
set_option maxHeartbeats 4000000
namespace Par
open PySem PySem.Spec PyProof.Rows L2

/-! A def's promise where nothing is being shown by repr around it: the guards are known to be none. -/
structure FnG (P : Program) (w : World) (K : PySem.W.Frag) (mg : Str → Option Value) (base : Heap) (CX : CXT) (k : Nat)
    (f : Addr) (fd : FuncData) (ps : List Str) (sp : Sp) : Prop where
  arity : ∀ vs H Q E, sp vs H Q E → vs.length = ps.length
  go : ∀ (A : Around) (outer : List Env) (s : Shared) (H : Hp) (args : Args) (us : List Value) (vs : List V) (Q : VK) (E : XK),
    A.guards = some [] → Room k A → Env0 P w K mg base A outer s H → BindsTo s fd args (ps.zip us) → Vals vs us →
    sp vs H Q E → codeAny (model P w) A (.call (.ref f) args) (CR CX outer P w H s Q E) s

section
variable {P : Program} {w : World} {K : PySem.W.Frag} {mg : Str → Option Value} {base : Heap}

theorem fnG_of {k : Nat} {x qual : Str} {st : Stmt} {f : Addr} {fd : FuncData} {N ps : List Str} {sp : Sp}
    (F : Fun K x qual st f fd) (S : FnScope N ps (defScope st))
    (arity : ∀ vs H Q E, sp vs H Q E → vs.length = ps.length)
    (body : ∀ (cdv : Value) (A : Around) (outer : List Env) (s : Shared) (H : Hp) (vs : List V) (Q : VK) (E : XK),
      A.guards = some [] → Room k (A.deeper (envOfC qual (defScope st) s.heap.objs.size f cdv)) → sp vs H Q E →
      ∃ t, PSs (cxOf CX0 P w K mg base N qual (defScope st) f cdv A outer s H E).nox (defBody st) t ∧
        t { nx := fun _ H' => Q .non H', rt := Q } (start N vs) H) :
    FnG P w K mg base CX0 (k + 1) f fd ps sp := by
  obtain ⟨oc, od, kV, doc, pm, an, cdv, ct, osl, efd, lk, hcd⟩ := F.ex
  subst efd
  constructor
  · exact arity
  intro A outer s H args us vs Q E gs room e0 bound rel hsp
  have lens := arity _ _ _ _ hsp
  have kin : K.In s.heap := e0.mod.kin.keeps (fun b o z => (e0.bs b o z).1)
  have nolim : s.heap.NoLimit := e0.mod.nolimit.keeps (fun b o z => (e0.bs b o z).1)
  have kinds : ∀ y ∈ ps.zip us, (defScope st).names.lookup y.1 = some .local ∨ ((defScope st).names.lookup y.1 = some .cell ∧
      ((cellsFrom (s.heap.objs.size + 1) (defScope st).names []).lookup y.1).isSome = true) := by
    rintro ⟨n, v⟩ hy
    cases S.par n (List.of_mem_zip hy).1 with
    | inl q => exact Or.inl q
    | inr q => exact Or.inr ⟨q, PySem.W.cellsFrom_some _ _ _ (Or.inl q)⟩
  refine codeAny_call_function room.depth (kin _ _ lk) rfl S.co S.gen rfl (PySem.W.codeRec_of kin hcd) (bound _ _ _ _ ?_)
  refine wpAny_newFunctionEnv_cells S.kind kinds ?_
  intro env he s1 x1
  subst he
  refine ⟨nolim.keeps x1.toInCall.keep, codeAny_func ?_⟩
  obtain ⟨t, ht, hq⟩ := body cdv A outer s H vs Q E gs (room.deeper _) hsp
  have I := inv_start (CX := CX0) (E := E) (w := w) S room.hd e0 lens rel x1
  refine wpAny_mono (ht.nox.run [] s1 (start N vs) H _ I hq) ?_ (fun e s' hs => hs)
  intro fl s' hs
  cases fl with
  | ret u =>
    obtain ⟨v, σ1, H1, J, rv, q⟩ := hs
    exact ⟨v, H1, J.os, J.bare, J.base, J.hok, rv, q⟩
  | next =>
    obtain ⟨σ1, H1, J, q⟩ := hs
    exact ⟨V.non, H1, J.os, J.bare, J.base, J.hok, rfl, q⟩
  | brk => exact (let ⟨_, _, _, q⟩ := hs; False.elim q)
  | cont => exact (let ⟨_, _, _, q⟩ := hs; False.elim q)
end

section
variable {X : Cx} {CX : CXT} {k : Nat} {f : Addr} {fd : FuncData} {ps : List Str} {sp : Sp} {x : Str} {p pos : Pos} {e : Expr} {es : List Expr} {t : TA} {E : XK}

/-- f(e, ..) of such a def, called where the guards are none -/
theorem pe_callG (F : FnG X.prog X.w X.K X.mg X.base CX k f fd ps sp) (gs : X.A.guards = some []) (hr : Room k X.A) (hg : Gl X x)
    (hm : X.mg x = some (.ref f)) (hk : PySem.W.keepIn X.K (.ref f) = true) (hb : Binds X.K fd ps []) (hx : Passes CX X E) (ha : PA X (e :: es) t)
    (hdb : (x == ("__debug__" : Str)) = false := by decide)
    (he : starEach (e :: es) X.env = (false, eval e X.env) :: starEach es X.env := by rfl)
    (hpl : (backTo pos (starEach es X.env)).any (·.1) = false := by rfl) :
    PE X (.Call (.Name x p) (e :: es) [] pos) (tCall sp [] E t) := by
  constructor
  intro pins s σ H Q I h
  refine wpAny_Call_Name_kw (ld_glob I hg hm ?_ hdb)
  refine PySem.W.callWith_K (h₀ := X.base) I.ok.mod.kin hk (thn (ha.run pos pins s σ H _ I h) ?_) he hpl
  rintro us s1 ⟨vs, H1, I1, r, q⟩
  refine ⟨I1.kIn, ?_⟩
  rw [List.append_nil] at q
  have hl : (us ++ []).length = ps.length := by
    rw [List.append_nil, ← r.length]
    exact F.arity _ _ _ _ q
  have hbi := hb s1 us I1.kIn hl
  rw [List.append_nil] at hbi
  refine wpAny_call (codeAny_mono (F.go X.A X.stack s1 H1 ⟨us, []⟩ us vs Q E gs hr I1.env0 hbi r q) ?_)
  intro res s' hq
  cases res with
  | error er => exact hx pins σ H1 s1 er s' I1 hq
  | ok fl =>
    cases fl with
    | ret u => exact I1.after hq
    | next => exact False.elim hq
    | brk => exact False.elim hq
    | cont => exact False.elim hq
end

/-- the law's end over such a promise -/
theorem law_callG {P : Program} {w : World} {K : PySem.W.Frag} {mg mb : Str → Option Value} {k : Nat} {fa a : Addr} {fd : FuncData} {x : Str} {sp : Sp}
    {s1 : Shared} {vs : List Value} {ns : List Int}
    (KX : K.In s1.heap) (hns : s1.heap.Ns mainGlobals mg) (hb : s1.heap.Ns builtinsNs mb)
    (hbb : ∀ x : Str, x ≠ "__name__" → mb x = bootBuiltins x) (hlim : s1.heap.NoLimit) (hg : s1.gens = #[])
    (ha : s1.heap.get? a = some { cls := .type "list", data := .seq vs.toArray }) (hi : IntsAre vs ns) (hl : ns.length ≤ sizeLine) (hr : Room k callerA)
    (F : ∀ base : Heap, K.In base → base.Ns mainGlobals mg → FnG P w K mg base CX0 k fa fd [x] sp)
    (hbind : ∀ (s : Shared) (u : Value), BindsTo s fd ⟨[u], []⟩ [(x, u)])
    (hsp : ∀ H : Hp, Only H → SqL K H a (ns.map V.int) → sp [.ref a] H (fun v _ => v = .bl true) fun _ _ _ => False) :
    codeAny (model P w) callerA (.call (.ref fa) ⟨[.ref a], []⟩)
      (fun r s' => r = .ok (.ret (.bool true)) ∧ OldK s1.heap s'.heap ∧ s'.os = s1.os ∧ AllBare s'.gens) s1 := by
  have rv := vals_ints hi
  have lenV := hi.length
  have core : ∀ H : Hp, Only H → SqL K H a (ns.map V.int) → HOk P w H s1.heap → (∀ b, H b ≠ none → b = a) →
      (H a ≠ none → K.lookup a = none) → codeAny (model P w) callerA (.call (.ref fa) ⟨[.ref a], []⟩)
      (fun r s' => r = .ok (.ret (.bool true)) ∧ OldK s1.heap s'.heap ∧ s'.os = s1.os ∧ AllBare s'.gens) s1 := by
    intro H only sq ok only_a out_a
    have un_dict : ∀ {b : Addr} {o : Obj} {es : Array DictEntry} {ep : Nat}, s1.heap.get? b = some o → o.data = .dict es ep → H b = none := by
      intro b o es ep e d
      cases q : H b with
      | none => rfl
      | some u =>
        have e' : b = a := only_a b (by rw [q]; simp)
        rw [e', ha] at e
        cases e
        exact nomatch d
    have ns_of : ∀ {b : Addr} {m : Str → Option Value}, s1.heap.Ns b m → (hidT s1.heap H).Ns b m := by
      rintro b m ⟨o, es, ep, e, d, r⟩
      exact ⟨o, es, ep, hidT_get e (un_dict e d), d, r⟩
    have kin : K.In (hidT s1.heap H) := by
      intro b o e
      refine hidT_get (KX b o e) ?_
      cases q : H b with
      | none => rfl
      | some u =>
        have e' : b = a := only_a b (by rw [q]; simp)
        rw [e'] at q e
        rw [out_a (by rw [q]; simp)] at e
        cases e
    have md : Mod K mg (hidT s1.heap H) := by
      obtain ⟨mc, h1, h2⟩ := hlim
      exact ⟨kin, ns_of hns, ⟨mb, ns_of hb, hbb⟩, ⟨mc, ns_of h1, h2⟩⟩
    have e0 : Env0 P w K mg (hidT s1.heap H) callerA [] s1 H := by
      refine ⟨rfl, md, fun b o e => of_hidT e, Nat.le_of_eq (hidT_size _ _), trivial, ?_, ok, .of_eq hg⟩
      intro b z
      exact absurd (show b ∈ ([] : List Addr) from z) (by simp)
    refine codeAny_mono ((F _ kin (ns_of hns)).go callerA [] s1 H ⟨[.ref a], []⟩ [.ref a] [.ref a] _ _ rfl hr e0
      (hbind s1 (.ref a)) (.cons rfl .nil) (hsp H only sq)) ?_
    intro r s' h
    cases r with
    | error e => exact False.elim h
    | ok fl =>
      cases fl with
      | next => exact False.elim h
      | brk => exact False.elim h
      | cont => exact False.elim h
      | ret u =>
        obtain ⟨v, H1, os, bare, un, ok1, rel, q⟩ := h
        have q' : v = .bl true := q
        subst q'
        obtain rfl : u = Value.bool true := rel
        refine ⟨rfl, OldK.of_keep ?_, os, bare⟩
        intro b o e
        cases q : H b with
        | none => exact un.keep b o e q (fun z => absurd (show b ∈ ([] : List Addr) from z) (by simp)) (by simp)
        | some u =>
          rcases only b with z | ⟨ob, xs, z⟩
          · rw [q] at z
            cases z
          · have z2 := un.frzs b ob _ z
            have e1 := (ok b _ z).1
            have e2 := (ok1 b _ z2).1
            rw [e] at e1
            cases e1
            exact e2
  cases hk : K.lookup a with
  | some o =>
    have e := KX a o hk
    rw [ha] at e
    cases e
    refine core (fun _ => none) (fun _ => .inl rfl) (.inr ⟨_, vs.toArray, _, hk, rfl, rfl, rfl, ?_, by simpa using rv⟩) ?_ (fun b z => absurd rfl z) (fun z => absurd rfl z)
    · rw [List.size_toArray, lenV]
      exact hl
    · intro b u z
      exact nomatch (show (none : Option HO) = some u from z)
  | none =>
    refine core (fun b => if b = a then some (.frz { cls := .type "list", data := .seq vs.toArray } (.lst (ns.map V.int))) else none) ?_ (.inl (.inr ⟨_, if_pos rfl⟩)) ?_ ?_ (fun _ => hk)
    · intro b
      by_cases hb : b = a
      · exact .inr ⟨_, _, if_pos hb⟩
      · exact .inl (if_neg hb)
    · intro b u z
      by_cases hb : b = a
      · have z1 := (if_pos hb).symm.trans z
        cases z1
        subst hb
        exact ⟨ha, by rw [List.length_map]; exact hl, vs, _, rv, ha⟩
      · have z1 := (if_neg hb).symm.trans z
        cases z1
    · intro b z
      by_cases hb : b = a
      · exact hb
      · exact absurd (if_neg hb) z

theorem walkG {l : PySem.W.OpenLaw} {n k : Nat} {q : Program} {loose : List Str} {XP : (Str → Option Value) → Heap → Prop} {YP : World → Heap → Prop}
    {d : DefRec} {K : Params → PySem.W.Frag} {sp : PySem.W.Frag → Sp} {x : Str}
    (hn : l.most = some n) (hn2 : n ≤ sizeLine) (hdf : d.params.defaults = []) (hr : Room k callerA)
    (hY : ∀ (w : World) (h : Heap), YP w h → (K w.params).In h)
    (F : ∀ (w : World) (mg : Str → Option Value) (fa : Addr) (h : Heap), (K w.params).In h → h.Ns mainGlobals mg → mg d.name = some (.ref fa) →
      ∃ fd : FuncData, (∀ (s : Shared) (u : Value), BindsTo s fd ⟨[u], []⟩ [(x, u)]) ∧
        ∀ base : Heap, (K w.params).In base → base.Ns mainGlobals mg → FnG l.prog w (K w.params) mg base CX0 k fa fd [x] (sp (K w.params)))
    (hsp : ∀ (K : PySem.W.Frag) (H : Hp) (a : Addr) (ns : List Int), ns.length ≤ n → Only H → SqL K H a (ns.map V.int) →
      sp K [.ref a] H (fun v _ => v = .bl true) fun _ _ _ => False) :
    PySem.W.WalkO q loose XP YP l.row.toRowW d [] (fun f vs => PySem.call f vs) := by
  refine Att.attach_call hn hdf ?_
  intro w s0 s1 mg mb fa o pm cd doc a vs ns G Y ho hd hcd hmg hobj hints hlen hg
  have KX := hY w _ Y
  obtain ⟨fd, hb, hF⟩ := F w mg fa _ KX G.T.g hmg
  exact law_callG KX G.T.g G.T.b G.T.builtins G.T.nolimit hg hobj hints (Nat.le_trans hlen hn2) hr hF hb
    (fun H hO hS => hsp _ H a ns hlen hO hS)
end Par
namespace Par
open PySem PySem.Spec PyProof.Rows L2

section
variable {X : Cx} {CX : CXT} {k : Nat} {f : Addr} {fd : FuncData} {ps ks : List Str} {sp : Sp} {E : XK} {x : Str} {p pos : Pos} {kws : List Keyword} {tk : TA}
  {g : List Value → List Value → List Value} {gV : List V → List V → List V}
/-- f(k = v, ..), no positional argument -/
theorem pe_callN0 (F : FnOk X.prog X.w X.K X.mg X.base CX k f fd ps sp) (hr : Room k X.A) (hg : Gl X x) (hm : X.mg x = some (.ref f))
    (hk : PySem.W.keepIn X.K (.ref f) = true) (hb : KBn X.K fd ps 0 ks g gV) (hx : Passes CX X E) (hkw : PK X kws tk)
    (hall : (backToKw pos (keywordEach kws X.env)).all (·.1.isSome) = true := by rfl)
    (hks : (backToKw pos (keywordEach kws X.env)).filterMap (·.1) = ks := by rfl)
    (hdb : (x == ("__debug__" : Str)) = false := by decide)
    (hpl : ((backTo pos (starEach [] X.env)).any (·.1) || (backToKw pos (keywordEach kws X.env)).any (·.1.isNone)) = false := by rfl) :
    PE X (.Call (.Name x p) [] kws pos) (tCallN 0 ks.length sp gV E tNil tk) := by
  constructor
  intro pins s σ H Q I h
  refine wpAny_Call_Name_kw (ld_glob I hg hm ?_ hdb)
  refine PySem.W.callWith_KW0 (h₀ := X.base) I.ok.mod.kin hk hall ?_ hpl
  refine thn (hkw.run pos pins s σ H _ I h) ?_
  rintro ws s2 ⟨zs, H2, I2, rz, l1, l2, q2⟩
  refine ⟨I2.kIn, ?_⟩
  rw [hks]
  exact run_fnN F hr hb hx I2 .nil rz l1 l2 q2
end

/-! ### a new list whose place is not that of sys.modules -/
def tLstS (t : TA) : TE := fun σ H Q => t σ H fun xs H1 => xs.length ≤ sizeLine ∧ ∀ p, H1 p = none → p ≠ sysModules → Q (.ref p) (upd H1 p (.lst xs))
theorem new_ne_sys {X : Cx} {pins : List (Addr × Obj)} {σ : L2.St} {H : Hp} {s : Shared} (I : Inv X pins σ H s) : s.heap.objs.size ≠ sysModules := by
  obtain ⟨o, _, _, e, _⟩ := I.ok.mod.glob
  have h1 := Heap.lt_size (I.bk _ _ e)
  intro z
  rw [z] at h1
  exact absurd h1 (by decide)
theorem pe_lstS {X : Cx} {es : List Expr} {t : TA} {pos : Pos} (h : PA X es t) : PE X (.List es pos) (tLstS t) := by
  constructor
  intro pins s σ H Q I hq
  refine wpAny_List_spliced (thn (h.run pos pins s σ H _ I hq) ?_)
  rintro us s1 ⟨xs, H1, I1, r, z, q⟩
  refine ⟨by rw [← r.length]; exact z, ?_⟩
  have free : H1 s1.heap.objs.size = none := I1.hok.fresh (Nat.le_refl _)
  have lay := I1.laid (t' := s1.toks) (o := .lst xs) (h' := s1.heap.push { cls := .type "list", data := .seq us.toArray 0 })
    (fun b u e => Heap.get?_push_of_some _ e) (Nat.le_refl _) ⟨z, us, 0, r, Heap.get?_push_size _ rfl⟩
  exact ⟨V.ref s1.heap.objs.size, _, lay, rfl, q _ free (new_ne_sys I1)⟩

/-! ### repr -/
/-- a value that is no container, or a dict with keys and values that are none -/
inductive Fl (H : Hp) : V → PyData → Prop
  | non : Fl H .non .none
  | bl (b : Bool) : Fl H (.bl b) (.bool b)
  | int (i : Int) : Fl H (.int i) (.int i)
  | str (x : Str) : Fl H (.str x) (.str x)
  | dic0 {a : Addr} : H a = some (.dK []) → Fl H (.ref a) (.dict [])
  | dic1 {a : Addr} {i j : Int} : H a = some (.dK [(Sum.inl i, .int j)]) → Fl H (.ref a) (.dict [(.int i, .int j)])
inductive FlAll (H : Hp) : List V → List PyData → Prop
  | nil : FlAll H [] []
  | cons {v : V} {vs : List V} {d : PyData} {ds : List PyData} : Fl H v d → FlAll H vs ds → FlAll H (v :: vs) (d :: ds)
/-- what repr is asked of: data without a dict, a flat thing, a list of flat things -/
inductive Dx (K : PySem.W.Frag) (H : Hp) : V → PyData → Prop
  | dp {v : V} {d : PyData} : Dp K H v d → Dx K H v d
  | fl {v : V} {d : PyData} : Fl H v d → Dx K H v d
  | lst {a : Addr} {xs : List V} {ds : List PyData} : H a = some (.lst xs) → a ≠ sysModules → FlAll H xs ds → Dx K H (.ref a) (.list ds)

mutual
theorem dp_nodict {K : PySem.W.Frag} {H : Hp} : ∀ (d : PyData) (v : V), Dp K H v d → d.hasDict = false
  | .none, _, _ => rfl
  | .bool _, _, _ => rfl
  | .int _, _, _ => rfl
  | .str _, _, _ => rfl
  | .list ds, _, h => by
    cases h with
    | lst _ ha => exact dps_nodict ds _ ha
  | .tuple ds, _, h => by
    cases h with
    | tup _ ha => exact dps_nodict ds _ ha
  | .dict _, _, h => by cases h
theorem dps_nodict {K : PySem.W.Frag} {H : Hp} : ∀ (ds : List PyData) (vs : List V), DpAll K H vs ds → PyData.hasDictAll ds = false
  | [], _, _ => rfl
  | d :: ds, _, h => by
    cases h with
    | cons h1 h2 =>
      show (d.hasDict || PyData.hasDictAll ds) = false
      rw [dp_nodict d _ h1, dps_nodict ds _ h2]
      rfl
end

section
variable {X : Cx} {pins : List (Addr × Obj)} {σ : L2.St} {H : Hp} {s : Shared}
theorem fl_reads (I : Inv X pins σ H s) {v : V} {d : PyData} {u : Value} (h : Fl H v d) (r : RelV v u) : ∃ as, Reads s.heap u d as ∧ sysModules ∉ as := by
  cases h with
  | non =>
    cases r
    exact ⟨_, Reads.none, by simp⟩
  | bl b =>
    cases r
    exact ⟨_, Reads.bool b, by simp⟩
  | int i =>
    obtain ⟨t, rfl⟩ := r
    exact ⟨_, Reads.int i t, by simp⟩
  | str x =>
    obtain ⟨t, rfl⟩ := r
    exact ⟨_, Reads.str x t, by simp⟩
  | @dic0 a e =>
    cases r
    obtain ⟨_, ns, vs, kv, o, es, ep, ho, hx, hd, hk, hp, _⟩ := dk_of I.hok e
    cases kv
    have ne : sysModules ≠ a := fun z => by rw [← z] at ns; exact absurd ns (by decide)
    cases hes : es.toList with
    | cons e1 t1 => rw [hes] at hp; cases hp
    | nil =>
      refine ⟨_, Reads.dict (kvs := []) (as := []) (bs := []) ho hx.1 hd (by rw [hes]; exact ReadsAll.nil) (by rw [hes]; exact ReadsAll.nil), ?_⟩
      simpa using ne
  | @dic1 a i j e =>
    cases r
    obtain ⟨_, ns, vs, kv, o, es, ep, ho, hx, hd, hk, hp, _⟩ := dk_of I.hok e
    have ne : sysModules ≠ a := fun z => by rw [← z] at ns; exact absurd ns (by decide)
    cases kv with
    | @cons _ q _ _ k1 k2 =>
      cases k2
      obtain ⟨k, u⟩ := q
      obtain ⟨e1, t, e2⟩ := k1
      have e1' : Sum.inl i = k := e1
      have e2' : u = Value.int j t := e2
      subst e1' e2'
      cases hes : es.toList with
      | nil => rw [hes] at hp; cases hp
      | cons e1 t1 =>
        rw [hes] at hp
        cases hp with
        | cons p1 p3 p2 =>
          cases p2
          have p1' : keyIs (Sum.inl i) e1.key = true := p1
          rcases keyIs_shape p1' with ⟨i2, t2, w1, w2⟩ | ⟨x2, t2, w1, w2⟩
          · cases w1
            have p3' : e1.val = Value.int j t := p3
            refine ⟨_, Reads.dict (kvs := [(.int i, .int j)]) ho hx.1 hd (as := [] ++ []) (bs := [] ++ []) ?_ ?_, ?_⟩
            · rw [hes]
              show ReadsAll s.heap [e1.key] [PyData.int i] ([] ++ [])
              rw [w2]
              exact ReadsAll.cons (Reads.int i t2) ReadsAll.nil
            · rw [hes]
              show ReadsAll s.heap [e1.val] [PyData.int j] ([] ++ [])
              rw [p3']
              exact ReadsAll.cons (Reads.int j t) ReadsAll.nil
            · simpa using ne
          · cases w1
theorem flAll_reads (I : L2.Inv X pins σ H s) : ∀ {vs : List V} {ds : List PyData} {us : List Value}, FlAll H vs ds → Vals vs us → ∃ as, ReadsAll s.heap us ds as ∧ sysModules ∉ as
  | _, _, _, .nil, .nil => ⟨_, ReadsAll.nil, by simp⟩
  | _, _, _, .cons h1 h2, .cons r1 r2 => by
    obtain ⟨as, q1, n1⟩ := fl_reads I h1 r1
    obtain ⟨bs, q2, n2⟩ := flAll_reads I h2 r2
    refine ⟨_, ReadsAll.cons q1 q2, ?_⟩
    intro z
    rcases List.mem_append.mp z with z | z
    · exact n1 z
    · exact n2 z
theorem dx_reads (I : L2.Inv X pins σ H s) {v : V} {d : PyData} {u : Value} (h : Dx X.K H v d) (r : RelV v u) :
    ∃ as, Reads s.heap u d as ∧ (d.hasDict = true → sysModules ∉ as) := by
  cases h with
  | dp h =>
    obtain ⟨as, q⟩ := Dp.reads I d v u h r
    refine ⟨as, q, fun z => ?_⟩
    rw [dp_nodict d v h] at z
    cases z
  | fl h =>
    obtain ⟨as, q, n⟩ := fl_reads I h r
    exact ⟨as, q, fun _ => n⟩
  | @lst a xs ds e ne h =>
    cases r
    obtain ⟨its, rv, ⟨o, n, ho, hc, _, hd⟩, _⟩ := I.list (a := a) (xs := xs) (SqL.of e)
    obtain ⟨as, q, nn⟩ := flAll_reads I h rv
    refine ⟨_, Reads.list ho hc hd q, fun _ z => ?_⟩
    rcases List.mem_cons.mp z with z | z
    · exact ne z.symm
    · exact nn z
end

section
variable {X : Cx}
/-- repr(x) where the guards are none -/
theorem cr_repr (gs : X.A.guards = some []) (hu : X.A.units + 64 < cLine) : CallR X (.builtin "repr") (fun xs H Q => ∃ v d, xs = [v] ∧ Dx X.K H v d ∧
    d.showable = true ∧ d.depth ≤ 40 ∧ d.shown.length ≤ sizeLine ∧ Q (.str d.shown) H) := by
  intro pins s σ H xs us Q I r h
  obtain ⟨v, d, rfl, hd, sh, dep, len, q⟩ := h
  cases r with
  | @cons _ u _ _ r1 r2 =>
    cases r2
    obtain ⟨as, rd, ns⟩ := dx_reads I hd r1
    have fin : ∀ (h' : Heap) (tk u' : Nat), (∀ b o, s.heap.get? b = some o → h'.get? b = some o) → EP X pins σ Q (.str d.shown u') { s with heap := h', toks := tk } :=
      fun h' tk u' k => ⟨.str d.shown, H, I.un (t' := tk) (Un.kept k) (I.hok.kept k), ⟨_, rfl⟩, q⟩
    cases u with
    | ref a => exact repr_of_reads' rd sh ns gs (by omega) (fun _ _ z => z) (fun h' u tk k => fin h' tk u k) len
    | none => cases rd; exact PySem.P.repr_of_none (fin s.heap _ _ fun _ _ z => z)
    | bool b => cases rd; exact PySem.P.repr_of_bool (fin s.heap _ _ fun _ _ z => z)
    | int i t => cases rd; exact PySem.P.repr_of_int (by simpa [PyData.showable] using sh) (fin s.heap _ _ fun _ _ z => z)
    | str x t => cases rd; exact PySem.P.repr_of_str (fin s.heap _ _ fun _ _ z => z) len
    | _ => cases rd
end
end Par
namespace Par
open PySem PySem.Spec PyProof.Rows L2

/-! ### how many distinct items there are -/
theorem nodup_le : ∀ {L M : List Int}, L.Nodup → (∀ k ∈ L, k ∈ M) → L.length ≤ M.length
  | [], M, _, _ => Nat.zero_le _
  | a :: L, M, hn, hs => by
    have ha : a ∈ M := hs a (List.mem_cons_self ..)
    have h1 := nodup_le (L := L) (M := M.erase a) (List.nodup_cons.mp hn).2 (fun k hk => by
      have hka : k ≠ a := fun e => (List.nodup_cons.mp hn).1 (e ▸ hk)
      exact (List.mem_erase_of_ne hka).mpr (hs k (List.mem_cons_of_mem _ hk)))
    have h2 := List.length_erase_of_mem ha
    have h3 : 0 < M.length := List.length_pos_of_mem ha
    show L.length + 1 ≤ M.length
    omega
theorem nodup_lt : ∀ {M L : List Int}, L.Nodup → (∀ k ∈ L, k ∈ M) → ¬ M.Nodup → L.length < M.length
  | [], _, _, _, h => absurd List.nodup_nil h
  | a :: M, L, hn, hs, hM => by
    by_cases ha : a ∈ M
    · have h := nodup_le (L := L) (M := M) hn (fun k hk => by
        rcases List.mem_cons.mp (hs k hk) with e | e
        · exact e ▸ ha
        · exact e)
      show L.length < M.length + 1
      omega
    · have hM' : ¬ M.Nodup := fun z => hM (List.nodup_cons.mpr ⟨ha, z⟩)
      have h := nodup_lt (M := M) (L := L.erase a) (hn.erase a) (fun k hk => by
        have hk2 := (hn.mem_erase_iff).mp hk
        rcases List.mem_cons.mp (hs k hk2.2) with e | e
        · exact absurd e hk2.1
        · exact e) hM'
      have h2 : L.length ≤ (L.erase a).length + 1 := by
        by_cases hL : a ∈ L
        · have := List.length_erase_of_mem hL
          omega
        · rw [List.erase_of_not_mem hL]
          omega
      show L.length < M.length + 1
      omega
theorem distinct_iff {L M : List Int} (hn : L.Nodup) (hs : ∀ k, k ∈ L ↔ k ∈ M) : L.length ≤ M.length ∧ (L.length = M.length ↔ M.Nodup) := by
  have h1 := nodup_le hn (fun k hk => (hs k).mp hk)
  refine ⟨h1, fun e => ?_, fun e => ?_⟩
  · by_cases h : M.Nodup
    · exact h
    · have := nodup_lt hn (fun k hk => (hs k).mp hk) h
      omega
  · have := nodup_le e (fun k hk => (hs k).mpr hk)
    omega
theorem firstMet_nodup2 (val : Nat → Int) : ∀ i, (firstMet val i).Nodup
  | 0 => List.nodup_nil
  | i + 1 => by
    rw [firstMet_succ]
    have ih := firstMet_nodup2 val i
    unfold step_dedup
    split
    · exact ih
    · rename_i h
      refine List.nodup_append.mpr ⟨ih, by simp, ?_⟩
      intro a ha b hb e
      have hb' : b = val i := by simpa using hb
      apply h
      rw [List.any_eq_true]
      exact ⟨a, ha, by simp [e, hb']⟩
theorem firstMet_mem (ns : List Int) (k : Int) : k ∈ firstMet (fun i => ns.getD i 0) ns.length ↔ k ∈ ns := by
  have h := firstMet_any (fun i => ns.getD i 0) ns.length k
  have e : (List.range ns.length).map (fun i => ns.getD i 0) = ns := by
    refine List.ext_getElem (by simp) (fun i h1 h2 => ?_)
    simp [List.getD_eq_getElem?_getD, List.getElem?_eq_getElem h2]
  rw [e] at h
  constructor
  · intro z
    have y : (firstMet (fun i => ns.getD i 0) ns.length).any (· == k) = true := List.any_eq_true.mpr ⟨k, z, by simp⟩
    rw [h] at y
    obtain ⟨x, hx, ex⟩ := List.any_eq_true.mp y
    have : x = k := by simpa using ex
    exact this ▸ hx
  · intro z
    have y : ns.any (· == k) = true := List.any_eq_true.mpr ⟨k, z, by simp⟩
    rw [← h] at y
    obtain ⟨x, hx, ex⟩ := List.any_eq_true.mp y
    have : x = k := by simpa using ex
    exact this ▸ hx

/-- len(set(x)), x a list or tuple of ints -/
def tLenSetQ (K : PySem.W.Frag) (ta : TE) : TE := fun σ H Q => ta σ H fun x H1 => ∃ (l : Addr) (ns : List Int), x = .ref l ∧
  (SqL K H1 l (ns.map V.int) ∨ SqT K H1 l (ns.map V.int)) ∧ ns.length ≤ 4000 ∧
  ∀ c : Nat, c ≤ ns.length → (c = ns.length ↔ ns.Nodup) → Q (.int (c : Nat)) H1
theorem numbers_of : ∀ {ns : List Int} {us : List Value}, Vals (ns.map V.int) us → IntsAre us ns
  | [], _, h => by
    cases h
    exact .nil
  | n :: ns, _, h => by
    cases h with
    | cons r t =>
      obtain ⟨tk, rfl⟩ := r
      exact .cons n tk (numbers_of t)
theorem pe_lenSetQ {X : Cx} {a : Expr} {ta : TE} {p p2 q pos : Pos} (hg : Gl X "len") (hm : X.mg "len" = none) (hg2 : Gl X "set") (hm2 : X.mg "set" = none) (ha : PE X a ta)
    (hc : X.calm = true := by rfl) (na : starEach [a] X.env = (false, eval a X.env) :: starEach [] X.env := by rfl) :
    PE X (.Call (.Name "len" p) [.Call (.Name "set" p2) [a] [] q] [] pos) (tLenSetQ X.K ta) := by
  constructor
  intro pins s σ H Q I h
  refine Call_ (ld_blt I hg hm boot_len ?_)
  refine PyProof.Rows.callWith_builtin1 (PyProof.Rows.args_cons (Call_ (ld_blt I hg2 hm2 boot_set ?_)) rfl) rfl rfl
  refine PyProof.Rows.callWith_type1 (PyProof.Rows.args_cons (thn (ha.run pins s σ H _ I h) ?_) na) na rfl
  rintro v s1 ⟨x, H1, I1, r1, l, ns, rfl, hq, hl, q1⟩
  refine PyProof.Rows.args_nil ?_
  cases r1
  rcases hq with hq | hq
  · obtain ⟨its, r, plain, hz⟩ := I1.list hq
    have hlen : its.toArray.size = ns.length := by
      rw [List.size_toArray, ← r.length]
      exact List.length_map ..
    refine call_set_list (I1.ok.hd hc) plain.isList (by simpa using numbers_of r) (by rw [hlen]; unfold scanBound; omega) ?_
    intro h' tk hS hk
    refine PyProof.Rows.args_nil ?_
    rw [hlen] at hS
    obtain ⟨o, es, ep, t, ho, hex, hd, _, _, _, hf, hn⟩ := hS
    have I2 : L2.Inv X pins σ H1 { s1 with heap := h', toks := tk } := I1.kept fun b o e => hk b o (Heap.lt_size e) e
    obtain ⟨d1, d2⟩ := distinct_iff (firstMet_nodup2 (fun i => ns.getD i 0) ns.length) (fun k => firstMet_mem ns k)
    exact call_len_set ho hex hd hf (by rw [hn]; unfold sizeLine at *; omega) ⟨.int _, H1, I2.tok _, ⟨_, by rw [hn]⟩, q1 _ d1 d2⟩
  · obtain ⟨its, r, tup, hz⟩ := I1.tuple hq
    have hlen : its.toArray.size = ns.length := by
      rw [List.size_toArray, ← r.length]
      exact List.length_map ..
    refine L2.call_set_tupI ns (I1.ok.hd hc) tup (by simpa using numbers_of r) (by unfold scanBound; omega) ?_
    intro h' tk c hS hcn hk
    refine PyProof.Rows.args_nil ?_
    obtain ⟨o, es, ep, t, ho, hex, hd, _, nd, mem, _, hf, hn, _, _⟩ := hS
    have I2 : L2.Inv X pins σ H1 { s1 with heap := h', toks := tk } := I1.kept hk
    have hmem : ∀ k, k ∈ es.toList.map keyOf ↔ k ∈ ns := fun k => (mem k).symm.trans (by simp)
    obtain ⟨d1, d2⟩ := distinct_iff nd hmem
    have hc2 : (es.toList.map keyOf).length = c := by rw [List.length_map, Array.length_toList, hn]
    rw [hc2] at d1 d2
    exact call_len_set ho hex hd hf (by rw [hn]; omega) ⟨.int (c : Nat), H1, I2.tok _, ⟨_, by rw [hn]⟩, q1 c d1 d2⟩
end Par
namespace Par
open PySem PySem.Spec PyProof.Rows L2
section
variable {prog : Program} {w : World} {A : Around} {E : Value → Shared → Prop} {s : Shared}
theorem collect_tup {tp : Addr} {vs : List Value} {Q : List Value → Shared → Prop} (htp : IsTup s.heap tp vs.toArray)
    (h : Q vs { s with heap := (s.heap.push (seqObj "list" #[] 0)).update s.heap.objs.size (Obj.mapSeq (· ++ vs.toArray)) })
    (len : vs.length ≤ sizeLine) : wpAny (model prog w) A (collect (.ref tp)) Q E s := by
  obtain ⟨o, hob, hcl, n, hdt⟩ := id htp
  unfold collect
  refine wpAny_bind (wpAny_runValue ?_)
  refine codeAny_builtin entry_proto_collect' ?_
  show wpAny _ _ (do again (.builtin "list.__iadd__" ⟨[← newList [], .ref tp], []⟩)) _ _ s
  refine wpAny_bind (wpAny_newList (wpAny_pure ?_))
  refine ⟨Code.quiet_builtin _ (by decide +kernel), codeAny_builtin entry_list_iadd' ?_⟩
  show wpAny _ _ (Builtin.List.listExtendWith (.ref s.heap.objs.size) (.ref tp) (.ref s.heap.objs.size)) _ _ { s with heap := s.heap.push (seqObj "list" #[] 0) }
  unfold Builtin.List.listExtendWith -- a tuple's items go over at once
  have ho2 : (s.heap.push (seqObj "list" #[] 0)).get? tp = some o := Heap.get?_push_of_some _ hob
  refine wpAny_bind (wpAny_typeOf (T := "tuple") ⟨o, ho2, hcl⟩ ?_)
  have ht : (Value.type "tuple" == Value.type "tuple") = true := by rfl
  rw [if_pos (by simp [ht])]
  refine wpAny_bind (listItems_at ho2 hdt ?_)
  refine wpAny_bind (listItems_at (n := 0) (xs := #[]) (Heap.get?_push_size _ rfl) rfl ?_)
  rw [if_neg (by simp)]
  have room : (#[] ++ vs.toArray).size ≤ sizeLine + 1 := by
    simp only [Array.size_append, List.size_toArray, List.length_nil]
    omega
  refine wpAny_bind (listUpdate_at (xs := #[]) (n := 0) (Heap.get?_push_size _ rfl) rfl ?_ (Nat.zero_le _) room)
  refine wpAny_pure ?_
  have flat : ((#[] : Array Value) ++ vs.toArray).toList = vs := by simp
  refine wpAny_bind (wpAny_load (get?_update_seq (Heap.get?_push_size s.heap rfl) _) ?_)
  show wpAny _ _ (pure (#[] ++ vs.toArray).toList) Q E _
  rw [flat]
  exact wpAny_pure h
theorem sorted_tupOrd {tp : Addr} {vs : List Value} {ltv : Value → Value → Bool} {Q : Value → Shared → Prop} (O : SrtO.Swo ltv) (htp : IsTup s.heap tp vs.toArray) (hz : vs.length ≤ sizeLine)
    (can : 2 ≤ vs.length → ∀ (h1 : Heap) (a : Addr), h1.get? a = some (seqObj "list" vs.toArray 0) → (∀ b o, s.heap.get? b = some o → b ≠ a ∧ h1.get? b = some o) → SrtO.SortableO prog w A.in1.in1 { s with heap := h1 } a vs ltv)
    (h : ∀ out : List Value, SrtO.Srtd ltv out → SrtO.Stb ltv out vs → Q (.ref (s.heap.objs.size + 1)) { s with heap := sortedAll s.heap vs out.toArray }) :
    wpAny (model prog w) A (call (.builtin "sorted") [.ref tp]) Q E s := by
  refine Calls.call_function_entry kind_sorted plain_sorted entry_sorted (args_sorted1 (.ref tp)) ?_
  unfold Builtin.«sorted»
  refine wpAny_bind (m := checkCount "sorted" 1 1 _) ?_
  refine wpAny_pure ?_
  refine wpAny_bind (collect_tup htp ?_ hz)
  refine wpAny_bind (wpAny_newList (s := _) ?_ hz)
  generalize eg : (s.heap.push (seqObj "list" #[] 0)).update s.heap.objs.size (Obj.mapSeq (· ++ vs.toArray)) = g
  have hsz : g.objs.size = s.heap.objs.size + 1 := by rw [← eg, Heap.size_update, size_push']
  have hoL : (g.push (seqObj "list" vs.toArray 0)).get? (s.heap.objs.size + 1) = some (seqObj "list" vs.toArray 0) := by
    rw [← hsz]
    exact Heap.get?_push_size g rfl
  have keep : ∀ b o, s.heap.get? b = some o → b ≠ s.heap.objs.size + 1 ∧ (g.push (seqObj "list" vs.toArray 0)).get? b = some o := by
    intro b o q
    have hbl : b < s.heap.objs.size := Heap.lt_size q
    refine ⟨Nat.ne_of_lt (Nat.lt_succ_of_lt hbl), Heap.get?_push_of_some (seqObj "list" vs.toArray 0) ?_⟩
    rw [← eg, Heap.get?_update_ne _ _ _ _ (Nat.ne_of_lt hbl)]
    exact Heap.get?_push_of_some (seqObj "list" #[] 0) q
  show wpAny _ _ _ _ _ { s with heap := g.push (seqObj "list" vs.toArray 0) }
  rw [hsz]
  refine wpAny_bind (wpAny_holding (wpAny_call_entry slot_list_sort ⟨_, hoL, rfl⟩ entry_list_sort (SrtO.list_sort_ord O hoL hz (fun h2 => can h2 _ _ hoL keep) ?_) (args_list_sort _)))
  intro out hs hb
  refine ⟨_, rfl, ?_⟩
  subst eg
  exact wpAny_pure ⟨.ref (s.heap.objs.size + 1), rfl, h out hs hb⟩
end
/-- sorted(t), t a tuple of ints -/
theorem cr_sortedTup {X : Cx} : CallR X (.builtin "sorted") (fun vs H Q => ∃ (a : Addr) (ns : List Int), vs = [V.ref a] ∧ SqT X.K H a (ns.map V.int) ∧
    ∀ (ms : List Int) (p : Addr), ms.Perm ns → ms.Pairwise (· ≤ ·) → H p = none → Q (.ref p) (upd H p (.lst (ms.map V.int)))) := by
  intro pins s σ H vs us Q I r h
  obtain ⟨a, ns, rfl, hs, q⟩ := h
  obtain ⟨its, rv, htp, hz⟩ := I.tuple hs
  rw [Vals.ref1 r]
  have hi := rv.ints
  refine sorted_tupOrd SrtO.swo_int htp (by rw [← rv.length]; exact hz) (fun h2 h1 a2 _ _ => SrtO.ints_sortable hi h2) ?_
  intro out h1 h2
  obtain ⟨o1, o2, o3⟩ := SrtO.ints_out hi h1 h2
  obtain ⟨ep, he⟩ := PyProof.Rows.sortedAll_at s.heap its out.toArray
  have hshort : ((out.map SrtO.iv).map V.int).length ≤ sizeLine := by
    rw [List.length_map, o2.length_eq]
    rw [List.length_map] at hz
    exact hz
  have lay := I.laid (t' := s.toks) (a := s.heap.objs.size + 1) (o := .lst ((out.map SrtO.iv).map V.int)) (fun _ _ => PyProof.Rows.sortedAll_old) (Nat.le_succ _)
    ⟨hshort, out, ep, vals_of_ints o1, he⟩
  exact ⟨.ref _, _, lay, rfl, q _ _ o2 o3 (I.hok.fresh (Nat.le_succ _))⟩
end Par
namespace Par
open PySem PySem.Spec PyProof.Rows L2
theorem meets_enumT (l : Addr) (items : Array Value) :
    Meets (Builtin.«enumerate.__new__» ⟨[.type "enumerate", .ref l], []⟩) (fun _ R s => s.heap.IsTuple l items ∧
      R (.ok (.ret (.ref (s.heap.push { cls := .type "tuple_iterator", data := .fields #[.ref l, .int 0 0] }).objs.size)))
        { s with heap := (s.heap.push { cls := .type "tuple_iterator", data := .fields #[.ref l, .int 0 0] }).push { cls := .type "enumerate", data := .fields #[.none, .bool false, .ref s.heap.objs.size, rawInt 0, .none, .none] } }) := by
  refine .of_wp ?_
  rintro prog w A R ⟨hp, g, d, tk, os⟩ ⟨h1, h⟩
  have sub1 := sub_enumerate
  have it1 : ∀ {B : Around} {E : Value → Shared → Prop} {Q : Value → Shared → Prop},
      Q (.ref hp.objs.size) ⟨hp.push { cls := .type "tuple_iterator", data := .fields #[.ref l, .int 0 0] }, g, d, tk, os⟩ → wpAny (model prog w) B (pyIter (.ref l)) Q E ⟨hp, g, d, tk, os⟩ :=
    fun q => (begins_tuple l items).iter prog w _ _ ⟨hp, g, d, tk, os⟩ _ h1 q
  wp_walk using it1
  refine wpAny_stack_any (fun st => wpAny_pure ?_)
  split
  · rename_i c _ _ _ _ _
    cases (c == Value.type "enumerate") <;> (wp_walk using it1; exact ⟨_, rfl, h⟩)
  · wp_walk using it1
    exact ⟨_, rfl, h⟩
section
variable {prog : Program} {w : World} {A : Around} {E : Value → Shared → Prop} {s : Shared}
theorem call_enumT {l : Addr} {items : Array Value} {Q : Value → Shared → Prop} (hL : s.heap.IsTuple l items)
    (h : ∀ h', IsEnum h' (s.heap.objs.size + 1) s.heap.objs.size 0 .none → h'.IsTupleIter s.heap.objs.size l 0 → (∀ b o, s.heap.get? b = some o → h'.get? b = some o) →
      Q (.ref (s.heap.objs.size + 1)) { s with heap := h' }) : wpAny (model prog w) A (call (.type "enumerate") [.ref l]) Q E s := by
  refine callType_new F.called_enumerate (by decide) (F.typeCall_enumerate_1 _) (F.newCall_enumerate_1 _) (fun obj => F.args_object_init_2 obj _) F.entry_enumerate_new (meets_enumT l items) ⟨hL, ?_⟩
  generalize eg : s.heap.push { cls := .type "tuple_iterator", data := .fields #[.ref l, .int 0 0] } = g
  have hz : g.objs.size = s.heap.objs.size + 1 := by rw [← eg]; exact Heap.size_push ..
  have hi : g.get? s.heap.objs.size = some { cls := .type "tuple_iterator", data := .fields #[.ref l, .int 0 0] } := by rw [← eg]; exact Heap.get?_push_size _ rfl
  have hk : ∀ b o, s.heap.get? b = some o → g.get? b = some o := by rw [← eg]; exact fun b o x => Heap.get?_push_of_some _ x
  show _ ∧ _
  have he := Heap.get?_push_size g (o := { cls := .type "enumerate", data := .fields #[.none, .bool false, .ref s.heap.objs.size, rawInt 0, .none, .none] }) rfl
  rw [hz] at he ⊢
  exact ⟨⟨_, he, rfl⟩, h _ he ⟨_, Heap.get?_push_of_some _ hi, rfl, rfl⟩ fun b o x => Heap.get?_push_of_some _ (hk b o x)⟩
end
/-- the tuple at a, each item in a new pair -/
def ItEnT (K : PySem.W.Frag) (a : Addr) : It where
  go := fun i H => ∃ (xs : List V) (x : V), SqT K H a xs ∧ xs[i]? = some x
  yld := fun i H v H' => ∃ T x, v = .ref T ∧ H T = none ∧ H' = upd H T (.tup [.int (i : Nat), x]) ∧ ∀ xs, SqT K H a xs → xs[i]? = some x
  stop := fun i H => ∃ xs : List V, SqT K H a xs ∧ xs.length ≤ i
theorem turn_enumT {P : Program} {w : World} {K : PySem.W.Frag} {elts : List Expr} {kk : Nat} {tpos : Pos} (a e it : Addr) :
    Turn P w K (.Tuple elts kk tpos) (ItEnT K a) [e, it] e (fun i h => (∃ old, IsEnum h e it ((i : Nat) : Int) old) ∧ h.IsTupleIter it a i ∧ e ≠ it ∧ a ≠ it ∧ a ≠ e) where
  mem := by simp
  obj := by
    rintro i h ⟨⟨old, he⟩, ⟨o, ho, hc, hd⟩, _⟩ b hb
    rcases (show b = e ∨ b = it by simpa using hb) with rfl | rfl
    · exact ⟨_, he, fun v q => nomatch q⟩
    · exact ⟨o, ho, fun v q => by rw [hd] at q; cases q⟩
  keep := by
    rintro i h h' ⟨⟨old, he⟩, ⟨o, ho, r⟩, ne⟩ k
    exact ⟨⟨old, k e (by simp) _ he⟩, ⟨o, k it (by simp) o ho, r⟩, ne⟩
  item := by
    intro X hP hw hK hc i pins s σ H E I hf st hg
    subst hP hw hK
    obtain ⟨⟨old, he⟩, hit, hne, n1, n2⟩ := st
    obtain ⟨xs, x, hq, hx⟩ := hg
    obtain ⟨its, rv, p, hz⟩ := I.tuple hq
    obtain ⟨u, hu, ru⟩ := rv.get hx
    have hel : e < s.heap.objs.size := Heap.lt_size he
    have hil : it < s.heap.objs.size := let ⟨_, q, _⟩ := hit; Heap.lt_size q
    have hlt : i < its.toArray.size := by
      rcases Nat.lt_or_ge i its.length with z | z
      · simpa using z
      · rw [List.getElem?_eq_none z] at hu
        cases hu
    have hh : X.A.in1.handled = none := I.ok.hd hc
    refine wpAny_pyNext_enum_itemD (Draws.tuple hh it a n1 its.toArray) he ⟨hit, p⟩ hlt hne (by simp [hne, Ne.symm n2]) ?_
    intro y h1 tk hy ho hit1 hT hsz hk
    have ey : y = u := by
      have q : its.toArray[i]? = some u := by simpa using hu
      rw [hy] at q
      exact Option.some.inj q
    subst ey
    refine ⟨_, rfl, wpAny_letOwnedTupleGo_enum (s := { s with heap := h1, toks := tk + 1 }) ho ?_⟩
    intro h2 he2 sb
    have hT2 : h2.get? s.heap.objs.size = some { cls := .type "tuple", data := .seq #[.int i tk, y] } := (sb.2 _ (Nat.ne_of_gt hel)).trans hT
    have new : ObjOk X.prog X.w (upd H s.heap.objs.size (.tup [.int (i : Nat), x])) h2 s.heap.objs.size (.tup [.int (i : Nat), x]) :=
      ⟨by show 2 ≤ sizeLine; decide, [.int i tk, y], .cons ⟨_, rfl⟩ (.cons ru .nil), ⟨_, hT2, rfl, _, rfl⟩⟩
    have I1 : L2.Inv X pins σ (upd H s.heap.objs.size (.tup [.int (i : Nat), x])) { s with heap := h2, toks := tk + 1 } := by
      refine I.turnedNew (ch := [e, it]) ?_ hf (Nat.le_refl _) new
      intro b ob hb q
      have b1 : b ≠ e := fun z => hb (by simp [z])
      exact (sb.2 b b1).trans (hk b ob b1 (fun z => hb (by simp [z])) q)
    refine ⟨.ref s.heap.objs.size, _, I1, rfl, ⟨_, x, rfl, I.hok.fresh (Nat.le_refl _), rfl, ?_⟩, ⟨⟨y, ?_⟩, ?_, hne, n1, n2⟩, ?_⟩
    · intro ys hy
      rw [I.tuple_inj hy hq]
      exact hx
    · have e1 : ((i + 1 : Nat) : Int) = (i : Int) + 1 := by omega
      rw [e1]
      exact he2
    · obtain ⟨o, q, r⟩ := hit1.1
      exact ⟨o, (sb.2 it (Ne.symm hne)).trans q, r⟩
    · intro b hb
      have hb2 : b < s.heap.objs.size := by
        rcases (show b = e ∨ b = it by simpa using hb) with rfl | rfl
        · exact hel
        · exact hil
      rw [upd_ne (Nat.ne_of_lt hb2)]
      exact (hf b hb).1
  done := by
    intro X hP hw hK hc i pins s σ H E I hf st hg
    subst hP hw hK
    obtain ⟨⟨old, he⟩, hit, hne, n1, n2⟩ := st
    obtain ⟨xs, hq, hx⟩ := hg
    obtain ⟨its, rv, p, hz⟩ := I.tuple hq
    obtain ⟨f0, f1, f2, f3, f4, f5⟩ := hf it (by simp)
    have hh : X.A.in1.handled = none := I.ok.hd hc
    by_cases hi : i = its.toArray.size
    · subst hi
      refine wpAny_pyNext_enum_endD (Draws.tuple hh it a n1 its.toArray) he ⟨hit, p⟩ ?_
      intro h1 ex
      exact ⟨rfl, I.turned (t' := s.toks) (fun b o hb q => ex b o hb q) f0 f1 f3 f4 f5⟩
    · refine wpAny_bind (wpAny_attempt (wpAny_callSpecial?_slot (s := s) (name := Str.ofString "__next__") ⟨_, he, rfl⟩ F.slot_enumerate_next
        (wpAny_call_entry (s := s) F.slot_enumerate_next ⟨_, he, rfl⟩ F.entry_enumerate_next ?_ (F.args_enumerate_next_1 _))))
      show wpAny _ _ (field (Value.ref e) 2 >>= _) _ _ s
      refine wpAny_bind (wpAny_field (s := s) he rfl (x := .ref it) rfl ?_)
      refine wpAny_bind (wpAny_nextOf_tuple_end hh hit p (by simp; have := rv.length; omega) ?_)
      rintro h1 z ex ⟨o, ho, hcl⟩
      refine wpAny_bind (wpAny_isInstance (T := "StopIteration") (b := true) ⟨o, ho, hcl⟩ isSubtype_stop ?_)
      exact wpAny_pure ⟨rfl, I.turned (t' := s.toks) (fun b o hb q => ex b o hb q) f0 f1 f3 f4 f5⟩
  self := by
    rintro A i s Q E ⟨⟨_, he⟩, _⟩ h
    exact wpAny_pyIter_enum he h
def iEnumT (K : PySem.W.Frag) (ta : TA) : TI := fun σ H R => ta σ H fun vs H1 => ∃ a xs, vs = [.ref a] ∧ SqT K H1 a xs ∧ R (ItEnT K a) H1
/-- for i, x in enumerate(t), t a tuple -/
theorem pi_enumT {X : Cx} {e : Expr} {ta : TA} {p pos tpos : Pos} {elts : List Expr} {kk : Nat} (hg : Gl X "enumerate") (hm : X.mg "enumerate" = none) (ha : PA X [e] ta)
    (hs : starEach [e] X.env = [(false, eval e X.env)] := by rfl) : PI X (.Tuple elts kk tpos) (.Call (.Name "enumerate" p) [e] [] pos) (iEnumT X.K ta) := by
  constructor
  intro pins s σ H R I h
  refine Call_ (ld_blt I hg hm boot_enumerate (PyProof.Rows.callWith_type1 (thn (ha.run pos pins s σ H _ I h) ?_) hs rfl))
  rintro us s1 ⟨vs, H1, I1, r1, a, xs, rfl, hq, q⟩
  cases r1 with
  | cons r rr =>
    cases rr
    cases r
    obtain ⟨its, rv, pl, hz⟩ := I1.tuple hq
    refine call_enumT pl ?_
    intro h1 he hit hk
    refine wpAny_pyIter_enum he ?_
    have I2 : L2.Inv X pins σ H1 { s1 with heap := h1 } := I1.kept (t' := s1.toks) hk
    have al : a < s1.heap.objs.size := pl.lt
    refine ⟨s1.heap.objs.size + 1, [s1.heap.objs.size + 1, s1.heap.objs.size], _, _, H1, rfl, I2, turn_enumT a (s1.heap.objs.size + 1) s1.heap.objs.size,
      ⟨⟨.none, he⟩, hit, Nat.succ_ne_self _, Nat.ne_of_lt al, Nat.ne_of_lt (Nat.lt_succ_of_lt al)⟩, ?_, q⟩
    intro b hb
    have hle : s1.heap.objs.size ≤ b := by
      rcases (show b = s1.heap.objs.size + 1 ∨ b = s1.heap.objs.size by simpa using hb) with z | z
      · rw [z]
        exact Nat.le_succ _
      · rw [z]
        exact Nat.le_refl _
    exact I1.fpOk hle (I1.hok.fresh hle)
theorem walk_enumT {K : PySem.W.Frag} {a : Addr} {xs : List V} :
    Walk (ItEnT K a) xs.length (fun H => SqT K H a xs) (YPair (fun i => some (.int (i : Nat))) (fun i => xs[i]?)) where
  goes := fun i H hi h => ⟨xs, xs[i], h, by simp [hi]⟩
  stops := fun H h => ⟨xs, h, Nat.le_refl _⟩
  yields := by
    rintro i H v H' hi h ⟨T, x, rfl, hn, rfl, hx⟩
    exact ⟨T, _, x, rfl, hn, rfl, rfl, hx xs h⟩
end Par
namespace Par
open PySem PySem.Spec PyProof.Rows L2
/-! ### data stays data -/
theorem sqL_same {K : PySem.W.Frag} {H H' : Hp} {a : Addr} {xs : List V} (s : Same H H') (h : SqL K H a xs) : SqL K H' a xs := s.seq h
theorem sqT_same {K : PySem.W.Frag} {H H' : Hp} {a : Addr} {xs : List V} (s : Same H H') (h : SqT K H a xs) : SqT K H' a xs := by
  rcases h with (h | ⟨o, h⟩) | h
  · exact .inl (.inl (s _ _ h))
  · exact .inl (.inr ⟨o, s _ _ h⟩)
  · exact .inr h
mutual
theorem dp_same {K : PySem.W.Frag} {H H' : Hp} (s : Same H H') : ∀ (d : PyData) (v : V), Dp K H v d → Dp K H' v d
  | .none, _, h => by cases h; exact .non
  | .bool b, _, h => by cases h; exact .bl b
  | .int i, _, h => by cases h; exact .int i
  | .str x, _, h => by cases h; exact .str x
  | .list ds, _, h => by
    cases h with
    | lst q ha => exact .lst (sqL_same s q) (dps_same s ds _ ha)
  | .tuple ds, _, h => by
    cases h with
    | tup q ha => exact .tup (sqT_same s q) (dps_same s ds _ ha)
  | .dict _, _, h => by cases h
theorem dps_same {K : PySem.W.Frag} {H H' : Hp} (s : Same H H') : ∀ (ds : List PyData) (vs : List V), DpAll K H vs ds → DpAll K H' vs ds
  | [], _, h => by cases h; exact .nil
  | d :: ds, _, h => by
    cases h with
    | cons h1 h2 => exact .cons (dp_same s d _ h1) (dps_same s ds _ h2)
end
theorem fl_same {H H' : Hp} (s : Same H H') {v : V} {d : PyData} (h : Fl H v d) : Fl H' v d := by
  cases h with
  | non => exact .non
  | bl b => exact .bl b
  | int i => exact .int i
  | str x => exact .str x
  | dic0 e => exact .dic0 (s _ _ e)
  | dic1 e => exact .dic1 (s _ _ e)
/-- a thing that is handed in: flat, a dict, or a list or tuple of data -/
inductive Giv (K : PySem.W.Frag) (H : Hp) : V → PyData → Prop
  | fl {v : V} {d : PyData} : Fl H v d → Giv K H v d
  | lst {a : Addr} {xs : List V} {ds : List PyData} : H a = some (.lst xs) → DpAll K H xs ds → xs.length ≤ 200 → Giv K H (.ref a) (.list ds)
  | tup {a : Addr} {xs : List V} {ds : List PyData} : H a = some (.tup xs) → DpAll K H xs ds → xs.length ≤ 200 → Giv K H (.ref a) (.tuple ds)
theorem giv_same {K : PySem.W.Frag} {H H' : Hp} (s : Same H H') {v : V} {d : PyData} (h : Giv K H v d) : Giv K H' v d := by
  cases h with
  | fl f => exact .fl (fl_same s f)
  | lst e q l => exact .lst (s _ _ e) (dps_same s _ _ q) l
  | tup e q l => exact .tup (s _ _ e) (dps_same s _ _ q) l
theorem giv_dx {K : PySem.W.Frag} {H : Hp} {v : V} {d : PyData} (h : Giv K H v d) : Dx K H v d := by
  cases h with
  | fl f => exact .fl f
  | lst e q _ => exact .dp (.lst (SqL.of e) q)
  | tup e q _ => exact .dp (.tup (SqT.of e) q)
theorem dps_ints {K : PySem.W.Frag} {H : Hp} : ∀ ns : List Int, DpAll K H (ns.map V.int) (ns.map PyData.int)
  | [] => .nil
  | n :: ns => .cons (.int n) (dps_ints ns)
theorem dps_bools {K : PySem.W.Frag} {H : Hp} : ∀ bs : List Bool, DpAll K H (bs.map V.bl) (bs.map PyData.bool)
  | [] => .nil
  | n :: ns => .cons (.bl n) (dps_bools ns)
theorem dps_append {K : PySem.W.Frag} {H : Hp} : ∀ {xs ys : List V} {ds es : List PyData}, DpAll K H xs ds → DpAll K H ys es → DpAll K H (xs ++ ys) (ds ++ es)
  | _, _, _, _, .nil, h => h
  | _, _, _, _, .cons h1 h2, h => .cons h1 (dps_append h2 h)

/-! ### what is shown is short -/
def small (d : PyData) : Prop := d.showable = true ∧ d.depth ≤ 4 ∧ d.shown.length ≤ 200
def good (d : PyData) : Prop := d.showable = true ∧ d.depth ≤ 8 ∧ d.shown.length ≤ 200000
theorem log_lt {n k : Nat} (h : n < 2 ^ k) (hk : 0 < k) : n.log2 < k := by
  by_cases h0 : n = 0
  · subst h0
    exact hk
  · exact (Nat.log2_lt h0).mpr h
theorem small_int {i : Int} (h : i.natAbs < 2 ^ 100) : small (.int i) := by
  have h1 := log_lt h (by decide)
  refine ⟨?_, Nat.zero_le _, ?_⟩
  · show decide (i.natAbs.log2 < 1920) = true
    exact decide_eq_true (by omega)
  · show (Str.ofString (toString i)).length ≤ 200
    have h2 := int_text_length_le (a := i) (k := 100) (by decide) h1
    rw [PySem.ofString_length]
    omega
theorem small_bool (b : Bool) : small (.bool b) := by cases b <;> exact ⟨by decide, by decide, by decide +kernel⟩
theorem small_good {d : PyData} (h : small d) : good d := ⟨h.1, by have := h.2.1; omega, by have := h.2.2; omega⟩
theorem showAll {ds : List PyData} : (∀ d ∈ ds, d.showable = true) → PyData.showableAll ds = true := by
  induction ds with
  | nil => intro _; rfl
  | cons d ds ih =>
    intro h
    show (d.showable && PyData.showableAll ds) = true
    rw [h d (List.mem_cons_self ..), ih fun e he => h e (List.mem_cons_of_mem _ he)]
    rfl
theorem depthAll {ds : List PyData} {n : Nat} : (∀ d ∈ ds, d.depth ≤ n) → PyData.depthAll ds ≤ n := by
  induction ds with
  | nil => intro _; exact Nat.zero_le _
  | cons d ds ih =>
    intro h
    show max d.depth (PyData.depthAll ds) ≤ n
    have h1 := h d (List.mem_cons_self ..)
    have h2 := ih fun e he => h e (List.mem_cons_of_mem _ he)
    omega
theorem piledAll {ds : List PyData} {n : Nat} : (∀ d ∈ ds, d.shown.length ≤ n) → piled (PyData.shownAll ds) ≤ ds.length * (n + 2) := by
  induction ds with
  | nil => intro _; show 0 ≤ _; exact Nat.zero_le _
  | cons d ds ih =>
    intro h
    show piled (d.shown :: PyData.shownAll ds) ≤ _
    rw [piled_cons, List.length_cons, Nat.add_mul]
    have h1 := h d (List.mem_cons_self ..)
    have h2 := ih fun e he => h e (List.mem_cons_of_mem _ he)
    omega
theorem listText_le : ∀ ts : List Str, (listText ts).length ≤ piled ts + 2
  | [] => by
    rw [listText_nil]
    show Str.length (Str.ofString "[]") ≤ 2
    decide +kernel
  | t :: ts => by
    have h := textFrom_length_pos ts 1 (Str.ofString "[" ++ Str.ofString "" ++ t) (by decide)
    have e1 : (Str.ofString "[" ++ Str.ofString "" ++ t).length = 1 + t.length := by
      rw [strLen_append, strLen_append]
      rfl
    have e2 : (listText (t :: ts)).length = (textFrom 1 (Str.ofString "[" ++ Str.ofString "" ++ t) ts).length + 1 := strLen_append _ _
    rw [e2, h, e1, piled_cons]
    omega
theorem tupleText_le (ts : List Str) : (tupleText ts).length ≤ piled ts + 4 := by
  have e1 : (Str.ofString "(").length = 1 := by decide +kernel
  have e3 : (Str.ofString (if ts.length == 1 then ",)" else ")")).length ≤ 2 := by split <;> decide +kernel
  have e4 : (tupleText ts).length = (Str.ofString "(").length + (Str.join ", " ts).length + (Str.ofString (if ts.length == 1 then ",)" else ")")).length := by
    unfold tupleText
    rw [strLen_append, strLen_append]
  by_cases h : ts = []
  · subst h
    decide +kernel
  · have := join_length_add ts h
    omega
theorem good_list {ds : List PyData} (h : ∀ d ∈ ds, small d) (hl : ds.length ≤ 300) : good (.list ds) := by
  refine ⟨showAll fun d hd => (h d hd).1, ?_, ?_⟩
  · show PyData.depthAll ds + 1 ≤ 8
    have := depthAll (n := 4) fun d hd => (h d hd).2.1
    omega
  · show (listText (PyData.shownAll ds)).length ≤ 200000
    have h1 := listText_le (PyData.shownAll ds)
    have h2 := piledAll (n := 200) fun d hd => (h d hd).2.2
    have h3 : ds.length * (200 + 2) ≤ 300 * (200 + 2) := Nat.mul_le_mul_right _ hl
    omega
theorem good_tuple {ds : List PyData} (h : ∀ d ∈ ds, small d) (hl : ds.length ≤ 300) : good (.tuple ds) := by
  refine ⟨showAll fun d hd => (h d hd).1, ?_, ?_⟩
  · show PyData.depthAll ds + 1 ≤ 8
    have := depthAll (n := 4) fun d hd => (h d hd).2.1
    omega
  · show (tupleText (PyData.shownAll ds)).length ≤ 200000
    have h1 := tupleText_le (PyData.shownAll ds)
    have h2 := piledAll (n := 200) fun d hd => (h d hd).2.2
    have h3 : ds.length * (200 + 2) ≤ 300 * (200 + 2) := Nat.mul_le_mul_right _ hl
    omega
/-- a short list of good things can be shown -/
theorem shown_list {ds : List PyData} (h : ∀ d ∈ ds, good d) (hl : ds.length ≤ 8) : (PyData.list ds).showable = true ∧ (PyData.list ds).depth ≤ 40 ∧ (PyData.list ds).shown.length ≤ sizeLine := by
  refine ⟨showAll fun d hd => (h d hd).1, ?_, ?_⟩
  · show PyData.depthAll ds + 1 ≤ 40
    have := depthAll (n := 8) fun d hd => (h d hd).2.1
    omega
  · show (listText (PyData.shownAll ds)).length ≤ sizeLine
    have h1 := listText_le (PyData.shownAll ds)
    have h2 := piledAll (n := 200000) fun d hd => (h d hd).2.2
    have h3 : ds.length * (200000 + 2) ≤ 8 * (200000 + 2) := Nat.mul_le_mul_right _ hl
    rw [sizeLine_eq]
    omega
theorem shown_good {d : PyData} (h : good d) : d.showable = true ∧ d.depth ≤ 40 ∧ d.shown.length ≤ sizeLine := by
  obtain ⟨h1, h2, h3⟩ := h
  refine ⟨h1, by omega, ?_⟩
  rw [sizeLine_eq]
  omega
end Par
namespace Par
open PySem PySem.Spec PyProof.Rows L2
/-- f(e, .., k = v, ..), what is raised wished for at the slots -/
def tCallNS (n m : Nat) (sp : Sp) (gV : List V → List V → List V) (E : L2.St → XK) (t tk : TA) : TE := fun σ H Q =>
  t σ H fun vs H1 => tk σ H1 fun zs H2 => vs.length = n ∧ zs.length = m ∧ sp (gV vs zs) H2 Q (E σ)
section
variable {X : Cx} {CX : CXT} {k n : Nat} {f : Addr} {fd : FuncData} {ps ks : List Str} {sp : Sp} {E : L2.St → XK} {x : Str} {p pos : Pos} {e : Expr} {es : List Expr} {kws : List Keyword} {t tk : TA}
  {g : List Value → List Value → List Value} {gV : List V → List V → List V}
theorem pe_callNS (F : FnOk X.prog X.w X.K X.mg X.base CX k f fd ps sp) (hr : Room k X.A) (hg : Gl X x) (hm : X.mg x = some (.ref f)) (hk : PySem.W.keepIn X.K (.ref f) = true)
    (hb : KBn X.K fd ps n ks g gV) (hx : ∀ σ, PassesAt CX X σ (E σ)) (ha : PA X (e :: es) t) (hkw : PK X kws tk)
    (hall : (backToKw pos (keywordEach kws X.env)).all (·.1.isSome) = true := by rfl)
    (hks : (backToKw pos (keywordEach kws X.env)).filterMap (·.1) = ks := by rfl)
    (hdb : (x == ("__debug__" : Str)) = false := by decide)
    (he : starEach (e :: es) X.env = (false, eval e X.env) :: starEach es X.env := by rfl)
    (hpl : ((backTo pos (starEach (e :: es) X.env)).any (·.1) || (backToKw pos (keywordEach kws X.env)).any (·.1.isNone)) = false := by rfl) :
    PE X (.Call (.Name x p) (e :: es) kws pos) (tCallNS n ks.length sp gV E t tk) := by
  constructor
  intro pins s σ H Q I h
  refine wpAny_Call_Name_kw (ld_glob I hg hm ?_ hdb)
  refine PySem.W.callWith_KW (h₀ := X.base) I.ok.mod.kin hk hall (thn (ha.run pos pins s σ H _ I h) ?_) hpl he
  rintro us s1 ⟨vs, H1, I1, r, q⟩
  refine thn (hkw.run pos pins s1 σ H1 _ I1 q) ?_
  rintro ws s2 ⟨zs, H2, I2, rz, l1, l2, q2⟩
  refine ⟨I2.kIn, ?_⟩
  rw [hks]
  refine wpAny_call (codeAny_mono (F.run X.A X.stack s2 H2 ⟨us, ks.zip ws⟩ (g us ws) (gV vs zs) Q (E σ) hr I2.env0
    (hb.to s2 us ws I2.kIn (r.length.symm.trans l1) (rz.length.symm.trans l2)) (hb.rel r rz) q2) ?_)
  intro res s3 hq
  cases res with
  | error er => exact hx σ pins H2 s2 er s3 I2 hq
  | ok fl =>
    cases fl with
    | ret u => exact I2.after hq
    | next => exact False.elim hq
    | brk => exact False.elim hq
    | cont => exact False.elim hq
end
section
variable {X : Cx} {a D : Addr} {oe : Obj} {cls : Value} {d : Option Addr} {pn : List (Addr × Obj)}
theorem held_inst {pins : List (Addr × Obj)} {σ : L2.St} {H : Hp} {s : Shared} {dd : Addr} {fs : List (Str × V)} (hz : Zc cls d oe) (hf : ∃ vs, oe.data = .fields vs)
    (I : L2.Inv (X.suite a ((a, oe) :: pn)) pins σ H s) (ec : cls = .ref D) (ed : d = some dd) (ea : H dd = some (.xd fs)) : ∃ od, PySem.W.InstAt s.heap a oe D (some od) := by
  subst ec ed
  have ha := (I.pin (a, oe) (List.mem_append_left _ List.mem_cons_self)).1
  obtain ⟨vs, hd⟩ := hf
  obtain ⟨mA, hns, hr⟩ := (show ObjOk X.prog X.w H s.heap dd (.xd fs) from I.hok dd _ ea)
  obtain ⟨od, ho, hl⟩ := lookIn_ns hns
  exact ⟨od, ha, hz.1, by unfold PySem.W.notCls; rw [hd] <;> rfl, by rw [hz.2]; exact ho⟩
theorem kit_held (C : ExcC X.K D) {od : Option Obj} : PySem.W.KitX X.K (.ref a) (.ref D) (fun h => PySem.W.InstAt h a oe D od) := by
  refine PySem.W.kitx_exc ?_ C.hg C.hk C.hs C.ha C.hn C.ht C.hm
  obtain ⟨cd, hc, _⟩ := PySem.W.any_some C.hd
  rw [hc]
  rfl
/-- isinstance(e, c), e the error that the suite holds, with its own dict -/
theorem call_isX (C : ExcC X.K D) (hz : Zc cls d oe) (hf : ∃ vs, oe.data = .fields vs) : CallR (X.suite a ((a, oe) :: pn)) (.builtin "isinstance")
    (fun xs H Q => ∃ (c : V) (u : Value) (b : Bool) (dd : Addr) (fs : List (Str × V)), xs = [.ref a, c] ∧ cls = .ref D ∧ d = some dd ∧ H dd = some (.xd fs) ∧ ClsV c u ∧ PySem.W.kitOne X.K (.ref D) u = some b ∧ Q (.bl b) H) := by
  intro pins s σ H xs us Q I r h
  obtain ⟨c, u, b, dd, fs, rfl, ec, ed, ea, k, e, q⟩ := h
  obtain ⟨u1, u2, rfl, r1, r2⟩ := vals2 r
  cases (show u1 = Value.ref a from r1)
  have e2 := k.eq r2
  subst e2
  obtain ⟨od, J⟩ := held_inst hz hf I ec ed ea
  exact PySem.W.kia_one (kit_held C) I.kIn J e (fun z => nomatch z) fun tk => ⟨.bl b, H, I.tok tk, rfl, q⟩
theorem call_isXT (C : ExcC X.K D) (hz : Zc cls d oe) (hf : ∃ vs, oe.data = .fields vs) : CallR (X.suite a ((a, oe) :: pn)) (.builtin "isinstance")
    (fun xs H Q => ∃ (tp : Addr) (cs : List V) (ws : List Value) (b : Bool) (dd : Addr) (fs : List (Str × V)), xs = [.ref a, .ref tp] ∧ H tp = some (.tup cs) ∧ Paired ClsV cs ws ∧ cls = .ref D ∧ d = some dd ∧ H dd = some (.xd fs) ∧
      PySem.W.kitAny X.K (.ref D) ws = some b ∧ Q (.bl b) H) := by
  intro pins s σ H xs us Q I r h
  obtain ⟨tp, cs, ws, b, dd, fs, rfl, hT, k, ec, ed, ea, e, q⟩ := h
  obtain ⟨u1, u2, rfl, r1, r2⟩ := vals2 r
  cases (show u1 = Value.ref a from r1)
  cases (show u2 = Value.ref tp from r2)
  obtain ⟨od, J⟩ := held_inst hz hf I ec ed ea
  obtain ⟨_, its, rv, o, h1, h2, n, h3⟩ := (show ObjOk X.prog X.w H s.heap tp (.tup cs) from I.hok tp _ hT)
  have e3 := ClsV.all k rv
  subst e3
  obtain ⟨oc, ood, dt, sl⟩ := o
  simp only at h2 h3
  subst h2 h3
  exact PySem.W.kia_tup (kit_held C) I.kIn J h1 e (fun z => nomatch z) fun tk => ⟨.bl b, H, I.tok tk, rfl, q⟩
end
end Par
namespace K11
open PySem PySem.Spec PyProof.Rows L2 Par
def topS (i : Nat) : Stmt := PySem.Challenge.pw_paritycells_k11_cells_of_any_value.main.body.getD i (.Pass ⟨0, 0, 0, 0⟩)
abbrev sAreC : Stmt := topS 12
abbrev sInteger : Stmt := topS 7
abbrev sBetween : Stmt := topS 8
abbrev sIsCell : Stmt := topS 11
abbrev sCells : Stmt := topS 13
abbrev sPot : Stmt := topS 15
abbrev sDraw : Stmt := topS 16
abbrev sSpots : Stmt := topS 17
abbrev sAny : Stmt := topS 18
abbrev sIsInt : Stmt := topS 19
abbrev sMixed : Stmt := topS 20
abbrev sAre : Stmt := topS 21
abbrev sOdd : Stmt := topS 22
abbrev sMet : Stmt := topS 23
abbrev sTupR : Stmt := topS 24
abbrev sDflR : Stmt := topS 25
abbrev sLaw : Stmt := topS 26
/-- the built-in names that the module leaves alone -/
structure Bl (mg : Str → Option Value) : Prop where
  len : mg "len" = none
  abs : mg "abs" = none
  max : mg "max" = none
  min : mg "min" = none
  divmod : mg "divmod" = none
  list : mg "list" = none
  tuple : mg "tuple" = none
  range : mg "range" = none
  isinstance : mg "isinstance" = none
  bool : mg "bool" = none
  int : mg "int" = none
  sorted : mg "sorted" = none
  set : mg "set" = none
  all : mg "all" = none
  enumerate : mg "enumerate" = none
  repr : mg "repr" = none
  vErr : mg "ValueError" = none
  lErr : mg "LookupError" = none
  rErr : mg "RuntimeError" = none
  aErr : mg "ArithmeticError" = none

/-! ### the pot: two numbers that are not negative, the second one small -/
def PotAt (H : Hp) (p : Addr) : Prop := ∃ a b : Int, H p = some (.lst [.int a, .int b]) ∧ 0 ≤ a ∧ 0 ≤ b ∧ b < 2147483648
/-- all but what stands at p is as it was -/
def But (p : Addr) (H H' : Hp) : Prop := ∀ b o, b ≠ p → H b = some o → H' b = some o
theorem But.refl (p : Addr) (H : Hp) : But p H H := fun _ _ _ h => h
theorem But.trans {p : Addr} {H H1 H2 : Hp} (a : But p H H1) (b : But p H1 H2) : But p H H2 := fun c o n h => b c o n (a c o n h)
theorem But.upd {p : Addr} {H : Hp} (o : HO) : But p H (L2.upd H p o) := fun b u n h => by rw [upd_ne n]; exact h
theorem But.new {p q : Addr} {H : Hp} {o : HO} (n : H q = none) : But p H (L2.upd H q o) := fun b u _ h => by rw [upd_ne (ne_of_none h n)]; exact h
theorem But.same {p : Addr} {H H' : Hp} (h : Same H H') : But p H H' := fun b o _ e => h b o e
theorem PotAt.same {p : Addr} {H H' : Hp} (x : PotAt H p) (s : Same H H') : PotAt H' p := by
  obtain ⟨a, b, e, r⟩ := x
  exact ⟨a, b, s _ _ e, r⟩
theorem same_new {H : Hp} {q : Addr} {o : HO} (n : H q = none) : Same H (upd H q o) := fun b u h => by
  rw [upd_ne (ne_of_none h n)]
  exact h
theorem But.free {p q : Addr} {H H' : Hp} (h : But p H H') (x : PotAt H p) (n : H' q = none) (x' : PotAt H' p) : H q = none := by
  cases e : H q with
  | none => rfl
  | some o =>
    by_cases z : q = p
    · subst z
      obtain ⟨_, _, e', _⟩ := x'
      rw [n] at e'
      cases e'
    · rw [h q o z e] at n
      cases n

section
variable {P : Program} {w : World} {K : PySem.W.Frag} {mg : Str → Option Value} {base : Heap}

def spPot (K : PySem.W.Frag) : Sp := fun vs H Q _ => ∃ (a : Addr) (ns : List Int) (k : Nat), vs = [.ref a, .int (k : Int)] ∧ SqL K H a (ns.map V.int) ∧ k ≤ 1000 ∧
  ∀ p H', H p = none → Same H H' → PotAt H' p → Q (.ref p) H'
theorem scPot : FnScope ["_law_script", "_law_k", "_law_digits"] ["_law_script", "_law_k"] (defScope sPot) := ⟨rfl, rfl, rfl, by decide +kernel, rfl, by decide +kernel, by decide +kernel⟩
theorem ok_pot {f : Addr} {fd : FuncData} (F : Fun K "_law_pot" "_law_pot" sPot f fd) (B : Bl mg) : FnOk P w K mg base CX0 2 f fd ["_law_script", "_law_k"] (spPot K) := by
  refine F.ok scPot (fun vs H Q E h => ?_) (fun cdv A outer s H vs Q E hr h => ?_)
  · obtain ⟨a, ns, k, rfl, _⟩ := h
    rfl
  · obtain ⟨a, ns, k, rfl, hS, hk, out⟩ := h
    refine ⟨_, pss_cons (ps_set (i := 2) scPot.nd rfl (Or.inl rfl) (pe_ifExp (pt_cmpR op_lt (pv 1) (pe_callB call_len_seq (by rfl) B.len PySem.boot_len (pa_cons (pv 0) pa_nil)) (nomark _)) (pe_ix ix_list (pv 0) (pv 1) (fun _ _ => rfl)) pe_int))
      (pss_one (ps_ret (pe_lst (pa_cons
        (pe_callB (call_max2 rfl) (by rfl) B.max (by decide +kernel) (pa_cons pe_int (pa_cons (pe_op op_sub (pe_callB call_abs (by rfl) B.abs (by decide +kernel) (pa_cons (pv 2) pa_nil)) (pe_op op_pow pe_int pe_int)) pa_nil)))
        (pa_cons (pe_op op_mod (pe_op op_add (pe_op op_add (pe_op op_mul (pe_op op_mod (pe_callB call_abs (by rfl) B.abs (by decide +kernel) (pa_cons (pv 2) pa_nil)) pe_int) pe_int) (pe_op op_mul pe_int (pv 1))) pe_int) pe_int) pa_nil))))), ?_⟩
    have hm : ∀ d : Int, (0 : Int) ≤ (if d < 0 then -d else d) % 2147483587 ∧ (if d < 0 then -d else d) % 2147483587 < 2147483587 := fun d => ⟨Int.emod_nonneg _ (by decide), Int.emod_lt_of_pos _ (by decide)⟩
    have two : ∀ x : Int, 0 ≤ (if x > 0 then x else 0) := fun x => by split <;> omega
    have fin : ∀ d : Int, ∀ p, H p = none → Q (.ref p) (upd H p (.lst [.int (if (if d < 0 then -d else d) - 10 ^ 18 > 0 then (if d < 0 then -d else d) - 10 ^ 18 else 0),
        .int (((if d < 0 then -d else d) % 2147483587 * 48271 + 60013 * (k : Int) + 29) % 2147483647)])) := by
      intro d p hp
      refine out p _ hp (same_new hp) ⟨_, _, upd_same, two _, Int.emod_nonneg _ (by decide), ?_⟩
      have := Int.emod_lt_of_pos ((if d < 0 then -d else d) % 2147483587 * 48271 + 60013 * (k : Int) + 29) (b := 2147483647) (by decide)
      omega
    refine ⟨_, rfl, _, rfl, a, _, rfl, .inl hS, _, _, rfl, rfl, _, rfl, ?_⟩
    refine ite2 (fun hlt => ?_) (fun _ => ?_)
    · have hlt2 : (k : Int) < ((ns.map V.int).length : Int) := of_decide_eq_true hlt
      rw [List.length_map] at hlt2
      have hk2 : k < ns.length := by omega
      refine ⟨_, rfl, _, rfl, a, _, _, .int ns[k], rfl, rfl, hS, atI_nat (by simp [hk2]), ?_⟩
      refine ⟨_, rfl, _, rfl, 10, 18, rfl, rfl, ⟨by decide, by decide, by decide⟩, _, _, rfl, rfl, 0, _, rfl, ?_⟩
      refine ⟨_, rfl, _, rfl, _, _, rfl, rfl, (by show (0 : Int) < _; decide), _, _, rfl, rfl, .inl ⟨by have := hm ns[k]; omega, by have := hm ns[k]; omega⟩, _, rfl, 60013, _, rfl, rfl, .inl ⟨by decide, by decide⟩, _, _, rfl, rfl, _, _, rfl, rfl, _, _, rfl, rfl, (by show (0 : Int) < _; decide), ?_⟩
      exact ⟨(by show 2 ≤ sizeLine; decide), fin ns[k]⟩
    · refine ⟨_, rfl, _, rfl, 10, 18, rfl, rfl, ⟨by decide, by decide, by decide⟩, _, _, rfl, rfl, 0, _, rfl, ?_⟩
      refine ⟨_, rfl, _, rfl, _, _, rfl, rfl, (by show (0 : Int) < _; decide), _, _, rfl, rfl, .inl ⟨by have := hm 0; omega, by have := hm 0; omega⟩, _, rfl, 60013, _, rfl, rfl, .inl ⟨by decide, by decide⟩, _, _, rfl, rfl, _, _, rfl, rfl, _, _, rfl, rfl, (by show (0 : Int) < _; decide), ?_⟩
      exact ⟨(by show 2 ≤ sizeLine; decide), fin 0⟩

/-- one draw: a digit below many; the pot goes on -/
def spDraw : Sp := fun vs H Q _ => ∃ (p : Addr) (m : Int), vs = [.ref p, .int m] ∧ PotAt H p ∧ 0 < m ∧ m < 1073741824 ∧
  ∀ d H', 0 ≤ d → d < m → But p H H' → PotAt H' p → Q (.int d) H'
theorem scDraw : FnScope ["_law_pot_here", "_law_many", "_law_digit"] ["_law_pot_here", "_law_many"] (defScope sDraw) := ⟨rfl, rfl, rfl, by decide +kernel, rfl, by decide +kernel, by decide +kernel⟩
theorem ok_draw {f : Addr} {fd : FuncData} (F : Fun K "_law_draw" "_law_draw" sDraw f fd) (B : Bl mg) : FnOk P w K mg base CX0 2 f fd ["_law_pot_here", "_law_many"] spDraw := by
  refine F.ok scDraw (fun vs H Q E h => ?_) (fun cdv A outer s H vs Q E hr h => ?_)
  · obtain ⟨p, m, rfl, _⟩ := h
    rfl
  · obtain ⟨p, m, rfl, ⟨a, b, hp, ha, hb, hb2⟩, hm, hm2, out⟩ := h
    refine ⟨_, pss_cons (ps_if (pt_cmpR op_gt (pe_ix ix_list (pv 0) pe_int (fun _ _ => rfl)) pe_int (nomark _))
        (pss_cons (ps_asg (pe_callB call_divmod (by rfl) B.divmod (by decide +kernel) (pa_cons (pe_ix ix_list (pv 0) pe_int (fun _ _ => rfl)) (pa_cons (pv 1) pa_nil))) (pg_tup rfl (pgs_cons (pg_sub (pv 0) pe_int set_list) (pgs_cons (pg_name (i := 2) scDraw.nd rfl (Or.inl rfl)) pgs_nil))))
          (pss_one (ps_ret (pv 2)))) pss_nil)
      (pss_cons (ps_asg (pe_op op_mod (pe_op op_add (pe_op op_mul (pe_ix ix_list (pv 0) pe_int (fun _ _ => rfl)) pe_int) pe_int) pe_int) (pg_sub (pv 0) pe_int set_list))
      (pss_one (ps_ret (pe_op op_mod (pe_op op_fdiv (pe_op op_mod (pe_op op_mul (pe_ix ix_list (pv 0) pe_int (fun _ _ => rfl)) (pe_ix ix_list (pv 0) pe_int (fun _ _ => rfl))) pe_int) pe_int) (pv 1))))), ?_⟩
    have hL : SqL K H p [.int a, .int b] := SqL.of hp
    refine ⟨_, rfl, p, _, 0, .int a, rfl, rfl, hL, rfl, a, 0, rfl, rfl, _, rfl, ?_⟩
    refine ite2 (fun hpos => ?_) (fun hneg => ?_)
    · refine ⟨_, rfl, p, _, 0, .int a, rfl, rfl, hL, rfl, _, rfl, a, m, rfl, ⟨hm, hm2⟩, fun q hq => ?_⟩
      have hne : p ≠ q := ne_of_none hp hq
      have hT : SqT K (upd H q (.tup [.int (a / m), .int (a % m)])) q [.int (a / m), .int (a % m)] := SqT.of upd_same
      have hp2 : (upd H q (.tup [.int (a / m), .int (a % m)])) p = some (.lst [.int a, .int b]) := by
        rw [upd_ne hne]
        exact hp
      refine ⟨q, _, rfl, hT, rfl, _, _, rfl, _, rfl, p, _, 0, 0, rfl, rfl, hp2, rfl, _, _, rfl, rfl, _, rfl, ?_⟩
      exact out (a % m) _ (Int.emod_nonneg _ (by omega)) (Int.emod_lt_of_pos _ hm) ((But.new hq).trans (But.upd _)) ⟨a / m, b, upd_same, Int.ediv_nonneg ha (by omega), hb, hb2⟩
    · have h0 : (0 : Int) ≤ (b * 39373 + 12227) % 2147483629 := Int.emod_nonneg _ (by decide)
      have h1 : (b * 39373 + 12227) % 2147483629 < 2147483629 := Int.emod_lt_of_pos _ (by decide)
      refine ⟨_, rfl, p, _, 1, .int b, rfl, rfl, hL, rfl, b, 39373, rfl, rfl, .inl ⟨by omega, by omega⟩, _, _, rfl, rfl, _, _, rfl, rfl, (by show (0 : Int) < _; decide), _, rfl, p, _, 1, 1, rfl, rfl, hp, rfl, ?_⟩
      have hL2 : SqL K (upd H p (.lst [.int a, .int ((b * 39373 + 12227) % 2147483629)])) p [.int a, .int ((b * 39373 + 12227) % 2147483629)] := SqL.of upd_same
      refine ⟨_, rfl, p, _, 1, _, rfl, rfl, hL2, rfl, _, rfl, p, _, 1, _, rfl, rfl, hL2, rfl, _, _, rfl, rfl, .inl ⟨by omega, by omega⟩, _, _, rfl, rfl, (by show (0 : Int) < _; decide), _, _, rfl, rfl, ⟨by decide, by decide⟩, _, rfl, _, m, rfl, rfl, hm, ?_⟩
      exact out _ _ (Int.emod_nonneg _ (by omega)) (Int.emod_lt_of_pos _ hm) (But.upd _) ⟨a, _, upd_same, ha, h0, by omega⟩
end
end K11
namespace K11
open PySem PySem.Spec PyProof.Rows L2 Par
section
variable {P : Program} {w : World} {K : PySem.W.Frag} {mg : Str → Option Value} {base : Heap}
/-- a def of the module that raises nothing -/
def Has (P : Program) (w : World) (K : PySem.W.Frag) (mg : Str → Option Value) (base : Heap) (x : Str) (lv : Nat) (ps : List Str) (sp : Sp) : Prop :=
  ∃ f fd, FnOk P w K mg base CX0 lv f fd ps sp ∧ mg x = some (.ref f) ∧ PySem.W.keepIn K (.ref f) = true ∧ Binds K fd ps []

/-- a new list of rising numbers from least to width - 1 -/
def spSpots : Sp := fun vs H Q _ => ∃ (p : Addr) (l m : Int), vs = [.ref p, .int l, .int m] ∧ PotAt H p ∧ 0 ≤ l ∧ l ≤ 1000 ∧ 0 ≤ m ∧ m ≤ 1000 ∧
  ∀ q (ns : List Int) H', H q = none → ns.Pairwise (· < ·) → (∀ n ∈ ns, l ≤ n ∧ n < m) → But p H H' → PotAt H' p → H' q = some (.lst (ns.map V.int)) → Q (.ref q) H'
abbrev nSpots : List Str := ["_law_pot_here", "_law_least", "_law_width", "_law_way", "_law_spot"]
theorem scSpots : FnScope nSpots ["_law_pot_here", "_law_least", "_law_width"] (defScope sSpots) := ⟨rfl, rfl, rfl, by decide +kernel, rfl, by decide +kernel, by decide +kernel⟩
theorem rgV_ints (a : Int) (n : Nat) : ∃ ns : List Int, rgV a (a + n) = ns.map V.int ∧ ns.Pairwise (· < ·) ∧ ∀ k ∈ ns, a ≤ k ∧ k < a + n := by
  refine ⟨(List.range n).map fun i => a + (i : Nat), ?_, ?_, ?_⟩
  · unfold rgV
    rw [List.map_map, show (a + (n : Int) - a).toNat = n by omega]
    rfl
  · rw [List.pairwise_map]
    exact List.pairwise_lt_range.imp (fun h => by omega)
  · intro k hk
    obtain ⟨i, hi, rfl⟩ := List.mem_map.mp hk
    have := List.mem_range.mp hi
    omega
theorem ok_spots {f : Addr} {fd : FuncData} (F : Fun K "_law_spots" "_law_spots" sSpots f fd) (B : Bl mg) (D : Has P w K mg base "_law_draw" 2 ["_law_pot_here", "_law_many"] spDraw) :
    FnOk P w K mg base CX0 3 f fd ["_law_pot_here", "_law_least", "_law_width"] spSpots := by
  obtain ⟨fD, fdD, GD, mD, kD, bD⟩ := D
  refine F.ok scSpots (fun vs H Q E h => ?_) (fun cdv A outer s H vs Q E hr h => ?_)
  · obtain ⟨p, l, m, rfl, _⟩ := h
    rfl
  · obtain ⟨p, l, m, rfl, hp, l0, l1, m0, m1, out⟩ := h
    refine ⟨_, pss_cons (ps_set (i := 3) scSpots.nd rfl (Or.inl rfl) (pe_call GD hr (by rfl) mD kD bD .nil pass0 (pa_cons (pv 0) (pa_cons pe_int pa_nil))))
      (pss_cons (ps_if (PW.pt (pw_or (pt_cmpR op_eq (pv 3) pe_int (nomark _)) (pw_or1 (pt_cmpR op_le (pv 2) (pv 1) (nomark _))))) (pss_one (ps_ret (pe_lst pa_nil))) pss_nil)
      (pss_cons (ps_if (pt_cmpR op_eq (pv 3) pe_int (nomark _)) (pss_one (ps_ret (pe_lst (pa_cons (pe_op op_add (pv 1) (pe_call GD hr (by rfl) mD kD bD .nil pass0 (pa_cons (pv 0) (pa_cons (pe_op op_sub (pv 2) (pv 1)) pa_nil)))) pa_nil)))) pss_nil)
      (pss_cons (ps_if (pt_cmpR op_eq (pv 3) pe_int (nomark _)) (pss_one (ps_ret (pe_listRg rfl (by rfl) B.list (prg_2 (by rfl) B.range (pv 1) (pv 2))))) pss_nil)
      (pss_one (ps_ret (pe_lc (own := [("_law_spot", 4)]) (g := gName 4) rfl scSpots.nd (pi_range2 (by rfl) B.range (pa_cons (pv 1) (pa_cons (pv 2) pa_nil))) (blkOk_by (own := [("_law_spot", 4)]) (N := nSpots) (sc := defScope sSpots) (by decide +kernel))
        (fun _ _ _ _ _ => pg_name (i := 4) scSpots.nd rfl (Or.inl rfl))
        (fun _ _ _ _ _ => pts_one (pt_cmpR op_eq (pe_call GD hr (by rfl) mD kD bD .nil pass0 (pa_cons (pv 0) (pa_cons pe_int pa_nil))) pe_int (nomark _)))
        (fun _ _ _ _ _ => pv 4))))))), ?_⟩
    refine ⟨_, rfl, p, 5, rfl, hp, by decide, by decide, ?_⟩
    intro d H1 d0 d1 b1 hp1
    have fr : ∀ q, H1 q = none → H q = none := fun q hq => b1.free hp hq hp1
    refine ⟨_, rfl, rfl, _, rfl, ?_⟩
    have nil : ∀ q, H1 q = none → Q (.ref q) (upd H1 q (.lst [])) := by
      intro q hq
      refine out q [] _ (fr q hq) List.Pairwise.nil (fun n hn => nomatch hn) (b1.trans (But.new hq)) (hp1.same (same_new hq)) upd_same
    refine ite2 (fun _ => ?_) (fun _ => ?_)
    · refine iteT ⟨by decide, nil⟩
    refine ⟨_, rfl, _, rfl, _, _, rfl, rfl, _, rfl, ?_⟩
    refine ite2 (fun _ => ?_) (fun hlt => ?_)
    · exact ⟨by decide, nil⟩
    have hlt2 : l < m := by
      have := of_decide_eq_false (by simpa using hlt : decide (m ≤ l) = false)
      omega
    refine ⟨_, rfl, rfl, _, rfl, ?_⟩
    refine ite2 (fun _ => ?_) (fun _ => ?_)
    · refine ⟨_, rfl, _, rfl, _, rfl, _, rfl, m, l, rfl, rfl, p, m - l, rfl, hp1, by omega, by omega, ?_⟩
      intro d2 H2 e0 e1 b2 hp2
      refine ⟨l, d2, rfl, rfl, (by show 1 ≤ sizeLine; decide), ?_⟩
      intro q hq
      refine out q [l + d2] _ (fr q (b2.free hp1 hq hp2)) (by simp) (fun n hn => by
        have : n = l + d2 := by simpa using hn
        omega) ((b1.trans b2).trans (But.new hq)) (hp2.same (same_new hq)) upd_same
    refine ⟨_, rfl, rfl, _, rfl, ?_⟩
    refine ite2 (fun _ => ?_) (fun _ => ?_)
    · refine ⟨_, rfl, _, rfl, l, m, rfl, rfl, RgOk.of_le l0 (by omega) (by omega) m0, ?_⟩
      intro q hq
      obtain ⟨ns, e, h1, h2⟩ := rgV_ints l (m - l).toNat
      have em : l + ((m - l).toNat : Int) = m := by omega
      rw [em] at e h2
      rw [e]
      exact out q ns _ (fr q hq) h1 h2 (b1.trans (But.new hq)) (hp1.same (same_new hq)) upd_same
    · refine ⟨_, rfl, _, rfl, l, m, rfl, ⟨by omega, by omega, by omega, by omega⟩, ?_⟩
      intro D hD
      have hDH := fr D hD
      have hDp : D ≠ p := fun z => by
        subst z
        obtain ⟨_, _, e, _⟩ := hp1
        rw [hD] at e
        cases e
      refine lc_range (lo := l) (n := (m - l).toNat) (fun i H' => ∃ ns : List Int, H' D = some (.lst (ns.map V.int)) ∧ ns.length ≤ i ∧ ns.Pairwise (· < ·) ∧ (∀ n ∈ ns, l ≤ n ∧ n < l + i) ∧ But p H H' ∧ PotAt H' p)
        ⟨[], upd_same, Nat.le_refl _, List.Pairwise.nil, fun n hn => (by cases hn), b1.trans (But.new hD), hp1.same (same_new hD)⟩ ?_ ?_
      · rintro i H2 hi ⟨ns, hns, hlen, pw, bd, b2, hp2⟩
        refine ⟨rfl, ?_⟩
        refine ⟨_, rfl, p, 2, rfl, hp2, by decide, by decide, ?_⟩
        intro d2 H3 e0 e1 b3 hp3
        have hD3 : H3 D = some (.lst (ns.map V.int)) := b3 D _ hDp hns
        refine ⟨rfl, _, rfl, ?_⟩
        refine ite2 (fun _ => ?_) (fun _ => ?_)
        · refine ⟨_, rfl, _, hD3, (by rw [List.length_map]; exact small1000 (by omega)), ns ++ [l + (i : Int)], ?_, ?_, ?_, ?_, ?_, ?_⟩
          · rw [upd_same, List.map_append]
            rfl
          · rw [List.length_append]
            show ns.length + 1 ≤ i + 1
            omega
          · refine List.pairwise_append.mpr ⟨pw, by simp, fun a ha b hb => ?_⟩
            have hb2 : b = l + (i : Int) := by simpa using hb
            have := bd a ha
            omega
          · intro n hn
            rcases List.mem_append.mp hn with hn | hn
            · have := bd n hn
              omega
            · have : n = l + (i : Int) := by simpa using hn
              omega
          · exact fun b o n e => by
              have e2 := b2.trans b3 b o n e
              rw [upd_ne (ne_of_none e hDH)]
              exact e2
          · obtain ⟨x, y, e, r⟩ := hp3
            exact ⟨x, y, by rw [upd_ne (Ne.symm hDp)]; exact e, r⟩
        · exact ⟨ns, hD3, by omega, pw, fun n hn => by have := bd n hn; omega, b2.trans b3, hp3⟩
      · rintro H2 ⟨ns, hns, hlen, pw, bd, b2, hp2⟩
        exact out D ns H2 hDH pw (fun n hn => by have := bd n hn; omega) b2 hp2 hns
end
end K11
namespace K11
open PySem PySem.Spec PyProof.Rows L2 Par
theorem perm_erase : ∀ {l : List Int} {i : Nat} {x : Int}, l[i]? = some x → (x :: l.eraseIdx i).Perm l
  | [], i, x, h => by simp at h
  | a :: l, 0, x, h => by
    have e : a = x := by simpa using h
    subst e
    exact List.Perm.refl _
  | a :: l, i + 1, x, h => by
    have h2 : l[i]? = some x := by simpa using h
    have ih := perm_erase h2
    show (x :: a :: l.eraseIdx i).Perm (a :: l)
    exact (List.Perm.swap a x _).trans (ih.cons a)
/-- what len of a list or tuple asks -/
def rLenQ (K : PySem.W.Frag) : List V → Hp → VK → Prop := fun xs H Q => ∃ p ys, xs = [.ref p] ∧ (SqL K H p ys ∨ SqT K H p ys) ∧ Q (.int ys.length) H
theorem map_eraseIdx : ∀ (l : List Int) (i : Nat), (l.map V.int).eraseIdx i = (l.eraseIdx i).map V.int
  | [], _ => rfl
  | _ :: _, 0 => rfl
  | a :: l, i + 1 => by
    show V.int a :: (l.map V.int).eraseIdx i = V.int a :: (l.eraseIdx i).map V.int
    rw [map_eraseIdx l i]
theorem yesT {σ : L2.St} {H : Hp} {A B : Hp → Prop} (h : A H) : tYes σ H (fun b H3 => if b = true then A H3 else B H3) := by
  unfold tYes
  show (if true = true then A H else B H)
  rw [if_pos rfl]
  exact h
section
variable {P : Program} {w : World} {K : PySem.W.Frag} {mg : Str → Option Value} {base : Heap}
/-- a new list of the same numbers, in some order -/
def spMixed (K : PySem.W.Frag) : Sp := fun vs H Q _ => ∃ (p g : Addr) (ns : List Int), vs = [.ref p, .ref g] ∧ PotAt H p ∧ H g = some (.lst (ns.map V.int)) ∧ g ≠ p ∧ ns.length ≤ 500 ∧
  ∀ q (ms : List Int) H', H q = none → ms.Perm ns → But p H H' → PotAt H' p → H' q = some (.lst (ms.map V.int)) → Q (.ref q) H'
abbrev nMixed : List Str := ["_law_pot_here", "_law_given", "_law_left", "_law_spot"]
theorem scMixed : FnScope nMixed ["_law_pot_here", "_law_given"] (defScope sMixed) := ⟨rfl, rfl, rfl, by decide +kernel, rfl, by decide +kernel, by decide +kernel⟩
theorem ok_mixed {f : Addr} {fd : FuncData} (F : Fun K "_law_mixed" "_law_mixed" sMixed f fd) (B : Bl mg) (D : Has P w K mg base "_law_draw" 2 ["_law_pot_here", "_law_many"] spDraw) :
    FnOk P w K mg base CX0 3 f fd ["_law_pot_here", "_law_given"] (spMixed K) := by
  obtain ⟨fD, fdD, GD, mD, kD, bD⟩ := D
  refine F.ok scMixed (fun vs H Q E h => ?_) (fun cdv A outer s H vs Q E hr h => ?_)
  · obtain ⟨p, g, ns, rfl, _⟩ := h
    rfl
  · obtain ⟨p, g, ns, rfl, hp, hg, gp, hl, out⟩ := h
    refine ⟨_, pss_cons (ps_set (i := 2) scMixed.nd rfl (Or.inr rfl) (pe_callTy call_list_of (by rfl) B.list (by decide +kernel) (pa_cons (pv 1) pa_nil)))
      (pss_one (ps_ret (pe_lc (own := [("_law_spot", 3)]) (g := gName 3) (te := tBM K "list" rPopAt (tVar 2) (tCons (tCall spDraw [] E0 (tCons (tVar 0) (tCons (tCB (rLenQ K) (tCons (tVar 2) tNil)) tNil))) tNil)) rfl scMixed.nd (pi_range1 (by rfl) B.range (pa_cons (pe_callB call_len_seq (by rfl) B.len PySem.boot_len (pa_cons (pv 1) pa_nil)) pa_nil)) (blkOk_by (own := [("_law_spot", 3)]) (N := nMixed) (sc := defScope sMixed) (by decide +kernel))
        (fun _ _ _ _ _ => pg_name (i := 3) scMixed.nd rfl (Or.inl rfl)) (fun _ _ _ _ _ => pts_nil)
        (fun _ _ _ _ _ => by exact pe_bm PySem.F.plainAttrs_list PySem.F.slot_list_pop PySem.F.type_list_pop mt_popAt (pv 2) (pa_cons (pe_call GD hr (by rfl) mD kD bD .nil pass0 (pa_cons (pv 0) (pa_cons (pe_callB call_len_seq (by rfl) B.len PySem.boot_len (pa_cons (pv 2) pa_nil)) pa_nil))) pa_nil))))), ?_⟩
    refine ⟨_, rfl, g, _, rfl, .inl (SqL.of hg), ?_⟩
    intro L hL
    have gL : g ≠ L := ne_of_none hg hL
    have hg1 : (upd H L (.lst (ns.map V.int))) g = some (.lst (ns.map V.int)) := by
      rw [upd_ne gL]
      exact hg
    have pL : L ≠ p := fun z => by
      subst z
      obtain ⟨_, _, e, _⟩ := hp
      rw [hL] at e
      cases e
    refine ⟨_, rfl, g, _, rfl, .inl (SqL.of hg1), _, rfl, (by rw [List.length_map]; omega), (by rw [List.length_map]; omega), ?_⟩
    intro D hD
    have DL : D ≠ L := fun z => by
      rw [z, upd_same] at hD
      cases hD
    have hDH : H D = none := by
      rw [upd_ne DL] at hD
      exact hD
    have Dp : D ≠ p := fun z => by
      subst z
      obtain ⟨_, _, e, _⟩ := hp
      rw [hDH] at e
      cases e
    rw [List.length_map, Int.toNat_natCast]
    have base0 : But p H (upd (upd H L (.lst (ns.map V.int))) D (.lst [])) := (But.new hL).trans (But.new hD)
    have pot0 : PotAt (upd (upd H L (.lst (ns.map V.int))) D (.lst [])) p := (hp.same (same_new hL)).same (same_new hD)
    refine lc_range (lo := 0) (n := ns.length) (fun i H' => ∃ ms ls : List Int, H' D = some (.lst (ms.map V.int)) ∧ H' L = some (.lst (ls.map V.int)) ∧ ms.length = i ∧ (ms ++ ls).Perm ns ∧ But p H H' ∧ PotAt H' p)
      ⟨[], ns, upd_same, by rw [upd_ne (Ne.symm DL), upd_same], rfl, List.Perm.refl _, base0, pot0⟩ ?_ ?_
    · rintro i H2 hi ⟨ms, ls, hms, hls, hlen, pm, b2, hp2⟩
      have hll : ms.length + ls.length = ns.length := by
        have := pm.length_eq
        rwa [List.length_append] at this
      refine ⟨rfl, yesT ?_⟩
      refine ⟨_, rfl, .inl ⟨rfl, _, SqL.of hls⟩, ?_⟩
      refine ⟨_, rfl, _, rfl, L, _, rfl, .inl (SqL.of hls), p, _, rfl, hp2, (by rw [List.length_map]; omega), (by rw [List.length_map]; omega), ?_⟩
      intro d H3 d0 d1 b3 hp3
      rw [List.length_map] at d1
      have hD3 : H3 D = some (.lst (ms.map V.int)) := b3 D _ Dp hms
      have hL3 : H3 L = some (.lst (ls.map V.int)) := b3 L _ pL hls
      have dk : d.toNat < ls.length := by omega
      have ex : ls[d.toNat]? = some ls[d.toNat] := by simp [dk]
      refine ⟨L, _, d, d.toNat, .int ls[d.toNat], rfl, rfl, hL3, by omega, by omega, ?_, ?_, ?_⟩
      · rw [List.length_map]
        unfold seqIndex?
        have h1 : ¬ d < 0 := by omega
        have h2 : d < (ls.length : Int) := by omega
        simp [h1, h2, d0]
      · rw [List.getElem?_map, ex]
        rfl
      refine ⟨ms.map V.int, by rw [upd_ne DL]; exact hD3, (by rw [List.length_map]; exact small1000 (by omega)), ms ++ [ls[d.toNat]], ls.eraseIdx d.toNat, ?_, ?_, ?_, ?_, ?_, ?_⟩
      · rw [upd_same, List.map_append]
        rfl
      · rw [upd_ne (Ne.symm DL), upd_same, map_eraseIdx]
      · rw [List.length_append, hlen]
        rfl
      · rw [List.append_assoc]
        exact (List.Perm.append_left ms (perm_erase ex)).trans pm
      · intro b o n e
        rw [upd_ne (ne_of_none e hDH), upd_ne (ne_of_none e hL)]
        exact b3 b o n (b2 b o n e)
      · obtain ⟨x, y, e, r⟩ := hp3
        exact ⟨x, y, by rw [upd_ne (Ne.symm Dp), upd_ne (Ne.symm pL)]; exact e, r⟩
    · rintro H2 ⟨ms, ls, hms, hls, hlen, pm, b2, hp2⟩
      have hll : ms.length + ls.length = ns.length := by
        have := pm.length_eq
        rwa [List.length_append] at this
      have e : ls = [] := List.eq_nil_of_length_eq_zero (by omega)
      subst e
      rw [List.append_nil] at pm
      exact out D ms H2 hDH pm b2 hp2 hms
end
end K11
namespace K11
open PySem PySem.Spec PyProof.Rows L2 Par
/-- is it a whole number from lo to hi -/
def isV (v : V) (lo hi : Int) : Bool := match v with
  | .int i => decide (lo ≤ i) && decide (i ≤ hi)
  | _ => false
/-- its type is known, and tells whether it is a bool, an int -/
def Typed (K : PySem.W.Frag) (H : Hp) (v : V) : Prop := (∃ b, v = .bl b) ∨ (∃ i, v = .int i) ∨
  (∃ n, TyX K H v (.type n) ∧ (n = "NoneType" ∨ n = "str" ∨ n = "list" ∨ n = "tuple" ∨ n = "dict") ∧ (∀ b, v ≠ .bl b) ∧ ∀ i, v ≠ .int i)
theorem isV_other {v : V} {lo hi : Int} (h : ∀ i, v ≠ .int i) : isV v lo hi = false := by
  unfold isV
  split
  · rename_i i
    exact absurd rfl (h i)
  · rfl
theorem sq_ty {K : PySem.W.Frag} {H : Hp} {a : Addr} {xs : List V} (h : SqL K H a xs) : TyX K H (.ref a) (.type "list") := by
  rcases h with (h | ⟨o, h⟩) | ⟨o, its, n, hk, hc, _⟩
  · exact .base (.lst h)
  · exact .base (.frz h)
  · exact .kList hk hc
theorem sqt_ty {K : PySem.W.Frag} {H : Hp} {a : Addr} {xs : List V} (h : SqT K H a xs) : TyX K H (.ref a) (.type "tuple") := by
  rcases h with (h | ⟨o, h⟩) | ⟨o, its, n, hk, hc, _⟩
  · exact .base (.tup h)
  · exact .fTuple h
  · exact .kTuple hk hc
theorem typed_dp {K : PySem.W.Frag} {H : Hp} {v : V} {d : PyData} (h : Dp K H v d) : Typed K H v := by
  cases h with
  | non => exact .inr (.inr ⟨_, .base .non, .inl rfl, by simp, by simp⟩)
  | bl b => exact .inl ⟨b, rfl⟩
  | int i => exact .inr (.inl ⟨i, rfl⟩)
  | str x => exact .inr (.inr ⟨_, .base (.str x), .inr (.inl rfl), by simp, by simp⟩)
  | lst hs _ => exact .inr (.inr ⟨_, sq_ty hs, by simp, by simp, by simp⟩)
  | tup hs _ => exact .inr (.inr ⟨_, sqt_ty hs, by simp, by simp, by simp⟩)
theorem typed_fl {K : PySem.W.Frag} {H : Hp} {v : V} {d : PyData} (h : Fl H v d) : Typed K H v := by
  cases h with
  | non => exact .inr (.inr ⟨_, .base .non, .inl rfl, by simp, by simp⟩)
  | bl b => exact .inl ⟨b, rfl⟩
  | int i => exact .inr (.inl ⟨i, rfl⟩)
  | str x => exact .inr (.inr ⟨_, .base (.str x), .inr (.inl rfl), by simp, by simp⟩)
  | dic0 e => exact .inr (.inr ⟨_, .base (.dK e), by simp, by simp, by simp⟩)
  | dic1 e => exact .inr (.inr ⟨_, .base (.dK e), by simp, by simp, by simp⟩)
section
variable {P : Program} {w : World} {K : PySem.W.Frag} {mg : Str → Option Value} {base : Heap}
theorem kit_bool {n : String} (h : n = "NoneType" ∨ n = "str" ∨ n = "list" ∨ n = "tuple" ∨ n = "dict") : PySem.W.kitOne K (.type n) (.type "bool") = some false := by
  rcases h with rfl | rfl | rfl | rfl | rfl <;> exact kit_ty (by decide +kernel)
theorem kit_int {n : String} (h : n = "NoneType" ∨ n = "str" ∨ n = "list" ∨ n = "tuple" ∨ n = "dict") : PySem.W.kitOne K (.type n) (.type "int") = some false := by
  rcases h with rfl | rfl | rfl | rfl | rfl <;> exact kit_ty (by decide +kernel)
/-- a whole number and no bool -/
def wholeV : V → Bool
  | .int _ => true
  | _ => false
theorem wholeV_other {v : V} (h : ∀ i, v ≠ .int i) : wholeV v = false := by
  cases v <;> first | rfl | exact absurd rfl (h _)
/-- is_integer -/
def spIntegerA (K : PySem.W.Frag) : Sp := fun vs H Q _ => ∃ v : V, vs = [v] ∧ Typed K H v ∧ Q (.bl (wholeV v)) H
theorem scInteger : FnScope ["thing"] ["thing"] (defScope sInteger) := ⟨rfl, rfl, rfl, by decide +kernel, rfl, by decide +kernel, by decide +kernel⟩
theorem ok_integerA {f : Addr} {fd : FuncData} (F : Fun K "is_integer" "is_integer" sInteger f fd) (B : Bl mg) : FnOk P w K mg base CX0 1 f fd ["thing"] (spIntegerA K) := by
  refine F.ok scInteger (fun vs H Q E h => ?_) (fun cdv A outer s H vs Q E hr h => ?_)
  · obtain ⟨v, rfl, _⟩ := h
    rfl
  · obtain ⟨v, rfl, hT, out⟩ := h
    refine ⟨_, pss_one (ps_ret (pe_and (pe_callB call_isi (by rfl) B.isinstance (by decide +kernel) (pa_cons (pv 0) (pa_cons (pe_bltn (v := .ty "int") (by rfl) B.int (by decide +kernel) rfl) pa_nil))) (pe_one (pe_not (pe_callB call_isi (by rfl) B.isinstance (by decide +kernel) (pa_cons (pv 0) (pa_cons (pe_bltn (v := .ty "bool") (by rfl) B.bool (by decide +kernel) rfl) pa_nil))))))), ?_⟩
    rcases hT with ⟨b, rfl⟩ | ⟨i, rfl⟩ | ⟨n, ty, hn, nb, ni⟩
    · refine ⟨_, rfl, _, _, _, _, true, rfl, .ty "int", .base (.bl b), kit_ty (by decide +kernel), _, rfl, iteT ?_⟩
      exact ⟨_, rfl, _, _, _, _, true, rfl, .ty "bool", .base (.bl b), kit_ty (by decide +kernel), _, rfl, out⟩
    · refine ⟨_, rfl, _, _, _, _, true, rfl, .ty "int", .base (.int i), kit_ty (by decide +kernel), _, rfl, iteT ?_⟩
      exact ⟨_, rfl, _, _, _, _, false, rfl, .ty "bool", .base (.int i), kit_ty (by decide +kernel), _, rfl, out⟩
    · rw [wholeV_other ni] at out
      refine ⟨_, rfl, _, _, _, _, false, rfl, .ty "int", ty, kit_int hn, _, rfl, iteF ?_⟩
      exact out
/-- is_integer_between -/
def spBetween (K : PySem.W.Frag) : Sp := fun vs H Q _ => ∃ (v : V) (lo hi : Int), vs = [v, .int lo, .int hi] ∧ Typed K H v ∧ Q (.bl (isV v lo hi)) H
theorem scBetween : FnScope ["thing", "low", "high"] ["thing", "low", "high"] (defScope sBetween) := ⟨rfl, rfl, rfl, by decide +kernel, rfl, by decide +kernel, by decide +kernel⟩
theorem ok_between {f : Addr} {fd : FuncData} (F : Fun K "is_integer_between" "is_integer_between" sBetween f fd) (B : Bl mg) (D : Has P w K mg base "is_integer" 1 ["thing"] (spIntegerA K)) : FnOk P w K mg base CX0 2 f fd ["thing", "low", "high"] (spBetween K) := by
  obtain ⟨fD, fdD, GD, mD, kD, bD⟩ := D
  refine F.ok scBetween (fun vs H Q E h => ?_) (fun cdv A outer s H vs Q E hr h => ?_)
  · obtain ⟨v, lo, hi, rfl, _⟩ := h
    rfl
  · obtain ⟨v, lo, hi, rfl, hT, out⟩ := h
    refine ⟨_, pss_one (ps_ret (pe_and (pe_call GD hr (by rfl) mD kD bD .nil pass0 (pa_cons (pv 0) pa_nil)) (pe_one (pe_chain op_le op_le (pv 1) (pv 0) (pv 2))))), ?_⟩
    have hT0 := hT
    rcases hT with ⟨b, rfl⟩ | ⟨i, rfl⟩ | ⟨n, ty, hn, nb, ni⟩
    · exact ⟨_, rfl, _, rfl, hT0, _, rfl, iteF out⟩
    · refine ⟨_, rfl, _, rfl, hT0, _, rfl, iteT ?_⟩
      refine ⟨_, rfl, _, rfl, lo, i, rfl, rfl, _, rfl, ite2 (fun h1 => ?_) (fun h1 => ?_)⟩
      · refine ⟨_, rfl, i, hi, rfl, rfl, ?_⟩
        have e : isV (.int i) lo hi = decide (i ≤ hi) := by
          show (decide (lo ≤ i) && decide (i ≤ hi)) = _
          rw [h1]
          rfl
        rw [e] at out
        exact out
      · have e : isV (.int i) lo hi = false := by
          show (decide (lo ≤ i) && decide (i ≤ hi)) = _
          rw [show decide (lo ≤ i) = false by simpa using h1]
          rfl
        rw [e] at out
        exact out
    · rw [isV_other ni] at out
      refine ⟨_, rfl, _, rfl, hT0, ?_⟩
      rw [wholeV_other ni]
      exact ⟨_, rfl, iteF out⟩
/-- _law_is_int -/
theorem scIsInt : FnScope ["_law_item", "_law_low", "_law_high"] ["_law_item", "_law_low", "_law_high"] (defScope sIsInt) := ⟨rfl, rfl, rfl, by decide +kernel, rfl, by decide +kernel, by decide +kernel⟩
theorem ok_isint {f : Addr} {fd : FuncData} (F : Fun K "_law_is_int" "_law_is_int" sIsInt f fd) (B : Bl mg) : FnOk P w K mg base CX0 2 f fd ["_law_item", "_law_low", "_law_high"] (spBetween K) := by
  refine F.ok scIsInt (fun vs H Q E h => ?_) (fun cdv A outer s H vs Q E hr h => ?_)
  · obtain ⟨v, lo, hi, rfl, _⟩ := h
    rfl
  · obtain ⟨v, lo, hi, rfl, hT, out⟩ := h
    refine ⟨_, pss_one (ps_ret (pe_and (pe_callB call_isi (by rfl) B.isinstance (by decide +kernel) (pa_cons (pv 0) (pa_cons (pe_bltn (v := .ty "int") (by rfl) B.int (by decide +kernel) rfl) pa_nil)))
        (pe_and (pe_not (pe_callB call_isi (by rfl) B.isinstance (by decide +kernel) (pa_cons (pv 0) (pa_cons (pe_bltn (v := .ty "bool") (by rfl) B.bool (by decide +kernel) rfl) pa_nil))))
        (pe_one (pe_chain op_le op_le (pv 1) (pv 0) (pv 2)))))), ?_⟩
    rcases hT with ⟨b, rfl⟩ | ⟨i, rfl⟩ | ⟨n, ty, hn, nb, ni⟩
    · refine ⟨_, rfl, _, _, _, _, true, rfl, .ty "int", .base (.bl b), kit_ty (by decide +kernel), _, rfl, iteT ?_⟩
      refine ⟨_, rfl, _, _, _, _, true, rfl, .ty "bool", .base (.bl b), kit_ty (by decide +kernel), _, rfl, _, rfl, iteF ?_⟩
      exact out
    · refine ⟨_, rfl, _, _, _, _, true, rfl, .ty "int", .base (.int i), kit_ty (by decide +kernel), _, rfl, iteT ?_⟩
      refine ⟨_, rfl, _, _, _, _, false, rfl, .ty "bool", .base (.int i), kit_ty (by decide +kernel), _, rfl, _, rfl, iteT ?_⟩
      refine ⟨_, rfl, _, rfl, lo, i, rfl, rfl, _, rfl, ite2 (fun h1 => ?_) (fun h1 => ?_)⟩
      · refine ⟨_, rfl, i, hi, rfl, rfl, ?_⟩
        have e : isV (.int i) lo hi = decide (i ≤ hi) := by
          show (decide (lo ≤ i) && decide (i ≤ hi)) = _
          rw [h1]
          rfl
        rw [e] at out
        exact out
      · have e : isV (.int i) lo hi = false := by
          show (decide (lo ≤ i) && decide (i ≤ hi)) = _
          rw [show decide (lo ≤ i) = false by simpa using h1]
          rfl
        rw [e] at out
        exact out
    · rw [isV_other ni] at out
      refine ⟨_, rfl, _, _, _, _, false, rfl, .ty "int", ty, kit_int hn, _, rfl, iteF ?_⟩
      exact out
/-- is_cell -/
def spIsCell (K : PySem.W.Frag) : Sp := fun vs H Q _ => ∃ (v : V) (n : Int), vs = [v, .int n] ∧ Typed K H v ∧ Q (.bl (isV v 0 (n - 1))) H
theorem scIsCell : FnScope ["thing", "size"] ["thing", "size"] (defScope sIsCell) := ⟨rfl, rfl, rfl, by decide +kernel, rfl, by decide +kernel, by decide +kernel⟩
theorem ok_iscell {f : Addr} {fd : FuncData} (F : FunD K "is_cell" "is_cell" (defArgs sIsCell) (defBody sIsCell) (defScope sIsCell) [] [("size", .int 40)] f fd)
    (D : Has P w K mg base "is_integer_between" 2 ["thing", "low", "high"] (spBetween K)) : FnOk P w K mg base CX0 3 f fd ["thing", "size"] (spIsCell K) := by
  obtain ⟨fD, fdD, GD, mD, kD, bD⟩ := D
  refine F.ok scIsCell (fun vs H Q E h => ?_) (fun cdv A outer s H vs Q E hr h => ?_)
  · obtain ⟨v, n, rfl, _⟩ := h
    rfl
  · obtain ⟨v, n, rfl, hT, out⟩ := h
    refine ⟨_, pss_one (ps_ret (pe_call GD hr (by rfl) mD kD bD .nil pass0 (pa_cons (pv 0) (pa_cons pe_int (pa_cons (pe_op op_sub (pv 1) pe_int) pa_nil))))), ?_⟩
    refine ⟨_, rfl, _, rfl, n, 1, rfl, rfl, v, 0, n - 1, rfl, hT, out⟩
end
end K11
namespace K11
open PySem PySem.Spec PyProof.Rows L2 Par
abbrev sIni : Stmt := inClass (topS 4) 0
/-- what the module says of NoCells, at C, its __init__ at fI -/
structure CellsC (K : PySem.W.Frag) (mg : Str → Option Value) (C : Addr) : Prop where
  gC : mg "NoCells" = some (.ref C)
  ox : OexC K C
  no : PySem.W.findIn K (.ref C) "cells" = some none
section
variable {P : Program} {w : World} {K : PySem.W.Frag} {mg : Str → Option Value} {base : Heap}
def spIni (C : Addr) : Sp := fun vs H Q _ => ∃ (a : Addr) (v : V), vs = [.ref a, v] ∧ H a = some (exo a C none) ∧
  ∀ dx, H dx = none → dx ≠ a → Q .non (upd (upd H dx (exd dx [("cells", v)])) a (exo a C (some dx)))
theorem scIni : FnScope ["self", "cells"] ["self", "cells"] (defScope sIni) := ⟨rfl, rfl, rfl, by decide +kernel, rfl, by decide +kernel, by decide +kernel⟩
theorem ok_ini {f C : Addr} {fd : FuncData} (F : Fun K "__init__" "NoCells.__init__" sIni f fd) (T : CellsC K mg C) : FnOk P w K mg base CX0 2 f fd ["self", "cells"] (spIni C) := by
  refine F.ok scIni (fun vs H Q E h => ?_) (fun cdv A outer s H vs Q E hr h => ?_)
  · obtain ⟨a, v, rfl, _⟩ := h
    rfl
  · obtain ⟨a, v, rfl, ha, out⟩ := h
    refine ⟨_, pss_one (ps_ost (pv 0) (pv 1)), ?_⟩
    exact ⟨_, rfl, _, rfl, a, C, rfl, T.ox, T.no, .inl ⟨ha, out⟩⟩
/-- NoCells as a class whose __init__ keeps its promise -/
def HasIni (P : Program) (w : World) (K : PySem.W.Frag) (mg : Str → Option Value) (base : Heap) (C : Addr) : Prop :=
  ∃ f fd, FnOk P w K mg base CX0 2 f fd ["self", "cells"] (spIni C) ∧ PySem.W.findIn K (.ref C) "__init__" = some (some (.ref f)) ∧ PySem.W.typeIn K (.ref f) = some (.type "function") ∧ Binds K fd ["self", "cells"] []
/-- what raise NoCells(v) leads to -/
theorem made_ini {C : Addr} {H : Hp} {v : V} {W : Value → Option Addr → Hp → Prop} (h : ∀ d H', H d = none → Same H H' → H' d = some (.xd [("cells", v)]) → W (.ref C) (some d) H') :
    ∀ a, H a = none → spIni C (.ref a :: ([v] ++ [])) (upd H a (exo a C none)) (fun u H2 => u = .non ∧ ∃ (d : Addr) (fs : List (Str × V)), H2 a = some (exo a C (some d)) ∧ H2 d = some (exd d fs) ∧ H d = none ∧
      W (.ref C) (some d) (upd (del H2 a) d (.xd fs))) (fun _ _ _ => False) := by
  intro a ha
  refine ⟨a, v, rfl, upd_same, fun dx hd ne => ?_⟩
  rw [upd_ne ne] at hd
  refine ⟨rfl, dx, [("cells", v)], upd_same, by rw [upd_ne ne, upd_same], hd, ?_⟩
  refine h dx _ hd (fun b o e => ?_) upd_same
  have n1 := ne_of_none e hd
  have n2 := ne_of_none e ha
  rw [upd_ne n1, del_ne n2, upd_ne n2, upd_ne n1, upd_ne n2]
  exact e

/-- it is neither a list nor a tuple -/
def NoSeq (K : PySem.W.Frag) (H : Hp) (v : V) : Prop := ∃ n, TyX K H v (.type n) ∧ (n = "NoneType" ∨ n = "bool" ∨ n = "int" ∨ n = "str" ∨ n = "dict")
theorem kit_noseq {n : String} (h : n = "NoneType" ∨ n = "bool" ∨ n = "int" ∨ n = "str" ∨ n = "dict") : PySem.W.kitAny K (.type n) [.type "list", .type "tuple"] = some false := by
  have h1 : PySem.W.kitOne K (.type n) (.type "list") = some false := by rcases h with rfl | rfl | rfl | rfl | rfl <;> exact kit_ty (by decide +kernel)
  have h2 : PySem.W.kitOne K (.type n) (.type "tuple") = some false := by rcases h with rfl | rfl | rfl | rfl | rfl <;> exact kit_ty (by decide +kernel)
  exact kitAny_cons h1 (fun _ => kitAny_cons h2 (fun _ => kitAny_nil) (fun z => nomatch z)) (fun z => nomatch z)
theorem kit_seq {n : String} (h : n = "list" ∨ n = "tuple") : PySem.W.kitAny K (.type n) [.type "list", .type "tuple"] = some true := by
  rcases h with rfl | rfl
  · exact kitAny_cons (b := true) (kit_ty (by decide +kernel)) (fun z => nomatch z) (fun _ => rfl)
  · exact kitAny_cons (b := false) (kit_ty (by decide +kernel)) (fun _ => kitAny_cons (b := true) (kit_ty (by decide +kernel)) (fun z => nomatch z) (fun _ => rfl)) (fun z => nomatch z)
/-- a list or tuple of xs -/
def Sq (K : PySem.W.Frag) (H : Hp) (a : Addr) (xs : List V) : Prop := SqL K H a xs ∨ SqT K H a xs
/-- the items as whole numbers from l to m - 1 -/
def AllOf (l m : Int) (xs : List V) : Bool := xs.all fun x => isV x l (m - 1)
/-- a list or tuple of these items, or none of both -/
def Desc (K : PySem.W.Frag) (H : Hp) (v : V) : Option (List V) → Prop
  | none => NoSeq K H v
  | some xs => ∃ a, v = .ref a ∧ Sq K H a xs ∧ xs.length ≤ 500 ∧ ∀ x ∈ xs, Typed K H x
theorem desc_cases {H : Hp} {v : V} : ∀ {o : Option (List V)}, Desc K H v o → (o = none ∧ NoSeq K H v) ∨ ∃ a xs, o = some xs ∧ v = .ref a ∧ Sq K H a xs ∧ xs.length ≤ 500 ∧ ∀ x ∈ xs, Typed K H x
  | none, h => .inl ⟨rfl, h⟩
  | some xs, ⟨a, e, r⟩ => .inr ⟨a, xs, rfl, e, r⟩
def Fine (l m : Int) (o : Option (List V)) (ns : List Int) : Prop := o = some (ns.map V.int) ∧ AllOf l m (ns.map V.int) = true ∧ ns.Nodup
def Foul (l m : Int) (o : Option (List V)) : Prop := o = none ∨ (∃ xs, o = some xs ∧ AllOf l m xs = false) ∨ ∃ ns : List Int, o = some (ns.map V.int) ∧ AllOf l m (ns.map V.int) = true ∧ ¬ ns.Nodup
/-- cell_tuple: the cells in order, or NoCells with the value -/
def spCells (K : PySem.W.Frag) (C : Addr) : Sp := fun vs H Q E => ∃ (v : V) (n : Int) (o : Option (List V)), vs = [v, .int n] ∧ Desc K H v o ∧
  (∀ ns, Fine 0 n o ns → ∀ p (ms : List Int) H', H p = none → Same H H' → ms.Perm ns → ms.Pairwise (· ≤ ·) → H' p = some (.tup (ms.map V.int)) → Q (.ref p) H') ∧
  (Foul 0 n o → ∀ d H', H d = none → Same H H' → H' d = some (.xd [("cells", v)]) → E (.ref C) (some d) H')
/-- are_cells of any value -/
def spAreC (K : PySem.W.Frag) : Sp := fun vs H Q _ => ∃ (v : V) (n : Int) (o : Option (List V)), vs = [v, .int n] ∧ Desc K H v o ∧ (∀ ns, Fine 0 n o ns → ∀ H', Same H H' → Q (.bl true) H') ∧ (Foul 0 n o → ∀ H', Same H H' → Q (.bl false) H')
abbrev nCells : List Str := ["things", "size", "thing"]
theorem scAreC : FnScope nCells ["things", "size"] (defScope sAreC) := ⟨rfl, rfl, rfl, by decide +kernel, rfl, by decide +kernel, by decide +kernel⟩
theorem scCells : FnScope ["things", "size"] ["things", "size"] (defScope sCells) := ⟨rfl, rfl, rfl, by decide +kernel, rfl, by decide +kernel, by decide +kernel⟩
/-- is_cell by its callers: one positional, size by its name
-/
def HasCell (P : Program) (w : World) (K : PySem.W.Frag) (mg : Str → Option Value) (base : Heap) : Prop :=
  ∃ f fd, FnOk P w K mg base CX0 3 f fd ["thing", "size"] (spIsCell K) ∧ mg "is_cell" = some (.ref f) ∧ PySem.W.keepIn K (.ref f) = true ∧
    KBn K fd ["thing", "size"] 1 ["size"] (fun us ws => us ++ ws) (fun vs zs => vs ++ zs)
theorem of_ints : ∀ {xs : List V} {l m : Int}, AllOf l m xs = true → ∃ ns : List Int, xs = ns.map V.int
  | [], _, _, _ => ⟨[], rfl⟩
  | x :: xs, l, m, h => by
    have h1 : isV x l (m - 1) = true ∧ AllOf l m xs = true := by simpa [AllOf] using h
    obtain ⟨ns, e⟩ := of_ints h1.2
    cases x with
    | int i => exact ⟨i :: ns, by rw [e]; rfl⟩
    | _ => exact absurd h1.1 (by simp [isV])
theorem same_sq {H H' : Hp} {a : Addr} {xs : List V} (s : Same H H') (h : SqL K H a xs) : SqL K H' a xs := s.seq h
theorem same_sqt {H H' : Hp} {a : Addr} {xs : List V} (s : Same H H') (h : SqT K H a xs) : SqT K H' a xs := by
  rcases h with (h | ⟨o, h⟩) | h
  · exact .inl (.inl (s _ _ h))
  · exact .inl (.inr ⟨o, s _ _ h⟩)
  · exact .inr h
theorem same_tyx {H H' : Hp} {v : V} {t : Value} (s : Same H H') (h : TyX K H v t) : TyX K H' v t := by
  cases h with
  | base b =>
    refine .base ?_
    cases b with
    | non => exact .non
    | bl y => exact .bl y
    | int i => exact .int i
    | str y => exact .str y
    | flt y => exact .flt y
    | lst e => exact .lst (s _ _ e)
    | frz e => exact .frz (s _ _ e)
    | tup e => exact .tup (s _ _ e)
    | dK e => exact .dK (s _ _ e)
    | dT e => exact .dT (s _ _ e)
    | ins e cl ha hn htk hm => exact .ins (s _ _ e) cl ha hn htk hm
  | byt y => exact .byt y
  | set e => exact .set (s _ _ e)
  | kList e c => exact .kList e c
  | kTuple e c => exact .kTuple e c
  | kDict e c => exact .kDict e c
  | fTuple e => exact .fTuple (s _ _ e)
  | fDict e => exact .fDict (s _ _ e)
theorem same_typed {H H' : Hp} {v : V} (s : Same H H') (h : Typed K H v) : Typed K H' v := by
  rcases h with h | h | ⟨n, ty, r⟩
  · exact .inl h
  · exact .inr (.inl h)
  · exact .inr (.inr ⟨n, same_tyx s ty, r⟩)
theorem ok_areC {f : Addr} {fd : FuncData} (F : Fun K "are_cells" "are_cells" sAreC f fd) (B : Bl mg)
    (D : HasCell P w K mg base) : FnOk P w K mg base CX0 4 f fd ["things", "size"] (spAreC K) := by
  obtain ⟨fD, fdD, GD, mD, kD, bD⟩ := D
  refine F.ok scAreC (fun vs H Q E h => ?_) (fun cdv A outer s H vs Q E hr h => ?_)
  · obtain ⟨v, n, o, rfl, _⟩ := h
    rfl
  · obtain ⟨v, n, o, rfl, desc, good, bad⟩ := h
    rcases desc_cases desc with ⟨rfl, hno⟩ | ⟨a, xs, rfl, rfl, hq | hq, hl, hty⟩
    · refine ⟨_, pss_cons (ps_if (pt_not (pt_val (pe_callB call_isiT (by rfl) B.isinstance (by decide +kernel) (pa_cons (pv 0) (pa_cons (pe_tup (pa_cons (pe_bltn (v := .ty "list") (by rfl) B.list (by decide +kernel) rfl) (pa_cons (pe_bltn (v := .ty "tuple") (by rfl) B.tuple (by decide +kernel) rfl) pa_nil))) pa_nil))))) (pss_one (ps_ret pe_bl)) pss_nil)
      (pss_cons (ps_if (pt_not (pt_val (pe_callB (cr_all rfl) (by rfl) B.all (by decide +kernel) (pa_cons (pe_lc (own := [("thing", 2)]) (g := gName 2) (te := tCallN 1 (["size"] : List Str).length (spIsCell K) (fun vs zs => vs ++ zs) E0 (tCons (tVar 2) tNil) (tCons (tVar 1) tNil)) rfl scAreC.nd (pi_list (pv 0)) (blkOk_by (own := [("thing", 2)]) (N := nCells) (sc := defScope sAreC) (by decide +kernel))
          (fun _ _ _ _ _ => pg_name (i := 2) scAreC.nd rfl (Or.inl rfl)) (fun _ _ _ _ _ => pts_nil) (fun _ _ _ _ _ => by exact pe_callN (n := 1) (ks := ["size"]) GD hr (by rfl) mD kD bD pass0 (pa_cons (pv 2) pa_nil) (pk_cons (pv 1) pk_nil))) pa_nil)))) (pss_one (ps_ret pe_bl)) pss_nil)
      (pss_one (ps_ret (pe_cmpR op_eq (pe_lenSetQ (by rfl) B.len (by rfl) B.set (pv 0)) (pe_callB call_len_seq (by rfl) B.len PySem.boot_len (pa_cons (pv 0) pa_nil)) (nomark _))))), ?_⟩
      obtain ⟨nm, ty, hn⟩ := id hno
      refine ⟨_, rfl, by decide, fun p hp => ?_⟩
      refine ⟨_, p, _, _, _, false, rfl, upd_same, .cons (.ty _) (.cons (.ty _) .nil), same_tyx (same_new hp) ty, kit_noseq hn, _, rfl, iteT ?_⟩
      exact bad (.inl rfl) _ (same_new hp)
    · refine ⟨_, pss_cons (ps_if (pt_not (pt_val (pe_callB call_isiT (by rfl) B.isinstance (by decide +kernel) (pa_cons (pv 0) (pa_cons (pe_tup (pa_cons (pe_bltn (v := .ty "list") (by rfl) B.list (by decide +kernel) rfl) (pa_cons (pe_bltn (v := .ty "tuple") (by rfl) B.tuple (by decide +kernel) rfl) pa_nil))) pa_nil))))) (pss_one (ps_ret pe_bl)) pss_nil)
      (pss_cons (ps_if (pt_not (pt_val (pe_callB (cr_all rfl) (by rfl) B.all (by decide +kernel) (pa_cons (pe_lc (own := [("thing", 2)]) (g := gName 2) (te := tCallN 1 (["size"] : List Str).length (spIsCell K) (fun vs zs => vs ++ zs) E0 (tCons (tVar 2) tNil) (tCons (tVar 1) tNil)) rfl scAreC.nd (pi_list (pv 0)) (blkOk_by (own := [("thing", 2)]) (N := nCells) (sc := defScope sAreC) (by decide +kernel))
          (fun _ _ _ _ _ => pg_name (i := 2) scAreC.nd rfl (Or.inl rfl)) (fun _ _ _ _ _ => pts_nil) (fun _ _ _ _ _ => by exact pe_callN (n := 1) (ks := ["size"]) GD hr (by rfl) mD kD bD pass0 (pa_cons (pv 2) pa_nil) (pk_cons (pv 1) pk_nil))) pa_nil)))) (pss_one (ps_ret pe_bl)) pss_nil)
      (pss_one (ps_ret (pe_cmpR op_eq (pe_lenSetQ (by rfl) B.len (by rfl) B.set (pv 0)) (pe_callB call_len_seq (by rfl) B.len PySem.boot_len (pa_cons (pv 0) pa_nil)) (nomark _))))), ?_⟩
      refine ⟨_, rfl, by decide, fun p hp => ?_⟩
      have s1 : Same H (upd H p (.tup [.ty "list", .ty "tuple"])) := same_new hp
      refine ⟨_, p, _, _, _, true, rfl, upd_same, .cons (.ty _) (.cons (.ty _) .nil), sq_ty (same_sq s1 hq), kit_seq (by simp), _, rfl, iteF ?_⟩
      refine ⟨_, rfl, a, rfl, ⟨_, same_sq s1 hq⟩, fun D hD => ?_⟩
      refine lc_list (K := K) (a := a) (xs := xs) (fun i H' => Same H H' ∧ H' D = some (.lst ((xs.take i).map fun x => .bl (isV x 0 (n - 1))))) ⟨s1.trans (same_new hD), upd_same⟩ (fun i H' _ h => same_sq h.1 hq) ?_ ?_
      · rintro i x H2 hx ⟨s2, hD2⟩
        have xm : x ∈ xs := List.mem_of_getElem? hx
        have xi : i < xs.length := by
          rcases Nat.lt_or_ge i xs.length with z | z
          · exact z
          · rw [List.getElem?_eq_none z] at hx
            cases hx
        refine ⟨rfl, yesT ?_⟩
        refine ⟨_, rfl, _, rfl, rfl, rfl, x, n, rfl, same_typed s2 (hty x xm), _, hD2, ?_, ?_, ?_⟩
        · rw [List.length_map, List.length_take]
          exact small1000 (by omega)
        · intro b o e
          have hDb : H D = none := s1.free hD
          rw [upd_ne (ne_of_none e hDb)]
          exact s2 b o e
        · rw [upd_same, List.take_succ, hx, List.map_append]
          rfl
      rintro H2 ⟨s2, hD2⟩
      rw [List.take_length] at hD2
      refine ⟨D, xs.map fun x => isV x 0 (n - 1), rfl, SqL.of (by rw [hD2, List.map_map]; rfl), _, rfl, ?_⟩
      have eall : (xs.map fun x => isV x 0 (n - 1)).all id = AllOf 0 n xs := by simp [AllOf]
      rw [eall]
      cases hall : AllOf 0 n xs with
      | false =>
        exact iteT (bad (.inr (.inl ⟨xs, rfl, hall⟩)) _ s2)
      | true =>
        obtain ⟨ns, rfl⟩ := of_ints hall
        have hlen : ns.length ≤ 500 := by rw [List.length_map] at hl; exact hl
        refine iteF ⟨_, rfl, a, ns, rfl, .inl (same_sq s2 hq), by omega, fun c hc hiff => ?_⟩
        refine ⟨_, rfl, a, _, rfl, .inl (same_sq s2 hq), ?_⟩
        rw [List.length_map]
        refine ⟨rfl, ?_⟩
        by_cases hnd : ns.Nodup
        · have ec : c = ns.length := hiff.mpr hnd
          subst ec
          rw [decide_eq_true rfl]
          exact good ns ⟨rfl, hall, hnd⟩ _ s2
        · have ec : ¬ (V.int (c : Nat) = V.int (ns.length : Nat)) := fun z => by
            have z2 : ((c : Nat) : Int) = ((ns.length : Nat) : Int) := by injection z
            exact hnd (hiff.mp (by omega))
          rw [decide_eq_false ec]
          exact bad (.inr (.inr ⟨ns, rfl, hall, hnd⟩)) _ s2
    · refine ⟨_, pss_cons (ps_if (pt_not (pt_val (pe_callB call_isiT (by rfl) B.isinstance (by decide +kernel) (pa_cons (pv 0) (pa_cons (pe_tup (pa_cons (pe_bltn (v := .ty "list") (by rfl) B.list (by decide +kernel) rfl) (pa_cons (pe_bltn (v := .ty "tuple") (by rfl) B.tuple (by decide +kernel) rfl) pa_nil))) pa_nil))))) (pss_one (ps_ret pe_bl)) pss_nil)
      (pss_cons (ps_if (pt_not (pt_val (pe_callB (cr_all rfl) (by rfl) B.all (by decide +kernel) (pa_cons (pe_lc (own := [("thing", 2)]) (g := gName 2) (te := tCallN 1 (["size"] : List Str).length (spIsCell K) (fun vs zs => vs ++ zs) E0 (tCons (tVar 2) tNil) (tCons (tVar 1) tNil)) rfl scAreC.nd (pi_tup (pv 0)) (blkOk_by (own := [("thing", 2)]) (N := nCells) (sc := defScope sAreC) (by decide +kernel))
          (fun _ _ _ _ _ => pg_name (i := 2) scAreC.nd rfl (Or.inl rfl)) (fun _ _ _ _ _ => pts_nil) (fun _ _ _ _ _ => by exact pe_callN (n := 1) (ks := ["size"]) GD hr (by rfl) mD kD bD pass0 (pa_cons (pv 2) pa_nil) (pk_cons (pv 1) pk_nil))) pa_nil)))) (pss_one (ps_ret pe_bl)) pss_nil)
      (pss_one (ps_ret (pe_cmpR op_eq (pe_lenSetQ (by rfl) B.len (by rfl) B.set (pv 0)) (pe_callB call_len_seq (by rfl) B.len PySem.boot_len (pa_cons (pv 0) pa_nil)) (nomark _))))), ?_⟩
      refine ⟨_, rfl, by decide, fun p hp => ?_⟩
      have s1 : Same H (upd H p (.tup [.ty "list", .ty "tuple"])) := same_new hp
      refine ⟨_, p, _, _, _, true, rfl, upd_same, .cons (.ty _) (.cons (.ty _) .nil), sqt_ty (same_sqt s1 hq), kit_seq (by simp), _, rfl, iteF ?_⟩
      refine ⟨_, rfl, a, rfl, ⟨_, same_sqt s1 hq⟩, fun D hD => ?_⟩
      refine lc_tup (K := K) (a := a) (xs := xs) (fun i H' => Same H H' ∧ H' D = some (.lst ((xs.take i).map fun x => .bl (isV x 0 (n - 1))))) ⟨s1.trans (same_new hD), upd_same⟩ (fun i H' _ h => same_sqt h.1 hq) ?_ ?_
      · rintro i x H2 hx ⟨s2, hD2⟩
        have xm : x ∈ xs := List.mem_of_getElem? hx
        have xi : i < xs.length := by
          rcases Nat.lt_or_ge i xs.length with z | z
          · exact z
          · rw [List.getElem?_eq_none z] at hx
            cases hx
        refine ⟨rfl, yesT ?_⟩
        refine ⟨_, rfl, _, rfl, rfl, rfl, x, n, rfl, same_typed s2 (hty x xm), _, hD2, ?_, ?_, ?_⟩
        · rw [List.length_map, List.length_take]
          exact small1000 (by omega)
        · intro b o e
          have hDb : H D = none := s1.free hD
          rw [upd_ne (ne_of_none e hDb)]
          exact s2 b o e
        · rw [upd_same, List.take_succ, hx, List.map_append]
          rfl
      rintro H2 ⟨s2, hD2⟩
      rw [List.take_length] at hD2
      refine ⟨D, xs.map fun x => isV x 0 (n - 1), rfl, SqL.of (by rw [hD2, List.map_map]; rfl), _, rfl, ?_⟩
      have eall : (xs.map fun x => isV x 0 (n - 1)).all id = AllOf 0 n xs := by simp [AllOf]
      rw [eall]
      cases hall : AllOf 0 n xs with
      | false =>
        exact iteT (bad (.inr (.inl ⟨xs, rfl, hall⟩)) _ s2)
      | true =>
        obtain ⟨ns, rfl⟩ := of_ints hall
        have hlen : ns.length ≤ 500 := by rw [List.length_map] at hl; exact hl
        refine iteF ⟨_, rfl, a, ns, rfl, .inr (same_sqt s2 hq), by omega, fun c hc hiff => ?_⟩
        refine ⟨_, rfl, a, _, rfl, .inr (same_sqt s2 hq), ?_⟩
        rw [List.length_map]
        refine ⟨rfl, ?_⟩
        by_cases hnd : ns.Nodup
        · have ec : c = ns.length := hiff.mpr hnd
          subst ec
          rw [decide_eq_true rfl]
          exact good ns ⟨rfl, hall, hnd⟩ _ s2
        · have ec : ¬ (V.int (c : Nat) = V.int (ns.length : Nat)) := fun z => by
            have z2 : ((c : Nat) : Int) = ((ns.length : Nat) : Int) := by injection z
            exact hnd (hiff.mp (by omega))
          rw [decide_eq_false ec]
          exact bad (.inr (.inr ⟨ns, rfl, hall, hnd⟩)) _ s2
def HasAreC (P : Program) (w : World) (K : PySem.W.Frag) (mg : Str → Option Value) (base : Heap) : Prop :=
  ∃ f fd, FnOk P w K mg base CX0 4 f fd ["things", "size"] (spAreC K) ∧ mg "are_cells" = some (.ref f) ∧ PySem.W.keepIn K (.ref f) = true ∧ Binds K fd ["things", "size"] []
theorem desc_fine {l m : Int} {o : Option (List V)} : (∃ ns, Fine l m o ns) ∨ Foul l m o := by
  cases o with
  | none => exact .inr (.inl rfl)
  | some xs =>
    cases hall : AllOf l m xs with
    | false => exact .inr (.inr (.inl ⟨xs, rfl, hall⟩))
    | true =>
      obtain ⟨ns, rfl⟩ := of_ints hall
      by_cases hnd : ns.Nodup
      · exact .inl ⟨ns, rfl, hall, hnd⟩
      · exact .inr (.inr (.inr ⟨ns, rfl, hall, hnd⟩))
theorem ok_cells {f C : Addr} {fd : FuncData} (F : FunD K "cell_tuple" "cell_tuple" (defArgs sCells) (defBody sCells) (defScope sCells) [] [("size", .int 40)] f fd) (B : Bl mg) (T : CellsC K mg C)
    (D : HasAreC P w K mg base) (I : HasIni P w K mg base C) : FnOk P w K mg base (L2.CX P w) 5 f fd ["things", "size"] (spCells K C) := by
  obtain ⟨fD, fdD, GD, mD, kD, bD⟩ := D
  obtain ⟨fI, fdI, GI, iI, tI, bI⟩ := I
  refine F.ok scCells (fun vs H Q E h => ?_) (fun cdv A outer s H vs Q E hr h => ?_)
  · obtain ⟨v, n, o, rfl, _⟩ := h
    rfl
  · obtain ⟨v, n, o, rfl, desc, good, bad⟩ := h
    have r2 : Room 3 _ := hr.mono (by decide)
    rcases desc_cases desc with ⟨rfl, hno⟩ | ⟨a, xs, rfl, rfl, hq | hq, hl, hty⟩
    · refine ⟨_, pss_cons (ps_if (pt_not (pt_val (pe_call GD hr (by rfl) mD kD bD .nil pass0 (pa_cons (pv 0) (pa_cons (pv 1) pa_nil))))) (pss_one (ps_raise rfl (takes_of rfl rfl rfl rfl) (pmk_oex T.ox iI tI GI r2 bI .nil pass0 (by rfl) T.gC (pa_cons (pv 0) pa_nil)))) pss_nil)
      (pss_one (ps_ret (pe_callTy call_tuple_of (by rfl) B.tuple (by decide +kernel) (pa_cons (pe_callB cr_sortedI (by rfl) B.sorted (by decide +kernel) (pa_cons (pv 0) pa_nil)) pa_nil)))), ?_⟩
      refine ⟨_, rfl, _, rfl, v, n, none, rfl, hno, (fun ns fi => nomatch fi.1), fun fo H2 s2 => ⟨_, rfl, iteT ?_⟩⟩
      refine ⟨_, rfl, (by show 1 ≤ 1000; decide), made_ini fun d H' hd sm e => ?_⟩
      exact bad fo d H' (s2.free hd) (s2.trans sm) e
    · refine ⟨_, pss_cons (ps_if (pt_not (pt_val (pe_call GD hr (by rfl) mD kD bD .nil pass0 (pa_cons (pv 0) (pa_cons (pv 1) pa_nil))))) (pss_one (ps_raise rfl (takes_of rfl rfl rfl rfl) (pmk_oex T.ox iI tI GI r2 bI .nil pass0 (by rfl) T.gC (pa_cons (pv 0) pa_nil)))) pss_nil)
      (pss_one (ps_ret (pe_callTy call_tuple_of (by rfl) B.tuple (by decide +kernel) (pa_cons (pe_callB cr_sortedI (by rfl) B.sorted (by decide +kernel) (pa_cons (pv 0) pa_nil)) pa_nil)))), ?_⟩
      refine ⟨_, rfl, _, rfl, .ref a, n, some xs, rfl, desc, fun ns fi H2 s2 => ⟨_, rfl, iteF ?_⟩, fun fo H2 s2 => ⟨_, rfl, iteT ?_⟩⟩
      · have ex : xs = ns.map V.int := Option.some.inj fi.1
        subst ex
        refine ⟨_, rfl, a, ns, rfl, same_sq s2 hq, fun ms p2 pm pw hp2 => ?_⟩
        refine ⟨p2, _, rfl, .inl ⟨SqL.of upd_same, fun l hl2 => ?_⟩⟩
        have hl3 : H l = none := s2.free ((same_new hp2).free hl2)
        exact good ns fi l ms _ hl3 ((s2.trans (same_new hp2)).trans (same_new hl2)) pm pw upd_same
      · refine ⟨_, rfl, (by show 1 ≤ 1000; decide), made_ini fun d H' hd sm e => ?_⟩
        exact bad fo d H' (s2.free hd) (s2.trans sm) e
    · refine ⟨_, pss_cons (ps_if (pt_not (pt_val (pe_call GD hr (by rfl) mD kD bD .nil pass0 (pa_cons (pv 0) (pa_cons (pv 1) pa_nil))))) (pss_one (ps_raise rfl (takes_of rfl rfl rfl rfl) (pmk_oex T.ox iI tI GI r2 bI .nil pass0 (by rfl) T.gC (pa_cons (pv 0) pa_nil)))) pss_nil)
      (pss_one (ps_ret (pe_callTy call_tuple_of (by rfl) B.tuple (by decide +kernel) (pa_cons (pe_callB cr_sortedTup (by rfl) B.sorted (by decide +kernel) (pa_cons (pv 0) pa_nil)) pa_nil)))), ?_⟩
      refine ⟨_, rfl, _, rfl, .ref a, n, some xs, rfl, desc, fun ns fi H2 s2 => ⟨_, rfl, iteF ?_⟩, fun fo H2 s2 => ⟨_, rfl, iteT ?_⟩⟩
      · have ex : xs = ns.map V.int := Option.some.inj fi.1
        subst ex
        refine ⟨_, rfl, a, ns, rfl, same_sqt s2 hq, fun ms p2 pm pw hp2 => ?_⟩
        refine ⟨p2, _, rfl, .inl ⟨SqL.of upd_same, fun l hl2 => ?_⟩⟩
        have hl3 : H l = none := s2.free ((same_new hp2).free hl2)
        exact good ns fi l ms _ hl3 ((s2.trans (same_new hp2)).trans (same_new hl2)) pm pw upd_same
      · refine ⟨_, rfl, (by show 1 ≤ 1000; decide), made_ini fun d H' hd sm e => ?_⟩
        exact bad fo d H' (s2.free hd) (s2.trans sm) e
end
end K11
namespace K11
open PySem PySem.Spec PyProof.Rows L2 Par
theorem del_same' {H H' : Hp} {p : Addr} (h : But p H H') : Same (del H p) (del H' p) := fun b o e => by
  by_cases z : b = p
  · rw [z, del_same] at e
    cases e
  · rw [del_ne z] at e ⊢
    exact h b o z e
theorem del_sub (H : Hp) (p : Addr) : Same (del H p) H := fun b o e => by
  by_cases z : b = p
  · rw [z, del_same] at e
    cases e
  · rw [del_ne z] at e
    exact e
theorem del_at {H : Hp} {p b : Addr} {o : HO} (n : b ≠ p) (e : H b = some o) : del H p b = some o := by
  rw [del_ne n]
  exact e
def things (far : Int) (p1 p2 p3 p4 p5 p6 : Addr) : List V := [.non, .bl true, .bl false, .int (-1), .int 0, .int 1, .int 39, .int 40, .int 41, .int far, .int (-far), .str "", .str "1", .str "a", .str "ab",
  .ref p1, .ref p2, .ref p3, .ref p4, .ref p5, .ref p6]
theorem things_len (far : Int) (p1 p2 p3 p4 p5 p6 : Addr) : (things far p1 p2 p3 p4 p5 p6).length = 21 := rfl
theorem things_giv {K : PySem.W.Frag} {H : Hp} {far : Int} {p1 p2 p3 p4 p5 p6 : Addr} (hf : far.natAbs < 2 ^ 100) (h1 : H p1 = some (.tup [])) (h2 : H p2 = some (.lst [])) (h3 : H p3 = some (.dK []))
    (h4 : H p4 = some (.lst [.int 0])) (h5 : H p5 = some (.tup [.int 1])) (h6 : H p6 = some (.dK [(Sum.inl 1, .int 2)])) : ∀ v ∈ things far p1 p2 p3 p4 p5 p6, ∃ d, Giv K H v d ∧ good d := by
  have int : ∀ i : Int, i.natAbs < 2 ^ 100 → ∃ d, Giv K H (.int i) d ∧ good d := fun i hi => ⟨.int i, .fl (.int i), small_good (small_int hi)⟩
  intro v hv
  unfold things at hv
  simp only [List.mem_cons, List.not_mem_nil, or_false] at hv
  rcases hv with rfl | rfl | rfl | rfl | rfl | rfl | rfl | rfl | rfl | rfl | rfl | rfl | rfl | rfl | rfl | rfl | rfl | rfl | rfl | rfl | rfl
  · exact ⟨.none, .fl .non, ⟨by decide, by decide, by decide +kernel⟩⟩
  · exact ⟨_, .fl (.bl true), small_good (small_bool _)⟩
  · exact ⟨_, .fl (.bl false), small_good (small_bool _)⟩
  · exact int _ (by decide)
  · exact int _ (by decide)
  · exact int _ (by decide)
  · exact int _ (by decide)
  · exact int _ (by decide)
  · exact int _ (by decide)
  · exact int _ hf
  · exact int _ (by rw [Int.natAbs_neg]; exact hf)
  · exact ⟨_, .fl (.str _), ⟨by decide, by decide, by decide +kernel⟩⟩
  · exact ⟨_, .fl (.str _), ⟨by decide, by decide, by decide +kernel⟩⟩
  · exact ⟨_, .fl (.str _), ⟨by decide, by decide, by decide +kernel⟩⟩
  · exact ⟨_, .fl (.str _), ⟨by decide, by decide, by decide +kernel⟩⟩
  · exact ⟨_, .tup h1 .nil (by decide), good_tuple (fun d hd => by cases hd) (by decide)⟩
  · exact ⟨_, .lst h2 .nil (by decide), good_list (fun d hd => by cases hd) (by decide)⟩
  · exact ⟨_, .fl (.dic0 h3), ⟨by decide, by decide, by decide +kernel⟩⟩
  · exact ⟨_, .lst h4 (.cons (.int 0) .nil) (by decide), good_list (fun d hd => by rw [List.mem_singleton.mp hd]; exact small_int (by decide)) (by decide)⟩
  · exact ⟨_, .tup h5 (.cons (.int 1) .nil) (by decide), good_tuple (fun d hd => by rw [List.mem_singleton.mp hd]; exact small_int (by decide)) (by decide)⟩
  · exact ⟨_, .fl (.dic1 h6), ⟨by decide +kernel, by decide, by decide +kernel⟩⟩
section
variable {P : Program} {w : World} {K : PySem.W.Frag} {mg : Str → Option Value} {base : Heap}
def spAny (K : PySem.W.Frag) : Sp := fun vs H Q _ => ∃ p : Addr, vs = [.ref p] ∧ PotAt H p ∧
  ∀ v d H', But p H H' → PotAt H' p → Giv K (del H' p) v d → good d → Q v H'
theorem scAny : FnScope ["_law_pot_here", "_law_far", "_law_some"] ["_law_pot_here"] (defScope sAny) := ⟨rfl, rfl, rfl, by decide +kernel, rfl, by decide +kernel, by decide +kernel⟩
theorem pot_ne {H : Hp} {p q : Addr} (hp : PotAt H p) (hq : H q = none) : q ≠ p := fun z => by
  subst z
  obtain ⟨_, _, e, _⟩ := hp
  rw [hq] at e
  cases e
theorem ok_any {f : Addr} {fd : FuncData} (F : Fun K "_law_any_thing" "_law_any_thing" sAny f fd) (B : Bl mg) (D : Has P w K mg base "_law_draw" 2 ["_law_pot_here", "_law_many"] spDraw) :
    FnOk P w K mg base CX0 3 f fd ["_law_pot_here"] (spAny K) := by
  obtain ⟨fD, fdD, GD, mD, kD, bD⟩ := D
  refine F.ok scAny (fun vs H Q E h => ?_) (fun cdv A outer s H vs Q E hr h => ?_)
  · obtain ⟨p, rfl, _⟩ := h
    rfl
  · obtain ⟨p, rfl, hp, out⟩ := h
    refine ⟨_, pss_cons (ps_set (i := 1) scAny.nd rfl (Or.inl rfl) (pe_op op_add (pe_op op_pow pe_int pe_int) (pe_call GD hr (by rfl) mD kD bD .nil pass0 (pa_cons (pv 0) (pa_cons (pe_op op_pow pe_int pe_int) pa_nil)))))
      (pss_cons (ps_set (i := 2) scAny.nd rfl (Or.inl rfl) (pe_lst (pa_cons pe_non (pa_cons pe_bl (pa_cons pe_bl (pa_cons (pe_un un_neg pe_int) (pa_cons pe_int (pa_cons pe_int (pa_cons pe_int (pa_cons pe_int (pa_cons pe_int
        (pa_cons (pv 1) (pa_cons (pe_un un_neg (pv 1)) (pa_cons pe_str (pa_cons pe_str (pa_cons pe_str (pa_cons pe_str (pa_cons (pe_tup pa_nil) (pa_cons (pe_lst pa_nil) (pa_cons pe_dnewK (pa_cons (pe_lst (pa_cons pe_int pa_nil)) (pa_cons (pe_tup (pa_cons pe_int pa_nil))
        (pa_cons (pe_disp (pps_cons pe_int pe_int pps_nil) (by rfl) (by rfl) (fun z => by cases z) (by decide)) pa_nil)))))))))))))))))))))))
      (pss_one (ps_ret (pe_ix ix_list (pv 2) (pe_call GD hr (by rfl) mD kD bD .nil pass0 (pa_cons (pv 0) (pa_cons (pe_callB call_len_seq (by rfl) B.len PySem.boot_len (pa_cons (pv 2) pa_nil)) pa_nil))) (fun _ _ => rfl))))), ?_⟩
    refine ⟨10, 20, rfl, rfl, ⟨by decide, by decide, by decide⟩, _, rfl, 10, 9, rfl, rfl, ⟨by decide, by decide, by decide⟩, p, _, rfl, hp, by decide, by decide, ?_⟩
    intro d1 H1 d0 dl b1 hp1
    refine ⟨_, _, rfl, rfl, ?_⟩
    refine ⟨1, rfl, _, rfl, _, rfl, _, rfl, ?_⟩
    refine ⟨by decide, fun p1 h1 => ⟨by decide, fun p2 h2 p3 h3 => ⟨by decide, fun p4 h4 => ⟨by decide, fun p5 h5 p6 h6 => ?_⟩⟩⟩⟩
    refine ⟨upd_same, [(Sum.inl 1, .int 2)], rfl, by decide, (by show 21 ≤ sizeLine; decide), fun L hL => ?_⟩
    rw [upd_upd] at hL ⊢
    have s1 := same_new (o := .tup []) h1
    have s2 := same_new (o := .lst []) h2
    have s3 := same_new (o := .dK []) h3
    have s4 := same_new (o := .lst [.int 0]) h4
    have s5 := same_new (o := .tup [.int 1]) h5
    have s6 := same_new (o := .dK (mergeK [] [(Sum.inl 1, .int 2)])) h6
    have s7 := same_new (o := .lst (things (10 ^ 20 + d1) p1 p2 p3 p4 p5 p6)) hL
    have t6 := s6.trans s7
    have t5 := s5.trans t6
    have t4 := s4.trans t5
    have t3 := s3.trans t4
    have t2 := s2.trans t3
    have g1 := t2 _ _ (upd_same (H := H1) (a := p1) (o := .tup []))
    have g2 := t3 _ _ (upd_same (a := p2) (o := .lst []))
    have g3 := t4 _ _ (upd_same (a := p3) (o := .dK []))
    have g4 := t5 _ _ (upd_same (a := p4) (o := .lst [.int 0]))
    have g5 := t6 _ _ (upd_same (a := p5) (o := .tup [.int 1]))
    have g6 := s7 _ _ (upd_same (a := p6) (o := .dK (mergeK [] [(Sum.inl 1, .int 2)])))
    have sAll := s1.trans t2
    have hpG := hp1.same sAll
    have n1 : p1 ≠ p := pot_ne hp1 h1
    have n2 : p2 ≠ p := pot_ne (hp1.same s1) h2
    have n3 : p3 ≠ p := pot_ne (hp1.same (s1.trans s2)) h3
    have n4 : p4 ≠ p := pot_ne (hp1.same (s1.trans (s2.trans s3))) h4
    have n5 : p5 ≠ p := pot_ne (hp1.same (s1.trans (s2.trans (s3.trans s4)))) h5
    have n6 : p6 ≠ p := pot_ne (hp1.same (s1.trans (s2.trans (s3.trans (s4.trans s5))))) h6
    have nL : L ≠ p := pot_ne (hp1.same (s1.trans (s2.trans (s3.trans (s4.trans (s5.trans s6)))))) hL
    refine ⟨_, rfl, _, rfl, _, rfl, L, things (10 ^ 20 + d1) p1 p2 p3 p4 p5 p6, rfl, .inl (SqL.of upd_same), p, 21, rfl, hpG, by decide, by decide, ?_⟩
    intro d2 H9 e0 e1 b9 hp9
    have hk : d2.toNat < (things (10 ^ 20 + d1) p1 p2 p3 p4 p5 p6).length := by
      rw [things_len]
      omega
    have hx : (things (10 ^ 20 + d1) p1 p2 p3 p4 p5 p6)[d2.toNat]? = some (things (10 ^ 20 + d1) p1 p2 p3 p4 p5 p6)[d2.toNat] := by simp [hk]
    have hat : atI (things (10 ^ 20 + d1) p1 p2 p3 p4 p5 p6) d2 = some (things (10 ^ 20 + d1) p1 p2 p3 p4 p5 p6)[d2.toNat] := by
      have q := atI_nat hx
      rw [show ((d2.toNat : Nat) : Int) = d2 by omega] at q
      exact q
    refine ⟨L, _, d2, _, rfl, rfl, SqL.of (b9 L _ nL upd_same), hat, ?_⟩
    have hfar : ((10 : Int) ^ 20 + d1).natAbs < 2 ^ 100 := by
      have q : d1 < 1000000000 := dl
      have q2 : ((10 : Int) ^ 20) = 100000000000000000000 := by decide
      rw [q2, show (2 : Nat) ^ 100 = 1267650600228229401496703205376 by decide]
      omega
    obtain ⟨d, hd, hg⟩ := things_giv (K := K) (H := del H9 p) hfar (del_at n1 (b9 _ _ n1 g1)) (del_at n2 (b9 _ _ n2 g2)) (del_at n3 (b9 _ _ n3 g3)) (del_at n4 (b9 _ _ n4 g4)) (del_at n5 (b9 _ _ n5 g5)) (del_at n6 (b9 _ _ n6 g6)) _ (List.getElem_mem hk)
    exact out _ d H9 ((b1.trans (But.same sAll)).trans b9) hp9 hd hg
end
end K11
namespace K11
open PySem PySem.Spec PyProof.Rows L2 Par
/-- is the j-th none of those ahead of it -/
def fresh (ns : List Int) (j : Nat) : Bool := !(ns.take j).any fun y => y == ns.getD j 0
theorem fresh_all (ns : List Int) : ((List.range ns.length).map (fresh ns)).all id = decide ns.Nodup := by
  rw [Bool.eq_iff_iff, List.all_map, List.all_eq_true, decide_eq_true_eq]
  constructor
  · intro h
    show ns.Pairwise (· ≠ ·)
    rw [List.pairwise_iff_getElem]
    intro i j hi hj hij e
    have h1 : fresh ns j = true := h j (List.mem_range.mpr hj)
    unfold fresh at h1
    have h2 : ((ns.take j).any fun y => y == ns.getD j 0) = true := by
      rw [List.any_eq_true]
      refine ⟨ns[i], ?_, ?_⟩
      · rw [List.mem_take_iff_getElem]
        exact ⟨i, by omega, rfl⟩
      · rw [e, List.getD_eq_getElem?_getD, List.getElem?_eq_getElem hj]
        simp
    rw [h2] at h1
    cases h1
  · intro h j hj
    have hj2 := List.mem_range.mp hj
    have hp : ns.Pairwise (· ≠ ·) := h
    rw [List.pairwise_iff_getElem] at hp
    show fresh ns j = true
    unfold fresh
    rw [Bool.not_eq_true']
    rw [Bool.eq_false_iff]
    intro z
    obtain ⟨y, hy, e⟩ := List.any_eq_true.mp z
    obtain ⟨i, hi, e2⟩ := List.mem_take_iff_getElem.mp hy
    have e3 : y = ns[j] := by
      have q : y = ns.getD j 0 := by simpa using e
      rw [q, List.getD_eq_getElem?_getD, List.getElem?_eq_getElem hj2]
      rfl
    exact hp i j (by omega) hj2 (by omega) (by rw [e2, e3])
theorem in_ints (x : Int) (ns : List Int) : inV (.int x) (ns.map V.int) = ns.any fun y => y == x := by
  unfold inV
  rw [List.any_map]
  rfl
theorem flat_ints (ns : List Int) : (ns.map V.int).all flatV = true := by
  rw [List.all_map, List.all_eq_true]
  intro x _
  rfl
theorem notwhole (xs : List V) (i : Nat) (h : i < xs.length) : ¬ (HT.sIx xs.length 0 none = 0 ∧ HT.sIx xs.length xs.length (some (i : Int)) = xs.length) := by
  rintro ⟨_, z⟩
  rw [HT.sIx_nat] at z
  omega
theorem cut_take (xs : List V) (i : Nat) (h : i ≤ xs.length) : cutV xs none (some (i : Int)) = xs.take i := by
  unfold cutV
  rw [HT.sIx_none, HT.sIx_nat, Nat.min_eq_left h]
  rfl
section
variable {P : Program} {w : World} {K : PySem.W.Frag} {mg : Str → Option Value} {base : Heap}
/-- distinct whole numbers from l to m - 1, in a list or tuple -/
def spAre (K : PySem.W.Frag) : Sp := fun vs H Q _ => ∃ (v : V) (l m : Int) (o : Option (List V)), vs = [v, .int l, .int m] ∧ Desc K H v o ∧
  (∀ ns, Fine l m o ns → ∀ H', Same H H' → Q (.bl true) H') ∧ (Foul l m o → ∀ H', Same H H' → Q (.bl false) H')
abbrev nAre : List Str := ["_law_given", "_law_least", "_law_width", "_law_one", "_law_at"]
theorem scAre : FnScope nAre ["_law_given", "_law_least", "_law_width"] (defScope sAre) := ⟨rfl, rfl, rfl, by decide +kernel, rfl, by decide +kernel, by decide +kernel⟩
theorem ok_are {f : Addr} {fd : FuncData} (F : Fun K "_law_are_spots" "_law_are_spots" sAre f fd) (B : Bl mg) (D : Has P w K mg base "_law_is_int" 2 ["_law_item", "_law_low", "_law_high"] (spBetween K)) :
    FnOk P w K mg base CX0 3 f fd ["_law_given", "_law_least", "_law_width"] (spAre K) := by
  obtain ⟨fD, fdD, GD, mD, kD, bD⟩ := D
  refine F.ok scAre (fun vs H Q E h => ?_) (fun cdv A outer s H vs Q E hr h => ?_)
  · obtain ⟨v, l, m, o, rfl, _⟩ := h
    rfl
  · obtain ⟨v, l, m, o, rfl, desc, good, bad⟩ := h
    rcases desc_cases desc with ⟨rfl, hno⟩ | ⟨a, xs, rfl, rfl, hq | hq, hl, hty⟩
    · refine ⟨_, pss_cons (ps_if (PW.pt (pw_or (pt_not (pt_val (pe_callB call_isiT (by rfl) B.isinstance (by decide +kernel) (pa_cons (pv 0) (pa_cons (pe_tup (pa_cons (pe_bltn (v := .ty "list") (by rfl) B.list (by decide +kernel) rfl) (pa_cons (pe_bltn (v := .ty "tuple") (by rfl) B.tuple (by decide +kernel) rfl) pa_nil))) pa_nil)))))
        (pw_or1 (pt_not (pt_val (pe_callB (cr_all rfl) (by rfl) B.all (by decide +kernel) (pa_cons (pe_lc (own := [("_law_one", 3)]) (g := gName 3) (te := tCall (spBetween K) [] E0 (tCons (tVar 3) (tCons (tVar 1) (tCons (tOp (rI0 fun i j => .int (i - j)) (tVar 2) (tC (.int 1))) tNil)))) rfl scAre.nd (pi_list (pv 0)) (blkOk_by (own := [("_law_one", 3)]) (N := nAre) (sc := defScope sAre) (by decide +kernel))
          (fun _ _ _ _ _ => pg_name (i := 3) scAre.nd rfl (Or.inl rfl)) (fun _ _ _ _ _ => pts_nil) (fun _ _ _ _ _ => by exact pe_call GD hr (by rfl) mD kD bD .nil pass0 (pa_cons (pv 3) (pa_cons (pv 1) (pa_cons (pe_op op_sub (pv 2) pe_int) pa_nil))))) pa_nil))))))) (pss_one (ps_ret pe_bl)) pss_nil)
      (pss_one (ps_ret (pe_callB (cr_all rfl) (by rfl) B.all (by decide +kernel) (pa_cons (pe_lc (own := [("_law_at", 4), ("_law_one", 3)]) (g := gTup K 2 (gCons (gName 4) (gCons (gName 3) gNil))) (te := tOp (rIn K true) (tVar 3) (tSl (rSlL K) (tVar 0) tNoPart (tPart (tVar 4)))) rfl scAre.nd (pi_enum (by rfl) B.enumerate (pa_cons (pv 0) pa_nil)) (blkOk_by (own := [("_law_at", 4), ("_law_one", 3)]) (N := nAre) (sc := defScope sAre) (by decide +kernel))
          (fun _ _ _ _ _ => by exact pg_tup rfl (pgs_cons (pg_name (i := 4) scAre.nd rfl (Or.inl rfl)) (pgs_cons (pg_name (i := 3) scAre.nd rfl (Or.inl rfl)) pgs_nil))) (fun _ _ _ _ _ => pts_nil) (fun _ _ _ _ _ => by exact pe_cmpR op_notIn_seq (pv 3) (pe_slice sl_list (pv 0) po_none (po_some (pv 4))) (by rfl))) pa_nil)))), ?_⟩
      obtain ⟨nm, ty, hn⟩ := id hno
      refine ⟨_, rfl, by decide, fun p hp => ?_⟩
      refine ⟨_, p, _, _, _, false, rfl, upd_same, .cons (.ty _) (.cons (.ty _) .nil), same_tyx (same_new hp) ty, kit_noseq hn, _, rfl, iteT (iteT ?_)⟩
      exact bad (.inl rfl) _ (same_new hp)
    · refine ⟨_, pss_cons (ps_if (PW.pt (pw_or (pt_not (pt_val (pe_callB call_isiT (by rfl) B.isinstance (by decide +kernel) (pa_cons (pv 0) (pa_cons (pe_tup (pa_cons (pe_bltn (v := .ty "list") (by rfl) B.list (by decide +kernel) rfl) (pa_cons (pe_bltn (v := .ty "tuple") (by rfl) B.tuple (by decide +kernel) rfl) pa_nil))) pa_nil)))))
        (pw_or1 (pt_not (pt_val (pe_callB (cr_all rfl) (by rfl) B.all (by decide +kernel) (pa_cons (pe_lc (own := [("_law_one", 3)]) (g := gName 3) (te := tCall (spBetween K) [] E0 (tCons (tVar 3) (tCons (tVar 1) (tCons (tOp (rI0 fun i j => .int (i - j)) (tVar 2) (tC (.int 1))) tNil)))) rfl scAre.nd (pi_list (pv 0)) (blkOk_by (own := [("_law_one", 3)]) (N := nAre) (sc := defScope sAre) (by decide +kernel))
          (fun _ _ _ _ _ => pg_name (i := 3) scAre.nd rfl (Or.inl rfl)) (fun _ _ _ _ _ => pts_nil) (fun _ _ _ _ _ => by exact pe_call GD hr (by rfl) mD kD bD .nil pass0 (pa_cons (pv 3) (pa_cons (pv 1) (pa_cons (pe_op op_sub (pv 2) pe_int) pa_nil))))) pa_nil))))))) (pss_one (ps_ret pe_bl)) pss_nil)
      (pss_one (ps_ret (pe_callB (cr_all rfl) (by rfl) B.all (by decide +kernel) (pa_cons (pe_lc (own := [("_law_at", 4), ("_law_one", 3)]) (g := gTup K 2 (gCons (gName 4) (gCons (gName 3) gNil))) (te := tOp (rIn K true) (tVar 3) (tSl (rSlL K) (tVar 0) tNoPart (tPart (tVar 4)))) rfl scAre.nd (pi_enum (by rfl) B.enumerate (pa_cons (pv 0) pa_nil)) (blkOk_by (own := [("_law_at", 4), ("_law_one", 3)]) (N := nAre) (sc := defScope sAre) (by decide +kernel))
          (fun _ _ _ _ _ => by exact pg_tup rfl (pgs_cons (pg_name (i := 4) scAre.nd rfl (Or.inl rfl)) (pgs_cons (pg_name (i := 3) scAre.nd rfl (Or.inl rfl)) pgs_nil))) (fun _ _ _ _ _ => pts_nil) (fun _ _ _ _ _ => by exact pe_cmpR op_notIn_seq (pv 3) (pe_slice sl_list (pv 0) po_none (po_some (pv 4))) (by rfl))) pa_nil)))), ?_⟩
      refine ⟨_, rfl, by decide, fun p hp => ?_⟩
      have s1 : Same H (upd H p (.tup [.ty "list", .ty "tuple"])) := same_new hp
      refine ⟨_, p, _, _, _, true, rfl, upd_same, .cons (.ty _) (.cons (.ty _) .nil), sq_ty (same_sq s1 hq), kit_seq (by simp), _, rfl, iteF ?_⟩
      refine ⟨_, rfl, a, rfl, ⟨_, same_sq s1 hq⟩, fun D hD => ?_⟩
      refine lc_list (K := K) (a := a) (xs := xs) (fun i H' => Same H H' ∧ H' D = some (.lst ((xs.take i).map fun x => .bl (isV x l (m - 1))))) ⟨s1.trans (same_new hD), upd_same⟩ (fun i H' _ h => same_sq h.1 hq) ?_ ?_
      · rintro i x H2 hx ⟨s2, hD2⟩
        have xm : x ∈ xs := List.mem_of_getElem? hx
        have xi : i < xs.length := by
          rcases Nat.lt_or_ge i xs.length with z | z
          · exact z
          · rw [List.getElem?_eq_none z] at hx
            cases hx
        refine ⟨rfl, yesT ?_⟩
        refine ⟨_, rfl, _, rfl, _, rfl, m, 1, rfl, rfl, x, l, m - 1, rfl, same_typed s2 (hty x xm), _, hD2, ?_, ?_, ?_⟩
        · rw [List.length_map, List.length_take]
          exact small1000 (by omega)
        · intro b o e
          have hDb : H D = none := s1.free hD
          rw [upd_ne (ne_of_none e hDb)]
          exact s2 b o e
        · rw [upd_same, List.take_succ, hx, List.map_append]
          rfl
      rintro H2 ⟨s2, hD2⟩
      rw [List.take_length] at hD2
      refine ⟨D, xs.map fun x => isV x l (m - 1), rfl, SqL.of (by rw [hD2, List.map_map]; rfl), _, rfl, ?_⟩
      have eall : (xs.map fun x => isV x l (m - 1)).all id = AllOf l m xs := by simp [AllOf]
      rw [eall]
      cases hall : AllOf l m xs with
      | false =>
        refine iteT ?_
        exact bad (.inr (.inl ⟨xs, rfl, hall⟩)) _ s2
      | true =>
        obtain ⟨ns, rfl⟩ := of_ints hall
        have hlen : ns.length ≤ 500 := by rw [List.length_map] at hl; exact hl
        refine iteF ⟨_, rfl, a, _, rfl, same_sq s2 hq, fun D3 hD3 => ?_⟩
        have hD3H : H D3 = none := s2.free hD3
        refine lc_it walk_enum (fun i H' => Same H H' ∧ H' D3 = some (.lst ((List.range i).map fun j => .bl (fresh ns j)))) ⟨s2.trans (same_new hD3), upd_same⟩ (fun i H' _ h => same_sq h.1 hq) ?_ ?_
        · rintro i x H3 H4 hi ⟨s3, hD4⟩ ⟨T, x1, y1, rfl, hT, rfl, ex, ey⟩
          have hi2 : i < ns.length := by rw [List.length_map] at hi; exact hi
          have ey2 : y1 = .int ns[i] := by
            have ey' : (ns.map V.int)[i]? = some y1 := ey
            rw [List.getElem?_map, List.getElem?_eq_getElem hi2] at ey'
            exact (Option.some.inj ey').symm
          have ex2 : x1 = .int (i : Nat) := (Option.some.inj ex).symm
          subst ey2 ex2
          have s4 : Same H (upd H3 T (.tup [.int (i : Nat), .int ns[i]])) := s3.trans (same_new hT)
          refine ⟨T, _, rfl, SqT.of upd_same, rfl, _, _, rfl, _, _, rfl, rfl, rfl, yesT ?_⟩
          refine ⟨_, rfl, _, rfl, _, rfl, (i : Nat), rfl, a, _, rfl, same_sq s4 hq, fun q hqn => ?_⟩
          have ecut : cutV (ns.map V.int) none (some ((i : Nat) : Int)) = (ns.take i).map V.int := by
            rw [cut_take _ _ (by rw [List.length_map]; omega), List.map_take]
          rw [ecut]
          refine ⟨q, _, rfl, .inl (SqL.of upd_same), rfl, flat_ints _, ?_⟩
          have hD5 : (upd (upd H3 T (.tup [.int (i : Nat), .int ns[i]])) q (.lst ((ns.take i).map V.int))) D3 = some (.lst ((List.range i).map fun j => .bl (fresh ns j))) := (same_new hqn) _ _ ((same_new hT) _ _ hD4)
          refine ⟨_, hD5, (by rw [List.length_map, List.length_range]; exact small1000 (by omega)), ?_, ?_⟩
          · intro b o e
            rw [upd_ne (ne_of_none e hD3H)]
            exact (same_new hqn) _ _ (s4 b o e)
          · rw [upd_same, List.range_succ, List.map_append]
            have ef : fresh ns i = !inV (.int ns[i]) ((ns.take i).map V.int) := by
              rw [in_ints]
              unfold fresh
              rw [List.getD_eq_getElem?_getD, List.getElem?_eq_getElem hi2]
              rfl
            show some (HO.lst (_ ++ [V.bl (!inV (.int ns[i]) ((ns.take i).map V.int))])) = some (HO.lst (_ ++ [V.bl (fresh ns i)]))
            rw [ef]
        · rintro H3 ⟨s3, hD4⟩
          rw [List.length_map] at hD4
          refine ⟨D3, (List.range ns.length).map (fresh ns), rfl, SqL.of (by rw [hD4, List.map_map]; rfl), ?_⟩
          rw [fresh_all]
          by_cases hnd : ns.Nodup
          · rw [decide_eq_true hnd]
            exact good ns ⟨rfl, hall, hnd⟩ _ s3
          · rw [decide_eq_false hnd]
            exact bad (.inr (.inr ⟨ns, rfl, hall, hnd⟩)) _ s3
    · refine ⟨_, pss_cons (ps_if (PW.pt (pw_or (pt_not (pt_val (pe_callB call_isiT (by rfl) B.isinstance (by decide +kernel) (pa_cons (pv 0) (pa_cons (pe_tup (pa_cons (pe_bltn (v := .ty "list") (by rfl) B.list (by decide +kernel) rfl) (pa_cons (pe_bltn (v := .ty "tuple") (by rfl) B.tuple (by decide +kernel) rfl) pa_nil))) pa_nil)))))
        (pw_or1 (pt_not (pt_val (pe_callB (cr_all rfl) (by rfl) B.all (by decide +kernel) (pa_cons (pe_lc (own := [("_law_one", 3)]) (g := gName 3) (te := tCall (spBetween K) [] E0 (tCons (tVar 3) (tCons (tVar 1) (tCons (tOp (rI0 fun i j => .int (i - j)) (tVar 2) (tC (.int 1))) tNil)))) rfl scAre.nd (pi_tup (pv 0)) (blkOk_by (own := [("_law_one", 3)]) (N := nAre) (sc := defScope sAre) (by decide +kernel))
          (fun _ _ _ _ _ => pg_name (i := 3) scAre.nd rfl (Or.inl rfl)) (fun _ _ _ _ _ => pts_nil) (fun _ _ _ _ _ => by exact pe_call GD hr (by rfl) mD kD bD .nil pass0 (pa_cons (pv 3) (pa_cons (pv 1) (pa_cons (pe_op op_sub (pv 2) pe_int) pa_nil))))) pa_nil))))))) (pss_one (ps_ret pe_bl)) pss_nil)
      (pss_one (ps_ret (pe_callB (cr_all rfl) (by rfl) B.all (by decide +kernel) (pa_cons (pe_lc (own := [("_law_at", 4), ("_law_one", 3)]) (g := gTup K 2 (gCons (gName 4) (gCons (gName 3) gNil))) (te := tOp (rIn K true) (tVar 3) (tSl (rSlT K) (tVar 0) tNoPart (tPart (tVar 4)))) rfl scAre.nd (pi_enumT (by rfl) B.enumerate (pa_cons (pv 0) pa_nil)) (blkOk_by (own := [("_law_at", 4), ("_law_one", 3)]) (N := nAre) (sc := defScope sAre) (by decide +kernel))
          (fun _ _ _ _ _ => by exact pg_tup rfl (pgs_cons (pg_name (i := 4) scAre.nd rfl (Or.inl rfl)) (pgs_cons (pg_name (i := 3) scAre.nd rfl (Or.inl rfl)) pgs_nil))) (fun _ _ _ _ _ => pts_nil) (fun _ _ _ _ _ => by exact pe_cmpR op_notIn_seq (pv 3) (pe_slice sl_tup (pv 0) po_none (po_some (pv 4))) (by rfl))) pa_nil)))), ?_⟩
      refine ⟨_, rfl, by decide, fun p hp => ?_⟩
      have s1 : Same H (upd H p (.tup [.ty "list", .ty "tuple"])) := same_new hp
      refine ⟨_, p, _, _, _, true, rfl, upd_same, .cons (.ty _) (.cons (.ty _) .nil), sqt_ty (same_sqt s1 hq), kit_seq (by simp), _, rfl, iteF ?_⟩
      refine ⟨_, rfl, a, rfl, ⟨_, same_sqt s1 hq⟩, fun D hD => ?_⟩
      refine lc_tup (K := K) (a := a) (xs := xs) (fun i H' => Same H H' ∧ H' D = some (.lst ((xs.take i).map fun x => .bl (isV x l (m - 1))))) ⟨s1.trans (same_new hD), upd_same⟩ (fun i H' _ h => same_sqt h.1 hq) ?_ ?_
      · rintro i x H2 hx ⟨s2, hD2⟩
        have xm : x ∈ xs := List.mem_of_getElem? hx
        have xi : i < xs.length := by
          rcases Nat.lt_or_ge i xs.length with z | z
          · exact z
          · rw [List.getElem?_eq_none z] at hx
            cases hx
        refine ⟨rfl, yesT ?_⟩
        refine ⟨_, rfl, _, rfl, _, rfl, m, 1, rfl, rfl, x, l, m - 1, rfl, same_typed s2 (hty x xm), _, hD2, ?_, ?_, ?_⟩
        · rw [List.length_map, List.length_take]
          exact small1000 (by omega)
        · intro b o e
          have hDb : H D = none := s1.free hD
          rw [upd_ne (ne_of_none e hDb)]
          exact s2 b o e
        · rw [upd_same, List.take_succ, hx, List.map_append]
          rfl
      rintro H2 ⟨s2, hD2⟩
      rw [List.take_length] at hD2
      refine ⟨D, xs.map fun x => isV x l (m - 1), rfl, SqL.of (by rw [hD2, List.map_map]; rfl), _, rfl, ?_⟩
      have eall : (xs.map fun x => isV x l (m - 1)).all id = AllOf l m xs := by simp [AllOf]
      rw [eall]
      cases hall : AllOf l m xs with
      | false =>
        refine iteT ?_
        exact bad (.inr (.inl ⟨xs, rfl, hall⟩)) _ s2
      | true =>
        obtain ⟨ns, rfl⟩ := of_ints hall
        have hlen : ns.length ≤ 500 := by rw [List.length_map] at hl; exact hl
        refine iteF ⟨_, rfl, a, _, rfl, same_sqt s2 hq, fun D3 hD3 => ?_⟩
        have hD3H : H D3 = none := s2.free hD3
        refine lc_it walk_enumT (fun i H' => Same H H' ∧ H' D3 = some (.lst ((List.range i).map fun j => .bl (fresh ns j)))) ⟨s2.trans (same_new hD3), upd_same⟩ (fun i H' _ h => same_sqt h.1 hq) ?_ ?_
        · rintro i x H3 H4 hi ⟨s3, hD4⟩ ⟨T, x1, y1, rfl, hT, rfl, ex, ey⟩
          have hi2 : i < ns.length := by rw [List.length_map] at hi; exact hi
          have ey2 : y1 = .int ns[i] := by
            have ey' : (ns.map V.int)[i]? = some y1 := ey
            rw [List.getElem?_map, List.getElem?_eq_getElem hi2] at ey'
            exact (Option.some.inj ey').symm
          have ex2 : x1 = .int (i : Nat) := (Option.some.inj ex).symm
          subst ey2 ex2
          have s4 : Same H (upd H3 T (.tup [.int (i : Nat), .int ns[i]])) := s3.trans (same_new hT)
          refine ⟨T, _, rfl, SqT.of upd_same, rfl, _, _, rfl, _, _, rfl, rfl, rfl, yesT ?_⟩
          refine ⟨_, rfl, _, rfl, _, rfl, (i : Nat), rfl, a, _, rfl, same_sqt s4 hq, notwhole (ns.map V.int) i hi, fun q hqn => ?_⟩
          have ecut : cutV (ns.map V.int) none (some ((i : Nat) : Int)) = (ns.take i).map V.int := by
            rw [cut_take _ _ (by rw [List.length_map]; omega), List.map_take]
          rw [ecut]
          refine ⟨q, _, rfl, .inr (SqT.of upd_same), rfl, flat_ints _, ?_⟩
          have hD5 : (upd (upd H3 T (.tup [.int (i : Nat), .int ns[i]])) q (.tup ((ns.take i).map V.int))) D3 = some (.lst ((List.range i).map fun j => .bl (fresh ns j))) := (same_new hqn) _ _ ((same_new hT) _ _ hD4)
          refine ⟨_, hD5, (by rw [List.length_map, List.length_range]; exact small1000 (by omega)), ?_, ?_⟩
          · intro b o e
            rw [upd_ne (ne_of_none e hD3H)]
            exact (same_new hqn) _ _ (s4 b o e)
          · rw [upd_same, List.range_succ, List.map_append]
            have ef : fresh ns i = !inV (.int ns[i]) ((ns.take i).map V.int) := by
              rw [in_ints]
              unfold fresh
              rw [List.getD_eq_getElem?_getD, List.getElem?_eq_getElem hi2]
              rfl
            show some (HO.lst (_ ++ [V.bl (!inV (.int ns[i]) ((ns.take i).map V.int))])) = some (HO.lst (_ ++ [V.bl (fresh ns i)]))
            rw [ef]
        · rintro H3 ⟨s3, hD4⟩
          rw [List.length_map] at hD4
          refine ⟨D3, (List.range ns.length).map (fresh ns), rfl, SqL.of (by rw [hD4, List.map_map]; rfl), ?_⟩
          rw [fresh_all]
          by_cases hnd : ns.Nodup
          · rw [decide_eq_true hnd]
            exact good ns ⟨rfl, hall, hnd⟩ _ s3
          · rw [decide_eq_false hnd]
            exact bad (.inr (.inr ⟨ns, rfl, hall, hnd⟩)) _ s3
end
end K11
namespace K11
open PySem PySem.Spec PyProof.Rows L2 Par
theorem rising_len {ns : List Int} {l m : Int} (h : ns.Pairwise (· < ·)) (b : ∀ n ∈ ns, l ≤ n ∧ n < m) : ns.length ≤ (m - l).toNat := by
  have nd : ns.Nodup := h.imp (fun z => by omega)
  have := nodup_le (L := ns) (M := (List.range (m - l).toNat).map fun i => l + (i : Nat)) nd (fun k hk => by
    have := b k hk
    exact List.mem_map.mpr ⟨(k - l).toNat, List.mem_range.mpr (by omega), by omega⟩)
  rw [List.length_map, List.length_range] at this
  exact this
theorem lay_ints : ∀ ns : List Int, PyData.canLayAll0 (ns.map PyData.int) = true
  | [] => rfl
  | n :: ns => by
    show (PyData.canLay0 (.int n) && PyData.canLayAll0 (ns.map PyData.int)) = true
    rw [lay_ints ns]
    rfl
theorem depth_ints : ∀ ns : List Int, PyData.depthAll (ns.map PyData.int) = 0
  | [] => rfl
  | n :: ns => by
    show max 0 (PyData.depthAll (ns.map PyData.int)) = 0
    rw [depth_ints ns]
    rfl
theorem shaped_ints (ns : List Int) : SeqAt.shaped (.list (ns.map PyData.int)) = true := by
  show (PyData.canLayAll0 (ns.map PyData.int) && decide (PyData.depthAll (ns.map PyData.int) + 1 ≤ 64)) = true
  rw [lay_ints, depth_ints]
  rfl
def odds (m : Int) (p4 p5 : Addr) : List V := [.bl true, .bl false, .non, .str "1", .ref p4, .ref p5, .int (-1), .int m]
theorem odds_len (m : Int) (p4 p5 : Addr) : (odds m p4 p5).length = 8 := rfl
theorem odds_dp {K : PySem.W.Frag} {H : Hp} {m : Int} {p4 p5 : Addr} (hm : 0 ≤ m ∧ m < 1000) (h4 : H p4 = some (.lst [.int 1])) (h5 : H p5 = some (.tup [.int 0])) :
    ∀ v ∈ odds m p4 p5, ∃ d, Dp K H v d ∧ small d := by
  intro v hv
  unfold odds at hv
  simp only [List.mem_cons, List.not_mem_nil, or_false] at hv
  rcases hv with rfl | rfl | rfl | rfl | rfl | rfl | rfl | rfl
  · exact ⟨_, .bl _, small_bool _⟩
  · exact ⟨_, .bl _, small_bool _⟩
  · exact ⟨_, .non, ⟨by decide, by decide, by decide +kernel⟩⟩
  · exact ⟨_, .str _, ⟨by decide, by decide, by decide +kernel⟩⟩
  · exact ⟨_, .lst (SqL.of h4) (.cons (.int 1) .nil), ⟨by decide +kernel, by decide, by decide +kernel⟩⟩
  · exact ⟨_, .tup (SqT.of h5) (.cons (.int 0) .nil), ⟨by decide +kernel, by decide, by decide +kernel⟩⟩
  · exact ⟨_, .int _, small_int (by decide)⟩
  · refine ⟨_, .int _, small_int ?_⟩
    have e : (2 : Nat) ^ 100 = 1267650600228229401496703205376 := by decide
    rw [e]
    omega
section
variable {P : Program} {w : World} {K : PySem.W.Frag} {mg : Str → Option Value} {base : Heap}
def spOdd (K : PySem.W.Frag) : Sp := fun vs H Q _ => ∃ (p : Addr) (m : Int), vs = [.ref p, .int m] ∧ PotAt H p ∧ 1 ≤ m ∧ m ≤ 40 ∧
  ∀ v d H', But p H H' → PotAt H' p → Giv K (del H' p) v d → good d → Q v H'
abbrev nOdd : List Str := ["_law_pot_here", "_law_width", "_law_spots_here", "_law_way"]
theorem scOdd : FnScope nOdd ["_law_pot_here", "_law_width"] (defScope sOdd) := ⟨rfl, rfl, rfl, by decide +kernel, rfl, by decide +kernel, by decide +kernel⟩
theorem ne_false {a b : Int} (h : a ≠ b) : decide (V.int a = V.int b) = false := decide_eq_false (fun z => h (by injection z))
theorem dps_set {H : Hp} {ns : List Int} (hb : ∀ n ∈ ns, 0 ≤ n ∧ n < 1000) : ∀ d ∈ ns.map PyData.int, small d := fun d hd => by
  obtain ⟨n, hn, rfl⟩ := List.mem_map.mp hd
  have := hb n hn
  have e : (2 : Nat) ^ 100 = 1267650600228229401496703205376 := by decide
  exact small_int (by rw [e]; omega)
theorem dps_take {H : Hp} : ∀ {xs : List V} {ds : List PyData} (i : Nat), DpAll K H xs ds → DpAll K H (xs.take i) (ds.take i)
  | _, _, 0, _ => by
    rw [List.take_zero, List.take_zero]
    exact .nil
  | _, _, i + 1, .nil => .nil
  | _, _, i + 1, .cons h1 h2 => .cons h1 (dps_take i h2)
theorem dps_drop {H : Hp} : ∀ {xs : List V} {ds : List PyData} (i : Nat), DpAll K H xs ds → DpAll K H (xs.drop i) (ds.drop i)
  | _, _, 0, h => h
  | _, _, i + 1, .nil => .nil
  | _, _, i + 1, .cons _ h2 => dps_drop i h2
theorem ok_odd {f : Addr} {fd : FuncData} (F : Fun K "_law_odd_spots" "_law_odd_spots" sOdd f fd) (B : Bl mg) (D : Has P w K mg base "_law_draw" 2 ["_law_pot_here", "_law_many"] spDraw)
    (S : Has P w K mg base "_law_spots" 3 ["_law_pot_here", "_law_least", "_law_width"] spSpots) (M : Has P w K mg base "_law_mixed" 3 ["_law_pot_here", "_law_given"] (spMixed K))
    (N : Has P w K mg base "_law_any_thing" 3 ["_law_pot_here"] (spAny K)) : FnOk P w K mg base CX0 4 f fd ["_law_pot_here", "_law_width"] (spOdd K) := by
  obtain ⟨fD, fdD, GD, mD, kD, bD⟩ := D
  obtain ⟨fS, fdS, GS, mS, kS, bS⟩ := S
  obtain ⟨fM, fdM, GM, mM, kM, bM⟩ := M
  obtain ⟨fN, fdN, GN, mN, kN, bN⟩ := N
  refine F.ok scOdd (fun vs H Q E h => ?_) (fun cdv A outer s H vs Q E hr h => ?_)
  · obtain ⟨p, m, rfl, _⟩ := h
    rfl
  · obtain ⟨p, m, rfl, hp, m1, m2, out⟩ := h
    have hr1 : Room 2 (A.deeper (envOfC "_law_odd_spots" (defScope sOdd) s.heap.objs.size f cdv)) := hr.mono (by decide)
    refine ⟨_, pss_cons (ps_set (i := 2) scOdd.nd rfl (Or.inl rfl) (pe_call GM hr (by rfl) mM kM bM .nil pass0 (pa_cons (pv 0) (pa_cons (pe_call GS hr (by rfl) mS kS bS .nil pass0 (pa_cons (pv 0) (pa_cons pe_int (pa_cons (pv 1) pa_nil)))) pa_nil))))
      (pss_cons (ps_set (i := 3) scOdd.nd rfl (Or.inl rfl) (pe_call GD hr1 (by rfl) mD kD bD .nil pass0 (pa_cons (pv 0) (pa_cons pe_int pa_nil))))
      (pss_cons (ps_if (pt_cmpR op_eq (pv 3) pe_int (nomark _)) (pss_one (ps_ret (pe_call GN hr (by rfl) mN kN bN .nil pass0 (pa_cons (pv 0) pa_nil)))) pss_nil)
      (pss_cons (ps_if (PW.pt (pw_and (pt_cmpR op_eq (pv 3) pe_int (nomark _)) (pw_and1 (pt_cmpR (op_neD hr.units) (pv 2) (pe_lst pa_nil) (nomark _)))))
        (pss_one (ps_expr (pe_bm PySem.F.plainAttrs_list PySem.F.slot_list_append PySem.F.type_list_append mt_append (pv 2) (pa_cons (pe_ix ix_list (pv 2) (pe_call GD hr1 (by rfl) mD kD bD .nil pass0 (pa_cons (pv 0) (pa_cons (pe_callB call_len_seq (by rfl) B.len PySem.boot_len (pa_cons (pv 2) pa_nil)) pa_nil))) (fun _ _ => rfl)) pa_nil)))) pss_nil)
      (pss_cons (ps_if (pt_cmpR op_eq (pv 3) pe_int (nomark _))
        (pss_one (ps_expr (pe_bm PySem.F.plainAttrs_list PySem.F.slot_list_insert PySem.F.type_list_insert mt_insert (pv 2) (pa_cons (pe_call GD hr1 (by rfl) mD kD bD .nil pass0 (pa_cons (pv 0) (pa_cons (pe_op op_add (pe_callB call_len_seq (by rfl) B.len PySem.boot_len (pa_cons (pv 2) pa_nil)) pe_int) pa_nil)))
          (pa_cons (pe_ix ix_list (pe_lst (pa_cons pe_bl (pa_cons pe_bl (pa_cons pe_non (pa_cons pe_str (pa_cons (pe_lst (pa_cons pe_int pa_nil)) (pa_cons (pe_tup (pa_cons pe_int pa_nil)) (pa_cons (pe_un un_neg pe_int) (pa_cons (pv 1) pa_nil))))))))) (pe_call GD hr1 (by rfl) mD kD bD .nil pass0 (pa_cons (pv 0) (pa_cons pe_int pa_nil))) (fun _ _ => rfl)) pa_nil))))) pss_nil)
      (pss_cons (ps_if (pt_cmpR op_eq (pv 3) pe_int (nomark _)) (pss_one (ps_ret (pe_callTy call_tuple_of (by rfl) B.tuple (by decide +kernel) (pa_cons (pv 2) pa_nil)))) pss_nil)
      (pss_cons (ps_if (pt_cmpR op_eq (pv 3) pe_int (nomark _)) (pss_one (ps_expr (pe_bm PySem.F.plainAttrs_list PySem.F.slot_list_append PySem.F.type_list_append mt_append (pv 2) (pa_cons (pe_op op_add (pv 1) (pe_call GD hr1 (by rfl) mD kD bD .nil pass0 (pa_cons (pv 0) (pa_cons pe_int pa_nil)))) pa_nil)))) pss_nil)
      (pss_one (ps_ret (pv 2))))))))), ?_⟩
    refine ⟨_, rfl, _, rfl, _, rfl, p, 0, m, rfl, hp, by decide, by decide, by omega, by omega, ?_⟩
    intro g ns H1 hg0 pw bd b1 hp1 hg1
    have gp : g ≠ p := pot_ne hp hg0
    have nl : ns.length ≤ 40 := by
      have := rising_len pw bd
      omega
    refine ⟨p, g, ns, rfl, hp1, hg1, gp, by omega, ?_⟩
    intro q ms H2 hq1 pm b2 hp2 hq2
    have qp : q ≠ p := pot_ne hp1 hq1
    have hq0 : H q = none := b1.free hp hq1 hp1
    have ml : ms.length ≤ 40 := by rw [pm.length_eq]; exact nl
    have mb : ∀ n ∈ ms, 0 ≤ n ∧ n < 1000 := fun n hn => by
      have := bd n (pm.mem_iff.mp hn)
      omega
    refine ⟨_, rfl, p, 6, rfl, hp2, by decide, by decide, ?_⟩
    intro d H3 d0 d1 b3 hp3
    have b03 : But p H H3 := (b1.trans b2).trans b3
    have hq3 : H3 q = some (.lst (ms.map V.int)) := b3 q _ qp hq2
    -- a list at q of data
    have fin : ∀ H' (xs : List V) (ds : List PyData), But p H H' → PotAt H' p → H' q = some (.lst xs) → DpAll K (del H' p) xs ds → (∀ e ∈ ds, small e) → xs.length ≤ 100 → ds.length ≤ 100 → Q (.ref q) H' := by
      intro H' xs ds b hpp hq' hds sm l1 l2
      exact out _ _ H' b hpp (.lst (del_at qp hq') hds (by omega)) (good_list sm (by omega))
    have plain : ∀ H', But p H3 H' → PotAt H' p → Q (.ref q) H' := by
      intro H' b hpp
      exact fin H' _ _ (b03.trans b) hpp (b q _ qp hq3) (dps_ints ms) (dps_set (H := H) mb) (by rw [List.length_map]; omega) (by rw [List.length_map]; omega)
    have hd : d = 0 ∨ d = 1 ∨ d = 2 ∨ d = 3 ∨ d = 4 ∨ d = 5 := by omega
    rcases hd with rfl | rfl | rfl | rfl | rfl | rfl
    · -- any thing
      refine ⟨_, rfl, rfl, _, rfl, iteT ?_⟩
      refine ⟨_, rfl, p, rfl, hp3, ?_⟩
      intro v d H' b hpp hv hgd
      exact out v d H' (b03.trans b) hpp hv hgd
    · -- one twice
      refine ⟨_, rfl, rfl, _, rfl, iteF ?_⟩
      refine ⟨_, rfl, rfl, _, rfl, iteT ?_⟩
      refine ⟨_, rfl, by decide, fun e he => ?_⟩
      have s3 := same_new (o := .lst []) he
      have eq : e ≠ q := fun z => by rw [z, hq3] at he; cases he
      have hpe := hp3.same s3
      have hqe : (upd H3 e (.lst [])) q = some (.lst (ms.map V.int)) := s3 _ _ hq3
      refine ⟨_, _, .lst (SqL.of hqe) (dps_ints ms), .lst (SqL.of upd_same) .nil, ?_, by decide, _, rfl, ?_⟩
      · exact shaped_ints ms
      cases ms with
      | nil =>
        refine iteF ?_
        refine ⟨_, rfl, rfl, _, rfl, iteF ?_⟩
        refine ⟨_, rfl, rfl, _, rfl, iteF ?_⟩
        refine ⟨_, rfl, rfl, _, rfl, iteF ?_⟩
        exact ⟨_, rfl, plain _ (But.same s3) hpe⟩
      | cons m0 mr =>
        refine iteT ?_
        refine ⟨_, rfl, .inl ⟨rfl, _, SqL.of hqe⟩, ?_⟩
        refine ⟨_, rfl, _, rfl, _, rfl, q, _, rfl, .inl (SqL.of hqe), p, _, rfl, hpe, (by show (0 : Int) < ((((m0 :: mr).map V.int).length : Nat) : Int); rw [List.length_map, List.length_cons]; omega), (by rw [List.length_map]; omega), ?_⟩
        intro d2 H4 e0 e1 b4 hp4
        rw [List.length_map] at e1
        have hq4 : H4 q = some (.lst ((m0 :: mr).map V.int)) := b4 q _ qp hqe
        have dk : d2.toNat < (m0 :: mr).length := by omega
        have hx : ((m0 :: mr).map V.int)[d2.toNat]? = some (.int (m0 :: mr)[d2.toNat]) := by
          rw [List.getElem?_map, List.getElem?_eq_getElem dk]
          rfl
        have hat : atI ((m0 :: mr).map V.int) d2 = some (.int (m0 :: mr)[d2.toNat]) := by
          have z := atI_nat hx
          rw [show ((d2.toNat : Nat) : Int) = d2 by omega] at z
          exact z
        refine ⟨q, _, d2, _, rfl, rfl, SqL.of hq4, hat, ?_⟩
        refine ⟨q, _, _, rfl, rfl, hq4, (by rw [List.length_map]; exact small1000 (by omega)), ?_⟩
        have hmem := List.getElem_mem dk
        generalize (m0 :: mr)[d2.toNat] = x at hmem ⊢
        refine ⟨_, rfl, rfl, _, rfl, iteF ?_⟩
        refine ⟨_, rfl, rfl, _, rfl, iteF ?_⟩
        refine ⟨_, rfl, rfl, _, rfl, iteF ?_⟩
        refine ⟨_, rfl, fin _ (((m0 :: mr) ++ [x]).map V.int) (((m0 :: mr) ++ [x]).map PyData.int) ?_ ?_ ?_ (dps_ints _) (dps_set (H := H) ?_) ?_ ?_⟩
        · intro b o n z
          rw [upd_ne (ne_of_none z hq0)]
          exact b4 b o n (s3 b o (b03 b o n z))
        · obtain ⟨x1, y1, z, r⟩ := hp4
          exact ⟨x1, y1, by rw [upd_ne (Ne.symm qp)]; exact z, r⟩
        · rw [upd_same, List.map_append]
          rfl
        · intro n hn
          rcases List.mem_append.mp hn with hn | hn
          · exact mb n hn
          · rw [List.mem_singleton.mp hn]
            exact mb x hmem
        · rw [List.length_map, List.length_append]
          show (m0 :: mr).length + 1 ≤ 100
          omega
        · rw [List.length_map, List.length_append]
          show (m0 :: mr).length + 1 ≤ 100
          omega
    · -- one thing put in
      refine ⟨_, rfl, rfl, _, rfl, iteF ?_⟩
      refine ⟨_, rfl, rfl, _, rfl, iteF (iteF ?_)⟩
      refine ⟨_, rfl, rfl, _, rfl, iteT ?_⟩
      refine ⟨_, rfl, .inl ⟨rfl, _, SqL.of hq3⟩, ?_⟩
      refine ⟨_, rfl, _, rfl, q, _, rfl, .inl (SqL.of hq3), _, _, rfl, rfl, p, _, rfl, hp3, (by rw [List.length_map]; omega), (by rw [List.length_map]; omega), ?_⟩
      intro d2 H4 e0 e1 b4 hp4
      rw [List.length_map] at e1
      refine ⟨by decide, fun p4 h4 => ⟨by decide, fun p5 h5 => ?_⟩⟩
      refine ⟨1, rfl, _, rfl, (by show 8 ≤ sizeLine; decide), fun L hL => ?_⟩
      have s4 := same_new (o := .lst [.int 1]) h4
      have s5 := same_new (o := .tup [.int 0]) h5
      have s6 := same_new (o := .lst (odds m p4 p5)) hL
      have sA := s4.trans (s5.trans s6)
      have hpX := hp4.same sA
      have n4 : p4 ≠ p := pot_ne hp4 h4
      have n5 : p5 ≠ p := pot_ne (hp4.same s4) h5
      have nL : L ≠ p := pot_ne (hp4.same (s4.trans s5)) hL
      refine ⟨_, rfl, p, 8, rfl, hpX, by decide, by decide, ?_⟩
      intro d3 H6 f0 f1 b6 hp6
      have hk : d3.toNat < (odds m p4 p5).length := by
        rw [odds_len]
        omega
      have hx : (odds m p4 p5)[d3.toNat]? = some (odds m p4 p5)[d3.toNat] := by simp [hk]
      have hat : atI (odds m p4 p5) d3 = some (odds m p4 p5)[d3.toNat] := by
        have z := atI_nat hx
        rw [show ((d3.toNat : Nat) : Int) = d3 by omega] at z
        exact z
      have hmem := List.getElem_mem hk
      generalize (odds m p4 p5)[d3.toNat] = v at hmem hat
      have hq4 : H4 q = some (.lst (ms.map V.int)) := b4 q _ qp hq3
      have hq6 : H6 q = some (.lst (ms.map V.int)) := b6 q _ qp (sA _ _ hq4)
      have q4 : p4 ≠ q := fun z => by rw [z, hq4] at h4; cases h4
      have q5 : p5 ≠ q := fun z => by rw [z, s4 _ _ hq4] at h5; cases h5
      refine ⟨L, _, d3, v, rfl, rfl, SqL.of (b6 L _ nL upd_same), hat, ?_⟩
      refine ⟨q, _, d2, v, rfl, rfl, hq6, (by rw [List.length_map]; exact small1000 (by omega)), e0, by omega, ?_⟩
      refine ⟨_, rfl, rfl, _, rfl, iteF ?_⟩
      refine ⟨_, rfl, rfl, _, rfl, iteF ?_⟩
      have g4 : H6 p4 = some (.lst [.int 1]) := b6 p4 _ n4 ((s5.trans s6) _ _ upd_same)
      have g5 : H6 p5 = some (.tup [.int 0]) := b6 p5 _ n5 (s6 _ _ upd_same)
      obtain ⟨dv, hdv, hsm⟩ := odds_dp (K := K) (H := del (upd H6 q (.lst ((ms.map V.int).take d2.toNat ++ [v] ++ (ms.map V.int).drop d2.toNat))) p) (m := m) (p4 := p4) (p5 := p5) (by omega)
        (del_at n4 (by rw [upd_ne q4]; exact g4)) (del_at n5 (by rw [upd_ne q5]; exact g5)) v hmem
      refine ⟨_, rfl, fin _ _ ((ms.map PyData.int).take d2.toNat ++ [dv] ++ (ms.map PyData.int).drop d2.toNat) ?_ ?_ upd_same (dps_append (dps_append (dps_take _ (dps_ints ms)) (.cons hdv .nil)) (dps_drop _ (dps_ints ms))) ?_ ?_ ?_⟩
      · intro b o n z
        rw [upd_ne (ne_of_none z hq0)]
        exact b6 b o n (sA b o ((b03.trans b4) b o n z))
      · obtain ⟨x1, y1, z, r⟩ := hp6
        exact ⟨x1, y1, by rw [upd_ne (Ne.symm qp)]; exact z, r⟩
      · intro e he
        have hset := dps_set (H := H) mb
        rcases List.mem_append.mp he with he | he
        · rcases List.mem_append.mp he with he | he
          · exact hset e (List.mem_of_mem_take he)
          · rw [List.mem_singleton.mp he]
            exact hsm
        · exact hset e (List.mem_of_mem_drop he)
      · rw [List.length_append, List.length_append, List.length_take, List.length_drop, List.length_map]
        show min d2.toNat ms.length + 1 + (ms.length - d2.toNat) ≤ 100
        omega
      · rw [List.length_append, List.length_append, List.length_take, List.length_drop, List.length_map]
        show min d2.toNat ms.length + 1 + (ms.length - d2.toNat) ≤ 100
        omega
    · -- a tuple
      refine ⟨_, rfl, rfl, _, rfl, iteF ?_⟩
      refine ⟨_, rfl, rfl, _, rfl, iteF (iteF ?_)⟩
      refine ⟨_, rfl, rfl, _, rfl, iteF ?_⟩
      refine ⟨_, rfl, rfl, _, rfl, iteT ?_⟩
      refine ⟨_, rfl, q, _, rfl, .inl ⟨SqL.of hq3, fun t ht => ?_⟩⟩
      have s3 := same_new (o := .tup (ms.map V.int)) ht
      exact out _ _ _ (b03.trans (But.same s3)) (hp3.same s3) (.tup (del_at (pot_ne hp3 ht) upd_same) (dps_ints ms) (by rw [List.length_map]; omega)) (good_tuple (dps_set (H := H) mb) (by rw [List.length_map]; omega))
    · -- one beyond
      refine ⟨_, rfl, rfl, _, rfl, iteF ?_⟩
      refine ⟨_, rfl, rfl, _, rfl, iteF (iteF ?_)⟩
      refine ⟨_, rfl, rfl, _, rfl, iteF ?_⟩
      refine ⟨_, rfl, rfl, _, rfl, iteF ?_⟩
      refine ⟨_, rfl, rfl, _, rfl, iteT ?_⟩
      refine ⟨_, rfl, .inl ⟨rfl, _, SqL.of hq3⟩, ?_⟩
      refine ⟨_, rfl, _, rfl, p, 3, rfl, hp3, by decide, by decide, ?_⟩
      intro d2 H4 e0 e1 b4 hp4
      have hq4 : H4 q = some (.lst (ms.map V.int)) := b4 q _ qp hq3
      refine ⟨m, d2, rfl, rfl, q, _, _, rfl, rfl, hq4, (by rw [List.length_map]; exact small1000 (by omega)), ?_⟩
      refine ⟨_, rfl, fin _ ((ms ++ [m + d2]).map V.int) ((ms ++ [m + d2]).map PyData.int) ?_ ?_ ?_ (dps_ints _) (dps_set (H := H) ?_) ?_ ?_⟩
      · intro b o n z
        rw [upd_ne (ne_of_none z hq0)]
        exact (b03.trans b4) b o n z
      · obtain ⟨x1, y1, z, r⟩ := hp4
        exact ⟨x1, y1, by rw [upd_ne (Ne.symm qp)]; exact z, r⟩
      · rw [upd_same, List.map_append]
        rfl
      · intro n hn
        rcases List.mem_append.mp hn with hn | hn
        · exact mb n hn
        · rw [List.mem_singleton.mp hn]
          omega
      · rw [List.length_map, List.length_append]
        show ms.length + 1 ≤ 100
        omega
      · rw [List.length_map, List.length_append]
        show ms.length + 1 ≤ 100
        omega
    · -- as it is
      refine ⟨_, rfl, rfl, _, rfl, iteF ?_⟩
      refine ⟨_, rfl, rfl, _, rfl, iteF (iteF ?_)⟩
      refine ⟨_, rfl, rfl, _, rfl, iteF ?_⟩
      refine ⟨_, rfl, rfl, _, rfl, iteF ?_⟩
      refine ⟨_, rfl, rfl, _, rfl, iteF ?_⟩
      exact ⟨_, rfl, plain H3 (But.refl _ _) hp3⟩
end
end K11
namespace K11
open PySem PySem.Spec PyProof.Rows L2 Par
/-- the other classes of errors, and what isinstance says of a NoCells -/
structure ErrT (K : PySem.W.Frag) (mg : Str → Option Value) (C c1 c2 c3 c4 : Addr) : Prop where
  cell : mg "NoCell" = some (.ref c1)
  size : mg "NoSize" = some (.ref c2)
  flip : mg "NoFlip" = some (.ref c3)
  base : mg "CellError" = some (.ref c4)
  others : PySem.W.kitAny K (.ref C) [.ref c1, .ref c2, .ref c3, .type "LookupError", .type "RuntimeError", .type "ArithmeticError"] = some false
  isBase : PySem.W.kitOne K (.ref C) (.ref c4) = some true
  isVal : PySem.W.kitOne K (.ref C) (.type "ValueError") = some true
  exc : ExcC K C
  xf : XfC K C
  te : PySem.W.exmOne K (.ref C) (.ref C) = some true
section
variable {P : Program} {w : World} {K : PySem.W.Frag} {mg : Str → Option Value} {base : Heap}
/-- cell_tuple by its callers -/
def HasCells (P : Program) (w : World) (K : PySem.W.Frag) (mg : Str → Option Value) (base : Heap) (C : Addr) : Prop :=
  ∃ f fd, FnOk P w K mg base (L2.CX P w) 5 f fd ["things", "size"] (spCells K C) ∧ mg "cell_tuple" = some (.ref f) ∧ PySem.W.keepIn K (.ref f) = true ∧
    KBn K fd ["things", "size"] 1 ["size"] (fun us ws => us ++ ws) (fun vs zs => vs ++ zs) ∧ ∃ ds, Vals [V.int 40] ds ∧ Binds K fd ["things", "size"] ds
def spMet (K : PySem.W.Frag) : Sp := fun vs H Q _ => ∃ (v : V) (n : Int) (o : Option (List V)), vs = [v, .int n] ∧ Desc K H v o ∧
  (∀ ns, Fine 0 n o ns → ∀ L p (ms : List Int) H', H L = none → Same H H' → ms.Perm ns → ms.Pairwise (· ≤ ·) → H' p = some (.tup (ms.map V.int)) → H' L = some (.lst [.str "told", .ref p]) → L ≠ sysModules → Q (.ref L) H') ∧
  (Foul 0 n o → ∀ L H', H L = none → Same H H' → H' L = some (.lst [.str "refused", v, .bl true]) → L ≠ sysModules → Q (.ref L) H')
theorem desc_same {H H' : Hp} {v : V} {o : Option (List V)} (s : Same H H') (h : Desc K H v o) : Desc K H' v o := by
  cases o with
  | none =>
    obtain ⟨nm, ty, hn⟩ := h
    exact ⟨nm, same_tyx s ty, hn⟩
  | some xs =>
    obtain ⟨a, e, hq, hl, hty⟩ := h
    exact ⟨a, e, hq.imp (same_sq s) (same_sqt s), hl, fun x hx => same_typed s (hty x hx)⟩
abbrev nMet : List Str := ["_law_given", "_law_width", "_law_told", "e", "_law_others"]
theorem scMet : FnScope nMet ["_law_given", "_law_width"] (defScope sMet) := ⟨rfl, rfl, rfl, by decide +kernel, rfl, by decide +kernel, by decide +kernel⟩
theorem ok_met {f C c1 c2 c3 c4 : Addr} {fd : FuncData} (F : Fun K "_law_cells_met" "_law_cells_met" sMet f fd) (B : Bl mg) (T : CellsC K mg C) (R : ErrT K mg C c1 c2 c3 c4) (D : HasCells P w K mg base C) :
    FnOk P w K mg base CX0 6 f fd ["_law_given", "_law_width"] (spMet K) := by
  obtain ⟨fD, fdD, GD, mD, kD, bD, _⟩ := D
  refine F.ok scMet (fun vs H Q E h => ?_) (fun cdv A outer s H vs Q E hr h => ?_)
  · obtain ⟨v, n, o, rfl, _⟩ := h
    rfl
  · obtain ⟨v, n, o, rfl, desc, good, bad⟩ := h
    refine ⟨_, pss_cons (ps_set (i := 2) scMet.nd rfl (Or.inl rfl) (pe_lstS (pa_cons pe_str pa_nil)))
      (pss_cons (ps_try_as (i := 3) rfl rfl scMet.nd rfl rfl ⟨rfl, by decide, .inl T.gC⟩ takes0
        (fun W pn xe tk _ => pss_one (ps_set (i := 2) scMet.nd rfl (Or.inl rfl) (pe_lstS (pa_cons pe_str (pa_cons (pe_callNS (n := 1) (ks := ["size"]) GD hr (by rfl) mD kD bD (fun σ => passAt tk σ) (pa_cons (pv 0) pa_nil) (pk_cons (pv 1) pk_nil)) pa_nil)))))
        (fun a oe cls d pn hz hf => pss_cons (ps_set (i := 4) scMet.nd rfl (Or.inl rfl) (pe_callB (call_isXT R.exc hz hf) (by rfl) B.isinstance (by decide +kernel) (pa_cons (pv 3) (pa_cons (pe_tup
            (pa_cons (pe_glob (v := .ref c1) (by rfl) R.cell rfl) (pa_cons (pe_glob (v := .ref c2) (by rfl) R.size rfl) (pa_cons (pe_glob (v := .ref c3) (by rfl) R.flip rfl) (pa_cons (pe_bltn (v := .ty "LookupError") (by rfl) B.lErr (by decide +kernel) rfl)
            (pa_cons (pe_bltn (v := .ty "RuntimeError") (by rfl) B.rErr (by decide +kernel) rfl) (pa_cons (pe_bltn (v := .ty "ArithmeticError") (by rfl) B.aErr (by decide +kernel) rfl) pa_nil))))))) pa_nil))))
          (pss_one (ps_set (i := 2) scMet.nd rfl (Or.inl rfl) (pe_lstS (pa_cons pe_str (pa_cons (pe_xf R.xf T.no hz hf (pv 3)) (pa_cons
            (pe_and (pe_callB (call_isX R.exc hz hf) (by rfl) B.isinstance (by decide +kernel) (pa_cons (pv 3) (pa_cons (pe_glob (v := .ref c4) (by rfl) R.base rfl) pa_nil)))
            (pe_and (pe_callB (call_isX R.exc hz hf) (by rfl) B.isinstance (by decide +kernel) (pa_cons (pv 3) (pa_cons (pe_bltn (v := .ty "ValueError") (by rfl) B.vErr (by decide +kernel) rfl) pa_nil)))
            (pe_one (pe_not (pv 4))))) pa_nil))))))))
      (pss_one (ps_ret (pv 2)))), ?_⟩
    refine ⟨(by show 1 ≤ sizeLine; decide), fun L0 hL0 _ => ?_⟩
    have s0 := same_new (o := .lst [.str "other"]) hL0
    refine ⟨_, rfl, _, rfl, rfl, rfl, v, n, o, rfl, desc_same s0 desc, ?_, ?_⟩
    · intro ns fine p ms H1 hp sm pm pw e
      refine ⟨(by show 2 ≤ sizeLine; decide), fun L hL nL => ?_⟩
      refine ⟨_, rfl, ?_⟩
      have s2 := same_new (o := .lst [.str "told", .ref p]) hL
      have hL2 : H L = none := s0.free (sm.free hL)
      exact good ns fine L p ms _ hL2 (s0.trans (sm.trans s2)) pm pw (s2 _ _ e) upd_same nL
    · intro hb d H1 hd sm e
      refine ⟨true, R.te, fun _ a ha => ?_, fun q => Bool.noConfusion q⟩
      refine ⟨_, rfl, (by show 6 ≤ sizeLine; decide), fun t ht => ?_⟩
      have s1 := same_new (o := .tup [.ref c1, .ref c2, .ref c3, .ty "LookupError", .ty "RuntimeError", .ty "ArithmeticError"]) ht
      have e1 := s1 _ _ e
      refine ⟨t, _, _, false, d, _, rfl, upd_same, .cons (.own _) (.cons (.own _) (.cons (.own _) (.cons (.ty _) (.cons (.ty _) (.cons (.ty _) .nil))))), rfl, rfl, e1, R.others, ?_⟩
      refine ⟨_, rfl, rfl, rfl, d, _, v, rfl, e1, ?_, ?_⟩
      · rfl
      refine ⟨_, rfl, _, _, true, d, _, rfl, rfl, rfl, e1, .own _, R.isBase, _, rfl, iteT ?_⟩
      refine ⟨_, rfl, _, _, true, d, _, rfl, rfl, rfl, e1, .ty _, R.isVal, _, rfl, iteT ?_⟩
      refine ⟨_, rfl, _, rfl, (by show 3 ≤ sizeLine; decide), fun L hL nL => ?_⟩
      refine ⟨_, rfl, ?_⟩
      have s2 := same_new (o := .lst [.str "refused", v, .bl true]) hL
      have hL2 : H L = none := s0.free (sm.free (s1.free hL))
      exact bad hb L _ hL2 (s0.trans (sm.trans (s1.trans s2))) upd_same nL
end
end K11
namespace K11
open PySem PySem.Spec PyProof.Rows L2 Par
theorem callR_or {X : Cx} {f : Value} {r1 r2 : List V → Hp → VK → Prop} (h1 : CallR X f r1) (h2 : CallR X f r2) : CallR X f (fun vs H Q => r1 vs H Q ∨ r2 vs H Q) := by
  intro pins s σ H xs us Q I r h
  rcases h with h | h
  · exact h1 pins s σ H xs us Q I r h
  · exact h2 pins s σ H xs us Q I r h
theorem typed_all {K : PySem.W.Frag} {H : Hp} : ∀ {xs : List V} {ds : List PyData}, DpAll K H xs ds → ∀ x ∈ xs, Typed K H x
  | _, _, .nil, x, hx => by cases hx
  | _, _, .cons h1 h2, x, hx => by
    rcases List.mem_cons.mp hx with rfl | hx
    · exact typed_dp h1
    · exact typed_all h2 x hx
theorem desc_giv {K : PySem.W.Frag} {H : Hp} {v : V} {d : PyData} (h : Giv K H v d) : ∃ o, Desc K H v o := by
  cases h with
  | fl f =>
    refine ⟨none, ?_⟩
    cases f with
    | non => exact ⟨_, .base .non, by simp⟩
    | bl b => exact ⟨_, .base (.bl b), by simp⟩
    | int i => exact ⟨_, .base (.int i), by simp⟩
    | str x => exact ⟨_, .base (.str x), by simp⟩
    | dic0 e => exact ⟨_, .base (.dK e), by simp⟩
    | dic1 e => exact ⟨_, .base (.dK e), by simp⟩
  | @lst a xs ds e q l => exact ⟨some xs, a, rfl, .inl (SqL.of e), by omega, typed_all q⟩
  | @tup a xs ds e q l => exact ⟨some xs, a, rfl, .inr (SqT.of e), by omega, typed_all q⟩
theorem typed_giv {K : PySem.W.Frag} {H : Hp} {v : V} {d : PyData} (h : Giv K H v d) : Typed K H v := by
  cases h with
  | fl f => exact typed_fl f
  | lst e q _ => exact typed_dp (.lst (SqL.of e) q)
  | tup e q _ => exact typed_dp (.tup (SqT.of e) q)
/-- a list of a text, the thing, a bool
-/
theorem giv_list {K : PySem.W.Frag} {H : Hp} {v : V} {d : PyData} {L : Addr} {x : Str} {b : Bool} (h : Giv K H v d) (e : H L = some (.lst [.str x, v, .bl b])) (ne : L ≠ sysModules) : Dx K H (.ref L) (.list [.str x, d, .bool b]) := by
  cases h with
  | fl f => exact .lst e ne (.cons (.str x) (.cons f (.cons (.bl b) .nil)))
  | lst e' q _ => exact .dp (.lst (SqL.of e) (.cons (.str x) (.cons (.lst (SqL.of e') q) (.cons (.bl b) .nil))))
  | tup e' q _ => exact .dp (.lst (SqL.of e) (.cons (.str x) (.cons (.tup (SqT.of e') q) (.cons (.bl b) .nil))))
theorem sorted_one {ns ms ms2 : List Int} (h1 : ms.Perm ns) (h2 : ms2.Perm ns) (s1 : ms.Pairwise (· ≤ ·)) (s2 : ms2.Pairwise (· ≤ ·)) : ms = ms2 :=
  List.Perm.eq_of_pairwise (fun a b _ _ h1 h2 => Int.le_antisymm h1 h2) s1 s2 (h1.trans h2.symm)
theorem good_str {x : Str} (h : (reprText x).length ≤ 200) : small (.str x) := ⟨rfl, Nat.zero_le _, h⟩
theorem fine_bound {l m : Int} {ns : List Int} (h : AllOf l m (ns.map V.int) = true) : ∀ n ∈ ns, l ≤ n ∧ n < m := fun n hn => by
  unfold AllOf at h
  rw [List.all_map, List.all_eq_true] at h
  have h1 : isV (.int n) l (m - 1) = true := h n hn
  have h2 : (decide (l ≤ n) && decide (n ≤ m - 1)) = true := h1
  rw [Bool.and_eq_true, decide_eq_true_eq, decide_eq_true_eq] at h2
  omega
theorem map_int_inj : ∀ {ns ms : List Int}, ns.map V.int = ms.map V.int → ns = ms
  | [], [], _ => rfl
  | [], _ :: _, h => by cases h
  | _ :: _, [], h => by cases h
  | n :: ns, m :: ms, h => by
    injection h with h1 h2
    injection h1 with h3
    rw [h3, map_int_inj h2]
theorem fine_foul {l m : Int} {o : Option (List V)} {ns : List Int} (h : Fine l m o ns) (g : Foul l m o) : False := by
  obtain ⟨rfl, hall, hnd⟩ := h
  rcases g with g | ⟨xs, e, hf⟩ | ⟨ms, e, _, hd⟩
  · cases g
  · have e2 := Option.some.inj e
    subst e2
    rw [hall] at hf
    cases hf
  · have e2 := map_int_inj (Option.some.inj e)
    subst e2
    exact hd hnd
theorem sorted_or {K : PySem.W.Frag} {H : Hp} {a : Addr} {ns : List Int} {Q : VK} (hq : Sq K H a (ns.map V.int))
    (h : ∀ (ms : List Int) (p : Addr), ms.Perm ns → ms.Pairwise (· ≤ ·) → H p = none → Q (.ref p) (upd H p (.lst (ms.map V.int)))) :
    rSortedI K [V.ref a] H Q ∨ ∃ (b : Addr) (ks : List Int), [V.ref a] = [V.ref b] ∧ SqT K H b (ks.map V.int) ∧
      ∀ (ms : List Int) (p : Addr), ms.Perm ks → ms.Pairwise (· ≤ ·) → H p = none → Q (.ref p) (upd H p (.lst (ms.map V.int))) := by
  rcases hq with hq | hq
  · exact .inl ⟨a, ns, rfl, hq, h⟩
  · exact .inr ⟨a, ns, rfl, hq, h⟩
theorem mem3 {a b c x : PyData} (h : x ∈ [a, b, c]) : x = a ∨ x = b ∨ x = c := by simpa using h
theorem mem2 {a b x : PyData} (h : x ∈ [a, b]) : x = a ∨ x = b := by simpa using h
section
variable {P : Program} {w : World} {K : PySem.W.Frag} {mg : Str → Option Value} {base : Heap}
def spTupR : Sp := fun vs H Q _ => ∃ (p : Addr) (m : Int), vs = [.ref p, .int m] ∧ PotAt H p ∧ 1 ≤ m ∧ m ≤ 40 ∧ ∀ H', But p H H' → PotAt H' p → Q (.bl true) H'
abbrev nTupR : List Str := ["_law_pot_here", "_law_width", "_law_given", "_law_shown", "_law_due"]
theorem scTupR : FnScope nTupR ["_law_pot_here", "_law_width"] (defScope sTupR) := ⟨rfl, rfl, rfl, by decide +kernel, rfl, by decide +kernel, by decide +kernel⟩
theorem ok_tupR {f : Addr} {fd : FuncData} (F : Fun K "_law_tuple_right" "_law_tuple_right" sTupR f fd) (B : Bl mg) (O : Has P w K mg base "_law_odd_spots" 4 ["_law_pot_here", "_law_width"] (spOdd K))
    (R : Has P w K mg base "_law_are_spots" 3 ["_law_given", "_law_least", "_law_width"] (spAre K)) (M : Has P w K mg base "_law_cells_met" 6 ["_law_given", "_law_width"] (spMet K)) :
    FnG P w K mg base CX0 7 f fd ["_law_pot_here", "_law_width"] spTupR := by
  obtain ⟨fO, fdO, GO, mO, kO, bO⟩ := O
  obtain ⟨fR, fdR, GR, mR, kR, bR⟩ := R
  obtain ⟨fM, fdM, GM, mM, kM, bM⟩ := M
  refine fnG_of F scTupR (fun vs H Q E h => ?_) (fun cdv A outer s H vs Q E gs hr h => ?_)
  · obtain ⟨p, m, rfl, _⟩ := h
    rfl
  · obtain ⟨p, m, rfl, hp, m1, m2, out⟩ := h
    have hr3 : Room 4 (A.deeper (envOfC "_law_tuple_right" (defScope sTupR) s.heap.objs.size f cdv)) := hr.mono (by decide)
    have hr2 : Room 3 (A.deeper (envOfC "_law_tuple_right" (defScope sTupR) s.heap.objs.size f cdv)) := hr.mono (by decide)
    have hu := hr.units
    refine ⟨_, pss_cons (ps_set (i := 2) scTupR.nd rfl (Or.inl rfl) (pe_call GO hr3 (by rfl) mO kO bO .nil pass0 (pa_cons (pv 0) (pa_cons (pv 1) pa_nil))))
      (pss_cons (ps_set (i := 3) scTupR.nd rfl (Or.inl rfl) (pe_callB (cr_repr gs hu) (by rfl) B.repr (by decide +kernel) (pa_cons (pv 2) pa_nil)))
      (pss_cons (ps_set (i := 4) scTupR.nd rfl (Or.inl rfl) (pe_lstS (pa_cons pe_str (pa_cons (pv 2) (pa_cons pe_bl pa_nil)))))
      (pss_cons (ps_if (pt_val (pe_call GR hr2 (by rfl) mR kR bR .nil pass0 (pa_cons (pv 2) (pa_cons pe_int (pa_cons (pv 1) pa_nil)))))
        (pss_one (ps_set (i := 4) scTupR.nd rfl (Or.inl rfl) (pe_lstS (pa_cons pe_str (pa_cons (pe_callTy call_tuple_of (by rfl) B.tuple (by decide +kernel) (pa_cons (pe_callB (callR_or cr_sortedI cr_sortedTup) (by rfl) B.sorted (by decide +kernel) (pa_cons (pv 2) pa_nil)) pa_nil)) pa_nil))))) pss_nil)
      (pss_one (ps_ret (pe_and (pe_cmpR op_eq (pe_callB (cr_repr gs hu) (by rfl) B.repr (by decide +kernel) (pa_cons (pe_call GM hr (by rfl) mM kM bM .nil pass0 (pa_cons (pv 2) (pa_cons (pv 1) pa_nil))) pa_nil)) (pe_callB (cr_repr gs hu) (by rfl) B.repr (by decide +kernel) (pa_cons (pv 4) pa_nil)) (nomark _))
        (pe_one (pe_cmpR op_eq (pe_callB (cr_repr gs hu) (by rfl) B.repr (by decide +kernel) (pa_cons (pv 2) pa_nil)) (pv 3) (nomark _))))))))), ?_⟩
    refine ⟨_, rfl, _, rfl, p, m, rfl, hp, m1, m2, ?_⟩
    intro v d H1 b1 hp1 gv gd
    have g1 : Giv K H1 v d := giv_same (del_sub H1 p) gv
    obtain ⟨sh, dep, len⟩ := shown_good gd
    obtain ⟨o, desc⟩ := desc_giv g1
    refine ⟨_, rfl, v, d, rfl, giv_dx g1, sh, dep, len, ?_⟩
    refine ⟨_, rfl, (by show 3 ≤ sizeLine; decide), fun D1 hD1 nD1 => ?_⟩
    have s1 := same_new (o := .lst [.str "refused", v, .bl true]) hD1
    refine ⟨_, rfl, _, rfl, v, 0, m, o, rfl, desc_same s1 desc, ?_, ?_⟩
    · -- cells
      intro ns fine H2 s2
      refine ⟨_, rfl, iteT ?_⟩
      have s02 := s1.trans s2
      obtain ⟨rfl, hall, hnd⟩ := id fine
      obtain ⟨a, rfl, hq, hl, hty⟩ := desc_same s02 desc
      have hlen : ns.length ≤ 40 := by
        have hb := fine_bound hall
        have := nodup_le (L := ns) (M := (List.range m.toNat).map fun (i : Nat) => ((i : Nat) : Int)) hnd (fun k hk => by
          have := hb k hk
          exact List.mem_map.mpr ⟨k.toNat, List.mem_range.mpr (by omega), by omega⟩)
        rw [List.length_map, List.length_range] at this
        omega
      refine ⟨_, rfl, sorted_or hq fun ms2 S pm2 pw2 hS => ?_⟩
      have s3 := same_new (o := .lst (ms2.map V.int)) hS
      refine ⟨S, _, rfl, .inl ⟨SqL.of upd_same, fun Tp hTp => ?_⟩⟩
      have s4 := same_new (o := .tup (ms2.map V.int)) hTp
      refine ⟨(by show 2 ≤ sizeLine; decide), fun D2 hD2 nD2 => ?_⟩
      have s5 := same_new (o := .lst [.str "told", .ref Tp]) hD2
      have s25 := s3.trans (s4.trans s5)
      have s05 := s02.trans s25
      refine ⟨_, rfl, _, rfl, .ref a, m, some (ns.map V.int), rfl, desc_same s05 desc, ?_, fun foul => (fine_foul fine foul).elim⟩
      intro ns2 fine2 L p2 ms H3 hL s6 pm pw ep eL nL
      have en := map_int_inj (Option.some.inj fine2.1)
      subst en
      have em := sorted_one pm pm2 pw pw2
      subst em
      have s06 := s05.trans s6
      have g3 := giv_same s06 g1
      have eD : H3 D2 = some (.lst [.str "told", .ref Tp]) := s6 _ _ upd_same
      have eT : H3 Tp = some (.tup (ms.map V.int)) := s6 _ _ (s5 _ _ upd_same)
      have hb := fine_bound hall
      have gT : good (.tuple (ms.map PyData.int)) := good_tuple (dps_set (H := H) fun n hn => by
        have := hb n (pm.mem_iff.mp hn)
        omega) (by rw [List.length_map, pm.length_eq]; omega)
      have shl := shown_list (ds := [.str "told", .tuple (ms.map PyData.int)]) (fun e he => by
        rcases mem2 he with rfl | rfl
        · exact small_good (good_str (by decide +kernel))
        · exact gT) (by show 2 ≤ 8; decide)
      have dxL : Dx K H3 (.ref L) (.list [.str "told", .tuple (ms.map PyData.int)]) := .dp (.lst (SqL.of eL) (.cons (.str _) (.cons (.tup (SqT.of ep) (dps_ints ms)) .nil)))
      have dxD : Dx K H3 (.ref D2) (.list [.str "told", .tuple (ms.map PyData.int)]) := .dp (.lst (SqL.of eD) (.cons (.str _) (.cons (.tup (SqT.of eT) (dps_ints ms)) .nil)))
      refine ⟨_, _, rfl, dxL, shl.1, shl.2.1, shl.2.2, ?_⟩
      refine ⟨_, rfl, _, _, rfl, dxD, shl.1, shl.2.1, shl.2.2, rfl, ?_⟩
      refine ⟨_, rfl, ?_⟩
      rw [decide_eq_true rfl]
      refine iteT ⟨_, rfl, _, d, rfl, giv_dx g3, sh, dep, len, _, rfl, rfl, ?_⟩
      rw [decide_eq_true rfl]
      exact out H3 (b1.trans (But.same s06)) (hp1.same s06)
    · -- no cells
      intro foul H2 s2
      refine ⟨_, rfl, iteF ?_⟩
      have s02 := s1.trans s2
      refine ⟨_, rfl, _, rfl, v, m, o, rfl, desc_same s02 desc, ?_, ?_⟩
      · intro ns fine
        exact (fine_foul fine foul).elim
      intro _ L H3 hL s3 eL nL
      have s03 := s02.trans s3
      have g3 := giv_same s03 g1
      have eD : H3 D1 = some (.lst [.str "refused", v, .bl true]) := s3 _ _ (s2 _ _ upd_same)
      have shl := shown_list (ds := [.str "refused", d, .bool true]) (fun e he => by
        rcases mem3 he with rfl | rfl | rfl
        · exact small_good (good_str (by decide +kernel))
        · exact gd
        · exact small_good (small_bool _)) (by show 3 ≤ 8; decide)
      refine ⟨_, _, rfl, giv_list g3 eL nL, shl.1, shl.2.1, shl.2.2, ?_⟩
      refine ⟨_, rfl, _, _, rfl, giv_list g3 eD nD1, shl.1, shl.2.1, shl.2.2, rfl, ?_⟩
      refine ⟨_, rfl, ?_⟩
      rw [decide_eq_true rfl]
      refine iteT ⟨_, rfl, v, d, rfl, giv_dx g3, sh, dep, len, _, rfl, rfl, ?_⟩
      rw [decide_eq_true rfl]
      exact out H3 (b1.trans (But.same s03)) (hp1.same s03)
/-- cells that are refused for the size 40, a list of numbers -/
def spDfl (K : PySem.W.Frag) : Sp := fun vs H Q _ => ∃ (a : Addr) (ns : List Int), vs = [.ref a] ∧ H a = some (.lst (ns.map V.int)) ∧ Foul 0 40 (some (ns.map V.int)) ∧ ns.length ≤ 60 ∧ (∀ n ∈ ns, 0 ≤ n ∧ n < 1000) ∧ ∀ H', Same H H' → Q (.bl true) H'
abbrev nDfl : List Str := ["_law_given", "_law_told", "e"]
theorem scDfl : FnScope nDfl ["_law_given"] (defScope sDflR) := ⟨rfl, rfl, rfl, by decide +kernel, rfl, by decide +kernel, by decide +kernel⟩
theorem ok_dfl {f C c1 c2 c3 c4 : Addr} {fd : FuncData} (F : Fun K "_law_default_right" "_law_default_right" sDflR f fd) (B : Bl mg) (T : CellsC K mg C) (R : ErrT K mg C c1 c2 c3 c4) (D : HasCells P w K mg base C) :
    FnG P w K mg base CX0 6 f fd ["_law_given"] (spDfl K) := by
  obtain ⟨fD, fdD, GD, mD, kD, _, dsD, hdD, bD⟩ := D
  refine fnG_of F scDfl (fun vs H Q E h => ?_) (fun cdv A outer s H vs Q E gs hr h => ?_)
  · obtain ⟨a, ns, rfl, _⟩ := h
    rfl
  · obtain ⟨a, ns, rfl, ha, foul, hl, hb, out⟩ := h
    have hu := hr.units
    refine ⟨_, pss_cons (ps_set (i := 1) scDfl.nd rfl (Or.inl rfl) pe_str)
      (pss_cons (ps_try_as (i := 2) rfl rfl scDfl.nd rfl rfl ⟨rfl, by decide, .inl T.gC⟩ takes0
        (fun W pn xe tk _ => pss_one (ps_expr (pe_callSD GD hr (by rfl) mD kD bD hdD (fun σ => passAt tk σ) (pa_cons (pv 0) pa_nil))))
        (fun a oe cls d pn hz hf => pss_one (ps_set (i := 1) scDfl.nd rfl (Or.inl rfl) (pe_xf R.xf T.no hz hf (pv 2)))))
      (pss_one (ps_ret (pe_cmpR op_eq (pe_callB (cr_repr gs hu) (by rfl) B.repr (by decide +kernel) (pa_cons (pv 1) pa_nil)) (pe_callB (cr_repr gs hu) (by rfl) B.repr (by decide +kernel) (pa_cons (pv 0) pa_nil)) (nomark _))))), ?_⟩
    have desc : Desc K H (.ref a) (some (ns.map V.int)) := ⟨a, rfl, .inl (SqL.of ha), by rw [List.length_map]; omega, typed_all (dps_ints ns)⟩
    refine ⟨_, rfl, .ref a, 40, some (ns.map V.int), rfl, desc, fun ms fine => (fine_foul fine foul).elim, ?_⟩
    intro _ d H1 hd sm e
    refine ⟨true, R.te, fun _ a2 ha2 => ?_, fun q => Bool.noConfusion q⟩
    refine ⟨_, rfl, rfl, rfl, d, _, .ref a, rfl, e, rfl, ?_⟩
    have e1 := sm _ _ ha
    obtain ⟨sh, dep, len⟩ := shown_good (good_list (dps_set (H := H) hb) (by rw [List.length_map]; omega))
    refine ⟨_, rfl, .ref a, _, rfl, .dp (.lst (SqL.of e1) (dps_ints ns)), sh, dep, len, ?_⟩
    refine ⟨_, rfl, .ref a, _, rfl, .dp (.lst (SqL.of e1) (dps_ints ns)), sh, dep, len, rfl, ?_⟩
    rw [decide_eq_true rfl]
    exact out H1 sm
end
end K11
namespace K11
open PySem PySem.Spec PyProof.Rows L2 Par
theorem range41 : rgV 0 41 = ((List.range 41).map fun (i : Nat) => ((i : Nat) : Int)).map V.int := by decide +kernel
theorem foul40 : Foul 0 40 (some (([40] : List Int).map V.int)) := .inr (.inl ⟨_, rfl, by decide +kernel⟩)
theorem foul41 : Foul 0 40 (some (((List.range 41).map fun (i : Nat) => ((i : Nat) : Int)).map V.int)) := .inr (.inl ⟨_, rfl, by decide +kernel⟩)
theorem text40 : (PyData.list [.int 40, .bool true, .bool false]).shown = Str.ofString "[40, True, False]" := by decide +kernel
theorem all_of {l m : Int} {ns : List Int} (h : ∀ n ∈ ns, l ≤ n ∧ n < m) : AllOf l m (ns.map V.int) = true := by
  unfold AllOf
  rw [List.all_map, List.all_eq_true]
  intro n hn
  have := h n hn
  show (decide (l ≤ n) && decide (n ≤ m - 1)) = true
  rw [Bool.and_eq_true, decide_eq_true_eq, decide_eq_true_eq]
  omega
section
variable {P : Program} {w : World} {K : PySem.W.Frag} {mg : Str → Option Value} {base : Heap}
/-- is_cell, cell_tuple: called by position and size, by position alone, by the first name alone
-/
def HasCell3 (P : Program) (w : World) (K : PySem.W.Frag) (mg : Str → Option Value) (base : Heap) : Prop :=
  ∃ f fd, FnOk P w K mg base CX0 3 f fd ["thing", "size"] (spIsCell K) ∧ mg "is_cell" = some (.ref f) ∧ PySem.W.keepIn K (.ref f) = true ∧
    KBn K fd ["thing", "size"] 1 ["size"] (fun us ws => us ++ ws) (fun vs zs => vs ++ zs) ∧ (∃ ds, Vals [V.int 40] ds ∧ Binds K fd ["thing", "size"] ds) ∧
    ∃ g, KBn K fd ["thing", "size"] 0 ["thing"] g (fun _ zs => zs ++ [V.int 40])
def HasCells3 (P : Program) (w : World) (K : PySem.W.Frag) (mg : Str → Option Value) (base : Heap) (C : Addr) : Prop :=
  ∃ f fd, FnOk P w K mg base (L2.CX P w) 5 f fd ["things", "size"] (spCells K C) ∧ mg "cell_tuple" = some (.ref f) ∧ PySem.W.keepIn K (.ref f) = true ∧
    KBn K fd ["things", "size"] 1 ["size"] (fun us ws => us ++ ws) (fun vs zs => vs ++ zs) ∧ (∃ ds, Vals [V.int 40] ds ∧ Binds K fd ["things", "size"] ds) ∧
    ∃ g, KBn K fd ["things", "size"] 0 ["things"] g (fun _ zs => zs ++ [V.int 40])
/-- a def that may use repr -/
def HasG (P : Program) (w : World) (K : PySem.W.Frag) (mg : Str → Option Value) (base : Heap) (x : Str) (lv : Nat) (ps : List Str) (sp : Sp) : Prop :=
  ∃ f fd, FnG P w K mg base CX0 lv f fd ps sp ∧ mg x = some (.ref f) ∧ PySem.W.keepIn K (.ref f) = true ∧ Binds K fd ps []
def spLaw (K : PySem.W.Frag) : Sp := fun vs H Q _ => ∃ (a : Addr) (ns : List Int), vs = [.ref a] ∧ SqL K H a (ns.map V.int) ∧ ns.length ≤ 63 ∧ ∀ H', Q (.bl true) H'
abbrev nLaw : List Str := ["_law_script", "_law_k", "_law_pot_here", "_law_width", "_law_turn", "_law_item", "_law_due", "_law_spots_here", "_law_found"]
theorem scLaw : FnScope nLaw ["_law_script"] (defScope sLaw) := ⟨rfl, rfl, rfl, by decide +kernel, rfl, by decide +kernel, by decide +kernel⟩
theorem same_but {H0 H H' : Hp} {p : Addr} (h0 : H0 p = none) (s : Same H0 H) (b : But p H H') : Same H0 H' := fun c o e => b c o (ne_of_none e h0) (s c o e)
theorem ok_law {f C : Addr} {fd : FuncData} (F : Fun K "law" "law" sLaw f fd) (B : Bl mg) (hMost : ∃ t, mg "MOST_CELLS" = some (.int 40 t))
    (Pt : Has P w K mg base "_law_pot" 2 ["_law_script", "_law_k"] (spPot K)) (D : Has P w K mg base "_law_draw" 2 ["_law_pot_here", "_law_many"] spDraw)
    (S : Has P w K mg base "_law_spots" 3 ["_law_pot_here", "_law_least", "_law_width"] spSpots) (M : Has P w K mg base "_law_mixed" 3 ["_law_pot_here", "_law_given"] (spMixed K))
    (N : Has P w K mg base "_law_any_thing" 3 ["_law_pot_here"] (spAny K)) (J : Has P w K mg base "_law_is_int" 2 ["_law_item", "_law_low", "_law_high"] (spBetween K))
    (Tr : HasG P w K mg base "_law_tuple_right" 7 ["_law_pot_here", "_law_width"] spTupR) (Df : HasG P w K mg base "_law_default_right" 6 ["_law_given"] (spDfl K))
    (Ce : HasCell3 P w K mg base) (Ct : HasCells3 P w K mg base C) : FnG P w K mg base CX0 8 f fd ["_law_script"] (spLaw K) := by
  obtain ⟨fP, fdP, GP, mP, kP, bP⟩ := Pt
  obtain ⟨fD, fdD, GD, mD, kD, bD⟩ := D
  obtain ⟨fS, fdS, GS, mS, kS, bS⟩ := S
  obtain ⟨fM, fdM, GM, mM, kM, bM⟩ := M
  obtain ⟨fN, fdN, GN, mN, kN, bN⟩ := N
  obtain ⟨fJ, fdJ, GJ, mJ, kJ, bJ⟩ := J
  obtain ⟨fT, fdT, GT, mT, kT, bT⟩ := Tr
  obtain ⟨fF, fdF, GF, mF, kF, bF⟩ := Df
  obtain ⟨fC, fdC, GC, mC, kC, bC1, ⟨dsC, hdC, bC⟩, gC, bC0⟩ := Ce
  obtain ⟨fE, fdE, GE, mE, kE, bE1, ⟨dsE, hdE, bE⟩, gE, bE0⟩ := Ct
  obtain ⟨tM, mMost⟩ := hMost
  refine fnG_of F scLaw (fun vs H Q E h => ?_) (fun cdv A outer s H vs Q E gs hr h => ?_)
  · obtain ⟨a, ns, rfl, _⟩ := h
    rfl
  · obtain ⟨a, ns, rfl, hS, hlen, out⟩ := h
    have hu := hr.units
    have r4 : Room 6 (A.deeper (envOfC "law" (defScope sLaw) s.heap.objs.size f cdv)) := hr.mono (by decide)
    have r3 : Room 5 (A.deeper (envOfC "law" (defScope sLaw) s.heap.objs.size f cdv)) := hr.mono (by decide)
    have r2 : Room 3 (A.deeper (envOfC "law" (defScope sLaw) s.heap.objs.size f cdv)) := hr.mono (by decide)
    have r1 : Room 2 (A.deeper (envOfC "law" (defScope sLaw) s.heap.objs.size f cdv)) := hr.mono (by decide)
    refine ⟨_, pss_cons (ps_if (PW.pt (pw_or (pt_not (pt_val (pe_callG GF gs r4 (by rfl) mF kF bF pass0 (pa_cons (pe_lst (pa_cons pe_int pa_nil)) pa_nil))))
        (pw_or1 (pt_not (pt_val (pe_callG GF gs r4 (by rfl) mF kF bF pass0 (pa_cons (pe_listRg rfl (by rfl) B.list (prg_1 (by rfl) B.range pe_int)) pa_nil))))))) (pss_one (ps_ret pe_bl)) pss_nil)
      (pss_cons (ps_if (pt_cmpR op_ne (pe_callB (cr_repr gs hu) (by rfl) B.repr (by decide +kernel) (pa_cons (pe_lst (pa_cons (pe_glob (v := .int 40) (by rfl) mMost ⟨_, rfl⟩)
          (pa_cons (pe_callN0 (ks := ["thing"]) GC r2 (by rfl) mC kC bC0 pass0 (pk_cons pe_int pk_nil)) (pa_cons (pe_call GC r2 (by rfl) mC kC bC hdC pass0 (pa_cons pe_int pa_nil)) pa_nil)))) pa_nil)) pe_str (nomark _)) (pss_one (ps_ret pe_bl)) pss_nil)
      (pss_cons (ps_for PassesOwn.never rfl (pi_range1 (by rfl) B.range (pa_cons (pe_callB (call_max2 rfl) (by rfl) B.max (by decide +kernel) (pa_cons pe_int (pa_cons (pe_callB (call_min2 rfl) (by rfl) B.min (by decide +kernel) (pa_cons pe_int (pa_cons (pe_callB call_len_seq (by rfl) B.len PySem.boot_len (pa_cons (pv 0) pa_nil)) pa_nil))) pa_nil))) pa_nil)) (pg_name (i := 1) scLaw.nd rfl (Or.inl rfl))
        (pss_cons (ps_set (i := 2) scLaw.nd rfl (Or.inl rfl) (pe_call GP r1 (by rfl) mP kP bP .nil pass0 (pa_cons (pv 0) (pa_cons (pv 1) pa_nil))))
        (pss_cons (ps_set (i := 3) scLaw.nd rfl (Or.inl rfl) (pe_op op_add pe_int (pe_call GD r1 (by rfl) mD kD bD .nil pass0 (pa_cons (pv 2) (pa_cons pe_int pa_nil)))))
        (pss_cons (ps_for PassesOwn.never rfl (pi_range1 (by rfl) B.range (pa_cons pe_int pa_nil)) (pg_name (i := 4) scLaw.nd rfl (Or.inl rfl))
          (pss_cons (ps_set (i := 5) scLaw.nd rfl (Or.inl rfl) (pe_ix ix_list (pe_lst (pa_cons (pe_call GN r2 (by rfl) mN kN bN .nil pass0 (pa_cons (pv 2) pa_nil)) (pa_cons (pe_op op_sub (pe_call GD r1 (by rfl) mD kD bD .nil pass0 (pa_cons (pv 2) (pa_cons pe_int pa_nil))) pe_int) pa_nil))) (pe_call GD r1 (by rfl) mD kD bD .nil pass0 (pa_cons (pv 2) (pa_cons pe_int pa_nil))) (fun _ _ => rfl)))
          (pss_cons (ps_set (i := 6) scLaw.nd rfl (Or.inl rfl) (pe_lst (pa_cons (pe_call GJ r1 (by rfl) mJ kJ bJ .nil pass0 (pa_cons (pv 5) (pa_cons pe_int (pa_cons (pe_op op_sub (pv 3) pe_int) pa_nil)))) (pa_cons (pe_call GJ r1 (by rfl) mJ kJ bJ .nil pass0 (pa_cons (pv 5) (pa_cons pe_int (pa_cons pe_int pa_nil)))) pa_nil))))
          (pss_one (ps_if (PW.pt (pw_or (pt_cmpR op_ne (pe_callB (cr_repr gs hu) (by rfl) B.repr (by decide +kernel) (pa_cons (pe_lst (pa_cons (pe_callN (n := 1) (ks := ["size"]) GC r2 (by rfl) mC kC bC1 pass0 (pa_cons (pv 5) pa_nil) (pk_cons (pv 3) pk_nil)) (pa_cons (pe_call GC r2 (by rfl) mC kC bC hdC pass0 (pa_cons (pv 5) pa_nil)) pa_nil))) pa_nil)) (pe_callB (cr_repr gs hu) (by rfl) B.repr (by decide +kernel) (pa_cons (pv 6) pa_nil)) (nomark _))
            (pw_or1 (pt_not (pt_val (pe_callG GT gs hr (by rfl) mT kT bT pass0 (pa_cons (pv 2) (pa_cons (pv 3) pa_nil)))))))) (pss_one (ps_ret pe_bl)) pss_nil)))))
        (pss_cons (ps_set (i := 7) scLaw.nd rfl (Or.inl rfl) (pe_call GM r2 (by rfl) mM kM bM .nil pass0 (pa_cons (pv 2) (pa_cons (pe_call GS r2 (by rfl) mS kS bS .nil pass0 (pa_cons (pv 2) (pa_cons pe_int (pa_cons pe_int pa_nil)))) pa_nil))))
        (pss_cons (ps_set (i := 8) scLaw.nd rfl (Or.inl rfl) (pe_call (E := E0) GE r3 (by rfl) mE kE bE hdE passL (pa_cons (pv 7) pa_nil)))
        (pss_one (ps_if (PW.pt (pw_or (pt_cmpR op_ne (pe_callB (cr_repr gs hu) (by rfl) B.repr (by decide +kernel) (pa_cons (pv 8) pa_nil)) (pe_callB (cr_repr gs hu) (by rfl) B.repr (by decide +kernel) (pa_cons (pe_callTy call_tuple_of (by rfl) B.tuple (by decide +kernel) (pa_cons (pe_callB cr_sortedI (by rfl) B.sorted (by decide +kernel) (pa_cons (pv 7) pa_nil)) pa_nil)) pa_nil)) (nomark _))
            (pw_or1 (pt_cmpR op_ne (pe_callB (cr_repr gs hu) (by rfl) B.repr (by decide +kernel) (pa_cons (pe_callN0 (E := E0) (ks := ["things"]) GE r3 (by rfl) mE kE bE0 passL (pk_cons (pe_callTy call_tuple_of (by rfl) B.tuple (by decide +kernel) (pa_cons (pv 7) pa_nil)) pk_nil)) pa_nil)) (pe_callB (cr_repr gs hu) (by rfl) B.repr (by decide +kernel) (pa_cons (pv 8) pa_nil)) (nomark _))))) (pss_one (ps_ret pe_bl)) pss_nil))))))))
      (pss_one (ps_ret pe_bl)))), ?_⟩
    -- the default size
    refine ⟨by decide, fun p0 h0 => ?_⟩
    refine ⟨p0, [40], rfl, upd_same, foul40, by decide, by decide, fun H1 s1 => ⟨_, rfl, iteF ?_⟩⟩
    refine ⟨41, rfl, RgOk.of_le (by decide) (by decide) (by decide) (by decide), fun q0 hq0 => ?_⟩
    refine ⟨q0, _, rfl, by rw [upd_same, range41], foul41, by decide, by decide +kernel, fun H2 s2 => ⟨_, rfl, iteF ?_⟩⟩
    have sa : Same H H2 := (same_new h0).trans (s1.trans ((same_new hq0).trans s2))
    -- three answers
    refine ⟨rfl, rfl, .int 39, 40, rfl, .inr (.inl ⟨39, rfl⟩), ?_⟩
    refine ⟨.int 40, 40, rfl, .inr (.inl ⟨40, rfl⟩), ?_⟩
    have e1 : isV (.int 39) 0 (40 - 1) = true := by decide
    have e2 : isV (.int 40) 0 (40 - 1) = false := by decide
    rw [e1, e2]
    refine ⟨by decide, fun q1 hq1 => ?_⟩
    have shl := shown_list (ds := [.int 40, .bool true, .bool false]) (fun e he => by
        rcases mem3 he with rfl | rfl | rfl
        · exact small_good (small_int (by decide))
        · exact small_good (small_bool _)
        · exact small_good (small_bool _)) (by decide)
    refine ⟨_, _, rfl, .dp (.lst (SqL.of upd_same) (.cons (.int 40) (.cons (.bl true) (.cons (.bl false) .nil)))), shl.1, shl.2.1, shl.2.2, rfl, _, rfl, ?_⟩
    rw [text40]
    refine iteNS rfl ?_
    have sb : Same H (upd H2 q1 (.lst [.int 40, .bl true, .bl false])) := sa.trans (same_new hq1)
    -- the loop
    refine ⟨_, rfl, a, _, rfl, .inl (sb.seq hS), _, _, rfl, _, _, rfl, _, rfl, ?_, ?_, ?_⟩
    · rw [List.length_map]
      split <;> split <;> omega
    · rw [List.length_map]
      split <;> split <;> omega
    refine for_range (lo := 0) (fun i σ H' => Same H H' ∧ ∃ kv pv wv tv iv dv sv fv : Option V, σ = [some (.ref a), kv, pv, wv, tv, iv, dv, sv, fv])
      ⟨sb, none, none, none, none, none, none, none, none, rfl⟩ ?_ ?_
    · rintro i σ H3 hi ⟨s3, kv, pv0, wv, tv, iv, dv, sv, fv, rfl⟩
      have hi8 : i < 9 := by
        rw [List.length_map] at hi
        revert hi
        split <;> split <;> omega
      refine ⟨_, rfl, _, rfl, a, ns, i, (by rw [Int.zero_add]; rfl), s3.seq hS, by omega, fun p H4 hp s4 pot4 => ?_⟩
      have hpH : H p = none := s3.free hp
      have s04 := s3.trans s4
      refine ⟨_, rfl, p, 40, rfl, pot4, by decide, by decide, fun d H5 d0 d1 b5 pot5 => ⟨1, d, rfl, rfl, ?_⟩⟩
      have s05 := same_but hpH s04 b5
      refine ⟨8, rfl, by decide, by decide, ?_⟩
      refine for_range (lo := 0) (n := 8) (fun i2 σ H' => Same H H' ∧ PotAt H' p ∧ ∃ tv iv dv : Option V, σ = [some (.ref a), some (.int (0 + (i : Int))), some (.ref p), some (.int (1 + d)), tv, iv, dv, sv, fv])
        ⟨s05, pot5, tv, iv, dv, rfl⟩ ?_ ?_
      · -- one item
        rintro i2 σ H6 hi2 ⟨s6, pot6, tv, iv, dv, rfl⟩
        refine ⟨_, rfl, p, rfl, pot6, fun v dd H7 b7 pot7 gv gd => ?_⟩
        refine ⟨_, rfl, p, 45, rfl, pot7, by decide, by decide, fun e H8 f0 f1 b8 pot8 => ⟨e, 2, rfl, rfl, (by show 2 ≤ sizeLine; decide), fun I hI => ?_⟩⟩
        have s9 := same_new (o := .lst [v, .int (e - 2)]) hI
        refine ⟨_, rfl, p, 2, rfl, pot8.same s9, by decide, by decide, fun c H9 c0 c1 b9 pot9 => ?_⟩
        have nI : I ≠ p := pot_ne pot8 hI
        have b79 : But p H7 H9 := b8.trans ((But.same s9).trans b9)
        have g9 : Giv K H9 v dd := giv_same (del_sub H9 p) (giv_same (del_same' b79) gv)
        obtain ⟨it, hat, hty⟩ : ∃ it, atI [v, V.int (e - 2)] c = some it ∧ Typed K H9 it := by
          rcases (show c = 0 ∨ c = 1 by omega) with rfl | rfl
          · exact ⟨v, rfl, typed_giv g9⟩
          · exact ⟨.int (e - 2), rfl, .inr (.inl ⟨_, rfl⟩)⟩
        refine ⟨I, _, c, it, rfl, rfl, SqL.of (b9 I _ nI upd_same), hat, ?_⟩
        refine ⟨_, rfl, _, rfl, 1 + d, 1, rfl, rfl, it, 0, _, rfl, hty, ?_⟩
        refine ⟨_, rfl, it, 0, 39, rfl, hty, (by show 2 ≤ sizeLine; decide), fun D hD => ?_⟩
        have s10 := same_new (o := .lst [.bl (isV it 0 (1 + d - 1)), .bl (isV it 0 39)]) hD
        refine ⟨_, rfl, _, rfl, rfl, rfl, it, 1 + d, rfl, same_typed s10 hty, ?_⟩
        refine ⟨_, rfl, it, 40, rfl, same_typed s10 hty, (by show 2 ≤ sizeLine; decide), fun L hL => ?_⟩
        rw [show ((40 : Int) - 1) = 39 by decide]
        have s11 := same_new (o := .lst [.bl (isV it 0 (1 + d - 1)), .bl (isV it 0 39)]) hL
        have sh2 := shown_list (ds := [.bool (isV it 0 (1 + d - 1)), .bool (isV it 0 39)]) (fun e he => by
          rcases mem2 he with rfl | rfl
          · exact small_good (small_bool _)
          · exact small_good (small_bool _)) (by show 2 ≤ 8; decide)
        refine ⟨_, _, rfl, .dp (.lst (SqL.of upd_same) (.cons (.bl _) (.cons (.bl _) .nil))), sh2.1, sh2.2.1, sh2.2.2, ?_⟩
        refine ⟨_, rfl, _, _, rfl, .dp (.lst (SqL.of (s11 _ _ upd_same)) (.cons (.bl _) (.cons (.bl _) .nil))), sh2.1, sh2.2.1, sh2.2.2, rfl, _, rfl, iteNS rfl ?_⟩
        have pot11 := (pot9.same s10).same s11
        refine ⟨_, rfl, _, rfl, p, 1 + d, rfl, pot11, by omega, by omega, fun H12 b12 pot12 => ⟨_, rfl, iteF ?_⟩⟩
        have s09 : Same H H9 := same_but hpH s6 (b7.trans b79)
        exact ⟨same_but hpH (s09.trans (s10.trans s11)) b12, pot12, _, _, _, rfl⟩
      · -- cells of the size 40
        rintro σ H6 ⟨s6, pot6, tv, iv, dv, rfl⟩
        refine ⟨_, rfl, _, rfl, p, 0, 40, rfl, pot6, by decide, by decide, by decide, by decide, ?_⟩
        intro g ms H7 hg pw bd b7 pot7 eg
        have ml : ms.length ≤ 40 := by
          have := rising_len pw bd
          omega
        refine ⟨p, g, ms, rfl, pot7, eg, pot_ne pot6 hg, by omega, ?_⟩
        intro q zs H8 hq pm b8 pot8 eq
        have zl : zs.length ≤ 40 := by rw [pm.length_eq]; exact ml
        have zb : ∀ n ∈ zs, (0 : Int) ≤ n ∧ n < 40 := fun n hn => bd n (pm.mem_iff.mp hn)
        have zn : zs.Nodup := pm.nodup_iff.mpr (pw.imp (fun z => by omega))
        have fine : Fine 0 40 (some (zs.map V.int)) zs := ⟨rfl, all_of zb, zn⟩
        have s08 : Same H H8 := same_but hpH s6 (b7.trans b8)
        have desc : Desc K H8 (.ref q) (some (zs.map V.int)) := ⟨q, rfl, .inl (SqL.of eq), by rw [List.length_map]; omega, typed_all (dps_ints zs)⟩
        refine ⟨_, rfl, .ref q, 40, some (zs.map V.int), rfl, desc, ?_, fun foul => (fine_foul fine foul).elim⟩
        intro zs2 fine2 pt ks H9 hpt s9 pmk pwk et
        have ez := map_int_inj (Option.some.inj fine2.1)
        subst ez
        have gK : good (.tuple (ks.map PyData.int)) := good_tuple (dps_set (H := H) fun n hn => by
          have := zb n (pmk.mem_iff.mp hn)
          omega) (by rw [List.length_map, pmk.length_eq]; omega)
        obtain ⟨sh, dep, len⟩ := shown_good gK
        refine ⟨_, rfl, _, _, rfl, .dp (.tup (SqT.of et) (dps_ints ks)), sh, dep, len, ?_⟩
        refine ⟨_, rfl, q, zs, rfl, SqL.of (s9 _ _ eq), fun ks2 S pm2 pw2 hS2 => ?_⟩
        have es := sorted_one pmk pm2 pwk pw2
        subst es
        have s10 := same_new (o := .lst (ks.map V.int)) hS2
        refine ⟨S, _, rfl, .inl ⟨SqL.of upd_same, fun T2 hT2 => ?_⟩⟩
        have s11 := same_new (o := .tup (ks.map V.int)) hT2
        refine ⟨_, _, rfl, .dp (.tup (SqT.of upd_same) (dps_ints ks)), sh, dep, len, rfl, _, rfl, iteNS rfl ?_⟩
        have s911 := s9.trans (s10.trans s11)
        refine ⟨_, rfl, q, _, rfl, .inl ⟨SqL.of (s911 _ _ eq), fun T3 hT3 => ?_⟩⟩
        have s12 := same_new (o := .tup (zs.map V.int)) hT3
        refine ⟨rfl, rfl, .ref T3, 40, some (zs.map V.int), rfl, ⟨T3, rfl, .inr (SqT.of upd_same), by rw [List.length_map]; omega, typed_all (dps_ints zs)⟩, ?_, fun foul => (fine_foul fine foul).elim⟩
        intro zs3 fine3 pt3 ks3 H10 hpt3 s13 pm3 pw3 et3
        have ez3 := map_int_inj (Option.some.inj fine3.1)
        subst ez3
        have es3 := sorted_one pmk pm3 pwk pw3
        subst es3
        have et10 : H10 pt = some (.tup (ks.map V.int)) := s13 _ _ (s12 _ _ (s11 _ _ (s10 _ _ et)))
        refine ⟨_, _, rfl, .dp (.tup (SqT.of et3) (dps_ints ks)), sh, dep, len, ?_⟩
        refine ⟨_, rfl, _, _, rfl, .dp (.tup (SqT.of et10) (dps_ints ks)), sh, dep, len, rfl, _, rfl, iteNS rfl ?_⟩
        exact ⟨s08.trans (s911.trans (s12.trans s13)), _, _, _, _, _, _, _, _, rfl⟩
    · rintro σ H3 _
      exact out H3
end
end K11
namespace K11
open PySem PySem.Spec PyProof.Rows L2 Par
theorem kb_size {K : PySem.W.Frag} {x : Str} {st : Stmt} {f : Addr} {fd : FuncData} {y : Str} (F : FunD K x x (defArgs st) (defBody st) (defScope st) [] [("size", .int 40)] f fd)
    (h : ∀ (D : Addr) (doc pm : Value) (an : Option Addr) (cdv ct u v : Value), bindArgs (PySem.W.fnOf x x (defArgs st) (defBody st) (defScope st) .none (.ref D) doc pm an cdv ct) ⟨[u], [("size", v)]⟩ = pure [(y, u), ("size", v)]) :
    KBn K fd [y, "size"] 1 ["size"] (fun us ws => us ++ ws) (fun vs zs => vs ++ zs) := by
  obtain ⟨oc, od, dV, kV, doc, pm, an, cdv, ct, osl, rfl, lk, hcd, hD, hK⟩ := F.ex
  rcases hD with ⟨_, rfl⟩ | ⟨e, _⟩
  · rcases hK with e | ⟨D, rfl, hq⟩
    · cases e
    · refine ⟨fun s us ws X l1 l2 => ?_, fun r1 r2 => r1.append r2⟩
      match us, ws, l1, l2 with
      | [u], [v], _, _ => exact .of_eq (h D doc pm an cdv ct u v)
  · exact absurd rfl e
theorem kit_own {K : PySem.W.Frag} {D C : Addr} {b : Bool} (ne : D ≠ C) (hd : PySem.W.hasDictIn K C = true) (ty : PySem.W.typeIn K (.ref C) = some (.type "type")) (sub : PySem.W.subIn K (.ref D) (.ref C) = some b) :
    PySem.W.kitOne K (.ref D) (.ref C) = some b := by
  obtain ⟨cd, hc, _⟩ := PySem.W.any_some hd
  have e1 : (Value.ref D == Value.ref C) = false := beq_eq_false_iff_ne.mpr fun z => ne (Value.ref.inj z)
  have e2 : ((PySem.W.clsIn K C).isSome && PySem.W.typeIn K (.ref C) == some (.type "type")) = true := by
    rw [hc, ty]
    rfl
  show (if (Value.ref D == Value.ref C) = true then some true else if ((PySem.W.clsIn K C).isSome && PySem.W.typeIn K (.ref C) == some (.type "type")) = true then PySem.W.subIn K (.ref D) (.ref C) else none) = some b
  rw [if_neg (by rw [e1]; simp), if_pos e2]
  exact sub
theorem kit_blt {K : PySem.W.Frag} {D : Addr} {T : String} {b : Bool} (mt : PySem.W.kitMeta T = true) (sub : PySem.W.subIn K (.ref D) (.type T) = some b) : PySem.W.kitOne K (.ref D) (.type T) = some b := by
  have e1 : (Value.ref D == Value.type T) = false := beq_eq_false_iff_ne.mpr fun z => nomatch z
  show (if (Value.ref D == Value.type T) = true then some true else if PySem.W.kitMeta T = true then PySem.W.subIn K (.ref D) (.type T) else none) = some b
  rw [if_neg (by rw [e1]; simp), if_pos mt]
  exact sub
theorem kit_no {K : PySem.W.Frag} {t c : Value} {cs : List Value} (h : PySem.W.kitOne K t c = some false) (hr : PySem.W.kitAny K t cs = some false) : PySem.W.kitAny K t (c :: cs) = some false :=
  kitAny_cons h (fun _ => hr) (fun z => nomatch z)
theorem all_mk {l : PySem.W.OpenLaw} {w : World} {K : PySem.W.Frag} {h : Heap} {mg : Str → Option Value} {fa : Addr} (X : K.In h) (G : h.Ns mainGlobals mg) (hfa : mg "law" = some (.ref fa))
    {f7 : Addr} {oc7 kV7 dc7 pm7 cd7 ct7 : Value} {od7 an7 : Option Addr} {sl7 : Array (Option Value)}
    {fareC : Addr} {ocareC kVareC dcareC pmareC cdareC ctareC : Value} {odareC anareC : Option Addr} {slareC : Array (Option Value)}
    {f13 : Addr} {oc13 kV13 dc13 pm13 cd13 ct13 : Value} {od13 an13 : Option Addr} {sl13 : Array (Option Value)}
    {f14 : Addr} {oc14 kV14 dc14 pm14 cd14 ct14 : Value} {od14 an14 : Option Addr} {sl14 : Array (Option Value)}
    {f15 : Addr} {oc15 kV15 dc15 pm15 cd15 ct15 : Value} {od15 an15 : Option Addr} {sl15 : Array (Option Value)}
    {f16 : Addr} {oc16 kV16 dc16 pm16 cd16 ct16 : Value} {od16 an16 : Option Addr} {sl16 : Array (Option Value)}
    {f17 : Addr} {oc17 kV17 dc17 pm17 cd17 ct17 : Value} {od17 an17 : Option Addr} {sl17 : Array (Option Value)}
    {f18 : Addr} {oc18 kV18 dc18 pm18 cd18 ct18 : Value} {od18 an18 : Option Addr} {sl18 : Array (Option Value)}
    {f19 : Addr} {oc19 kV19 dc19 pm19 cd19 ct19 : Value} {od19 an19 : Option Addr} {sl19 : Array (Option Value)}
    {f20 : Addr} {oc20 kV20 dc20 pm20 cd20 ct20 : Value} {od20 an20 : Option Addr} {sl20 : Array (Option Value)}
    {f21 : Addr} {oc21 kV21 dc21 pm21 cd21 ct21 : Value} {od21 an21 : Option Addr} {sl21 : Array (Option Value)}
    {f22 : Addr} {oc22 kV22 dc22 pm22 cd22 ct22 : Value} {od22 an22 : Option Addr} {sl22 : Array (Option Value)}
    {f23 : Addr} {oc23 kV23 dc23 pm23 cd23 ct23 : Value} {od23 an23 : Option Addr} {sl23 : Array (Option Value)}
    {f24 : Addr} {oc24 kV24 dc24 pm24 cd24 ct24 : Value} {od24 an24 : Option Addr} {sl24 : Array (Option Value)}
    {f10 D10 : Addr} {t10 : Tok} {oc10 dc10 pm10 cd10 ct10 : Value} {od10 an10 : Option Addr} {sl10 : Array (Option Value)}
    {f11 D11 : Addr} {t11 : Tok} {oc11 dc11 pm11 cd11 ct11 : Value} {od11 an11 : Option Addr} {sl11 : Array (Option Value)}
    {C c1 c2 c3 c4 fI : Addr} {ocI kVI dcI pmI cdI ctI : Value} {odI anI : Option Addr} {slI : Array (Option Value)} {nm qn : Str} {Nn : Addr} {bs bm : List Value} {sn : List Str} {sub : List Value} {ab : Bool} {col : Option Bool} {dd : Option Addr} {m0 m1 m2 m3 m5 : Option Value} {tM : Tok}
    {fii : Addr} {ocii kVii dcii pmii cdii ctii : Value} {odii anii : Option Addr} {slii : Array (Option Value)}
    (aii : PySem.W.nsIn K mainGlobals "is_integer" = some (some (.ref fii)))
    (lii : K.lookup fii = some ⟨ocii, odii, .func (PySem.W.fnOf "is_integer" "is_integer" (defArgs sInteger) (defBody sInteger) (defScope sInteger) .none kVii dcii pmii anii cdii ctii), slii⟩)
    (cii : PySem.W.codeIn K cdii "is_integer" = true)
    (kii : PySem.W.keepIn K (.ref fii) = true)
    (a7 : PySem.W.nsIn K mainGlobals "is_integer_between" = some (some (.ref f7)))
    (l7 : K.lookup f7 = some ⟨oc7, od7, .func (PySem.W.fnOf "is_integer_between" "is_integer_between" (defArgs sBetween) (defBody sBetween) (defScope sBetween) .none kV7 dc7 pm7 an7 cd7 ct7), sl7⟩)
    (c7 : PySem.W.codeIn K cd7 "is_integer_between" = true)
    (k7 : PySem.W.keepIn K (.ref f7) = true)
    (aareC : PySem.W.nsIn K mainGlobals "are_cells" = some (some (.ref fareC)))
    (lareC : K.lookup fareC = some ⟨ocareC, odareC, .func (PySem.W.fnOf "are_cells" "are_cells" (defArgs sAreC) (defBody sAreC) (defScope sAreC) .none kVareC dcareC pmareC anareC cdareC ctareC), slareC⟩)
    (careC : PySem.W.codeIn K cdareC "are_cells" = true)
    (kareC : PySem.W.keepIn K (.ref fareC) = true)
    (a13 : PySem.W.nsIn K mainGlobals "_law_pot" = some (some (.ref f13)))
    (l13 : K.lookup f13 = some ⟨oc13, od13, .func (PySem.W.fnOf "_law_pot" "_law_pot" (defArgs sPot) (defBody sPot) (defScope sPot) .none kV13 dc13 pm13 an13 cd13 ct13), sl13⟩)
    (c13 : PySem.W.codeIn K cd13 "_law_pot" = true)
    (k13 : PySem.W.keepIn K (.ref f13) = true)
    (a14 : PySem.W.nsIn K mainGlobals "_law_draw" = some (some (.ref f14)))
    (l14 : K.lookup f14 = some ⟨oc14, od14, .func (PySem.W.fnOf "_law_draw" "_law_draw" (defArgs sDraw) (defBody sDraw) (defScope sDraw) .none kV14 dc14 pm14 an14 cd14 ct14), sl14⟩)
    (c14 : PySem.W.codeIn K cd14 "_law_draw" = true)
    (k14 : PySem.W.keepIn K (.ref f14) = true)
    (a15 : PySem.W.nsIn K mainGlobals "_law_spots" = some (some (.ref f15)))
    (l15 : K.lookup f15 = some ⟨oc15, od15, .func (PySem.W.fnOf "_law_spots" "_law_spots" (defArgs sSpots) (defBody sSpots) (defScope sSpots) .none kV15 dc15 pm15 an15 cd15 ct15), sl15⟩)
    (c15 : PySem.W.codeIn K cd15 "_law_spots" = true)
    (k15 : PySem.W.keepIn K (.ref f15) = true)
    (a16 : PySem.W.nsIn K mainGlobals "_law_any_thing" = some (some (.ref f16)))
    (l16 : K.lookup f16 = some ⟨oc16, od16, .func (PySem.W.fnOf "_law_any_thing" "_law_any_thing" (defArgs sAny) (defBody sAny) (defScope sAny) .none kV16 dc16 pm16 an16 cd16 ct16), sl16⟩)
    (c16 : PySem.W.codeIn K cd16 "_law_any_thing" = true)
    (k16 : PySem.W.keepIn K (.ref f16) = true)
    (a17 : PySem.W.nsIn K mainGlobals "_law_is_int" = some (some (.ref f17)))
    (l17 : K.lookup f17 = some ⟨oc17, od17, .func (PySem.W.fnOf "_law_is_int" "_law_is_int" (defArgs sIsInt) (defBody sIsInt) (defScope sIsInt) .none kV17 dc17 pm17 an17 cd17 ct17), sl17⟩)
    (c17 : PySem.W.codeIn K cd17 "_law_is_int" = true)
    (k17 : PySem.W.keepIn K (.ref f17) = true)
    (a18 : PySem.W.nsIn K mainGlobals "_law_mixed" = some (some (.ref f18)))
    (l18 : K.lookup f18 = some ⟨oc18, od18, .func (PySem.W.fnOf "_law_mixed" "_law_mixed" (defArgs sMixed) (defBody sMixed) (defScope sMixed) .none kV18 dc18 pm18 an18 cd18 ct18), sl18⟩)
    (c18 : PySem.W.codeIn K cd18 "_law_mixed" = true)
    (k18 : PySem.W.keepIn K (.ref f18) = true)
    (a19 : PySem.W.nsIn K mainGlobals "_law_are_spots" = some (some (.ref f19)))
    (l19 : K.lookup f19 = some ⟨oc19, od19, .func (PySem.W.fnOf "_law_are_spots" "_law_are_spots" (defArgs sAre) (defBody sAre) (defScope sAre) .none kV19 dc19 pm19 an19 cd19 ct19), sl19⟩)
    (c19 : PySem.W.codeIn K cd19 "_law_are_spots" = true)
    (k19 : PySem.W.keepIn K (.ref f19) = true)
    (a20 : PySem.W.nsIn K mainGlobals "_law_odd_spots" = some (some (.ref f20)))
    (l20 : K.lookup f20 = some ⟨oc20, od20, .func (PySem.W.fnOf "_law_odd_spots" "_law_odd_spots" (defArgs sOdd) (defBody sOdd) (defScope sOdd) .none kV20 dc20 pm20 an20 cd20 ct20), sl20⟩)
    (c20 : PySem.W.codeIn K cd20 "_law_odd_spots" = true)
    (k20 : PySem.W.keepIn K (.ref f20) = true)
    (a21 : PySem.W.nsIn K mainGlobals "_law_cells_met" = some (some (.ref f21)))
    (l21 : K.lookup f21 = some ⟨oc21, od21, .func (PySem.W.fnOf "_law_cells_met" "_law_cells_met" (defArgs sMet) (defBody sMet) (defScope sMet) .none kV21 dc21 pm21 an21 cd21 ct21), sl21⟩)
    (c21 : PySem.W.codeIn K cd21 "_law_cells_met" = true)
    (k21 : PySem.W.keepIn K (.ref f21) = true)
    (a22 : PySem.W.nsIn K mainGlobals "_law_tuple_right" = some (some (.ref f22)))
    (l22 : K.lookup f22 = some ⟨oc22, od22, .func (PySem.W.fnOf "_law_tuple_right" "_law_tuple_right" (defArgs sTupR) (defBody sTupR) (defScope sTupR) .none kV22 dc22 pm22 an22 cd22 ct22), sl22⟩)
    (c22 : PySem.W.codeIn K cd22 "_law_tuple_right" = true)
    (k22 : PySem.W.keepIn K (.ref f22) = true)
    (a23 : PySem.W.nsIn K mainGlobals "_law_default_right" = some (some (.ref f23)))
    (l23 : K.lookup f23 = some ⟨oc23, od23, .func (PySem.W.fnOf "_law_default_right" "_law_default_right" (defArgs sDflR) (defBody sDflR) (defScope sDflR) .none kV23 dc23 pm23 an23 cd23 ct23), sl23⟩)
    (c23 : PySem.W.codeIn K cd23 "_law_default_right" = true)
    (k23 : PySem.W.keepIn K (.ref f23) = true)
    (a24 : PySem.W.nsIn K mainGlobals "law" = some (some (.ref f24)))
    (l24 : K.lookup f24 = some ⟨oc24, od24, .func (PySem.W.fnOf "law" "law" (defArgs sLaw) (defBody sLaw) (defScope sLaw) .none kV24 dc24 pm24 an24 cd24 ct24), sl24⟩)
    (c24 : PySem.W.codeIn K cd24 "law" = true)
    (k24 : PySem.W.keepIn K (.ref f24) = true)
    (a10 : PySem.W.nsIn K mainGlobals "is_cell" = some (some (.ref f10)))
    (l10 : K.lookup f10 = some ⟨oc10, od10, .func (PySem.W.fnOf "is_cell" "is_cell" (defArgs sIsCell) (defBody sIsCell) (defScope sIsCell) .none (.ref D10) dc10 pm10 an10 cd10 ct10), sl10⟩)
    (d10 : PySem.W.nsIn K D10 "size" = some (some (.int 40 t10)))
    (c10 : PySem.W.codeIn K cd10 "is_cell" = true)
    (k10 : PySem.W.keepIn K (.ref f10) = true)
    (a11 : PySem.W.nsIn K mainGlobals "cell_tuple" = some (some (.ref f11)))
    (l11 : K.lookup f11 = some ⟨oc11, od11, .func (PySem.W.fnOf "cell_tuple" "cell_tuple" (defArgs sCells) (defBody sCells) (defScope sCells) .none (.ref D11) dc11 pm11 an11 cd11 ct11), sl11⟩)
    (d11 : PySem.W.nsIn K D11 "size" = some (some (.int 40 t11)))
    (c11 : PySem.W.codeIn K cd11 "cell_tuple" = true)
    (k11 : PySem.W.keepIn K (.ref f11) = true)
    (aC : PySem.W.nsIn K mainGlobals "NoCells" = some (some (.ref C)))
    (xC : K.lookup C = some (excClassObj nm qn C Nn bs bm true sn sub ab col dd m0 m1 m2 m3 m5 "ValueError.__new__"))
    (rC : PySem.HandSPX.refsVE bm = true)
    (saC : PySem.W.findIn K (.ref C) "__setattr__" = some (some (.builtin "object.__setattr__")))
    (exC : PySem.W.subIn K (.ref C) (.type "BaseException") = some true)
    (tyC : PySem.W.typeIn K (.ref C) = some (.type "type"))
    (kC : PySem.W.keepIn K (.ref C) = true)
    (noC : PySem.W.findIn K (.ref C) "cells" = some none)
    (iC : PySem.W.findIn K (.ref C) "__init__" = some (some (.ref fI)))
    (tI : PySem.W.typeIn K (.ref fI) = some (.type "function"))
    (lI : K.lookup fI = some ⟨ocI, odI, .func (PySem.W.fnOf "__init__" "NoCells.__init__" (defArgs sIni) (defBody sIni) (defScope sIni) .none kVI dcI pmI anI cdI ctI), slI⟩)
    (cI : PySem.W.codeIn K cdI "NoCells.__init__" = true)
    (kI : PySem.W.keepIn K (.ref fI) = true)
    (g1 : PySem.W.nsIn K mainGlobals "NoCell" = some (some (.ref c1)))
    (g2 : PySem.W.nsIn K mainGlobals "NoSize" = some (some (.ref c2)))
    (g3 : PySem.W.nsIn K mainGlobals "NoFlip" = some (some (.ref c3)))
    (g4 : PySem.W.nsIn K mainGlobals "CellError" = some (some (.ref c4)))
    (s1 : PySem.W.subIn K (.ref C) (.ref c1) = some false)
    (hc1 : PySem.W.hasDictIn K c1 = true)
    (tc1 : PySem.W.typeIn K (.ref c1) = some (.type "type"))
    (nc1 : C ≠ c1)
    (s2 : PySem.W.subIn K (.ref C) (.ref c2) = some false)
    (hc2 : PySem.W.hasDictIn K c2 = true)
    (tc2 : PySem.W.typeIn K (.ref c2) = some (.type "type"))
    (nc2 : C ≠ c2)
    (s3 : PySem.W.subIn K (.ref C) (.ref c3) = some false)
    (hc3 : PySem.W.hasDictIn K c3 = true)
    (tc3 : PySem.W.typeIn K (.ref c3) = some (.type "type"))
    (nc3 : C ≠ c3)
    (s4 : PySem.W.subIn K (.ref C) (.ref c4) = some true)
    (hc4 : PySem.W.hasDictIn K c4 = true)
    (tc4 : PySem.W.typeIn K (.ref c4) = some (.type "type"))
    (nc4 : C ≠ c4)
    (sLookup : PySem.W.subIn K (.ref C) (.type "LookupError") = some false)
    (sRuntime : PySem.W.subIn K (.ref C) (.type "RuntimeError") = some false)
    (sArithmetic : PySem.W.subIn K (.ref C) (.type "ArithmeticError") = some false)
    (sValue : PySem.W.subIn K (.ref C) (.type "ValueError") = some true)
    (ga : PySem.W.findIn K (.ref C) "__getattribute__" = some (some (.builtin "BaseException.__getattribute__")))
    (gg : PySem.W.findIn K (.ref C) "__getattr__" = some none)
    (hd : PySem.W.hasDictIn K C = true)
    (ha : PySem.W.findIn K (.ref C) "__class__" = some (some (.builtin "object.__class__")))
    (hn : PySem.W.specialIn K (.builtin "object.__class__") "__get__" = some (some (.builtin "getset_descriptor.__get__")))
    (ht : PySem.W.takesIn K (.builtin "object.__class__") = some true)
    (hm : PySem.W.mroIn K C (.type "object") = some true)
    (te : PySem.W.exmOne K (.ref C) (.ref C) = some true)
    (mM : PySem.W.nsIn K mainGlobals "MOST_CELLS" = some (some (.int 40 tM)))
    (z_len : PySem.W.nsIn K mainGlobals "len" = some none)
    (z_abs : PySem.W.nsIn K mainGlobals "abs" = some none)
    (z_max : PySem.W.nsIn K mainGlobals "max" = some none)
    (z_min : PySem.W.nsIn K mainGlobals "min" = some none)
    (z_divmod : PySem.W.nsIn K mainGlobals "divmod" = some none)
    (z_list : PySem.W.nsIn K mainGlobals "list" = some none)
    (z_tuple : PySem.W.nsIn K mainGlobals "tuple" = some none)
    (z_range : PySem.W.nsIn K mainGlobals "range" = some none)
    (z_isinstance : PySem.W.nsIn K mainGlobals "isinstance" = some none)
    (z_bool : PySem.W.nsIn K mainGlobals "bool" = some none)
    (z_int : PySem.W.nsIn K mainGlobals "int" = some none)
    (z_sorted : PySem.W.nsIn K mainGlobals "sorted" = some none)
    (z_set : PySem.W.nsIn K mainGlobals "set" = some none)
    (z_all : PySem.W.nsIn K mainGlobals "all" = some none)
    (z_enumerate : PySem.W.nsIn K mainGlobals "enumerate" = some none)
    (z_repr : PySem.W.nsIn K mainGlobals "repr" = some none)
    (z_ValueError : PySem.W.nsIn K mainGlobals "ValueError" = some none)
    (z_LookupError : PySem.W.nsIn K mainGlobals "LookupError" = some none)
    (z_RuntimeError : PySem.W.nsIn K mainGlobals "RuntimeError" = some none)
    (z_ArithmeticError : PySem.W.nsIn K mainGlobals "ArithmeticError" = some none) :
    ∃ fd : FuncData, (∀ (s : Shared) (v : Value), BindsTo s fd ⟨[v], []⟩ [("_law_script", v)]) ∧ ∀ base : Heap, K.In base → base.Ns mainGlobals mg → FnG l.prog w K mg base CX0 8 fa fd ["_law_script"] (spLaw K) := by
  have e := hfa.symm.trans (PySem.W.mg_of X G a24)
  cases e
  have B : Bl mg := ⟨PySem.W.mg_none_of X G z_len, PySem.W.mg_none_of X G z_abs, PySem.W.mg_none_of X G z_max, PySem.W.mg_none_of X G z_min, PySem.W.mg_none_of X G z_divmod, PySem.W.mg_none_of X G z_list, PySem.W.mg_none_of X G z_tuple, PySem.W.mg_none_of X G z_range, PySem.W.mg_none_of X G z_isinstance, PySem.W.mg_none_of X G z_bool, PySem.W.mg_none_of X G z_int, PySem.W.mg_none_of X G z_sorted, PySem.W.mg_none_of X G z_set, PySem.W.mg_none_of X G z_all, PySem.W.mg_none_of X G z_enumerate, PySem.W.mg_none_of X G z_repr, PySem.W.mg_none_of X G z_ValueError, PySem.W.mg_none_of X G z_LookupError, PySem.W.mg_none_of X G z_RuntimeError, PySem.W.mg_none_of X G z_ArithmeticError⟩
  have Fii := fun_mk (st := sInteger) lii cii kii
  have bii := Fii.binds (ps := ["thing"]) fun _ _ _ _ _ _ us hl => match us, hl with | [_], _ => rfl
  have mii := PySem.W.mg_of X G aii
  have F7 := fun_mk (st := sBetween) l7 c7 k7
  have b7 := F7.binds (ps := ["thing", "low", "high"]) fun _ _ _ _ _ _ us hl => match us, hl with | [_, _, _], _ => rfl
  have m7 := PySem.W.mg_of X G a7
  have FareC := fun_mk (st := sAreC) lareC careC kareC
  have bareC := FareC.binds (ps := ["things", "size"]) fun _ _ _ _ _ _ us hl => match us, hl with | [_, _], _ => rfl
  have mareC := PySem.W.mg_of X G aareC
  have F13 := fun_mk (st := sPot) l13 c13 k13
  have b13 := F13.binds (ps := ["_law_script", "_law_k"]) fun _ _ _ _ _ _ us hl => match us, hl with | [_, _], _ => rfl
  have m13 := PySem.W.mg_of X G a13
  have F14 := fun_mk (st := sDraw) l14 c14 k14
  have b14 := F14.binds (ps := ["_law_pot_here", "_law_many"]) fun _ _ _ _ _ _ us hl => match us, hl with | [_, _], _ => rfl
  have m14 := PySem.W.mg_of X G a14
  have F15 := fun_mk (st := sSpots) l15 c15 k15
  have b15 := F15.binds (ps := ["_law_pot_here", "_law_least", "_law_width"]) fun _ _ _ _ _ _ us hl => match us, hl with | [_, _, _], _ => rfl
  have m15 := PySem.W.mg_of X G a15
  have F16 := fun_mk (st := sAny) l16 c16 k16
  have b16 := F16.binds (ps := ["_law_pot_here"]) fun _ _ _ _ _ _ us hl => match us, hl with | [_], _ => rfl
  have m16 := PySem.W.mg_of X G a16
  have F17 := fun_mk (st := sIsInt) l17 c17 k17
  have b17 := F17.binds (ps := ["_law_item", "_law_low", "_law_high"]) fun _ _ _ _ _ _ us hl => match us, hl with | [_, _, _], _ => rfl
  have m17 := PySem.W.mg_of X G a17
  have F18 := fun_mk (st := sMixed) l18 c18 k18
  have b18 := F18.binds (ps := ["_law_pot_here", "_law_given"]) fun _ _ _ _ _ _ us hl => match us, hl with | [_, _], _ => rfl
  have m18 := PySem.W.mg_of X G a18
  have F19 := fun_mk (st := sAre) l19 c19 k19
  have b19 := F19.binds (ps := ["_law_given", "_law_least", "_law_width"]) fun _ _ _ _ _ _ us hl => match us, hl with | [_, _, _], _ => rfl
  have m19 := PySem.W.mg_of X G a19
  have F20 := fun_mk (st := sOdd) l20 c20 k20
  have b20 := F20.binds (ps := ["_law_pot_here", "_law_width"]) fun _ _ _ _ _ _ us hl => match us, hl with | [_, _], _ => rfl
  have m20 := PySem.W.mg_of X G a20
  have F21 := fun_mk (st := sMet) l21 c21 k21
  have b21 := F21.binds (ps := ["_law_given", "_law_width"]) fun _ _ _ _ _ _ us hl => match us, hl with | [_, _], _ => rfl
  have m21 := PySem.W.mg_of X G a21
  have F22 := fun_mk (st := sTupR) l22 c22 k22
  have b22 := F22.binds (ps := ["_law_pot_here", "_law_width"]) fun _ _ _ _ _ _ us hl => match us, hl with | [_, _], _ => rfl
  have m22 := PySem.W.mg_of X G a22
  have F23 := fun_mk (st := sDflR) l23 c23 k23
  have b23 := F23.binds (ps := ["_law_given"]) fun _ _ _ _ _ _ us hl => match us, hl with | [_], _ => rfl
  have m23 := PySem.W.mg_of X G a23
  have F24 := fun_mk (st := sLaw) l24 c24 k24
  have b24 := F24.binds (ps := ["_law_script"]) fun _ _ _ _ _ _ us hl => match us, hl with | [_], _ => rfl
  have m24 := PySem.W.mg_of X G a24
  have F10 : FunD K "is_cell" "is_cell" (defArgs sIsCell) (defBody sIsCell) (defScope sIsCell) [] [("size", .int 40)] f10 _ := ⟨⟨oc10, od10, .none, .ref D10, dc10, pm10, an10, cd10, ct10, sl10, rfl, l10, c10, .inl ⟨rfl, rfl⟩, .inr ⟨D10, rfl, fun q hq => by
    rw [List.mem_singleton.mp hq]
    exact ⟨_, d10, _, rfl⟩⟩⟩, k10⟩
  have m10 := PySem.W.mg_of X G a10
  have kb10 := kb_size (st := sIsCell) (y := "thing") F10 (fun _ _ _ _ _ _ _ _ => rfl)
  obtain ⟨ds10, hd10, b10⟩ := F10.binds0 (ps := ["thing", "size"]) 1 (by simp) rfl (fun D doc pm an cdv ct us ks h1 h2 => match us, ks, h1, h2 with | [_], [_], _, _ => ⟨_, _, _, _, _, _, rfl, rfl, rfl⟩)
  obtain ⟨mv10, kc10⟩ := F10.kbinds0 (ps := ["thing", "size"]) 0 ["thing"] [("size", .int 40)] (fun us mv ws => ws ++ mv) (by simp) (fun q hq => hq) (fun _ r2 r3 => r3.append r2)
    (fun D doc pm an cdv ct us mv ws h1 h2 h3 => match us, mv, ws, h1, h2, h3 with | [], [_], [_], _, _, _ => ⟨_, _, _, _, _, _, rfl, rfl, rfl⟩)
  have F11 : FunD K "cell_tuple" "cell_tuple" (defArgs sCells) (defBody sCells) (defScope sCells) [] [("size", .int 40)] f11 _ := ⟨⟨oc11, od11, .none, .ref D11, dc11, pm11, an11, cd11, ct11, sl11, rfl, l11, c11, .inl ⟨rfl, rfl⟩, .inr ⟨D11, rfl, fun q hq => by
    rw [List.mem_singleton.mp hq]
    exact ⟨_, d11, _, rfl⟩⟩⟩, k11⟩
  have m11 := PySem.W.mg_of X G a11
  have kb11 := kb_size (st := sCells) (y := "things") F11 (fun _ _ _ _ _ _ _ _ => rfl)
  obtain ⟨ds11, hd11, b11⟩ := F11.binds0 (ps := ["things", "size"]) 1 (by simp) rfl (fun D doc pm an cdv ct us ks h1 h2 => match us, ks, h1, h2 with | [_], [_], _, _ => ⟨_, _, _, _, _, _, rfl, rfl, rfl⟩)
  obtain ⟨mv11, kc11⟩ := F11.kbinds0 (ps := ["things", "size"]) 0 ["things"] [("size", .int 40)] (fun us mv ws => ws ++ mv) (by simp) (fun q hq => hq) (fun _ r2 r3 => r3.append r2)
    (fun D doc pm an cdv ct us mv ws h1 h2 h3 => match us, mv, ws, h1, h2, h3 with | [], [_], [_], _, _, _ => ⟨_, _, _, _, _, _, rfl, rfl, rfl⟩)
  have FI := fun_mk (st := sIni) lI cI kI
  have bI := FI.binds (ps := ["self", "cells"]) fun _ _ _ _ _ _ us hl => match us, hl with | [_, _], _ => rfl
  have T : CellsC K mg C := ⟨PySem.W.mg_of X G aC, ⟨⟨nm, qn, Nn, bs, bm, sn, sub, ab, col, dd, m0, m1, m2, m3, m5, xC, rC⟩, saC, exC, tyC, kC⟩, noC⟩
  have R : ErrT K mg C c1 c2 c3 c4 := ⟨PySem.W.mg_of X G g1, PySem.W.mg_of X G g2, PySem.W.mg_of X G g3, PySem.W.mg_of X G g4, kit_no (kit_own nc1 hc1 tc1 s1) (kit_no (kit_own nc2 hc2 tc2 s2) (kit_no (kit_own nc3 hc3 tc3 s3) (kit_no (kit_blt (by decide +kernel) sLookup) (kit_no (kit_blt (by decide +kernel) sRuntime) (kit_no (kit_blt (by decide +kernel) sArithmetic) kitAny_nil))))), kit_own nc4 hc4 tc4 s4, kit_blt (by decide +kernel) sValue, ⟨ga, gg, exC, hd, ha, hn, ht, hm⟩, ⟨ga, gg, exC, hd⟩, te⟩
  refine ⟨PySem.W.fnOf "law" "law" (defArgs sLaw) (defBody sLaw) (defScope sLaw) .none kV24 dc24 pm24 an24 cd24 ct24, fun s v => .of_eq rfl, fun base _ _ => ?_⟩
  have HD : Has l.prog w K mg base "_law_draw" 2 ["_law_pot_here", "_law_many"] spDraw := ⟨f14, _, ok_draw F14 B, m14, k14, b14⟩
  have HNi : Has l.prog w K mg base "is_integer" 1 ["thing"] (spIntegerA K) := ⟨fii, _, ok_integerA Fii B, mii, kii, bii⟩
  have HB : Has l.prog w K mg base "is_integer_between" 2 ["thing", "low", "high"] (spBetween K) := ⟨f7, _, ok_between F7 B HNi, m7, k7, b7⟩
  have HJ : Has l.prog w K mg base "_law_is_int" 2 ["_law_item", "_law_low", "_law_high"] (spBetween K) := ⟨f17, _, ok_isint F17 B, m17, k17, b17⟩
  have HP : Has l.prog w K mg base "_law_pot" 2 ["_law_script", "_law_k"] (spPot K) := ⟨f13, _, ok_pot F13 B, m13, k13, b13⟩
  have HS : Has l.prog w K mg base "_law_spots" 3 ["_law_pot_here", "_law_least", "_law_width"] spSpots := ⟨f15, _, ok_spots F15 B HD, m15, k15, b15⟩
  have HM : Has l.prog w K mg base "_law_mixed" 3 ["_law_pot_here", "_law_given"] (spMixed K) := ⟨f18, _, ok_mixed F18 B HD, m18, k18, b18⟩
  have HN : Has l.prog w K mg base "_law_any_thing" 3 ["_law_pot_here"] (spAny K) := ⟨f16, _, ok_any F16 B HD, m16, k16, b16⟩
  have HO : Has l.prog w K mg base "_law_odd_spots" 4 ["_law_pot_here", "_law_width"] (spOdd K) := ⟨f20, _, ok_odd F20 B HD HS HM HN, m20, k20, b20⟩
  have HR : Has l.prog w K mg base "_law_are_spots" 3 ["_law_given", "_law_least", "_law_width"] (spAre K) := ⟨f19, _, ok_are F19 B HJ, m19, k19, b19⟩
  have GC : FnOk l.prog w K mg base CX0 3 f10 _ ["thing", "size"] (spIsCell K) := ok_iscell F10 HB
  have HI : HasIni l.prog w K mg base C := ⟨fI, _, ok_ini FI T, iC, tI, bI⟩
  have GE : FnOk l.prog w K mg base (L2.CX l.prog w) 5 f11 _ ["things", "size"] (spCells K C) := ok_cells F11 B T ⟨fareC, _, ok_areC FareC B ⟨f10, _, GC, m10, k10, kb10⟩, mareC, kareC, bareC⟩ HI
  have HC : HasCells l.prog w K mg base C := ⟨f11, _, GE, m11, k11, kb11, ds11, hd11, b11⟩
  have HT : Has l.prog w K mg base "_law_cells_met" 6 ["_law_given", "_law_width"] (spMet K) := ⟨f21, _, ok_met F21 B T R HC, m21, k21, b21⟩
  have HU : HasG l.prog w K mg base "_law_tuple_right" 7 ["_law_pot_here", "_law_width"] spTupR := ⟨f22, _, ok_tupR F22 B HO HR HT, m22, k22, b22⟩
  have HV : HasG l.prog w K mg base "_law_default_right" 6 ["_law_given"] (spDfl K) := ⟨f23, _, ok_dfl F23 B T R HC, m23, k23, b23⟩
  exact ok_law F24 B ⟨_, PySem.W.mg_of X G mM⟩ HP HD HS HM HN HJ HU HV ⟨f10, _, GC, m10, k10, kb10, ⟨ds10, hd10, b10⟩, _, kc10⟩ ⟨f11, _, GE, m11, k11, kb11, ⟨ds11, hd11, b11⟩, _, kc11⟩
end K11
open PySem PySem.W PyProof.Rows
set_option maxRecDepth 100000 in
set_option maxHeartbeats 0 in
theorem PySem.Challenge.cw_paritycells_k11_cells_of_any_value_holds : PySem.Challenge.rw_paritycells_k11_cells_of_any_value.Holds := by
  w_on; o_law; k_head; (case hw => w_witness2)
  k_fill
  refine Par.walkG (l := PySem.Challenge.rw_paritycells_k11_cells_of_any_value) (k := 8) (x := "_law_script") (sp := K11.spLaw) rfl (by decide) rfl ⟨rfl, by decide, by decide⟩ (fun w h Y => PySem.W.kIn_of Y) ?F (fun K H a ns hl _ hS => ⟨a, ns, rfl, hS, hl, fun _ => rfl⟩)
  case F =>
    intro w mg fa h KX G hmg
    refine' K11.all_mk KX G hmg ?q_aii ?q_lii ?q_cii ?q_kii ?a7 ?l7 ?c7 ?k7 ?aareC ?lareC ?careC ?kareC ?a13 ?l13 ?c13 ?k13 ?a14 ?l14 ?c14 ?k14 ?a15 ?l15 ?c15 ?k15 ?a16 ?l16 ?c16 ?k16 ?a17 ?l17 ?c17 ?k17 ?a18 ?l18 ?c18 ?k18 ?a19 ?l19 ?c19 ?k19 ?a20 ?l20 ?c20 ?k20 ?a21 ?l21 ?c21 ?k21 ?a22 ?l22 ?c22 ?k22 ?a23 ?l23 ?c23 ?k23 ?a24 ?l24 ?c24 ?k24 ?a10 ?l10 ?d10 ?c10 ?k10 ?a11 ?l11 ?d11 ?c11 ?k11 ?aC ?xC ?rC ?saC ?exC ?tyC ?kC ?noC ?iC ?tI ?lI ?cI ?kI ?g1 ?g2 ?g3 ?g4 ?s1 ?hc1 ?tc1 ?nc1 ?s2 ?hc2 ?tc2 ?nc2 ?s3 ?hc3 ?tc3 ?nc3 ?s4 ?hc4 ?tc4 ?nc4 ?sLookup ?sRuntime ?sArithmetic ?sValue ?ga ?gg ?hd ?ha ?hn ?ht ?hm ?te ?mM ?z_len ?z_abs ?z_max ?z_min ?z_divmod ?z_list ?z_tuple ?z_range ?z_isinstance ?z_bool ?z_int ?z_sorted ?z_set ?z_all ?z_enumerate ?z_repr ?z_ValueError ?z_LookupError ?z_RuntimeError ?z_ArithmeticError
    (case q_aii => k_is)
    (case q_lii => k_is)
    (case q_cii => k_is)
    (case q_kii => k_is)
    (case a7 => k_is)
    (case l7 => k_is)
    (case c7 => k_is)
    (case k7 => k_is)
    (case aareC => k_is)
    (case lareC => k_is)
    (case careC => k_is)
    (case kareC => k_is)
    (case a13 => k_is)
    (case l13 => k_is)
    (case c13 => k_is)
    (case k13 => k_is)
    (case a14 => k_is)
    (case l14 => k_is)
    (case c14 => k_is)
    (case k14 => k_is)
    (case a15 => k_is)
    (case l15 => k_is)
    (case c15 => k_is)
    (case k15 => k_is)
    (case a16 => k_is)
    (case l16 => k_is)
    (case c16 => k_is)
    (case k16 => k_is)
    (case a17 => k_is)
    (case l17 => k_is)
    (case c17 => k_is)
    (case k17 => k_is)
    (case a18 => k_is)
    (case l18 => k_is)
    (case c18 => k_is)
    (case k18 => k_is)
    (case a19 => k_is)
    (case l19 => k_is)
    (case c19 => k_is)
    (case k19 => k_is)
    (case a20 => k_is)
    (case l20 => k_is)
    (case c20 => k_is)
    (case k20 => k_is)
    (case a21 => k_is)
    (case l21 => k_is)
    (case c21 => k_is)
    (case k21 => k_is)
    (case a22 => k_is)
    (case l22 => k_is)
    (case c22 => k_is)
    (case k22 => k_is)
    (case a23 => k_is)
    (case l23 => k_is)
    (case c23 => k_is)
    (case k23 => k_is)
    (case a24 => k_is)
    (case l24 => k_is)
    (case c24 => k_is)
    (case k24 => k_is)
    (case a10 => k_is)
    (case l10 => k_is)
    (case d10 => k_is)
    (case c10 => k_is)
    (case k10 => k_is)
    (case a11 => k_is)
    (case l11 => k_is)
    (case d11 => k_is)
    (case c11 => k_is)
    (case k11 => k_is)
    (case aC => k_is)
    (case xC => k_is)
    (case rC => first | rfl | decide +kernel)
    (case saC => k_is)
    (case exC => k_is)
    (case tyC => k_is)
    (case kC => k_is)
    (case noC => k_is)
    (case iC => k_is)
    (case tI => k_is)
    (case lI => k_is)
    (case cI => k_is)
    (case kI => k_is)
    (case g1 => k_is)
    (case g2 => k_is)
    (case g3 => k_is)
    (case g4 => k_is)
    (case s1 => first | rfl | k_is)
    (case hc1 => k_is)
    (case tc1 => k_is)
    (case nc1 => decide)
    (case s2 => first | rfl | k_is)
    (case hc2 => k_is)
    (case tc2 => k_is)
    (case nc2 => decide)
    (case s3 => first | rfl | k_is)
    (case hc3 => k_is)
    (case tc3 => k_is)
    (case nc3 => decide)
    (case s4 => first | rfl | k_is)
    (case hc4 => k_is)
    (case tc4 => k_is)
    (case nc4 => decide)
    (case sLookup => first | rfl | k_is)
    (case sRuntime => first | rfl | k_is)
    (case sArithmetic => first | rfl | k_is)
    (case sValue => first | rfl | k_is)
    (case ga => k_is)
    (case gg => k_is)
    (case hd => k_is)
    (case ha => k_is)
    (case hn => k_is)
    (case ht => k_is)
    (case hm => k_is)
    (case te => first | rfl | k_is)
    (case mM => k_is)
    (case z_len => k_is)
    (case z_abs => k_is)
    (case z_max => k_is)
    (case z_min => k_is)
    (case z_divmod => k_is)
    (case z_list => k_is)
    (case z_tuple => k_is)
    (case z_range => k_is)
    (case z_isinstance => k_is)
    (case z_bool => k_is)
    (case z_int => k_is)
    (case z_sorted => k_is)
    (case z_set => k_is)
    (case z_all => k_is)
    (case z_enumerate => k_is)
    (case z_repr => k_is)
    (case z_ValueError => k_is)
    (case z_LookupError => k_is)
    (case z_RuntimeError => k_is)
    (case z_ArithmeticError => k_is)
#print axioms PySem.Challenge.cw_paritycells_k11_cells_of_any_value_holds
