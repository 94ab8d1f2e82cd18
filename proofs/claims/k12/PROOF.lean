import PyProof.Rows.All
import Wide.All
import OpenK.AllK
import Wide.FinOn
import HandS.ForMost
import HandS.ForExc
import HandS.ExcInit
import HandS.ExcIs
import HandS.ExcField
import HandS.IsInst
import HandS.Defaults
import HandS.SortInts
import HandS.SetFor
import HandS.More
import HandS.Conv
import HandS.WideBits
import HandS.TupAny
import HandS.SuiteRaise
import HandS.TryMany
import KE.GoesMore
import HandS.Walk
import HandS.Strs
import HandS.MakeKw
import HandS.MakeKwOnly
import PySem.Challenge.RW_paritycells_k12_boards_read
set_option Elab.async false
set_option linter.all false
set_option maxRecDepth 100000
set_option maxHeartbeats 4000000
namespace Par
open PySem PySem.Spec PyProof.Rows L2

/-! A def's promise where nothing is being shown by repr around it: the guards are known to be none. -/
structure FnG (P : Program) (w : World) (K : PySem.W.Frag) (mg : Str → Option Value) (base : Heap) (CX : CXT) (k : Nat)
    (f : Addr) (fd : FuncData) (ps : List Str) (sp : Sp) : Prop where
  arity : ∀ vs H Q E, sp vs H Q E → vs.length = ps.length
  go : ∀ (A : Around) (outer : List Env) (s : Shared) (H : Hp) (args : Args) (us : List Value) (vs : List V) (Q : VK) (E : XK),
    A.guards = some [] → Room k A → Env0 P w K mg base A outer s H → BindsTo s fd args (ps.zip us) → Vals vs us →
    sp vs H Q E → codeAny (model P w) A (.call (.ref f) args) (CR CX outer P w H s Q E) s

section
variable {P : Program} {w : World} {K : PySem.W.Frag} {mg : Str → Option Value} {base : Heap}

theorem fnG_of {k : Nat} {x qual : Str} {st : Stmt} {f : Addr} {fd : FuncData} {N ps : List Str} {sp : Sp}
    (F : Fun K x qual st f fd) (S : FnScope N ps (defScope st))
    (arity : ∀ vs H Q E, sp vs H Q E → vs.length = ps.length)
    (body : ∀ (cdv : Value) (A : Around) (outer : List Env) (s : Shared) (H : Hp) (vs : List V) (Q : VK) (E : XK),
      A.guards = some [] → Room k (A.deeper (envOfC qual (defScope st) s.heap.objs.size f cdv)) → sp vs H Q E →
      ∃ t, PSs (cxOf CX0 P w K mg base N qual (defScope st) f cdv A outer s H E).nox (defBody st) t ∧
        t { nx := fun _ H' => Q .non H', rt := Q } (start N vs) H) :
    FnG P w K mg base CX0 (k + 1) f fd ps sp := by
  obtain ⟨oc, od, kV, doc, pm, an, cdv, ct, osl, efd, lk, hcd⟩ := F.ex
  subst efd
  constructor
  · exact arity
  intro A outer s H args us vs Q E gs room e0 bound rel hsp
  have lens := arity _ _ _ _ hsp
  have kin : K.In s.heap := e0.mod.kin.keeps (fun b o z => (e0.bs b o z).1)
  have nolim : s.heap.NoLimit := e0.mod.nolimit.keeps (fun b o z => (e0.bs b o z).1)
  have kinds : ∀ y ∈ ps.zip us, (defScope st).names.lookup y.1 = some .local ∨ ((defScope st).names.lookup y.1 = some .cell ∧
      ((cellsFrom (s.heap.objs.size + 1) (defScope st).names []).lookup y.1).isSome = true) := by
    rintro ⟨n, v⟩ hy
    cases S.par n (List.of_mem_zip hy).1 with
    | inl q => exact Or.inl q
    | inr q => exact Or.inr ⟨q, PySem.W.cellsFrom_some _ _ _ (Or.inl q)⟩
  refine codeAny_call_function room.depth (kin _ _ lk) rfl S.co S.gen rfl (PySem.W.codeRec_of kin hcd) (bound _ _ _ _ ?_)
  refine wpAny_newFunctionEnv_cells S.kind kinds ?_
  intro env he s1 x1
  subst he
  refine ⟨nolim.keeps x1.toInCall.keep, codeAny_func ?_⟩
  obtain ⟨t, ht, hq⟩ := body cdv A outer s H vs Q E gs (room.deeper _) hsp
  have I := inv_start (CX := CX0) (E := E) (w := w) S room.hd e0 lens rel x1
  refine wpAny_mono (ht.nox.run [] s1 (start N vs) H _ I hq) ?_ (fun e s' hs => hs)
  intro fl s' hs
  cases fl with
  | ret u =>
    obtain ⟨v, σ1, H1, J, rv, q⟩ := hs
    exact ⟨v, H1, J.os, J.bare, J.base, J.hok, rv, q⟩
  | next =>
    obtain ⟨σ1, H1, J, q⟩ := hs
    exact ⟨V.non, H1, J.os, J.bare, J.base, J.hok, rfl, q⟩
  | brk => exact (let ⟨_, _, _, q⟩ := hs; False.elim q)
  | cont => exact (let ⟨_, _, _, q⟩ := hs; False.elim q)
end

section
variable {X : Cx} {CX : CXT} {k : Nat} {f : Addr} {fd : FuncData} {ps : List Str} {sp : Sp} {x : Str} {p pos : Pos} {e : Expr} {es : List Expr} {t : TA} {E : XK}

/-- f(e, ..) of such a def, called where the guards are none -/
theorem pe_callG (F : FnG X.prog X.w X.K X.mg X.base CX k f fd ps sp) (gs : X.A.guards = some []) (hr : Room k X.A) (hg : Gl X x)
    (hm : X.mg x = some (.ref f)) (hk : PySem.W.keepIn X.K (.ref f) = true) (hb : Binds X.K fd ps []) (hx : Passes CX X E) (ha : PA X (e :: es) t)
    (hdb : (x == ("__debug__" : Str)) = false := by decide)
    (he : starEach (e :: es) X.env = (false, eval e X.env) :: starEach es X.env := by rfl)
    (hpl : (backTo pos (starEach es X.env)).any (·.1) = false := by rfl) :
    PE X (.Call (.Name x p) (e :: es) [] pos) (tCall sp [] E t) := by
  constructor
  intro pins s σ H Q I h
  refine wpAny_Call_Name_kw (ld_glob I hg hm ?_ hdb)
  refine PySem.W.callWith_K (h₀ := X.base) I.ok.mod.kin hk (thn (ha.run pos pins s σ H _ I h) ?_) he hpl
  rintro us s1 ⟨vs, H1, I1, r, q⟩
  refine ⟨I1.kIn, ?_⟩
  rw [List.append_nil] at q
  have hl : (us ++ []).length = ps.length := by
    rw [List.append_nil, ← r.length]
    exact F.arity _ _ _ _ q
  have hbi := hb s1 us I1.kIn hl
  rw [List.append_nil] at hbi
  refine wpAny_call (codeAny_mono (F.go X.A X.stack s1 H1 ⟨us, []⟩ us vs Q E gs hr I1.env0 hbi r q) ?_)
  intro res s' hq
  cases res with
  | error er => exact hx pins σ H1 s1 er s' I1 hq
  | ok fl =>
    cases fl with
    | ret u => exact I1.after hq
    | next => exact False.elim hq
    | brk => exact False.elim hq
    | cont => exact False.elim hq
end

/-- the law's end over such a promise -/
theorem law_callG {P : Program} {w : World} {K : PySem.W.Frag} {mg mb : Str → Option Value} {k : Nat} {fa a : Addr} {fd : FuncData} {x : Str} {sp : Sp}
    {s1 : Shared} {vs : List Value} {ns : List Int}
    (KX : K.In s1.heap) (hns : s1.heap.Ns mainGlobals mg) (hb : s1.heap.Ns builtinsNs mb)
    (hbb : ∀ x : Str, x ≠ "__name__" → mb x = bootBuiltins x) (hlim : s1.heap.NoLimit) (hg : s1.gens = #[])
    (ha : s1.heap.get? a = some { cls := .type "list", data := .seq vs.toArray }) (hi : IntsAre vs ns) (hl : ns.length ≤ sizeLine) (hr : Room k callerA)
    (F : ∀ base : Heap, K.In base → base.Ns mainGlobals mg → FnG P w K mg base CX0 k fa fd [x] sp)
    (hbind : ∀ (s : Shared) (u : Value), BindsTo s fd ⟨[u], []⟩ [(x, u)])
    (hsp : ∀ H : Hp, Only H → SqL K H a (ns.map V.int) → sp [.ref a] H (fun v _ => v = .bl true) fun _ _ _ => False) :
    codeAny (model P w) callerA (.call (.ref fa) ⟨[.ref a], []⟩)
      (fun r s' => r = .ok (.ret (.bool true)) ∧ OldK s1.heap s'.heap ∧ s'.os = s1.os ∧ AllBare s'.gens) s1 := by
  have rv := vals_ints hi
  have lenV := hi.length
  have core : ∀ H : Hp, Only H → SqL K H a (ns.map V.int) → HOk P w H s1.heap → (∀ b, H b ≠ none → b = a) →
      (H a ≠ none → K.lookup a = none) → codeAny (model P w) callerA (.call (.ref fa) ⟨[.ref a], []⟩)
      (fun r s' => r = .ok (.ret (.bool true)) ∧ OldK s1.heap s'.heap ∧ s'.os = s1.os ∧ AllBare s'.gens) s1 := by
    intro H only sq ok only_a out_a
    have un_dict : ∀ {b : Addr} {o : Obj} {es : Array DictEntry} {ep : Nat}, s1.heap.get? b = some o → o.data = .dict es ep → H b = none := by
      intro b o es ep e d
      cases q : H b with
      | none => rfl
      | some u =>
        have e' : b = a := only_a b (by rw [q]; simp)
        rw [e', ha] at e
        cases e
        exact nomatch d
    have ns_of : ∀ {b : Addr} {m : Str → Option Value}, s1.heap.Ns b m → (hidT s1.heap H).Ns b m := by
      rintro b m ⟨o, es, ep, e, d, r⟩
      exact ⟨o, es, ep, hidT_get e (un_dict e d), d, r⟩
    have kin : K.In (hidT s1.heap H) := by
      intro b o e
      refine hidT_get (KX b o e) ?_
      cases q : H b with
      | none => rfl
      | some u =>
        have e' : b = a := only_a b (by rw [q]; simp)
        rw [e'] at q e
        rw [out_a (by rw [q]; simp)] at e
        cases e
    have md : Mod K mg (hidT s1.heap H) := by
      obtain ⟨mc, h1, h2⟩ := hlim
      exact ⟨kin, ns_of hns, ⟨mb, ns_of hb, hbb⟩, ⟨mc, ns_of h1, h2⟩⟩
    have e0 : Env0 P w K mg (hidT s1.heap H) callerA [] s1 H := by
      refine ⟨rfl, md, fun b o e => of_hidT e, Nat.le_of_eq (hidT_size _ _), trivial, ?_, ok, .of_eq hg⟩
      intro b z
      exact absurd (show b ∈ ([] : List Addr) from z) (by simp)
    refine codeAny_mono ((F _ kin (ns_of hns)).go callerA [] s1 H ⟨[.ref a], []⟩ [.ref a] [.ref a] _ _ rfl hr e0
      (hbind s1 (.ref a)) (.cons rfl .nil) (hsp H only sq)) ?_
    intro r s' h
    cases r with
    | error e => exact False.elim h
    | ok fl =>
      cases fl with
      | next => exact False.elim h
      | brk => exact False.elim h
      | cont => exact False.elim h
      | ret u =>
        obtain ⟨v, H1, os, bare, un, ok1, rel, q⟩ := h
        have q' : v = .bl true := q
        subst q'
        obtain rfl : u = Value.bool true := rel
        refine ⟨rfl, OldK.of_keep ?_, os, bare⟩
        intro b o e
        cases q : H b with
        | none => exact un.keep b o e q (fun z => absurd (show b ∈ ([] : List Addr) from z) (by simp)) (by simp)
        | some u =>
          rcases only b with z | ⟨ob, xs, z⟩
          · rw [q] at z
            cases z
          · have z2 := un.frzs b ob _ z
            have e1 := (ok b _ z).1
            have e2 := (ok1 b _ z2).1
            rw [e] at e1
            cases e1
            exact e2
  cases hk : K.lookup a with
  | some o =>
    have e := KX a o hk
    rw [ha] at e
    cases e
    refine core (fun _ => none) (fun _ => .inl rfl) (.inr ⟨_, vs.toArray, _, hk, rfl, rfl, rfl, ?_, by simpa using rv⟩) ?_ (fun b z => absurd rfl z) (fun z => absurd rfl z)
    · rw [List.size_toArray, lenV]
      exact hl
    · intro b u z
      exact nomatch (show (none : Option HO) = some u from z)
  | none =>
    refine core (fun b => if b = a then some (.frz { cls := .type "list", data := .seq vs.toArray } (.lst (ns.map V.int))) else none) ?_ (.inl (.inr ⟨_, if_pos rfl⟩)) ?_ ?_ (fun _ => hk)
    · intro b
      by_cases hb : b = a
      · exact .inr ⟨_, _, if_pos hb⟩
      · exact .inl (if_neg hb)
    · intro b u z
      by_cases hb : b = a
      · have z1 := (if_pos hb).symm.trans z
        cases z1
        subst hb
        exact ⟨ha, by rw [List.length_map]; exact hl, vs, _, rv, ha⟩
      · have z1 := (if_neg hb).symm.trans z
        cases z1
    · intro b z
      by_cases hb : b = a
      · exact hb
      · exact absurd (if_neg hb) z

theorem walkG {l : PySem.W.OpenLaw} {n k : Nat} {q : Program} {loose : List Str} {XP : (Str → Option Value) → Heap → Prop} {YP : World → Heap → Prop}
    {d : DefRec} {K : Params → PySem.W.Frag} {sp : PySem.W.Frag → Sp} {x : Str}
    (hn : l.most = some n) (hn2 : n ≤ sizeLine) (hdf : d.params.defaults = []) (hr : Room k callerA)
    (hY : ∀ (w : World) (h : Heap), YP w h → (K w.params).In h)
    (F : ∀ (w : World) (mg : Str → Option Value) (fa : Addr) (h : Heap), (K w.params).In h → h.Ns mainGlobals mg → mg d.name = some (.ref fa) →
      ∃ fd : FuncData, (∀ (s : Shared) (u : Value), BindsTo s fd ⟨[u], []⟩ [(x, u)]) ∧
        ∀ base : Heap, (K w.params).In base → base.Ns mainGlobals mg → FnG l.prog w (K w.params) mg base CX0 k fa fd [x] (sp (K w.params)))
    (hsp : ∀ (K : PySem.W.Frag) (H : Hp) (a : Addr) (ns : List Int), ns.length ≤ n → Only H → SqL K H a (ns.map V.int) →
      sp K [.ref a] H (fun v _ => v = .bl true) fun _ _ _ => False) :
    PySem.W.WalkO q loose XP YP l.row.toRowW d [] (fun f vs => PySem.call f vs) := by
  refine Att.attach_call hn hdf ?_
  intro w s0 s1 mg mb fa o pm cd doc a vs ns G Y ho hd hcd hmg hobj hints hlen hg
  have KX := hY w _ Y
  obtain ⟨fd, hb, hF⟩ := F w mg fa _ KX G.T.g hmg
  exact law_callG KX G.T.g G.T.b G.T.builtins G.T.nolimit hg hobj hints (Nat.le_trans hlen hn2) hr hF hb
    (fun H hO hS => hsp _ H a ns hlen hO hS)
end Par
namespace Par
open PySem PySem.Spec PyProof.Rows L2

section
variable {X : Cx} {CX : CXT} {k : Nat} {f : Addr} {fd : FuncData} {ps ks : List Str} {sp : Sp} {E : XK} {x : Str} {p pos : Pos} {kws : List Keyword} {tk : TA}
  {g : List Value → List Value → List Value} {gV : List V → List V → List V}
/-- f(k = v, ..), no positional argument -/
theorem pe_callN0 (F : FnOk X.prog X.w X.K X.mg X.base CX k f fd ps sp) (hr : Room k X.A) (hg : Gl X x) (hm : X.mg x = some (.ref f))
    (hk : PySem.W.keepIn X.K (.ref f) = true) (hb : KBn X.K fd ps 0 ks g gV) (hx : Passes CX X E) (hkw : PK X kws tk)
    (hall : (backToKw pos (keywordEach kws X.env)).all (·.1.isSome) = true := by rfl)
    (hks : (backToKw pos (keywordEach kws X.env)).filterMap (·.1) = ks := by rfl)
    (hdb : (x == ("__debug__" : Str)) = false := by decide)
    (hpl : ((backTo pos (starEach [] X.env)).any (·.1) || (backToKw pos (keywordEach kws X.env)).any (·.1.isNone)) = false := by rfl) :
    PE X (.Call (.Name x p) [] kws pos) (tCallN 0 ks.length sp gV E tNil tk) := by
  constructor
  intro pins s σ H Q I h
  refine wpAny_Call_Name_kw (ld_glob I hg hm ?_ hdb)
  refine PySem.W.callWith_KW0 (h₀ := X.base) I.ok.mod.kin hk hall ?_ hpl
  refine thn (hkw.run pos pins s σ H _ I h) ?_
  rintro ws s2 ⟨zs, H2, I2, rz, l1, l2, q2⟩
  refine ⟨I2.kIn, ?_⟩
  rw [hks]
  exact run_fnN F hr hb hx I2 .nil rz l1 l2 q2
end

/-! ### a new list whose place is not that of sys.modules -/
def tLstS (t : TA) : TE := fun σ H Q => t σ H fun xs H1 => xs.length ≤ sizeLine ∧ ∀ p, H1 p = none → p ≠ sysModules → Q (.ref p) (upd H1 p (.lst xs))
theorem new_ne_sys {X : Cx} {pins : List (Addr × Obj)} {σ : L2.St} {H : Hp} {s : Shared} (I : Inv X pins σ H s) : s.heap.objs.size ≠ sysModules := by
  obtain ⟨o, _, _, e, _⟩ := I.ok.mod.glob
  have h1 := Heap.lt_size (I.bk _ _ e)
  intro z
  rw [z] at h1
  exact absurd h1 (by decide)
theorem pe_lstS {X : Cx} {es : List Expr} {t : TA} {pos : Pos} (h : PA X es t) : PE X (.List es pos) (tLstS t) := by
  constructor
  intro pins s σ H Q I hq
  refine wpAny_List_spliced (thn (h.run pos pins s σ H _ I hq) ?_)
  rintro us s1 ⟨xs, H1, I1, r, z, q⟩
  refine ⟨by rw [← r.length]; exact z, ?_⟩
  have free : H1 s1.heap.objs.size = none := I1.hok.fresh (Nat.le_refl _)
  have lay := I1.laid (t' := s1.toks) (o := .lst xs) (h' := s1.heap.push { cls := .type "list", data := .seq us.toArray 0 })
    (fun b u e => Heap.get?_push_of_some _ e) (Nat.le_refl _) ⟨z, us, 0, r, Heap.get?_push_size _ rfl⟩
  exact ⟨V.ref s1.heap.objs.size, _, lay, rfl, q _ free (new_ne_sys I1)⟩

/-! ### repr -/
/-- a value that is no container, or a dict with keys and values that are none -/
inductive Fl (H : Hp) : V → PyData → Prop
  | non : Fl H .non .none
  | bl (b : Bool) : Fl H (.bl b) (.bool b)
  | int (i : Int) : Fl H (.int i) (.int i)
  | str (x : Str) : Fl H (.str x) (.str x)
  | dic0 {a : Addr} : H a = some (.dK []) → Fl H (.ref a) (.dict [])
  | dic1 {a : Addr} {i j : Int} : H a = some (.dK [(Sum.inl i, .int j)]) → Fl H (.ref a) (.dict [(.int i, .int j)])
inductive FlAll (H : Hp) : List V → List PyData → Prop
  | nil : FlAll H [] []
  | cons {v : V} {vs : List V} {d : PyData} {ds : List PyData} : Fl H v d → FlAll H vs ds → FlAll H (v :: vs) (d :: ds)
/-- what repr is asked of: data without a dict, a flat thing, a list of flat things -/
inductive Dx (K : PySem.W.Frag) (H : Hp) : V → PyData → Prop
  | dp {v : V} {d : PyData} : Dp K H v d → Dx K H v d
  | fl {v : V} {d : PyData} : Fl H v d → Dx K H v d
  | lst {a : Addr} {xs : List V} {ds : List PyData} : H a = some (.lst xs) → a ≠ sysModules → FlAll H xs ds → Dx K H (.ref a) (.list ds)

mutual
theorem dp_nodict {K : PySem.W.Frag} {H : Hp} : ∀ (d : PyData) (v : V), Dp K H v d → d.hasDict = false
  | .none, _, _ => rfl
  | .bool _, _, _ => rfl
  | .int _, _, _ => rfl
  | .str _, _, _ => rfl
  | .list ds, _, h => by
    cases h with
    | lst _ ha => exact dps_nodict ds _ ha
  | .tuple ds, _, h => by
    cases h with
    | tup _ ha => exact dps_nodict ds _ ha
  | .dict _, _, h => by cases h
theorem dps_nodict {K : PySem.W.Frag} {H : Hp} : ∀ (ds : List PyData) (vs : List V), DpAll K H vs ds → PyData.hasDictAll ds = false
  | [], _, _ => rfl
  | d :: ds, _, h => by
    cases h with
    | cons h1 h2 =>
      show (d.hasDict || PyData.hasDictAll ds) = false
      rw [dp_nodict d _ h1, dps_nodict ds _ h2]
      rfl
end

section
variable {X : Cx} {pins : List (Addr × Obj)} {σ : L2.St} {H : Hp} {s : Shared}
theorem fl_reads (I : Inv X pins σ H s) {v : V} {d : PyData} {u : Value} (h : Fl H v d) (r : RelV v u) : ∃ as, Reads s.heap u d as ∧ sysModules ∉ as := by
  cases h with
  | non =>
    cases r
    exact ⟨_, Reads.none, by simp⟩
  | bl b =>
    cases r
    exact ⟨_, Reads.bool b, by simp⟩
  | int i =>
    obtain ⟨t, rfl⟩ := r
    exact ⟨_, Reads.int i t, by simp⟩
  | str x =>
    obtain ⟨t, rfl⟩ := r
    exact ⟨_, Reads.str x t, by simp⟩
  | @dic0 a e =>
    cases r
    obtain ⟨_, ns, vs, kv, o, es, ep, ho, hx, hd, hk, hp, _⟩ := dk_of I.hok e
    cases kv
    have ne : sysModules ≠ a := fun z => by rw [← z] at ns; exact absurd ns (by decide)
    cases hes : es.toList with
    | cons e1 t1 => rw [hes] at hp; cases hp
    | nil =>
      refine ⟨_, Reads.dict (kvs := []) (as := []) (bs := []) ho hx.1 hd (by rw [hes]; exact ReadsAll.nil) (by rw [hes]; exact ReadsAll.nil), ?_⟩
      simpa using ne
  | @dic1 a i j e =>
    cases r
    obtain ⟨_, ns, vs, kv, o, es, ep, ho, hx, hd, hk, hp, _⟩ := dk_of I.hok e
    have ne : sysModules ≠ a := fun z => by rw [← z] at ns; exact absurd ns (by decide)
    cases kv with
    | @cons _ q _ _ k1 k2 =>
      cases k2
      obtain ⟨k, u⟩ := q
      obtain ⟨e1, t, e2⟩ := k1
      have e1' : Sum.inl i = k := e1
      have e2' : u = Value.int j t := e2
      subst e1' e2'
      cases hes : es.toList with
      | nil => rw [hes] at hp; cases hp
      | cons e1 t1 =>
        rw [hes] at hp
        cases hp with
        | cons p1 p3 p2 =>
          cases p2
          have p1' : keyIs (Sum.inl i) e1.key = true := p1
          rcases keyIs_shape p1' with ⟨i2, t2, w1, w2⟩ | ⟨x2, t2, w1, w2⟩
          · cases w1
            have p3' : e1.val = Value.int j t := p3
            refine ⟨_, Reads.dict (kvs := [(.int i, .int j)]) ho hx.1 hd (as := [] ++ []) (bs := [] ++ []) ?_ ?_, ?_⟩
            · rw [hes]
              show ReadsAll s.heap [e1.key] [PyData.int i] ([] ++ [])
              rw [w2]
              exact ReadsAll.cons (Reads.int i t2) ReadsAll.nil
            · rw [hes]
              show ReadsAll s.heap [e1.val] [PyData.int j] ([] ++ [])
              rw [p3']
              exact ReadsAll.cons (Reads.int j t) ReadsAll.nil
            · simpa using ne
          · cases w1
theorem flAll_reads (I : L2.Inv X pins σ H s) : ∀ {vs : List V} {ds : List PyData} {us : List Value}, FlAll H vs ds → Vals vs us → ∃ as, ReadsAll s.heap us ds as ∧ sysModules ∉ as
  | _, _, _, .nil, .nil => ⟨_, ReadsAll.nil, by simp⟩
  | _, _, _, .cons h1 h2, .cons r1 r2 => by
    obtain ⟨as, q1, n1⟩ := fl_reads I h1 r1
    obtain ⟨bs, q2, n2⟩ := flAll_reads I h2 r2
    refine ⟨_, ReadsAll.cons q1 q2, ?_⟩
    intro z
    rcases List.mem_append.mp z with z | z
    · exact n1 z
    · exact n2 z
theorem dx_reads (I : L2.Inv X pins σ H s) {v : V} {d : PyData} {u : Value} (h : Dx X.K H v d) (r : RelV v u) :
    ∃ as, Reads s.heap u d as ∧ (d.hasDict = true → sysModules ∉ as) := by
  cases h with
  | dp h =>
    obtain ⟨as, q⟩ := Dp.reads I d v u h r
    refine ⟨as, q, fun z => ?_⟩
    rw [dp_nodict d v h] at z
    cases z
  | fl h =>
    obtain ⟨as, q, n⟩ := fl_reads I h r
    exact ⟨as, q, fun _ => n⟩
  | @lst a xs ds e ne h =>
    cases r
    obtain ⟨its, rv, ⟨o, n, ho, hc, _, hd⟩, _⟩ := I.list (a := a) (xs := xs) (SqL.of e)
    obtain ⟨as, q, nn⟩ := flAll_reads I h rv
    refine ⟨_, Reads.list ho hc hd q, fun _ z => ?_⟩
    rcases List.mem_cons.mp z with z | z
    · exact ne z.symm
    · exact nn z
end

section
variable {X : Cx}
/-- repr(x) where the guards are none -/
theorem cr_repr (gs : X.A.guards = some []) (hu : X.A.units + 64 < cLine) : CallR X (.builtin "repr") (fun xs H Q => ∃ v d, xs = [v] ∧ Dx X.K H v d ∧
    d.showable = true ∧ d.depth ≤ 40 ∧ d.shown.length ≤ sizeLine ∧ Q (.str d.shown) H) := by
  intro pins s σ H xs us Q I r h
  obtain ⟨v, d, rfl, hd, sh, dep, len, q⟩ := h
  cases r with
  | @cons _ u _ _ r1 r2 =>
    cases r2
    obtain ⟨as, rd, ns⟩ := dx_reads I hd r1
    have fin : ∀ (h' : Heap) (tk u' : Nat), (∀ b o, s.heap.get? b = some o → h'.get? b = some o) → EP X pins σ Q (.str d.shown u') { s with heap := h', toks := tk } :=
      fun h' tk u' k => ⟨.str d.shown, H, I.un (t' := tk) (Un.kept k) (I.hok.kept k), ⟨_, rfl⟩, q⟩
    cases u with
    | ref a => exact repr_of_reads' rd sh ns gs (by omega) (fun _ _ z => z) (fun h' u tk k => fin h' tk u k) len
    | none => cases rd; exact PySem.P.repr_of_none (fin s.heap _ _ fun _ _ z => z)
    | bool b => cases rd; exact PySem.P.repr_of_bool (fin s.heap _ _ fun _ _ z => z)
    | int i t => cases rd; exact PySem.P.repr_of_int (by simpa [PyData.showable] using sh) (fin s.heap _ _ fun _ _ z => z)
    | str x t => cases rd; exact PySem.P.repr_of_str (fin s.heap _ _ fun _ _ z => z) len
    | _ => cases rd
end
end Par
namespace Par
open PySem PySem.Spec PyProof.Rows L2

/-! ### how many distinct items there are -/
theorem nodup_le : ∀ {L M : List Int}, L.Nodup → (∀ k ∈ L, k ∈ M) → L.length ≤ M.length
  | [], M, _, _ => Nat.zero_le _
  | a :: L, M, hn, hs => by
    have ha : a ∈ M := hs a (List.mem_cons_self ..)
    have h1 := nodup_le (L := L) (M := M.erase a) (List.nodup_cons.mp hn).2 (fun k hk => by
      have hka : k ≠ a := fun e => (List.nodup_cons.mp hn).1 (e ▸ hk)
      exact (List.mem_erase_of_ne hka).mpr (hs k (List.mem_cons_of_mem _ hk)))
    have h2 := List.length_erase_of_mem ha
    have h3 : 0 < M.length := List.length_pos_of_mem ha
    show L.length + 1 ≤ M.length
    omega
theorem nodup_lt : ∀ {M L : List Int}, L.Nodup → (∀ k ∈ L, k ∈ M) → ¬ M.Nodup → L.length < M.length
  | [], _, _, _, h => absurd List.nodup_nil h
  | a :: M, L, hn, hs, hM => by
    by_cases ha : a ∈ M
    · have h := nodup_le (L := L) (M := M) hn (fun k hk => by
        rcases List.mem_cons.mp (hs k hk) with e | e
        · exact e ▸ ha
        · exact e)
      show L.length < M.length + 1
      omega
    · have hM' : ¬ M.Nodup := fun z => hM (List.nodup_cons.mpr ⟨ha, z⟩)
      have h := nodup_lt (M := M) (L := L.erase a) (hn.erase a) (fun k hk => by
        have hk2 := (hn.mem_erase_iff).mp hk
        rcases List.mem_cons.mp (hs k hk2.2) with e | e
        · exact absurd e hk2.1
        · exact e) hM'
      have h2 : L.length ≤ (L.erase a).length + 1 := by
        by_cases hL : a ∈ L
        · have := List.length_erase_of_mem hL
          omega
        · rw [List.erase_of_not_mem hL]
          omega
      show L.length < M.length + 1
      omega
theorem distinct_iff {L M : List Int} (hn : L.Nodup) (hs : ∀ k, k ∈ L ↔ k ∈ M) : L.length ≤ M.length ∧ (L.length = M.length ↔ M.Nodup) := by
  have h1 := nodup_le hn (fun k hk => (hs k).mp hk)
  refine ⟨h1, fun e => ?_, fun e => ?_⟩
  · by_cases h : M.Nodup
    · exact h
    · have := nodup_lt hn (fun k hk => (hs k).mp hk) h
      omega
  · have := nodup_le e (fun k hk => (hs k).mpr hk)
    omega
theorem firstMet_nodup2 (val : Nat → Int) : ∀ i, (firstMet val i).Nodup
  | 0 => List.nodup_nil
  | i + 1 => by
    rw [firstMet_succ]
    have ih := firstMet_nodup2 val i
    unfold step_dedup
    split
    · exact ih
    · rename_i h
      refine List.nodup_append.mpr ⟨ih, by simp, ?_⟩
      intro a ha b hb e
      have hb' : b = val i := by simpa using hb
      apply h
      rw [List.any_eq_true]
      exact ⟨a, ha, by simp [e, hb']⟩
theorem firstMet_mem (ns : List Int) (k : Int) : k ∈ firstMet (fun i => ns.getD i 0) ns.length ↔ k ∈ ns := by
  have h := firstMet_any (fun i => ns.getD i 0) ns.length k
  have e : (List.range ns.length).map (fun i => ns.getD i 0) = ns := by
    refine List.ext_getElem (by simp) (fun i h1 h2 => ?_)
    simp [List.getD_eq_getElem?_getD, List.getElem?_eq_getElem h2]
  rw [e] at h
  constructor
  · intro z
    have y : (firstMet (fun i => ns.getD i 0) ns.length).any (· == k) = true := List.any_eq_true.mpr ⟨k, z, by simp⟩
    rw [h] at y
    obtain ⟨x, hx, ex⟩ := List.any_eq_true.mp y
    have : x = k := by simpa using ex
    exact this ▸ hx
  · intro z
    have y : ns.any (· == k) = true := List.any_eq_true.mpr ⟨k, z, by simp⟩
    rw [← h] at y
    obtain ⟨x, hx, ex⟩ := List.any_eq_true.mp y
    have : x = k := by simpa using ex
    exact this ▸ hx

/-- len(set(x)), x a list or tuple of ints -/
def tLenSetQ (K : PySem.W.Frag) (ta : TE) : TE := fun σ H Q => ta σ H fun x H1 => ∃ (l : Addr) (ns : List Int), x = .ref l ∧
  (SqL K H1 l (ns.map V.int) ∨ SqT K H1 l (ns.map V.int)) ∧ ns.length ≤ 4000 ∧
  ∀ c : Nat, c ≤ ns.length → (c = ns.length ↔ ns.Nodup) → Q (.int (c : Nat)) H1
theorem numbers_of : ∀ {ns : List Int} {us : List Value}, Vals (ns.map V.int) us → IntsAre us ns
  | [], _, h => by
    cases h
    exact .nil
  | n :: ns, _, h => by
    cases h with
    | cons r t =>
      obtain ⟨tk, rfl⟩ := r
      exact .cons n tk (numbers_of t)
theorem pe_lenSetQ {X : Cx} {a : Expr} {ta : TE} {p p2 q pos : Pos} (hg : Gl X "len") (hm : X.mg "len" = none) (hg2 : Gl X "set") (hm2 : X.mg "set" = none) (ha : PE X a ta)
    (hc : X.calm = true := by rfl) (na : starEach [a] X.env = (false, eval a X.env) :: starEach [] X.env := by rfl) :
    PE X (.Call (.Name "len" p) [.Call (.Name "set" p2) [a] [] q] [] pos) (tLenSetQ X.K ta) := by
  constructor
  intro pins s σ H Q I h
  refine Call_ (ld_blt I hg hm boot_len ?_)
  refine PyProof.Rows.callWith_builtin1 (PyProof.Rows.args_cons (Call_ (ld_blt I hg2 hm2 boot_set ?_)) rfl) rfl rfl
  refine PyProof.Rows.callWith_type1 (PyProof.Rows.args_cons (thn (ha.run pins s σ H _ I h) ?_) na) na rfl
  rintro v s1 ⟨x, H1, I1, r1, l, ns, rfl, hq, hl, q1⟩
  refine PyProof.Rows.args_nil ?_
  cases r1
  rcases hq with hq | hq
  · obtain ⟨its, r, plain, hz⟩ := I1.list hq
    have hlen : its.toArray.size = ns.length := by
      rw [List.size_toArray, ← r.length]
      exact List.length_map ..
    refine call_set_list (I1.ok.hd hc) plain.isList (by simpa using numbers_of r) (by rw [hlen]; unfold scanBound; omega) ?_
    intro h' tk hS hk
    refine PyProof.Rows.args_nil ?_
    rw [hlen] at hS
    obtain ⟨o, es, ep, t, ho, hex, hd, _, _, _, hf, hn⟩ := hS
    have I2 : L2.Inv X pins σ H1 { s1 with heap := h', toks := tk } := I1.kept fun b o e => hk b o (Heap.lt_size e) e
    obtain ⟨d1, d2⟩ := distinct_iff (firstMet_nodup2 (fun i => ns.getD i 0) ns.length) (fun k => firstMet_mem ns k)
    exact call_len_set ho hex hd hf (by rw [hn]; unfold sizeLine at *; omega) ⟨.int _, H1, I2.tok _, ⟨_, by rw [hn]⟩, q1 _ d1 d2⟩
  · obtain ⟨its, r, tup, hz⟩ := I1.tuple hq
    have hlen : its.toArray.size = ns.length := by
      rw [List.size_toArray, ← r.length]
      exact List.length_map ..
    refine L2.call_set_tupI ns (I1.ok.hd hc) tup (by simpa using numbers_of r) (by unfold scanBound; omega) ?_
    intro h' tk c hS hcn hk
    refine PyProof.Rows.args_nil ?_
    obtain ⟨o, es, ep, t, ho, hex, hd, _, nd, mem, _, hf, hn, _, _⟩ := hS
    have I2 : L2.Inv X pins σ H1 { s1 with heap := h', toks := tk } := I1.kept hk
    have hmem : ∀ k, k ∈ es.toList.map keyOf ↔ k ∈ ns := fun k => (mem k).symm.trans (by simp)
    obtain ⟨d1, d2⟩ := distinct_iff nd hmem
    have hc2 : (es.toList.map keyOf).length = c := by rw [List.length_map, Array.length_toList, hn]
    rw [hc2] at d1 d2
    exact call_len_set ho hex hd hf (by rw [hn]; omega) ⟨.int (c : Nat), H1, I2.tok _, ⟨_, by rw [hn]⟩, q1 c d1 d2⟩
end Par
namespace Par
open PySem PySem.Spec PyProof.Rows L2
section
variable {prog : Program} {w : World} {A : Around} {E : Value → Shared → Prop} {s : Shared}
theorem collect_tup {tp : Addr} {vs : List Value} {Q : List Value → Shared → Prop} (htp : IsTup s.heap tp vs.toArray)
    (h : Q vs { s with heap := (s.heap.push (seqObj "list" #[] 0)).update s.heap.objs.size (Obj.mapSeq (· ++ vs.toArray)) })
    (len : vs.length ≤ sizeLine) : wpAny (model prog w) A (collect (.ref tp)) Q E s := by
  obtain ⟨o, hob, hcl, n, hdt⟩ := id htp
  unfold collect
  refine wpAny_bind (wpAny_runValue ?_)
  refine codeAny_builtin entry_proto_collect' ?_
  show wpAny _ _ (do again (.builtin "list.__iadd__" ⟨[← newList [], .ref tp], []⟩)) _ _ s
  refine wpAny_bind (wpAny_newList (wpAny_pure ?_))
  refine ⟨Code.quiet_builtin _ (by decide +kernel), codeAny_builtin entry_list_iadd' ?_⟩
  show wpAny _ _ (Builtin.List.listExtendWith (.ref s.heap.objs.size) (.ref tp) (.ref s.heap.objs.size)) _ _ { s with heap := s.heap.push (seqObj "list" #[] 0) }
  unfold Builtin.List.listExtendWith -- a tuple's items go over at once
  have ho2 : (s.heap.push (seqObj "list" #[] 0)).get? tp = some o := Heap.get?_push_of_some _ hob
  refine wpAny_bind (wpAny_typeOf (T := "tuple") ⟨o, ho2, hcl⟩ ?_)
  have ht : (Value.type "tuple" == Value.type "tuple") = true := by rfl
  rw [if_pos (by simp [ht])]
  refine wpAny_bind (listItems_at ho2 hdt ?_)
  refine wpAny_bind (listItems_at (n := 0) (xs := #[]) (Heap.get?_push_size _ rfl) rfl ?_)
  rw [if_neg (by simp)]
  have room : (#[] ++ vs.toArray).size ≤ sizeLine + 1 := by
    simp only [Array.size_append, List.size_toArray, List.length_nil]
    omega
  refine wpAny_bind (listUpdate_at (xs := #[]) (n := 0) (Heap.get?_push_size _ rfl) rfl ?_ (Nat.zero_le _) room)
  refine wpAny_pure ?_
  have flat : ((#[] : Array Value) ++ vs.toArray).toList = vs := by simp
  refine wpAny_bind (wpAny_load (get?_update_seq (Heap.get?_push_size s.heap rfl) _) ?_)
  show wpAny _ _ (pure (#[] ++ vs.toArray).toList) Q E _
  rw [flat]
  exact wpAny_pure h
theorem sorted_tupOrd {tp : Addr} {vs : List Value} {ltv : Value → Value → Bool} {Q : Value → Shared → Prop} (O : SrtO.Swo ltv) (htp : IsTup s.heap tp vs.toArray) (hz : vs.length ≤ sizeLine)
    (can : 2 ≤ vs.length → ∀ (h1 : Heap) (a : Addr), h1.get? a = some (seqObj "list" vs.toArray 0) → (∀ b o, s.heap.get? b = some o → b ≠ a ∧ h1.get? b = some o) → SrtO.SortableO prog w A.in1.in1 { s with heap := h1 } a vs ltv)
    (h : ∀ out : List Value, SrtO.Srtd ltv out → SrtO.Stb ltv out vs → Q (.ref (s.heap.objs.size + 1)) { s with heap := sortedAll s.heap vs out.toArray }) :
    wpAny (model prog w) A (call (.builtin "sorted") [.ref tp]) Q E s := by
  refine Calls.call_function_entry kind_sorted plain_sorted entry_sorted (args_sorted1 (.ref tp)) ?_
  unfold Builtin.«sorted»
  refine wpAny_bind (m := checkCount "sorted" 1 1 _) ?_
  refine wpAny_pure ?_
  refine wpAny_bind (collect_tup htp ?_ hz)
  refine wpAny_bind (wpAny_newList (s := _) ?_ hz)
  generalize eg : (s.heap.push (seqObj "list" #[] 0)).update s.heap.objs.size (Obj.mapSeq (· ++ vs.toArray)) = g
  have hsz : g.objs.size = s.heap.objs.size + 1 := by rw [← eg, Heap.size_update, size_push']
  have hoL : (g.push (seqObj "list" vs.toArray 0)).get? (s.heap.objs.size + 1) = some (seqObj "list" vs.toArray 0) := by
    rw [← hsz]
    exact Heap.get?_push_size g rfl
  have keep : ∀ b o, s.heap.get? b = some o → b ≠ s.heap.objs.size + 1 ∧ (g.push (seqObj "list" vs.toArray 0)).get? b = some o := by
    intro b o q
    have hbl : b < s.heap.objs.size := Heap.lt_size q
    refine ⟨Nat.ne_of_lt (Nat.lt_succ_of_lt hbl), Heap.get?_push_of_some (seqObj "list" vs.toArray 0) ?_⟩
    rw [← eg, Heap.get?_update_ne _ _ _ _ (Nat.ne_of_lt hbl)]
    exact Heap.get?_push_of_some (seqObj "list" #[] 0) q
  show wpAny _ _ _ _ _ { s with heap := g.push (seqObj "list" vs.toArray 0) }
  rw [hsz]
  refine wpAny_bind (wpAny_holding (wpAny_call_entry slot_list_sort ⟨_, hoL, rfl⟩ entry_list_sort (SrtO.list_sort_ord O hoL hz (fun h2 => can h2 _ _ hoL keep) ?_) (args_list_sort _)))
  intro out hs hb
  refine ⟨_, rfl, ?_⟩
  subst eg
  exact wpAny_pure ⟨.ref (s.heap.objs.size + 1), rfl, h out hs hb⟩
end
/-- sorted(t), t a tuple of ints -/
theorem cr_sortedTup {X : Cx} : CallR X (.builtin "sorted") (fun vs H Q => ∃ (a : Addr) (ns : List Int), vs = [V.ref a] ∧ SqT X.K H a (ns.map V.int) ∧
    ∀ (ms : List Int) (p : Addr), ms.Perm ns → ms.Pairwise (· ≤ ·) → H p = none → Q (.ref p) (upd H p (.lst (ms.map V.int)))) := by
  intro pins s σ H vs us Q I r h
  obtain ⟨a, ns, rfl, hs, q⟩ := h
  obtain ⟨its, rv, htp, hz⟩ := I.tuple hs
  rw [Vals.ref1 r]
  have hi := rv.ints
  refine sorted_tupOrd SrtO.swo_int htp (by rw [← rv.length]; exact hz) (fun h2 h1 a2 _ _ => SrtO.ints_sortable hi h2) ?_
  intro out h1 h2
  obtain ⟨o1, o2, o3⟩ := SrtO.ints_out hi h1 h2
  obtain ⟨ep, he⟩ := PyProof.Rows.sortedAll_at s.heap its out.toArray
  have hshort : ((out.map SrtO.iv).map V.int).length ≤ sizeLine := by
    rw [List.length_map, o2.length_eq]
    rw [List.length_map] at hz
    exact hz
  have lay := I.laid (t' := s.toks) (a := s.heap.objs.size + 1) (o := .lst ((out.map SrtO.iv).map V.int)) (fun _ _ => PyProof.Rows.sortedAll_old) (Nat.le_succ _)
    ⟨hshort, out, ep, vals_of_ints o1, he⟩
  exact ⟨.ref _, _, lay, rfl, q _ _ o2 o3 (I.hok.fresh (Nat.le_succ _))⟩
end Par
namespace Par
open PySem PySem.Spec PyProof.Rows L2
theorem meets_enumT (l : Addr) (items : Array Value) :
    Meets (Builtin.«enumerate.__new__» ⟨[.type "enumerate", .ref l], []⟩) (fun _ R s => s.heap.IsTuple l items ∧
      R (.ok (.ret (.ref (s.heap.push { cls := .type "tuple_iterator", data := .fields #[.ref l, .int 0 0] }).objs.size)))
        { s with heap := (s.heap.push { cls := .type "tuple_iterator", data := .fields #[.ref l, .int 0 0] }).push { cls := .type "enumerate", data := .fields #[.none, .bool false, .ref s.heap.objs.size, rawInt 0, .none, .none] } }) := by
  refine .of_wp ?_
  rintro prog w A R ⟨hp, g, d, tk, os⟩ ⟨h1, h⟩
  have sub1 := sub_enumerate
  have it1 : ∀ {B : Around} {E : Value → Shared → Prop} {Q : Value → Shared → Prop},
      Q (.ref hp.objs.size) ⟨hp.push { cls := .type "tuple_iterator", data := .fields #[.ref l, .int 0 0] }, g, d, tk, os⟩ → wpAny (model prog w) B (pyIter (.ref l)) Q E ⟨hp, g, d, tk, os⟩ :=
    fun q => (begins_tuple l items).iter prog w _ _ ⟨hp, g, d, tk, os⟩ _ h1 q
  wp_walk using it1
  refine wpAny_stack_any (fun st => wpAny_pure ?_)
  split
  · rename_i c _ _ _ _ _
    cases (c == Value.type "enumerate") <;> (wp_walk using it1; exact ⟨_, rfl, h⟩)
  · wp_walk using it1
    exact ⟨_, rfl, h⟩
section
variable {prog : Program} {w : World} {A : Around} {E : Value → Shared → Prop} {s : Shared}
theorem call_enumT {l : Addr} {items : Array Value} {Q : Value → Shared → Prop} (hL : s.heap.IsTuple l items)
    (h : ∀ h', IsEnum h' (s.heap.objs.size + 1) s.heap.objs.size 0 .none → h'.IsTupleIter s.heap.objs.size l 0 → (∀ b o, s.heap.get? b = some o → h'.get? b = some o) →
      Q (.ref (s.heap.objs.size + 1)) { s with heap := h' }) : wpAny (model prog w) A (call (.type "enumerate") [.ref l]) Q E s := by
  refine callType_new F.called_enumerate (by decide) (F.typeCall_enumerate_1 _) (F.newCall_enumerate_1 _) (fun obj => F.args_object_init_2 obj _) F.entry_enumerate_new (meets_enumT l items) ⟨hL, ?_⟩
  generalize eg : s.heap.push { cls := .type "tuple_iterator", data := .fields #[.ref l, .int 0 0] } = g
  have hz : g.objs.size = s.heap.objs.size + 1 := by rw [← eg]; exact Heap.size_push ..
  have hi : g.get? s.heap.objs.size = some { cls := .type "tuple_iterator", data := .fields #[.ref l, .int 0 0] } := by rw [← eg]; exact Heap.get?_push_size _ rfl
  have hk : ∀ b o, s.heap.get? b = some o → g.get? b = some o := by rw [← eg]; exact fun b o x => Heap.get?_push_of_some _ x
  show _ ∧ _
  have he := Heap.get?_push_size g (o := { cls := .type "enumerate", data := .fields #[.none, .bool false, .ref s.heap.objs.size, rawInt 0, .none, .none] }) rfl
  rw [hz] at he ⊢
  exact ⟨⟨_, he, rfl⟩, h _ he ⟨_, Heap.get?_push_of_some _ hi, rfl, rfl⟩ fun b o x => Heap.get?_push_of_some _ (hk b o x)⟩
end
/-- the tuple at a, each item in a new pair -/
def ItEnT (K : PySem.W.Frag) (a : Addr) : It where
  go := fun i H => ∃ (xs : List V) (x : V), SqT K H a xs ∧ xs[i]? = some x
  yld := fun i H v H' => ∃ T x, v = .ref T ∧ H T = none ∧ H' = upd H T (.tup [.int (i : Nat), x]) ∧ ∀ xs, SqT K H a xs → xs[i]? = some x
  stop := fun i H => ∃ xs : List V, SqT K H a xs ∧ xs.length ≤ i
theorem turn_enumT {P : Program} {w : World} {K : PySem.W.Frag} {elts : List Expr} {kk : Nat} {tpos : Pos} (a e it : Addr) :
    Turn P w K (.Tuple elts kk tpos) (ItEnT K a) [e, it] e (fun i h => (∃ old, IsEnum h e it ((i : Nat) : Int) old) ∧ h.IsTupleIter it a i ∧ e ≠ it ∧ a ≠ it ∧ a ≠ e) where
  mem := by simp
  obj := by
    rintro i h ⟨⟨old, he⟩, ⟨o, ho, hc, hd⟩, _⟩ b hb
    rcases (show b = e ∨ b = it by simpa using hb) with rfl | rfl
    · exact ⟨_, he, fun v q => nomatch q⟩
    · exact ⟨o, ho, fun v q => by rw [hd] at q; cases q⟩
  keep := by
    rintro i h h' ⟨⟨old, he⟩, ⟨o, ho, r⟩, ne⟩ k
    exact ⟨⟨old, k e (by simp) _ he⟩, ⟨o, k it (by simp) o ho, r⟩, ne⟩
  item := by
    intro X hP hw hK hc i pins s σ H E I hf st hg
    subst hP hw hK
    obtain ⟨⟨old, he⟩, hit, hne, n1, n2⟩ := st
    obtain ⟨xs, x, hq, hx⟩ := hg
    obtain ⟨its, rv, p, hz⟩ := I.tuple hq
    obtain ⟨u, hu, ru⟩ := rv.get hx
    have hel : e < s.heap.objs.size := Heap.lt_size he
    have hil : it < s.heap.objs.size := let ⟨_, q, _⟩ := hit; Heap.lt_size q
    have hlt : i < its.toArray.size := by
      rcases Nat.lt_or_ge i its.length with z | z
      · simpa using z
      · rw [List.getElem?_eq_none z] at hu
        cases hu
    have hh : X.A.in1.handled = none := I.ok.hd hc
    refine wpAny_pyNext_enum_itemD (Draws.tuple hh it a n1 its.toArray) he ⟨hit, p⟩ hlt hne (by simp [hne, Ne.symm n2]) ?_
    intro y h1 tk hy ho hit1 hT hsz hk
    have ey : y = u := by
      have q : its.toArray[i]? = some u := by simpa using hu
      rw [hy] at q
      exact Option.some.inj q
    subst ey
    refine ⟨_, rfl, wpAny_letOwnedTupleGo_enum (s := { s with heap := h1, toks := tk + 1 }) ho ?_⟩
    intro h2 he2 sb
    have hT2 : h2.get? s.heap.objs.size = some { cls := .type "tuple", data := .seq #[.int i tk, y] } := (sb.2 _ (Nat.ne_of_gt hel)).trans hT
    have new : ObjOk X.prog X.w (upd H s.heap.objs.size (.tup [.int (i : Nat), x])) h2 s.heap.objs.size (.tup [.int (i : Nat), x]) :=
      ⟨by show 2 ≤ sizeLine; decide, [.int i tk, y], .cons ⟨_, rfl⟩ (.cons ru .nil), ⟨_, hT2, rfl, _, rfl⟩⟩
    have I1 : L2.Inv X pins σ (upd H s.heap.objs.size (.tup [.int (i : Nat), x])) { s with heap := h2, toks := tk + 1 } := by
      refine I.turnedNew (ch := [e, it]) ?_ hf (Nat.le_refl _) new
      intro b ob hb q
      have b1 : b ≠ e := fun z => hb (by simp [z])
      exact (sb.2 b b1).trans (hk b ob b1 (fun z => hb (by simp [z])) q)
    refine ⟨.ref s.heap.objs.size, _, I1, rfl, ⟨_, x, rfl, I.hok.fresh (Nat.le_refl _), rfl, ?_⟩, ⟨⟨y, ?_⟩, ?_, hne, n1, n2⟩, ?_⟩
    · intro ys hy
      rw [I.tuple_inj hy hq]
      exact hx
    · have e1 : ((i + 1 : Nat) : Int) = (i : Int) + 1 := by omega
      rw [e1]
      exact he2
    · obtain ⟨o, q, r⟩ := hit1.1
      exact ⟨o, (sb.2 it (Ne.symm hne)).trans q, r⟩
    · intro b hb
      have hb2 : b < s.heap.objs.size := by
        rcases (show b = e ∨ b = it by simpa using hb) with rfl | rfl
        · exact hel
        · exact hil
      rw [upd_ne (Nat.ne_of_lt hb2)]
      exact (hf b hb).1
  done := by
    intro X hP hw hK hc i pins s σ H E I hf st hg
    subst hP hw hK
    obtain ⟨⟨old, he⟩, hit, hne, n1, n2⟩ := st
    obtain ⟨xs, hq, hx⟩ := hg
    obtain ⟨its, rv, p, hz⟩ := I.tuple hq
    obtain ⟨f0, f1, f2, f3, f4, f5⟩ := hf it (by simp)
    have hh : X.A.in1.handled = none := I.ok.hd hc
    by_cases hi : i = its.toArray.size
    · subst hi
      refine wpAny_pyNext_enum_endD (Draws.tuple hh it a n1 its.toArray) he ⟨hit, p⟩ ?_
      intro h1 ex
      exact ⟨rfl, I.turned (t' := s.toks) (fun b o hb q => ex b o hb q) f0 f1 f3 f4 f5⟩
    · refine wpAny_bind (wpAny_attempt (wpAny_callSpecial?_slot (s := s) (name := Str.ofString "__next__") ⟨_, he, rfl⟩ F.slot_enumerate_next
        (wpAny_call_entry (s := s) F.slot_enumerate_next ⟨_, he, rfl⟩ F.entry_enumerate_next ?_ (F.args_enumerate_next_1 _))))
      show wpAny _ _ (field (Value.ref e) 2 >>= _) _ _ s
      refine wpAny_bind (wpAny_field (s := s) he rfl (x := .ref it) rfl ?_)
      refine wpAny_bind (wpAny_nextOf_tuple_end hh hit p (by simp; have := rv.length; omega) ?_)
      rintro h1 z ex ⟨o, ho, hcl⟩
      refine wpAny_bind (wpAny_isInstance (T := "StopIteration") (b := true) ⟨o, ho, hcl⟩ isSubtype_stop ?_)
      exact wpAny_pure ⟨rfl, I.turned (t' := s.toks) (fun b o hb q => ex b o hb q) f0 f1 f3 f4 f5⟩
  self := by
    rintro A i s Q E ⟨⟨_, he⟩, _⟩ h
    exact wpAny_pyIter_enum he h
def iEnumT (K : PySem.W.Frag) (ta : TA) : TI := fun σ H R => ta σ H fun vs H1 => ∃ a xs, vs = [.ref a] ∧ SqT K H1 a xs ∧ R (ItEnT K a) H1
/-- for i, x in enumerate(t), t a tuple -/
theorem pi_enumT {X : Cx} {e : Expr} {ta : TA} {p pos tpos : Pos} {elts : List Expr} {kk : Nat} (hg : Gl X "enumerate") (hm : X.mg "enumerate" = none) (ha : PA X [e] ta)
    (hs : starEach [e] X.env = [(false, eval e X.env)] := by rfl) : PI X (.Tuple elts kk tpos) (.Call (.Name "enumerate" p) [e] [] pos) (iEnumT X.K ta) := by
  constructor
  intro pins s σ H R I h
  refine Call_ (ld_blt I hg hm boot_enumerate (PyProof.Rows.callWith_type1 (thn (ha.run pos pins s σ H _ I h) ?_) hs rfl))
  rintro us s1 ⟨vs, H1, I1, r1, a, xs, rfl, hq, q⟩
  cases r1 with
  | cons r rr =>
    cases rr
    cases r
    obtain ⟨its, rv, pl, hz⟩ := I1.tuple hq
    refine call_enumT pl ?_
    intro h1 he hit hk
    refine wpAny_pyIter_enum he ?_
    have I2 : L2.Inv X pins σ H1 { s1 with heap := h1 } := I1.kept (t' := s1.toks) hk
    have al : a < s1.heap.objs.size := pl.lt
    refine ⟨s1.heap.objs.size + 1, [s1.heap.objs.size + 1, s1.heap.objs.size], _, _, H1, rfl, I2, turn_enumT a (s1.heap.objs.size + 1) s1.heap.objs.size,
      ⟨⟨.none, he⟩, hit, Nat.succ_ne_self _, Nat.ne_of_lt al, Nat.ne_of_lt (Nat.lt_succ_of_lt al)⟩, ?_, q⟩
    intro b hb
    have hle : s1.heap.objs.size ≤ b := by
      rcases (show b = s1.heap.objs.size + 1 ∨ b = s1.heap.objs.size by simpa using hb) with z | z
      · rw [z]
        exact Nat.le_succ _
      · rw [z]
        exact Nat.le_refl _
    exact I1.fpOk hle (I1.hok.fresh hle)
theorem walk_enumT {K : PySem.W.Frag} {a : Addr} {xs : List V} :
    Walk (ItEnT K a) xs.length (fun H => SqT K H a xs) (YPair (fun i => some (.int (i : Nat))) (fun i => xs[i]?)) where
  goes := fun i H hi h => ⟨xs, xs[i], h, by simp [hi]⟩
  stops := fun H h => ⟨xs, h, Nat.le_refl _⟩
  yields := by
    rintro i H v H' hi h ⟨T, x, rfl, hn, rfl, hx⟩
    exact ⟨T, _, x, rfl, hn, rfl, rfl, hx xs h⟩
end Par
namespace Par
open PySem PySem.Spec PyProof.Rows L2
/-! ### data stays data -/
theorem sqL_same {K : PySem.W.Frag} {H H' : Hp} {a : Addr} {xs : List V} (s : Same H H') (h : SqL K H a xs) : SqL K H' a xs := s.seq h
theorem sqT_same {K : PySem.W.Frag} {H H' : Hp} {a : Addr} {xs : List V} (s : Same H H') (h : SqT K H a xs) : SqT K H' a xs := by
  rcases h with (h | ⟨o, h⟩) | h
  · exact .inl (.inl (s _ _ h))
  · exact .inl (.inr ⟨o, s _ _ h⟩)
  · exact .inr h
mutual
theorem dp_same {K : PySem.W.Frag} {H H' : Hp} (s : Same H H') : ∀ (d : PyData) (v : V), Dp K H v d → Dp K H' v d
  | .none, _, h => by cases h; exact .non
  | .bool b, _, h => by cases h; exact .bl b
  | .int i, _, h => by cases h; exact .int i
  | .str x, _, h => by cases h; exact .str x
  | .list ds, _, h => by
    cases h with
    | lst q ha => exact .lst (sqL_same s q) (dps_same s ds _ ha)
  | .tuple ds, _, h => by
    cases h with
    | tup q ha => exact .tup (sqT_same s q) (dps_same s ds _ ha)
  | .dict _, _, h => by cases h
theorem dps_same {K : PySem.W.Frag} {H H' : Hp} (s : Same H H') : ∀ (ds : List PyData) (vs : List V), DpAll K H vs ds → DpAll K H' vs ds
  | [], _, h => by cases h; exact .nil
  | d :: ds, _, h => by
    cases h with
    | cons h1 h2 => exact .cons (dp_same s d _ h1) (dps_same s ds _ h2)
end
theorem fl_same {H H' : Hp} (s : Same H H') {v : V} {d : PyData} (h : Fl H v d) : Fl H' v d := by
  cases h with
  | non => exact .non
  | bl b => exact .bl b
  | int i => exact .int i
  | str x => exact .str x
  | dic0 e => exact .dic0 (s _ _ e)
  | dic1 e => exact .dic1 (s _ _ e)
/-- a thing that is handed in: flat, a dict, or a list or tuple of data -/
inductive Giv (K : PySem.W.Frag) (H : Hp) : V → PyData → Prop
  | fl {v : V} {d : PyData} : Fl H v d → Giv K H v d
  | lst {a : Addr} {xs : List V} {ds : List PyData} : H a = some (.lst xs) → DpAll K H xs ds → xs.length ≤ 200 → Giv K H (.ref a) (.list ds)
  | tup {a : Addr} {xs : List V} {ds : List PyData} : H a = some (.tup xs) → DpAll K H xs ds → xs.length ≤ 200 → Giv K H (.ref a) (.tuple ds)
theorem giv_same {K : PySem.W.Frag} {H H' : Hp} (s : Same H H') {v : V} {d : PyData} (h : Giv K H v d) : Giv K H' v d := by
  cases h with
  | fl f => exact .fl (fl_same s f)
  | lst e q l => exact .lst (s _ _ e) (dps_same s _ _ q) l
  | tup e q l => exact .tup (s _ _ e) (dps_same s _ _ q) l
theorem giv_dx {K : PySem.W.Frag} {H : Hp} {v : V} {d : PyData} (h : Giv K H v d) : Dx K H v d := by
  cases h with
  | fl f => exact .fl f
  | lst e q _ => exact .dp (.lst (SqL.of e) q)
  | tup e q _ => exact .dp (.tup (SqT.of e) q)
theorem dps_ints {K : PySem.W.Frag} {H : Hp} : ∀ ns : List Int, DpAll K H (ns.map V.int) (ns.map PyData.int)
  | [] => .nil
  | n :: ns => .cons (.int n) (dps_ints ns)
theorem dps_bools {K : PySem.W.Frag} {H : Hp} : ∀ bs : List Bool, DpAll K H (bs.map V.bl) (bs.map PyData.bool)
  | [] => .nil
  | n :: ns => .cons (.bl n) (dps_bools ns)
theorem dps_append {K : PySem.W.Frag} {H : Hp} : ∀ {xs ys : List V} {ds es : List PyData}, DpAll K H xs ds → DpAll K H ys es → DpAll K H (xs ++ ys) (ds ++ es)
  | _, _, _, _, .nil, h => h
  | _, _, _, _, .cons h1 h2, h => .cons h1 (dps_append h2 h)

/-! ### what is shown is short -/
def small (d : PyData) : Prop := d.showable = true ∧ d.depth ≤ 4 ∧ d.shown.length ≤ 200
def good (d : PyData) : Prop := d.showable = true ∧ d.depth ≤ 8 ∧ d.shown.length ≤ 200000
theorem log_lt {n k : Nat} (h : n < 2 ^ k) (hk : 0 < k) : n.log2 < k := by
  by_cases h0 : n = 0
  · subst h0
    exact hk
  · exact (Nat.log2_lt h0).mpr h
theorem small_int {i : Int} (h : i.natAbs < 2 ^ 100) : small (.int i) := by
  have h1 := log_lt h (by decide)
  refine ⟨?_, Nat.zero_le _, ?_⟩
  · show decide (i.natAbs.log2 < 1920) = true
    exact decide_eq_true (by omega)
  · show (Str.ofString (toString i)).length ≤ 200
    have h2 := int_text_length_le (a := i) (k := 100) (by decide) h1
    rw [PySem.ofString_length]
    omega
theorem small_bool (b : Bool) : small (.bool b) := by cases b <;> exact ⟨by decide, by decide, by decide +kernel⟩
theorem small_good {d : PyData} (h : small d) : good d := ⟨h.1, by have := h.2.1; omega, by have := h.2.2; omega⟩
theorem showAll {ds : List PyData} : (∀ d ∈ ds, d.showable = true) → PyData.showableAll ds = true := by
  induction ds with
  | nil => intro _; rfl
  | cons d ds ih =>
    intro h
    show (d.showable && PyData.showableAll ds) = true
    rw [h d (List.mem_cons_self ..), ih fun e he => h e (List.mem_cons_of_mem _ he)]
    rfl
theorem depthAll {ds : List PyData} {n : Nat} : (∀ d ∈ ds, d.depth ≤ n) → PyData.depthAll ds ≤ n := by
  induction ds with
  | nil => intro _; exact Nat.zero_le _
  | cons d ds ih =>
    intro h
    show max d.depth (PyData.depthAll ds) ≤ n
    have h1 := h d (List.mem_cons_self ..)
    have h2 := ih fun e he => h e (List.mem_cons_of_mem _ he)
    omega
theorem piledAll {ds : List PyData} {n : Nat} : (∀ d ∈ ds, d.shown.length ≤ n) → piled (PyData.shownAll ds) ≤ ds.length * (n + 2) := by
  induction ds with
  | nil => intro _; show 0 ≤ _; exact Nat.zero_le _
  | cons d ds ih =>
    intro h
    show piled (d.shown :: PyData.shownAll ds) ≤ _
    rw [piled_cons, List.length_cons, Nat.add_mul]
    have h1 := h d (List.mem_cons_self ..)
    have h2 := ih fun e he => h e (List.mem_cons_of_mem _ he)
    omega
theorem listText_le : ∀ ts : List Str, (listText ts).length ≤ piled ts + 2
  | [] => by
    rw [listText_nil]
    show Str.length (Str.ofString "[]") ≤ 2
    decide +kernel
  | t :: ts => by
    have h := textFrom_length_pos ts 1 (Str.ofString "[" ++ Str.ofString "" ++ t) (by decide)
    have e1 : (Str.ofString "[" ++ Str.ofString "" ++ t).length = 1 + t.length := by
      rw [strLen_append, strLen_append]
      rfl
    have e2 : (listText (t :: ts)).length = (textFrom 1 (Str.ofString "[" ++ Str.ofString "" ++ t) ts).length + 1 := strLen_append _ _
    rw [e2, h, e1, piled_cons]
    omega
theorem tupleText_le (ts : List Str) : (tupleText ts).length ≤ piled ts + 4 := by
  have e1 : (Str.ofString "(").length = 1 := by decide +kernel
  have e3 : (Str.ofString (if ts.length == 1 then ",)" else ")")).length ≤ 2 := by split <;> decide +kernel
  have e4 : (tupleText ts).length = (Str.ofString "(").length + (Str.join ", " ts).length + (Str.ofString (if ts.length == 1 then ",)" else ")")).length := by
    unfold tupleText
    rw [strLen_append, strLen_append]
  by_cases h : ts = []
  · subst h
    decide +kernel
  · have := join_length_add ts h
    omega
theorem good_list {ds : List PyData} (h : ∀ d ∈ ds, small d) (hl : ds.length ≤ 300) : good (.list ds) := by
  refine ⟨showAll fun d hd => (h d hd).1, ?_, ?_⟩
  · show PyData.depthAll ds + 1 ≤ 8
    have := depthAll (n := 4) fun d hd => (h d hd).2.1
    omega
  · show (listText (PyData.shownAll ds)).length ≤ 200000
    have h1 := listText_le (PyData.shownAll ds)
    have h2 := piledAll (n := 200) fun d hd => (h d hd).2.2
    have h3 : ds.length * (200 + 2) ≤ 300 * (200 + 2) := Nat.mul_le_mul_right _ hl
    omega
theorem good_tuple {ds : List PyData} (h : ∀ d ∈ ds, small d) (hl : ds.length ≤ 300) : good (.tuple ds) := by
  refine ⟨showAll fun d hd => (h d hd).1, ?_, ?_⟩
  · show PyData.depthAll ds + 1 ≤ 8
    have := depthAll (n := 4) fun d hd => (h d hd).2.1
    omega
  · show (tupleText (PyData.shownAll ds)).length ≤ 200000
    have h1 := tupleText_le (PyData.shownAll ds)
    have h2 := piledAll (n := 200) fun d hd => (h d hd).2.2
    have h3 : ds.length * (200 + 2) ≤ 300 * (200 + 2) := Nat.mul_le_mul_right _ hl
    omega
/-- a short list of good things can be shown -/
theorem shown_list {ds : List PyData} (h : ∀ d ∈ ds, good d) (hl : ds.length ≤ 8) : (PyData.list ds).showable = true ∧ (PyData.list ds).depth ≤ 40 ∧ (PyData.list ds).shown.length ≤ sizeLine := by
  refine ⟨showAll fun d hd => (h d hd).1, ?_, ?_⟩
  · show PyData.depthAll ds + 1 ≤ 40
    have := depthAll (n := 8) fun d hd => (h d hd).2.1
    omega
  · show (listText (PyData.shownAll ds)).length ≤ sizeLine
    have h1 := listText_le (PyData.shownAll ds)
    have h2 := piledAll (n := 200000) fun d hd => (h d hd).2.2
    have h3 : ds.length * (200000 + 2) ≤ 8 * (200000 + 2) := Nat.mul_le_mul_right _ hl
    rw [sizeLine_eq]
    omega
theorem shown_good {d : PyData} (h : good d) : d.showable = true ∧ d.depth ≤ 40 ∧ d.shown.length ≤ sizeLine := by
  obtain ⟨h1, h2, h3⟩ := h
  refine ⟨h1, by omega, ?_⟩
  rw [sizeLine_eq]
  omega
end Par
namespace Par
open PySem PySem.Spec PyProof.Rows L2

/-! ### a loop that changes nothing -/
section
variable {M : Model} {A : Around} {E : Value → Shared → Prop} {s : Shared}
theorem wp_forSame {α β : Type} {b : β} {f : α → β → Sem (ForInStep β)} {Q : β → Shared → Prop} : ∀ (l : List α),
    (∀ a ∈ l, ∀ Q' : ForInStep β → Shared → Prop, Q' (.yield b) s → wpAny M A (f a b) Q' E s) → Q b s → wpAny M A (forIn l b f) Q E s
  | [], _, h => by
    rw [List.forIn_nil]
    exact wpAny_pure h
  | a :: l, hf, h => by
    rw [List.forIn_cons]
    refine wpAny_bind (hf a (List.mem_cons_self ..) _ ?_)
    exact wp_forSame l (fun x hx => hf x (List.mem_cons_of_mem _ hx)) h
end
section
variable {P : Program} {w : World} {A : Around} {E : Value → Shared → Prop} {s : Shared} {a f : Addr} {S Sf : Int → Bool} {n nf : Nat}
theorem quiet_sets {sets : List Addr} {Q : Bool → Shared → Prop} (hs : ∀ b ∈ sets, ∃ S n, SetR w s.heap b S n) (h : Q true s) :
    wpAny (model P w) A (setsQuiet sets) Q E s := by
  unfold setsQuiet
  refine wpAny_bind (wp_forSame sets (fun b hb Q' q => ?_) (wpAny_pure h))
  obtain ⟨S, n, o, es, ep, t, ho, hx, hd, g, _, _, _, hf, _⟩ := hs b hb
  refine wpAny_bind (wpAny_setEntries_of ho hd hf ?_)
  rw [← Array.forIn_toList]
  refine wpAny_bind (wp_forSame es.toList (fun e he Q2 q2 => ?_) (wpAny_pure q))
  obtain ⟨k, tk, h1, _⟩ := g e he
  obtain ⟨hh, x⟩ := e
  subst h1
  exact wpAny_pure q2
/-- what a walk that nobody sees gives -/
def Given (S : Int → Bool) (n : Nat) (l : Array (Int × Value)) : Prop :=
  (∀ e ∈ l.toList, GoodE e) ∧ (l.toList.map keyOf).Nodup ∧ (∀ k, S k = true ↔ k ∈ l.toList.map keyOf) ∧ l.size = n
theorem Given.perm {l l' : Array (Int × Value)} (g : Given S n l) (p : l'.toList.Perm l.toList) : Given S n l' :=
  ⟨fun e he => g.1 e (p.mem_iff.mp he), (p.map keyOf).nodup_iff.mpr g.2.1, fun k => (g.2.2.1 k).trans (p.map keyOf).mem_iff.symm, by
    rw [← Array.length_toList, p.length_eq, Array.length_toList]
    exact g.2.2.2⟩
theorem walk_unseen {others : List Addr} {Q : Array (Int × Value) → Shared → Prop} (R : SetR w s.heap a S n) (hs : ∀ b ∈ others, ∃ S n, SetR w s.heap b S n) (Rf : SetR w s.heap f Sf nf)
    (hQ : ∀ l h', Heap.SameBut f s.heap h' → SetR w h' f Sf nf → Given S n l → Q l { s with heap := h' }) :
    wpAny (model P w) A (setWalkUnseen a others (some f)) Q E s := by
  obtain ⟨o, es, ep, t, ho, hx, hd, g, nd, hm, hb, hf, hn, hr, hl⟩ := id R
  have gv : Given S n es := ⟨g, nd, hm, hn⟩
  have same : ∀ l, Given S n l → Q l s := fun l gl => hQ l s.heap (Heap.SameBut.refl f s.heap) Rf gl
  unfold setWalkUnseen
  refine wpAny_bind (wpAny_setState_of ho hd hf ?_)
  dsimp only
  refine wpAny_bind (wpAny_byText ?_)
  cases hbt : w.params.followText "set-order" with
  | true =>
    refine wp_if_pos (by simp) ?_
    unfold setWalk
    refine wpAny_bind (wpAny_setState_of ho hd hf ?_)
    dsimp only
    refine wpAny_bind (wpAny_byText ?_)
    refine wp_if_pos hbt ?_
    exact wpAny_bind (wpAny_askSetting (wpAny_pure (same _ (gv.perm (pick_perm _ es)))))
  | false =>
    have hled : t.led = true := hl.resolve_left (by rw [hbt]; exact Bool.false_ne_true)
    by_cases hc : (false || (t.led && t.plain) || decide (es.size ≤ 1)) = true
    · refine wp_if_pos hc ?_
      unfold setWalk
      refine wpAny_bind (wpAny_setState_of ho hd hf ?_)
      dsimp only
      refine wpAny_bind (wpAny_byText ?_)
      refine wp_if_neg (by rw [hbt]; exact Bool.false_ne_true) ?_
      try refine wpAny_bind (wpAny_pure ?_)
      refine wp_if_neg ?_ ?_
      · show ¬ ((!t.plain && decide (es.size > 1)) = true)
        intro z
        rw [Bool.and_eq_true, decide_eq_true_eq] at z
        rw [hled] at hc
        have hp : t.plain = false := by simpa using z.1
        rw [hp] at hc
        have : es.size ≤ 1 := by simpa using hc
        omega
      · try refine wpAny_bind (wpAny_pure ?_)
        refine wpAny_bind (wpAny_of_eq (a := ()) ?_ ?_)
        · show (if (!t.led && decide (es.size > 1)) = true then unsupported "set:maker-not-led" else pure ()) = pure ()
          rw [hled] <;> rfl
        · exact wpAny_pure (same es gv)
    · refine wp_if_neg hc ?_
      try refine wpAny_bind (wpAny_pure ?_)
      refine wpAny_bind (quiet_sets (fun b hb => ?_) ?_)
      · rcases List.mem_cons.mp hb with z | z
        · exact z ▸ ⟨S, n, R⟩
        · exact hs b z
      refine wp_if_neg (by simp) ?_
      try refine wpAny_bind (wpAny_pure ?_)
      refine wpAny_bind (wpAny_rule ?_)
      obtain ⟨o2, es2, ep2, t2, ho2, hx2, hd2, g2, nd2, hm2, hb2, hf2, hn2, hr2, hl2⟩ := id Rf
      refine wpAny_bind (wpAny_setState_of ho2 hd2 hf2 ?_)
      dsimp only
      split
      · refine wpAny_bind (wpAny_storeSet_of ho2 hd2 ?_ (fits_of_scanBound hb2))
        have ho3 := store_at (es' := es2) (t' := { t2 with led := t2.led && t.led, plain := t2.plain && t.plain }) ho2 hd2
        refine wpAny_pure (hQ es _ (Heap.SameBut.update s.heap f _) ?_ gv)
        exact ⟨_, es2, _, _, ho3, hx2, rfl, g2, nd2, hm2, hb2, hf2, hn2, hr2, hl2.imp id fun z => by show (t2.led && t.led) = true; rw [z, hled]; rfl⟩
      · exact wpAny_pure (same es gv)
end
end Par
namespace Par
open PySem PySem.Spec PyProof.Rows L2
section
variable {P : Program} {w : World} {A : Around} {E : Value → Shared → Prop} {s : Shared} {a : Addr} {S : Int → Bool} {n : Nat}
theorem eraseAt_list {α : Type} (xs : Array α) (i : Nat) : (SetTable.eraseAt xs i).toList = xs.toList.eraseIdx i := by
  unfold SetTable.eraseAt
  rw [Array.toList_append, Array.toList_extract, Array.toList_extract, List.eraseIdx_eq_take_drop_succ]
  simp [List.extract_eq_drop_take]
  rw [List.take_of_length_le (by simp)]
/-- where the member k lies -/
theorem find_at {k : Int} {tk : Tok} {o : Obj} {es : Array (Int × Value)} {ep : Nat} {t : SetTable} {Q : Option Nat → Shared → Prop} (ho : s.heap.get? a = some o) (hd : o.data = .set es ep t) (hf : t.fits es.size = true)
    (g : ∀ e ∈ es.toList, GoodE e) (hb : es.size < scanBound) (h : Q (es.toList.findIdx? fun e => (intKind P w).is k e.2) s) :
    wpAny (model P w) A (setFind a (.int k tk) ((intKind P w).hash k)) Q E s := by
  have hel : ElemsOf (intKind P w) es.toList := good_elems g
  unfold setFind setFindIn
  refine wpAny_bind (wpAny_setState_of ho hd hf ?_)
  dsimp only
  rw [byScan_of (x := .int k tk) rfl hb hel]
  simp only [↓reduceIte]
  refine wpAny_bind (wpAny_rule ?_)
  refine wpAny_bind (wpAny_setScan_of (intKind_is P w k tk) ho hd hf hel ?_)
  cases hr : List.findIdx? (fun e => (intKind P w).is k e.2) es.toList with
  | none =>
    dsimp only
    rw [hr] at h
    exact wpAny_pure h
  | some j =>
    dsimp only
    rw [hr] at h
    rw [Nat.zero_add]
    exact wpAny_pure h
theorem discard_hashed {k : Int} {tk : Tok} {Q : Bool → Shared → Prop} (R : SetR w s.heap a S n)
    (hQ : ∀ h' m, m ≤ n → Heap.SameBut a s.heap h' → SetR w h' a (fun j => S j && !decide (j = k)) m → Q (S k) { s with heap := h' }) :
    wpAny (model P w) A (setDiscardHashed a (.int k tk) ((intKind P w).hash k)) Q E s := by
  obtain ⟨o, es, ep, t, ho, hex, hd, g, nd, hm, hb, hf, hn, hr, hl⟩ := R
  unfold setDiscardHashed
  refine wpAny_bind (find_at ho hd hf g hb ?_)
  cases hwhere : List.findIdx? (fun e => (intKind P w).is k e.2) es.toList with
  | none =>
    dsimp only
    have hnot : k ∉ es.toList.map keyOf := fun z => by
      obtain ⟨e, he, q⟩ := (good_mem (P := P) (w := w) g k).1 z
      have c := List.findIdx?_eq_none_iff.mp hwhere e he
      rw [q] at c
      cases c
    have hyes : S k = false := by
      cases q : S k with
      | false => rfl
      | true => exact absurd ((hm k).1 q) hnot
    have q := hQ s.heap n (Nat.le_refl _) (Heap.SameBut.refl a s.heap) ⟨o, es, ep, t, ho, hex, hd, g, nd, fun i => by
      rw [← hm i, Bool.and_eq_true]
      constructor
      · exact fun z => z.1
      · intro z
        refine ⟨z, ?_⟩
        have : i ≠ k := fun e => by rw [e, hyes] at z; cases z
        simp [this], hb, hf, hn, hr, hl⟩
    rw [hyes] at q
    exact wpAny_pure q
  | some j =>
    dsimp only
    obtain ⟨hj, pj, _⟩ := List.findIdx?_eq_some_iff_getElem.mp hwhere
    have hyes : S k = true := (hm k).2 ((good_mem (P := P) (w := w) g k).2 ⟨es.toList[j], List.getElem_mem hj, pj⟩)
    have hkj : keyOf es.toList[j] = k := (good_is (P := P) (w := w) (g _ (List.getElem_mem hj)) k).1 pj
    have hjs : j < es.size := by rw [Array.length_toList] at hj; exact hj
    obtain ⟨f1, f2⟩ : t.place.size = es.size ∧ t.fill ≤ t.mask := by
      simpa [SetTable.fits] using hf
    have hpl : t.place[j]? = some (t.place[j]'(by omega)) := Array.getElem?_eq_getElem _
    have hdrop : t.drop j = { t with place := SetTable.eraseAt t.place j, dummies := SetTable.insertAt t.dummies (SetTable.below t.dummies (t.place[j]'(by omega))) (t.place[j]'(by omega)) } := by
      unfold SetTable.drop
      rw [hpl]
    have pe := erase_perm es.toList j _ (List.getElem?_eq_getElem hj)
    have pk : (k :: (es.toList.eraseIdx j).map keyOf).Perm (es.toList.map keyOf) := by
      have z := pe.map keyOf
      rw [List.map_cons, hkj] at z
      exact z
    have el : (SetTable.eraseAt es j).toList = es.toList.eraseIdx j := eraseAt_list es j
    have hsz : (SetTable.eraseAt es j).size + 1 = es.size := by
      rw [← Array.length_toList, el, List.length_eraseIdx_of_lt hj, Array.length_toList]
      omega
    have hb1 : (SetTable.eraseAt es j).size < scanBound := by omega
    refine wpAny_bind (wpAny_setState_of ho hd hf ?_)
    dsimp only
    refine wpAny_bind (wpAny_storeSet_of ho hd ?_ (fits_of_scanBound hb1))
    refine wpAny_bind (wpAny_point (wpAny_pure ?_))
    have ho1 := store_at (es' := SetTable.eraseAt es j) (t' := t.drop j) ho hd
    have ndk := pk.nodup_iff.mpr nd
    have q := hQ _ (SetTable.eraseAt es j).size (by omega) (Heap.SameBut.update s.heap a (Obj.putSet (SetTable.eraseAt es j) (t.drop j)))
      ⟨_, SetTable.eraseAt es j, _, t.drop j, ho1, hex, rfl, fun e he => by
        rw [el] at he
        exact g e ((List.eraseIdx_sublist _ _).subset he), by
        rw [el]
        exact (List.nodup_cons.mp ndk).2, fun i => by
        rw [el, Bool.and_eq_true, hm i, ← pk.mem_iff, List.mem_cons]
        constructor
        · rintro ⟨z | z, y⟩
          · simp [z] at y
          · exact z
        · intro z
          refine ⟨.inr z, ?_⟩
          have : i ≠ k := fun e => (List.nodup_cons.mp ndk).1 (e ▸ z)
          simp [this], hb1, by
        rw [hdrop]
        unfold SetTable.fits
        rw [Bool.and_eq_true]
        have h1 : (SetTable.eraseAt t.place j).size + 1 = t.place.size := by
          rw [← Array.length_toList, eraseAt_list, List.length_eraseIdx_of_lt (by rw [Array.length_toList]; omega), Array.length_toList]
          omega
        have h2 : (SetTable.insertAt t.dummies (SetTable.below t.dummies t.place[j]) t.place[j]).size = t.dummies.size + 1 := by
          rw [← Array.length_toList, SetTable.toList_insertAt]
          simp only [List.length_append, List.length_cons, List.length_take, List.length_drop, Array.length_toList]
          omega
        have h3 : t.place.size + t.dummies.size ≤ t.mask := f2
        refine ⟨beq_iff_eq.mpr ?_, decide_eq_true ?_⟩
        · show (SetTable.eraseAt t.place j).size = (SetTable.eraseAt es j).size
          omega
        · show (SetTable.eraseAt t.place j).size + (SetTable.insertAt t.dummies (SetTable.below t.dummies t.place[j]) t.place[j]).size ≤ t.mask
          rw [h2]
          omega, rfl, by
        rw [hdrop]
        show Ris (SetTable.eraseAt t.place j).toList
        rw [eraseAt_list]
        exact List.Pairwise.sublist (List.eraseIdx_sublist _ _) hr, hl.imp id fun z => by
        rw [hdrop]
        exact z⟩
    rw [hyes] at q
    exact q
end
end Par
namespace Par
open PySem PySem.Spec PyProof.Rows L2
/-! ### a clean table has room for few small ints -/
def way (mask : Nat) : Nat → Nat → Nat → List Nat
  | 0, _, _ => []
  | f + 1, i, p => i :: way mask f (SetTable.leap mask i p).1 (SetTable.leap mask i p).2
def marks : List Nat → Nat → Nat
  | [], b => b
  | i :: l, b => marks l (b ||| (1 <<< i))
theorem marks_mem : ∀ (l : List Nat) (b j : Nat), (marks l b).testBit j = true → b.testBit j = true ∨ j ∈ l
  | [], b, j, h => .inl h
  | i :: l, b, j, h => by
    rcases marks_mem l _ j h with z | z
    · rw [Nat.testBit_or, Bool.or_eq_true] at z
      rcases z with z | z
      · exact .inl z
      · right
        rw [Nat.testBit_shiftLeft, Bool.and_eq_true, decide_eq_true_eq] at z
        have : j = i := by
          have z2 : j - i = 0 := by
            cases hji : j - i with
            | zero => rfl
            | succ c =>
              rw [hji] at z
              have y := z.2
              simp [Nat.testBit_succ] at y
          omega
        rw [this]
        exact List.mem_cons_self ..
    · exact .inr (List.mem_cons_of_mem _ z)
def covers : Bool := [7, 15, 31, 63, 127].all fun m => (List.range 40).all fun h => marks (way m (m + 15) (h % (m + 1)) h) 0 == 2 ^ (m + 1) - 1
theorem covers_all : covers = true := by decide +kernel
theorem way_all {m h j : Nat} (hm : m ∈ [7, 15, 31, 63, 127]) (hh : h < 40) (hj : j ≤ m) : j ∈ way m (m + 15) (h % (m + 1)) h := by
  have h1 := List.all_eq_true.mp (List.all_eq_true.mp covers_all m hm) h (List.mem_range.mpr hh)
  have h2 : marks (way m (m + 15) (h % (m + 1)) h) 0 = 2 ^ (m + 1) - 1 := by simpa using h1
  rcases marks_mem (way m (m + 15) (h % (m + 1)) h) 0 j (by rw [h2, Nat.testBit_two_pow_sub_one, decide_eq_true_eq]; omega) with z | z
  · simp at z
  · exact z
theorem free_of {mask : Nat} {owner : Array (Option Nat)} {j : Nat} (hn : owner.getD j (some 0) = none) : ∀ (f i p : Nat), j ∈ way mask f i p →
    ∃ r, SetTable.layClean.free mask owner f i p = some r ∧ owner.getD r (some 0) = none
  | 0, i, p, h => by simp [way] at h
  | f + 1, i, p, h => by
    rw [SetTable.layClean.free]
    cases hf : (List.range (SetTable.runEnd mask i + 1 - i)).find? fun k => (owner.getD (i + k) (some 0)).isNone with
    | some k =>
      refine ⟨i + k, rfl, ?_⟩
      have z := List.find?_some hf
      simpa using z
    | none =>
      dsimp only
      have hrun : i ≤ SetTable.runEnd mask i := by
        unfold SetTable.runEnd
        split <;> omega
      rcases List.mem_cons.mp (show j ∈ i :: way mask f (SetTable.leap mask i p).1 (SetTable.leap mask i p).2 from h) with z | z
      · exfalso
        have := List.find?_eq_none.mp hf 0 (List.mem_range.mpr (by omega))
        rw [Nat.add_zero, ← z, hn] at this
        exact this rfl
      · exact free_of hn f _ _ z
theorem some_none {l : List (Option Nat)} (h : (l.filterMap id).length < l.length) : ∃ j : Nat, l[j]? = some none := by
  induction l with
  | nil => simp at h
  | cons a l ih =>
    cases a with
    | none => exact ⟨0, rfl⟩
    | some x =>
      obtain ⟨j, hj⟩ := ih (by simpa using h)
      exact ⟨j + 1, by simpa using hj⟩
theorem set_none : ∀ {l : List (Option Nat)} {j k : Nat}, l[j]? = some none → ((l.set j (some k)).filterMap id).Perm (k :: l.filterMap id)
  | [], j, k, h => by simp at h
  | a :: l, 0, k, h => by
    have e : a = none := by simpa using h
    subst e
    simp
  | a :: l, j + 1, k, h => by
    have z := set_none (l := l) (j := j) (k := k) (by simpa using h)
    cases a with
    | none => simpa using z
    | some x =>
      rw [List.set_cons_succ]
      simp only [List.filterMap_cons, id_eq]
      exact (z.cons x).trans (List.Perm.swap ..)
/-- one number more, laid into its own place -/
def layStep (mask : Nat) (acc : Option (Array (Option Nat) × Nat)) (h : Int) : Option (Array (Option Nat) × Nat) :=
  acc.bind fun q => (SetTable.layClean.free mask q.1 (mask + 15) (SetTable.bits h % (mask + 1)) (SetTable.bits h)).bind fun j => some (q.1.setIfInBounds j (some q.2), q.2 + 1)
theorem fold_ok {mask : Nat} (hm : mask ∈ [7, 15, 31, 63, 127]) : ∀ (hs : List Int) (owner : Array (Option Nat)) (k : Nat), (∀ h ∈ hs, SetTable.bits h < 40) → owner.size = mask + 1 →
    (owner.toList.filterMap id).Perm (List.range k) → k + hs.length ≤ mask →
    ∃ owner', hs.foldl (layStep mask) (some (owner, k)) = some (owner', k + hs.length) ∧ owner'.size = mask + 1 ∧ (owner'.toList.filterMap id).Perm (List.range (k + hs.length))
  | [], owner, k, _, hz, hp, _ => ⟨owner, rfl, hz, hp⟩
  | h :: hs, owner, k, hb, hz, hp, hk => by
    have hlt : (owner.toList.filterMap id).length < owner.toList.length := by
      rw [hp.length_eq, List.length_range, Array.length_toList, hz]
      simp only [List.length_cons] at hk
      omega
    obtain ⟨j, hj⟩ := some_none hlt
    have hjs : j < owner.size := by
      have := (List.getElem?_eq_some_iff.mp hj).1
      rw [Array.length_toList] at this
      exact this
    have hn : owner.getD j (some 0) = none := by
      rw [Array.getElem?_toList] at hj
      simp [Array.getD_eq_getD_getElem?, hj]
    obtain ⟨r, hr, hrn⟩ := free_of hn (mask + 15) _ _ (way_all (j := j) hm (hb h (List.mem_cons_self ..)) (by omega))
    have hrs : r < owner.size := by
      by_cases c : r < owner.size
      · exact c
      · simp [Array.getD_eq_getD_getElem?, Array.getElem?_eq_none (Nat.le_of_not_lt c)] at hrn
    have hrl : owner.toList[r]? = some none := by
      rw [Array.getElem?_toList, Array.getElem?_eq_getElem hrs]
      simp [Array.getD_eq_getD_getElem?, Array.getElem?_eq_getElem hrs] at hrn
      rw [hrn]
    have hstep : layStep mask (some (owner, k)) h = some (owner.setIfInBounds r (some k), k + 1) := by
      unfold layStep
      show (SetTable.layClean.free mask owner (mask + 15) _ _).bind _ = _
      rw [hr]
      rfl
    obtain ⟨o2, e1, e2, e3⟩ := fold_ok hm hs (owner.setIfInBounds r (some k)) (k + 1) (fun x hx => hb x (List.mem_cons_of_mem _ hx)) (by rw [Array.size_setIfInBounds]; exact hz) (by
      rw [Array.toList_setIfInBounds]
      refine (set_none hrl).trans ?_
      rw [List.range_succ]
      exact (hp.cons k).trans (List.perm_append_singleton _ _).symm) (by simp only [List.length_cons] at hk; omega)
    refine ⟨o2, ?_, e2, ?_⟩
    · rw [List.foldl_cons, hstep, e1, List.length_cons]
      congr 2
      omega
    · rw [List.length_cons]
      have : k + (hs.length + 1) = k + 1 + hs.length := by omega
      rw [this]
      exact e3
theorem owner_list {owner : Array (Option Nat)} {n : Nat} (h : owner.size = n) : (List.range n).filterMap (fun j => owner.getD j none) = owner.toList.filterMap id := by
  have e : (List.range n).map (fun j => owner.getD j none) = owner.toList := by
    refine List.ext_getElem (by simp [h]) (fun i h1 h2 => ?_)
    have hi : i < owner.size := by rw [Array.length_toList] at h2; exact h2
    simp [Array.getD_eq_getD_getElem?, Array.getElem?_eq_getElem hi]
  rw [← e, List.filterMap_map]
  rfl
theorem clean_ok {mask finger moves : Nat} {led plain : Bool} {hashes : Array Int} (hm : mask ∈ [7, 15, 31, 63, 127]) (hb : ∀ h ∈ hashes.toList, SetTable.bits h < 40) (hz : hashes.size ≤ mask) :
    ∃ t order, SetTable.laid mask finger moves led plain hashes = some (t, order) ∧ order.toList.Perm (List.range hashes.size) ∧ Ris t.place.toList ∧ t.led = led ∧ t.place.size = hashes.size ∧ t.dummies = #[] ∧ t.mask = mask := by
  obtain ⟨owner, e1, e2, e3⟩ := fold_ok hm hashes.toList (Array.replicate (mask + 1) none) 0 hb (by simp) (by simp) (by rw [Array.length_toList]; omega)
  have e : SetTable.layClean mask hashes = some owner := by
    unfold SetTable.layClean
    rw [← Array.foldl_toList]
    show Option.map _ (hashes.toList.foldl (layStep mask) (some (Array.replicate (mask + 1) none, 0))) = _
    rw [e1]
    rfl
  have p2 : (((List.range (mask + 1)).filterMap fun j => (owner.getD j none).map (j, ·)).map (·.2)).Perm (List.range hashes.size) := by
    have : ((List.range (mask + 1)).filterMap fun j => (owner.getD j none).map (j, ·)).map (·.2) = (List.range (mask + 1)).filterMap fun j => owner.getD j none := by
      rw [List.map_filterMap]
      congr 1
      funext j
      cases owner.getD j none <;> rfl
    rw [this, owner_list e2]
    rw [Nat.zero_add, Array.length_toList] at e3
    exact e3
  unfold SetTable.laid
  rw [e]
  refine ⟨_, _, rfl, p2, ?_, rfl, ?_, rfl, rfl⟩
  · exact (ris_live (fun j => owner.getD j none) (List.range (mask + 1)) (by unfold Ris; first | exact List.pairwise_lt_range | exact List.pairwise_lt_range _)).1
  · show (((List.range (mask + 1)).filterMap fun j => (owner.getD j none).map (j, ·)).map (·.1)).toArray.size = _
    have := p2.length_eq
    rw [List.length_map, List.length_range] at this
    rw [List.size_toArray, List.length_map]
    exact this
end Par
namespace Par
open PySem PySem.Spec PyProof.Rows L2
def Cell (k : Int) : Prop := 0 ≤ k ∧ k < 40
theorem cells_few {L : List Int} (hn : L.Nodup) (h : ∀ k ∈ L, Cell k) : L.length ≤ 40 := by
  have := nodup_le (M := (List.range 40).map Int.ofNat) hn (fun k hk => by
    obtain ⟨h1, h2⟩ := h k hk
    exact List.mem_map.mpr ⟨k.toNat, List.mem_range.mpr (by omega), by simp; omega⟩)
  simpa using this
theorem bits_small : ∀ k : Nat, k < 40 → SetTable.bits (hashInt (k : Int)) < 40 := by decide +kernel
theorem bits_cell {k : Int} (h : Cell k) : SetTable.bits (hashInt k) < 40 := by
  have := bits_small k.toNat (by have := h.1; have := h.2; omega)
  rwa [Int.toNat_of_nonneg h.1] at this
theorem wide_enough : ∀ n : Nat, n ≤ 40 → SetTable.sizeAbove (n * 2) - 1 ∈ [7, 15, 31, 63, 127] ∧ n ≤ SetTable.sizeAbove (n * 2) - 1 ∧ SetTable.sizeAbove (n * 2) ≤ 128 := by decide +kernel
section
variable {P : Program} {w : World} {A : Around} {E : Value → Shared → Prop} {s : Shared} {a : Addr} {S : Int → Bool} {n : Nat}
theorem SetR.few (R : SetR w s.heap a S n) (h : ∀ k, S k = true → Cell k) : n ≤ 40 := by
  obtain ⟨o, es, ep, t, ho, hx, hd, g, nd, hm, hb, hf, hn, hr, hl⟩ := R
  have := cells_few nd (fun k hk => h k ((hm k).2 hk))
  rw [List.length_map, Array.length_toList, hn] at this
  exact this
/-- a set that is still empty, its table -/
def NewSet (w : World) (h : Heap) (r : Addr) (n : Nat) : Prop := ∃ o ep t, h.get? r = some o ∧ o.ExactSet ∧ o.data = .set #[] ep t ∧ t.place = #[] ∧ t.dummies = #[] ∧ (w.params.followText "set-order" = true ∨ t.led = true) ∧
  t.mask ∈ [7, 15, 31, 63, 127] ∧ n ≤ t.mask
theorem room_new {r : Addr} {Q : Unit → Shared → Prop} (hn : n ≤ 40)
    (hr : s.heap.get? r = some { cls := .type "set", dict := none, data := .set #[] 0 (.fresh 0 0 (!w.params.followText "set-order")) })
    (hQ : ∀ h', Heap.SameBut r s.heap h' → NewSet w h' r n → Q () { s with heap := h' }) : wpAny (model P w) A (setRoomFor r n) Q E s := by
  have led : w.params.followText "set-order" = true ∨ (!w.params.followText "set-order") = true := by
    cases w.params.followText "set-order"
    · exact .inr rfl
    · exact .inl rfl
  unfold setRoomFor
  refine wpAny_bind (wpAny_setState_of hr rfl rfl ?_)
  dsimp only
  by_cases h5 : n * 5 ≥ 21
  · have e : (SetTable.fresh 0 0 (!w.params.followText "set-order")).roomFor n = some (n * 2) := by
      unfold SetTable.roomFor SetTable.fill SetTable.fresh
      simp [h5]
    rw [e]
    dsimp only
    unfold setRelay
    refine wpAny_bind (wpAny_setState_of hr rfl rfl ?_)
    dsimp only
    obtain ⟨w1, w2, w3⟩ := wide_enough n hn
    refine wp_if_neg (by rw [sizeLine_eq]; omega) ?_
    try refine wpAny_bind (wpAny_pure ?_)
    obtain ⟨t, order, e1, e2, e3, e4, e5, e6, e7⟩ := clean_ok (finger := 0) (moves := (SetTable.fresh 0 0 (!w.params.followText "set-order")).movedTo (SetTable.sizeAbove (n * 2) - 1)) (led := !w.params.followText "set-order") (plain := true) (hashes := #[]) w1 (by simp) (by simp)
    have e8 : (SetTable.fresh 0 0 (!w.params.followText "set-order")).relaid ((#[] : Array (Int × Value)).map (·.1)) (n * 2) = some (t, order) := by
      have q : ((#[] : Array (Int × Value)).map (·.1)) = #[] := by simp
      rw [q]
      exact e1
    rw [e8]
    have eo : order = #[] := by
      have : order.toList = [] := List.length_eq_zero_iff.mp (by rw [e2.length_eq]; simp)
      exact Array.toList_eq_nil_iff.mp this
    subst eo
    refine wpAny_bind (wpAny_pure ?_)
    refine wpAny_storeSet_of hr rfl ?_ (by simp)
    have ho1 := store_at (es' := #[]) (t' := t) hr rfl
    refine hQ _ (Heap.SameBut.update s.heap r _) ⟨_, _, t, ho1, ⟨rfl, rfl, rfl⟩, rfl, by simpa using e5, e6, by rw [e4]; exact led, by rw [e7]; exact w1, by rw [e7]; exact w2⟩
  · have e : (SetTable.fresh 0 0 (!w.params.followText "set-order")).roomFor n = none := by
      unfold SetTable.roomFor SetTable.fill SetTable.fresh
      simp [h5]
    rw [e]
    dsimp only
    exact wpAny_pure (hQ s.heap (Heap.SameBut.refl r s.heap) ⟨_, _, _, hr, ⟨rfl, rfl, rfl⟩, rfl, rfl, rfl, led, by simp [SetTable.fresh], by show n ≤ 7; omega⟩)
theorem merge_new {r o : Addr} {each : Sem Unit} {Q : Unit → Shared → Prop}
    (hr : s.heap.get? r = some { cls := .type "set", dict := none, data := .set #[] 0 (.fresh 0 0 (!w.params.followText "set-order")) })
    (R : SetR w s.heap o S n) (hne : r ≠ o) (hS : ∀ k, S k = true → Cell k)
    (hQ : ∀ h', Heap.SameBut r s.heap h' → SetR w h' r S n → Q () { s with heap := h' }) : wpAny (model P w) A (setMerge r o each) Q E s := by
  have hn40 := SetR.few R hS
  obtain ⟨oo, es, ep, t, ho, hx, hd, g, nd, hm, hb, hf, hn, hrs, hl⟩ := id R
  have led : w.params.followText "set-order" = true ∨ (!w.params.followText "set-order") = true := by
    cases w.params.followText "set-order"
    · exact .inr rfl
    · exact .inl rfl
  unfold setMerge
  refine wp_if_neg (by simpa using hne) ?_
  try refine wpAny_bind (wpAny_pure ?_)
  refine wpAny_bind (wpAny_setState_of ho hd hf ?_)
  dsimp only
  by_cases he : es.isEmpty = true
  · refine wp_if_pos he ?_
    have e0 : es = #[] := by simpa using he
    subst e0
    refine wpAny_pure (hQ s.heap (Heap.SameBut.refl r s.heap) ⟨_, #[], _, _, hr, ⟨rfl, rfl, rfl⟩, rfl, g, nd, hm, hb, rfl, hn, List.Pairwise.nil, led⟩)
  · refine wp_if_neg he ?_
    try refine wpAny_bind (wpAny_pure ?_)
    rw [hn]
    refine wpAny_bind (room_new hn40 hr fun h1 sb1 new => ?_)
    obtain ⟨o1, ep1, t1, ho1, hx1, hd1, hp1, hdm1, hl1, hm1, hk1⟩ := new
    have hf1 : t1.fits (#[] : Array (Int × Value)).size = true := by
      simp [SetTable.fits, SetTable.fill, hp1, hdm1]
    refine wpAny_bind (wpAny_setState_of (es := #[]) ho1 hd1 hf1 ?_)
    dsimp only
    have hfill : t1.fill = 0 := by simp [SetTable.fill, hp1, hdm1]
    cases hroad : t1.road t with
    | oneByOne =>
      exfalso
      unfold SetTable.road at hroad
      rw [hfill] at hroad
      simp at hroad
      split at hroad <;> simp at hroad
    | slotForSlot =>
      dsimp only
      refine wpAny_storeSet_of ho1 hd1 ?_ (fits_of_scanBound hb)
      have ho2 := store_at (es' := es) (t' := { t with finger := t1.finger, led := t1.led && t.led, moves := t1.moves, plain := t1.plain && t.plain }) ho1 hd1
      refine hQ _ (sb1.trans (Heap.SameBut.update h1 r _)) ⟨_, es, _, _, ho2, hx1, rfl, g, nd, hm, hb, hf, hn, hrs, ?_⟩
      rcases hl with z | z
      · exact .inl z
      · rcases hl1 with y | y
        · exact .inl y
        · exact .inr (by show (t1.led && t.led) = true; rw [z, y]; rfl)
    | clean =>
      dsimp only
      have hsm : (es.map (·.1)).size = es.size := Array.size_map ..
      obtain ⟨t2, order, e1, e2, e3, e4, e5, e6, e7⟩ := clean_ok (finger := t1.finger) (moves := t1.moves) (led := t1.led && t.led) (plain := t1.plain && t.plain) (hashes := es.map (·.1)) hm1 (fun h hh => by
        rw [Array.toList_map] at hh
        obtain ⟨e, he, rfl⟩ := List.mem_map.mp hh
        obtain ⟨k, tk, q1, q2⟩ := g e he
        rw [q2]
        refine bits_cell (hS k ((hm k).2 (List.mem_map.mpr ⟨e, he, ?_⟩)))
        unfold keyOf
        rw [q1]) (by rw [hsm]; omega)
      rw [e1]
      rw [hsm] at e2 e5
      have pm : (order.filterMap (es[·]?)).toList.Perm es.toList := by
        rw [Array.toList_filterMap]
        exact (e2.filterMap _).trans (by rw [filterMap_getElem?_range])
      have hsz : (order.filterMap (es[·]?)).size = es.size := by rw [← Array.length_toList, pm.length_eq, Array.length_toList]
      refine wpAny_bind (wpAny_of_eq (a := (order.filterMap (es[·]?), t2)) ?_ ?_)
      · show (do
          if ((order.filterMap (es[·]?)).size != es.size) = true then unsupported "internal:set-table-lost-an-element"
          pure (order.filterMap (es[·]?), t2)) = _
        rw [if_neg (by rw [hsz]; simp)]
        try rfl
      · dsimp only
        refine wpAny_storeSet_of ho1 hd1 ?_ (by rw [hsz]; exact fits_of_scanBound hb)
        have ho2 := store_at (es' := order.filterMap (es[·]?)) (t' := t2) ho1 hd1
        refine hQ _ (sb1.trans (Heap.SameBut.update h1 r _)) ⟨_, _, _, t2, ho2, hx1, rfl, fun e he => g e (pm.mem_iff.mp he), (pm.map keyOf).nodup_iff.mpr nd, fun k => (hm k).trans (pm.map keyOf).mem_iff.symm, by rw [hsz]; exact hb, ?_, by rw [hsz]; exact hn, e3, ?_⟩
        · rw [hsz]
          have : t2.place.size + t2.dummies.size ≤ t2.mask := by
            rw [e5, e6, e7]
            simp
            omega
          simp [SetTable.fits, SetTable.fill, e5, e6, e7]
          omega
        · rw [e4]
          rcases hl with z | z
          · exact .inl z
          · rcases hl1 with y | y
            · exact .inl y
            · exact .inr (by rw [z, y]; rfl)
end
end Par
namespace Par
open PySem PySem.Spec PyProof.Rows L2
theorem entry_set_xor : entryFor table "set.__xor__" = some Builtin.«frozenset.__xor__» :=
  entryFor_alias (id' := "frozenset.__xor__") (by kernel_rfl) rfl (by decide +kernel) (by kernel_rfl)
theorem entry_set_and : entryFor table "set.__and__" = some Builtin.«frozenset.__and__» :=
  entryFor_alias (id' := "frozenset.__and__") (by kernel_rfl) rfl (by decide +kernel) (by kernel_rfl)
section
variable {P : Program} {w : World} {A : Around} {E : Value → Shared → Prop} {s : Shared} {a : Addr} {S : Int → Bool} {n : Nat}
theorem set_typ (R : SetR w s.heap a S n) : s.TypeIs (.ref a) "set" := by
  obtain ⟨o, es, ep, t, ho, hx, _⟩ := R
  exact ⟨o, ho, hx.1⟩
theorem any_set {Q : Bool → Shared → Prop} (hT : s.TypeIs (.ref a) "set") (h : Q true s) : wpAny (model P w) A (Builtin.Frozenset.isAnySet (.ref a)) Q E s := by
  unfold Builtin.Frozenset.isAnySet
  refine wpAny_bind (wpAny_isInstance hT sub_set_self ?_)
  exact wpAny_pure h
theorem base_set {Q : Value → Shared → Prop} (hT : s.TypeIs (.ref a) "set") (h : Q (.type "set") s) : wpAny (model P w) A (Builtin.Frozenset.baseOf a) Q E s := by
  unfold Builtin.Frozenset.baseOf
  refine wpAny_bind (wpAny_isInstance hT sub_set_self ?_)
  exact wpAny_pure h
theorem new_set {Q : Value → Shared → Prop} (h : Q (.ref s.heap.objs.size) { s with heap := s.heap.push { cls := .type "set", dict := none, data := .set #[] 0 (.fresh 0 0 (!w.params.followText "set-order")) } }) :
    wpAny (model P w) A (newSet (.type "set")) Q E s := by
  unfold newSet
  refine wpAny_bind (wpAny_byText ?_)
  dsimp only
  simp only [newObj]
  refine wpAny_bind (wpAny_alloc (wpAny_pure ?_))
  exact h
theorem flip_one {k : Int} {tk : Tok} {Q : Unit → Shared → Prop} (R : SetR w s.heap a S n) (room : n + 1 < scanBound)
    (hQ : ∀ h' m, m ≤ n + 1 → Heap.SameBut a s.heap h' → SetR w h' a (fun j => xor (S j) (decide (j = k))) m → Q () { s with heap := h' }) :
    wpAny (model P w) A (holding [.int k tk] (do
      if !(← setDiscardHashed a (.int k tk) ((intKind P w).hash k)) then
        let _ ← setAddHashed a (.int k tk) ((intKind P w).hash k))) Q E s := by
  refine wpAny_holding (wpAny_bind (discard_hashed R fun h1 m hm sb1 R1 => ?_))
  cases hk : S k with
  | true =>
    refine wp_if_neg (by simp) ?_
    refine wpAny_pure (hQ h1 m (by omega) sb1 (R1.congr fun j => ?_))
    by_cases e : j = k
    · subst e
      rw [hk]
      simp
    · simp [e]
  | false =>
    refine wp_if_pos (by simp) ?_
    refine wpAny_bind (setR_add_hashed (s := { s with heap := h1 }) R1 (by omega) fun h2 sb2 R2 => ?_)
    refine wpAny_pure (hQ h2 _ (by split <;> omega) (sb1.trans sb2) (R2.congr fun j => ?_))
    by_cases e : j = k
    · subst e
      rw [hk]
      simp
    · simp [e]
theorem flip_all {body : Int × Value → PUnit → Sem (ForInStep PUnit)} {o : Addr} {oo : Obj} (hne : o ≠ a)
    (hb : ∀ (e : Int × Value) (s : Shared) (S : Int → Bool) (n : Nat) (Q : ForInStep PUnit → Shared → Prop), GoodE e → s.heap.get? o = some oo → SetR w s.heap a S n → n + 1 < scanBound →
      (∀ h' m, m ≤ n + 1 → Heap.SameBut a s.heap h' → SetR w h' a (fun j => xor (S j) (decide (j = keyOf e))) m → Q (.yield ⟨⟩) { s with heap := h' }) → wpAny (model P w) A (body e ⟨⟩) Q E s) :
    ∀ (l : List (Int × Value)) (s : Shared) (S : Int → Bool) (n : Nat) (Q : PUnit → Shared → Prop), (∀ e ∈ l, GoodE e) → (l.map keyOf).Nodup → s.heap.get? o = some oo → SetR w s.heap a S n → n + l.length + 1 < scanBound →
      (∀ h' m, Heap.SameBut a s.heap h' → SetR w h' a (fun j => xor (S j) (decide (j ∈ l.map keyOf))) m → Q ⟨⟩ { s with heap := h' }) → wpAny (model P w) A (forIn l ⟨⟩ body) Q E s
  | [], s, S, n, Q, _, _, _, R, _, hQ => by
    rw [List.forIn_nil]
    exact wpAny_pure (hQ s.heap n (Heap.SameBut.refl a s.heap) (R.congr fun j => by simp))
  | e :: l, s, S, n, Q, g, nd, Ro, R, room, hQ => by
    rw [List.forIn_cons]
    simp only [List.length_cons] at room
    refine wpAny_bind (hb e s S n _ (g e (List.mem_cons_self ..)) Ro R (by omega) fun h1 m hm sb1 R1 => ?_)
    have nd' := List.nodup_cons.mp (show (keyOf e :: l.map keyOf).Nodup from nd)
    refine flip_all hne hb l { s with heap := h1 } _ m Q (fun x hx => g x (List.mem_cons_of_mem _ hx)) nd'.2 ((sb1.2 o hne).trans Ro) R1 (by omega) fun h2 m2 sb2 R2 => ?_
    refine hQ h2 m2 (sb1.trans sb2) (R2.congr fun j => ?_)
    show xor (S j) (decide (j ∈ keyOf e :: l.map keyOf)) = xor (xor (S j) (decide (j = keyOf e))) (decide (j ∈ l.map keyOf))
    by_cases e1 : j = keyOf e
    · have : j ∉ l.map keyOf := fun z => nd'.1 (e1 ▸ z)
      have hin : j ∈ keyOf e :: l.map keyOf := by
        rw [e1]
        exact List.mem_cons_self ..
      rw [decide_eq_true hin, decide_eq_true e1, decide_eq_false this]
      simp
    · by_cases e2 : j ∈ l.map keyOf
      · rw [decide_eq_true (List.mem_cons_of_mem _ e2), decide_eq_true e2, decide_eq_false e1]
        simp
      · have hout : j ∉ keyOf e :: l.map keyOf := fun z => by
          rcases List.mem_cons.mp z with z | z
          · exact e1 z
          · exact e2 z
        rw [decide_eq_false hout, decide_eq_false e2, decide_eq_false e1]
        simp
def symOf (id : String) (l : Addr) (r : Value) : Sem Value := do
  let result ← Builtin.Frozenset.newFrom id (← Builtin.Frozenset.baseOf l) r
  holding [result] (Builtin.Frozenset.symmetricDifferenceUpdate id (← Builtin.Frozenset.addrOf result) (.ref l))
  return result
theorem call_xor {b : Addr} {T : Int → Bool} {m : Nat} {Q : Value → Shared → Prop} (Ra : SetR w s.heap a S n) (Rb : SetR w s.heap b T m) (hS : ∀ k, S k = true → Cell k) (hT : ∀ k, T k = true → Cell k)
    (hQ : ∀ h' c, (∀ x u, s.heap.get? x = some u → h'.get? x = some u) → SetR w h' s.heap.objs.size (fun k => xor (S k) (T k)) c → c ≤ 40 → Q (.ref s.heap.objs.size) { s with heap := h' }) :
    wpAny (model P w) A (call (.builtin "set.__xor__") [.ref a, .ref b]) Q E s := by
  have ta : s.TypeIs (.ref a) "set" := set_typ Ra
  have tb : s.TypeIs (.ref b) "set" := set_typ Rb
  have la := Ra.lt
  have lb := Rb.lt
  refine wpAny_call_entry F.slot_set_xor ta entry_set_xor ?_ (F.args_set_xor_2 _ _)
  unfold Builtin.«frozenset.__xor__»
  show wpAny _ _ (do
    let (self, other) ← Builtin.Frozenset.slot1 "__xor__" ⟨[.ref a, .ref b], []⟩
    let (l, r) := if false = true then (other, self) else (self, other)
    if !(← Builtin.Frozenset.isAnySet l <&&> Builtin.Frozenset.isAnySet r) then rule s!"frozenset.{"__xor__"}.declined"; return ← ret .notImplemented
    ret (← symOf s!"frozenset.{"__xor__"}" (← Builtin.Frozenset.addrOf l) r)) _ _ s
  refine wpAny_bind (wpAny_of_eq (a := (Value.ref a, Value.ref b)) (by rfl) ?_)
  dsimp only
  rw [if_neg Bool.false_ne_true]
  dsimp only
  refine wpAny_bind (wpAny_bind (any_set ta ?_))
  show wpAny _ _ (Builtin.Frozenset.isAnySet (.ref b)) _ _ s
  refine any_set tb ?_
  refine wp_if_neg (by simp) ?_
  refine wpAny_bind (m := Builtin.Frozenset.addrOf (.ref a)) (wpAny_pure ?_)
  refine wpAny_bind ?_
  unfold symOf
  refine wpAny_bind (base_set ta ?_)
  refine wpAny_bind ?_
  unfold Builtin.Frozenset.newFrom
  refine wpAny_bind (new_set ?_)
  generalize hr : s.heap.objs.size = r at *
  have hget : (s.heap.push { cls := .type "set", dict := none, data := .set #[] 0 (.fresh 0 0 (!w.params.followText "set-order")) }).get? s.heap.objs.size = some { cls := .type "set", dict := none, data := .set #[] 0 (.fresh 0 0 (!w.params.followText "set-order")) } := Heap.get?_push_size _ rfl
  generalize hg : s.heap.push { cls := .type "set", dict := none, data := .set #[] 0 (.fresh 0 0 (!w.params.followText "set-order")) } = g at *
  have keep : ∀ x u, s.heap.get? x = some u → g.get? x = some u := fun x u e => by
    rw [← hg]
    exact Heap.get?_push_of_some _ e
  have Ra1 : SetR w g a S n := Ra.at fun u e => keep a u e
  have Rb1 : SetR w g b T m := Rb.at fun u e => keep b u e
  refine wpAny_bind (m := Builtin.Frozenset.addrOf (.ref r)) (wpAny_pure ?_)
  refine wpAny_bind (wpAny_holding ?_)
  unfold Builtin.Frozenset.updateFrom
  refine wpAny_bind (any_set (s := { s with heap := g }) (set_typ Rb1) ?_)
  refine wp_if_pos rfl ?_
  refine wpAny_bind (m := Builtin.Frozenset.addrOf (.ref b)) (wpAny_pure ?_)
  unfold Builtin.Frozenset.merge
  obtain ⟨ob, esb, epb, tb2, hob, hxb, hdb, _, _, _, _, hfb, _⟩ := id Rb1
  refine wpAny_bind (wpAny_setEpoch_of hob hdb hfb ?_)
  rw [hr] at hget
  refine merge_new (s := { s with heap := g }) hget Rb1 (Nat.ne_of_gt lb) hT fun h1 sb1 R1 => ?_
  refine wpAny_pure ?_
  refine wpAny_bind (m := Builtin.Frozenset.addrOf (.ref r)) (wpAny_pure ?_)
  refine wpAny_bind (wpAny_holding ?_)
  have hra : a ≠ r := Nat.ne_of_lt la
  have Ra2 : SetR w h1 a S n := Ra1.at fun u e => (sb1.2 a hra).trans e
  unfold Builtin.Frozenset.symmetricDifferenceUpdate
  refine wp_if_neg (by simpa using hra) ?_
  try refine wpAny_bind (wpAny_pure ?_)
  dsimp only
  refine wpAny_bind (wpAny_typeOf (s := { s with heap := h1 }) (set_typ Ra2) ?_)
  refine wp_if_neg (by decide) ?_
  try refine wpAny_bind (wpAny_pure ?_)
  refine wpAny_bind (any_set (s := { s with heap := h1 }) (set_typ Ra2) ?_)
  refine wp_if_pos rfl ?_
  refine wpAny_bind (wpAny_pure ?_)
  refine wpAny_bind (m := Builtin.Frozenset.addrOf (.ref a)) (wpAny_pure ?_)
  obtain ⟨oa, esa, epa, ta2, hoa, hxa, hda, _, _, _, _, hfa, _⟩ := id Ra2
  refine wpAny_bind (wpAny_setEpoch_of hoa hda hfa ?_)
  refine wpAny_holding ?_
  refine wpAny_bind (walk_unseen (s := { s with heap := h1 }) (f := r) Ra2 (fun x hx => by rw [List.mem_singleton.mp hx]; exact ⟨T, m, R1⟩) R1 fun l h2 sb2 R2 gl => ?_)
  obtain ⟨gl1, gl2, gl3, gl4⟩ := gl
  have n40 : n ≤ 40 := SetR.few (s := { s with heap := h1 }) Ra2 hS
  have m40 : m ≤ 40 := SetR.few (s := { s with heap := h1 }) R1 hT
  rw [← Array.forIn_toList]
  refine wpAny_bind (flip_all (a := r) (o := a) (oo := oa) hra ?_ l.toList { s with heap := h2 } T m _ gl1 gl2 ((sb2.2 a hra).trans hoa) R2 (by rw [Array.length_toList, gl4]; unfold scanBound; omega) fun h3 c sb3 R3 => ?_)
  · intro e s0 S0 n0 Q0 ge ho0 R0 room q0
    obtain ⟨k, tk, e1, e2⟩ := ge
    obtain ⟨eh, ev⟩ := e
    dsimp only at e1 e2
    subst e1
    subst e2
    refine wpAny_bind (flip_one R0 room fun h' m' hm' sb' R' => ?_)
    refine wpAny_bind ?_
    unfold Builtin.Frozenset.unchanged
    refine wpAny_bind (wpAny_setEpoch_of ((sb'.2 a hra).trans ho0) hda hfa ?_)
    refine wp_if_neg (by simp) ?_
    exact wpAny_pure (wpAny_pure (q0 h' m' hm' sb' R'))
  refine wpAny_pure (wpAny_pure (wpAny_pure ⟨_, rfl, ?_⟩))
  have Rf : SetR w h3 r (fun k => xor (S k) (T k)) c := R3.congr fun k => by
    have : S k = decide (k ∈ l.toList.map keyOf) := by
      cases h : S k with
      | true => rw [decide_eq_true ((gl3 k).1 h)]
      | false =>
        have : k ∉ l.toList.map keyOf := fun z => by
          have := (gl3 k).2 z
          rw [h] at this
          cases this
        rw [decide_eq_false this]
    rw [this]
    exact Bool.xor_comm _ _
  refine hQ h3 c (fun x u e => ?_) Rf (SetR.few (s := { s with heap := h3 }) Rf fun k hk => ?_)
  · have hxr : x ≠ r := by
      rw [← hr]
      exact Nat.ne_of_lt (Heap.lt_size e)
    exact (sb3.2 x hxr).trans ((sb2.2 x hxr).trans ((sb1.2 x hxr).trans (keep x u e)))
  · cases h : S k with
    | true => exact hS k h
    | false =>
      rw [h] at hk
      exact hT k (by simpa using hk)
end
end Par
namespace Par
open PySem PySem.Spec PyProof.Rows L2
section
variable {X : Cx}
/-- set(t), t a tuple of ints -/
def rSetTup (K : PySem.W.Frag) (w : World) : List V → Hp → VK → Prop := fun xs H Q => ∃ (l : Addr) (ns : List Int), xs = [V.ref l] ∧ SqT K H l (ns.map V.int) ∧ ns.length ≤ 4000 ∧
  ∀ p c, H p = none → Q (.ref p) (upd H p (SetO w p (fun j => decide (j ∈ ns)) c))
theorem cr_setTup (hc : X.calm = true) : CallR X (.type "set") (rSetTup X.K X.w) := by
  intro pins s σ H xs us Q I r h
  obtain ⟨l, ns, rfl, hq, hl, q⟩ := h
  rw [Vals.ref1 r]
  obtain ⟨its, rv, tup, hz⟩ := I.tuple hq
  refine L2.call_set_tupI ns (I.ok.hd hc) tup (by simpa using numbers_of rv) (by unfold scanBound; omega) ?_
  intro h' tk c hS hcn hk
  exact ⟨.ref _, _, I.laid (t' := tk) hk (Nat.le_refl _) (setO_new hS), rfl, q _ c (I.hok.fresh (Nat.le_refl _))⟩
/-- one ^ other, sets of cells -/
def rXor (w : World) : V → V → Hp → VK → Prop := fun x y H Q => ∃ (a b : Addr) (S T : Int → Bool) (n m : Nat), x = V.ref a ∧ y = V.ref b ∧ H a = some (SetO w a S n) ∧ H b = some (SetO w b T m) ∧
  (∀ k, S k = true → Cell k) ∧ (∀ k, T k = true → Cell k) ∧ ∀ p c, H p = none → c ≤ 40 → Q (.ref p) (upd H p (SetO w p (fun k => xor (S k) (T k)) c))
theorem op_xorS : OpR X (binaryOp .BitXor) (rXor X.w) := by
  intro pins s σ H x y v u Q I rx ry h
  obtain ⟨a, b, S, T, n, m, rfl, rfl, ha, hb, hS, hT, q⟩ := h
  cases rx
  cases ry
  have Ra := setO_get I ha
  have Rb := setO_get I hb
  refine wpAny_binaryOp_same (op := .BitXor) (T := "set") (set_typ Ra) (set_typ Rb) F.fills_set_xor F.slot_set_xor ?_
  refine call_xor Ra Rb hS hT fun h' c k R c40 => ⟨by simp, ?_⟩
  exact ⟨.ref _, _, I.laid (t' := s.toks) k (Nat.le_refl _) (setO_new R), rfl, q _ c (I.hok.fresh (Nat.le_refl _)) c40⟩
end
end Par
namespace Par
open PySem PySem.Spec PyProof.Rows L2
/-- a statement that is never reached -/
theorem ps_off {X : Cx} {st : Stmt} : PS X st (fun _ _ _ => False) := ⟨fun _ _ _ _ _ _ h => h.elim⟩
/-- o.m(k = v, ..) -/
def tMethK (C : Addr) (m : Str) (n : Nat) (sp : Sp) (gV : List V → List V → List V) (E : XK) (ta : TE) (tk : TA) : TE := fun σ H Q => ta σ H fun x H1 => ∃ a dx fs, x = .ref a ∧ H1 a = some (.ins C dx fs) ∧ fs.lookup m = none ∧
  tk σ H1 fun zs H2 => zs.length = n ∧ sp (gV [x] zs) H2 Q E
section
variable {X : Cx} {CX : CXT} {k : Nat} {f C : Addr} {fd : FuncData} {ps ks : List Str} {sp : Sp} {E : XK} {x m : Str} {p pos apos : Pos} {e o : Expr} {es : List Expr} {kws : List Keyword} {ta : TE} {t tk : TA}
  {g : List Value → List Value → List Value} {gV : List V → List V → List V}
theorem pe_methK {pl : Sem Bool} (he : PE X o ta) (c : Cls X.K C) (hm : Meth X.K C m f) (F : FnOk X.prog X.w X.K X.mg X.base CX k f fd ps sp) (hr : Room k X.A) (hb : KBn X.K fd ps 1 ks g gV) (hx : Passes CX X E) (hkw : PK X kws tk)
    (hall : (backToKw pos (keywordEach kws X.env)).all (·.1.isSome) = true := by rfl) (hks : (backToKw pos (keywordEach kws X.env)).filterMap (·.1) = ks := by rfl)
    (hpl : ((backTo pos (starEach [] X.env)).any (·.1) || (backToKw pos (keywordEach kws X.env)).any (·.1.isNone)) = false := by rfl)
    (ht : eval (.Call (.Attribute o m apos) [] kws pos) X.env = (do
      let ov ← eval o X.env
      standAt apos.atName
      let (f, first) ← holding [ov] (getMethod ov m pl)
      callWith pos f first (backTo pos (starEach [] X.env)) (backToKw pos (keywordEach kws X.env))) := by rfl) :
    PE X (.Call (.Attribute o m apos) [] kws pos) (tMethK C m ks.length sp gV E ta tk) := by
  refine ⟨fun pins s σ H Q I h => ?_⟩
  refine PySem.W.methodCall_KW (pl := pl) (thn (he.run pins s σ H _ I h) ?_) ht
  rintro u s1 ⟨x, H1, I1, rx, a, dx, fs, ex, ea, l, q⟩
  subst ex
  obtain rfl : u = Value.ref a := rx
  refine getmeth_ok I1 ea c hm l ?_
  refine PySem.W.callWith_KW0 (first := [.ref a]) (h₀ := X.base) I.ok.mod.kin hm.kp hall ?_ hpl
  refine thn (hkw.run pos pins s1 σ H1 _ I1 q) ?_
  rintro ws s2 ⟨zs, H2, I2, rz, l2, q2⟩
  refine ⟨I2.kIn, ?_⟩
  rw [hks]
  have r1 : Vals [V.ref a] ([.ref a] ++ []) := .cons rfl .nil
  refine wpAny_call (codeAny_mono (F.run X.A X.stack s2 H2 ⟨[.ref a] ++ [], ks.zip ws⟩ (g [.ref a] ws) (gV [.ref a] zs) Q E hr I2.env0
    (hb.to s2 [.ref a] ws I2.kIn rfl (rz.length.symm.trans l2)) (hb.rel r1 rz) q2) ?_)
  intro res s3 hq
  cases res with
  | error er => exact hx pins σ H2 s2 er s3 I2 hq
  | ok fl =>
    cases fl with
    | ret u => exact I2.after hq
    | next => exact False.elim hq
    | brk => exact False.elim hq
    | cont => exact False.elim hq
/-- len(o), o an own instance whose class has __len__ -/
theorem cr_lenOwn (c : PySem.W.findIn X.K (.ref C) "__len__" = some (some (.ref f))) (hf : PySem.W.isFn X.K (.ref f) = true) (F : FnOk X.prog X.w X.K X.mg X.base CX k f fd ps sp) (hr : Room (k + 1) X.A) (hb : Binds X.K fd ps []) (hx : Passes CX X E) :
    CallR X (.builtin "len") (fun vs H Q => ∃ a dx fs, vs = [.ref a] ∧ H a = some (.ins C dx fs) ∧ sp [.ref a] H (fun v H2 => ∃ n : Int, v = .int n ∧ 0 ≤ n ∧ n < 2 ^ 63 ∧ Q (.int n) H2) E) := by
  intro pins s σ H vs us Q I r h
  obtain ⟨a, dx, fs, rfl, ha, q⟩ := h
  rw [Vals.ref1 r]
  obtain ⟨mA, O, _⟩ := ins_get I.hok ha
  obtain ⟨od, J, hl⟩ := O.look
  refine Calls.call_function_entry kind_len plain_len entry_len (args_len1 _) ?_
  unfold Builtin.«len»
  refine wpAny_bind (m := oneArg "len" _) (wpAny_pure ?_)
  refine wpAny_bind (m := callSpecial? (.ref a) (Str.ofString "__len__")) (PySem.W.special_fn I.kIn J c (beq_iff_eq.mp hf) ?_)
  have hlen : ([Value.ref a] ++ []).length = ps.length := F.len _ _ _ _ q
  refine wpAny_call (codeAny_mono (F.run X.A.in1 X.stack s H ⟨[.ref a], []⟩ [.ref a] [.ref a] _ E hr.in1 I.env0.in1 (hb s [.ref a] I.kIn hlen) (.cons rfl .nil) q) ?_)
  intro res s3 hq
  cases res with
  | error er => exact hx pins σ H s er s3 I hq
  | ok fl =>
    cases fl with
    | next => exact False.elim hq
    | brk => exact False.elim hq
    | cont => exact False.elim hq
    | ret u =>
      obtain ⟨v, H3, I3, rv, n, rfl, n0, n1, q3⟩ := I.after hq
      obtain ⟨tk, rfl⟩ := rv
      refine wpAny_bind (wpAny_holding (wpAny_pure ?_))
      refine wpAny_bind (wpAny_letGo ?_)
      show wpAny _ _ (if n < 0 then _ else _) _ _ _
      rw [if_neg (by omega)]
      show wpAny _ _ (if n ≥ 2 ^ 63 then _ else _) _ _ _
      rw [if_neg (by omega)]
      exact wpAny_bind (wpAny_mkInt (wpAny_pure ⟨_, rfl, .int n, H3, I3.tok _, ⟨_, rfl⟩, q3⟩))
end
end Par
namespace K12
open PySem PySem.Spec PyProof.Rows L2 Par
def topS (i : Nat) : Stmt := PySem.Challenge.pw_paritycells_k12_boards_read.main.body.getD i (.Pass ⟨0, 0, 0, 0⟩)
abbrev sAre : Stmt := topS 12
abbrev sInteger : Stmt := topS 6
abbrev sBetween : Stmt := topS 7
abbrev sIsSize : Stmt := topS 10
abbrev sIsCell : Stmt := topS 11
abbrev sCells : Stmt := topS 13
abbrev sAdded : Stmt := topS 14
abbrev sPot : Stmt := topS 18
abbrev sDraw : Stmt := topS 19
abbrev sWidth : Stmt := topS 20
abbrev sSpots : Stmt := topS 21
abbrev sBits : Stmt := topS 22
abbrev sParity : Stmt := topS 23
abbrev sUp : Stmt := topS 24
abbrev sMixed : Stmt := topS 25
abbrev sBoardR : Stmt := topS 26
abbrev sParR : Stmt := topS 27
abbrev sTogR : Stmt := topS 28
abbrev sLaw : Stmt := topS 29
abbrev mInit : Stmt := inClass (topS 16) 0
abbrev mEq : Stmt := inClass (topS 16) 1
abbrev mLen : Stmt := inClass (topS 16) 2
abbrev mRepr : Stmt := inClass (topS 16) 3
abbrev mStr : Stmt := inClass (topS 16) 4
abbrev mSize : Stmt := inClass (topS 16) 5
abbrev mUps : Stmt := inClass (topS 16) 6
abbrev mIsUp : Stmt := inClass (topS 16) 7
abbrev mPar : Stmt := inClass (topS 16) 8
abbrev mTog : Stmt := inClass (topS 16) 9
/-- the built-in names that the module leaves alone -/
structure Bl (mg : Str → Option Value) : Prop where
  len : mg "len" = none
  abs : mg "abs" = none
  max : mg "max" = none
  min : mg "min" = none
  divmod : mg "divmod" = none
  list : mg "list" = none
  tuple : mg "tuple" = none
  range : mg "range" = none
  isinstance : mg "isinstance" = none
  bool : mg "bool" = none
  int : mg "int" = none
  sorted : mg "sorted" = none
  set : mg "set" = none
  all : mg "all" = none
  enumerate : mg "enumerate" = none
  repr : mg "repr" = none
  sum : mg "sum" = none

/-! ### the pot: two numbers that are not negative, the second one small -/
def PotAt (H : Hp) (p : Addr) : Prop := ∃ a b : Int, H p = some (.lst [.int a, .int b]) ∧ 0 ≤ a ∧ 0 ≤ b ∧ b < 2147483648
/-- all but what stands at p is as it was -/
def But (p : Addr) (H H' : Hp) : Prop := ∀ b o, b ≠ p → H b = some o → H' b = some o
theorem But.refl (p : Addr) (H : Hp) : But p H H := fun _ _ _ h => h
theorem But.trans {p : Addr} {H H1 H2 : Hp} (a : But p H H1) (b : But p H1 H2) : But p H H2 := fun c o n h => b c o n (a c o n h)
theorem But.upd {p : Addr} {H : Hp} (o : HO) : But p H (L2.upd H p o) := fun b u n h => by rw [upd_ne n]; exact h
theorem But.new {p q : Addr} {H : Hp} {o : HO} (n : H q = none) : But p H (L2.upd H q o) := fun b u _ h => by rw [upd_ne (ne_of_none h n)]; exact h
theorem But.same {p : Addr} {H H' : Hp} (h : Same H H') : But p H H' := fun b o _ e => h b o e
theorem PotAt.same {p : Addr} {H H' : Hp} (x : PotAt H p) (s : Same H H') : PotAt H' p := by
  obtain ⟨a, b, e, r⟩ := x
  exact ⟨a, b, s _ _ e, r⟩
theorem same_new {H : Hp} {q : Addr} {o : HO} (n : H q = none) : Same H (upd H q o) := fun b u h => by
  rw [upd_ne (ne_of_none h n)]
  exact h
theorem But.free {p q : Addr} {H H' : Hp} (h : But p H H') (x : PotAt H p) (n : H' q = none) (x' : PotAt H' p) : H q = none := by
  cases e : H q with
  | none => rfl
  | some o =>
    by_cases z : q = p
    · subst z
      obtain ⟨_, _, e', _⟩ := x'
      rw [n] at e'
      cases e'
    · rw [h q o z e] at n
      cases n

section
variable {P : Program} {w : World} {K : PySem.W.Frag} {mg : Str → Option Value} {base : Heap}

def spPot (K : PySem.W.Frag) : Sp := fun vs H Q _ => ∃ (a : Addr) (ns : List Int) (k : Nat), vs = [.ref a, .int (k : Int)] ∧ SqL K H a (ns.map V.int) ∧ k ≤ 1000 ∧
  ∀ p H', H p = none → Same H H' → PotAt H' p → Q (.ref p) H'
theorem scPot : FnScope ["_law_script", "_law_k", "_law_digits"] ["_law_script", "_law_k"] (defScope sPot) := ⟨rfl, rfl, rfl, by decide +kernel, rfl, by decide +kernel, by decide +kernel⟩
theorem ok_pot {f : Addr} {fd : FuncData} (F : Fun K "_law_pot" "_law_pot" sPot f fd) (B : Bl mg) : FnOk P w K mg base CX0 2 f fd ["_law_script", "_law_k"] (spPot K) := by
  refine F.ok scPot (fun vs H Q E h => ?_) (fun cdv A outer s H vs Q E hr h => ?_)
  · obtain ⟨a, ns, k, rfl, _⟩ := h
    rfl
  · obtain ⟨a, ns, k, rfl, hS, hk, out⟩ := h
    refine ⟨_, pss_cons (ps_set (i := 2) scPot.nd rfl (Or.inl rfl) (pe_ifExp (pt_cmpR op_lt (pv 1) (pe_callB call_len_seq (by rfl) B.len PySem.boot_len (pa_cons (pv 0) pa_nil)) (nomark _)) (pe_ix ix_list (pv 0) (pv 1) (fun _ _ => rfl)) pe_int))
      (pss_one (ps_ret (pe_lst (pa_cons
        (pe_callB (call_max2 rfl) (by rfl) B.max (by decide +kernel) (pa_cons pe_int (pa_cons (pe_op op_sub (pe_callB call_abs (by rfl) B.abs (by decide +kernel) (pa_cons (pv 2) pa_nil)) (pe_op op_pow pe_int pe_int)) pa_nil)))
        (pa_cons (pe_op op_mod (pe_op op_add (pe_op op_add (pe_op op_mul (pe_op op_mod (pe_callB call_abs (by rfl) B.abs (by decide +kernel) (pa_cons (pv 2) pa_nil)) pe_int) pe_int) (pe_op op_mul pe_int (pv 1))) pe_int) pe_int) pa_nil))))), ?_⟩
    have hm : ∀ d : Int, (0 : Int) ≤ (if d < 0 then -d else d) % 2147483587 ∧ (if d < 0 then -d else d) % 2147483587 < 2147483587 := fun d => ⟨Int.emod_nonneg _ (by decide), Int.emod_lt_of_pos _ (by decide)⟩
    have two : ∀ x : Int, 0 ≤ (if x > 0 then x else 0) := fun x => by split <;> omega
    have fin : ∀ d : Int, ∀ p, H p = none → Q (.ref p) (upd H p (.lst [.int (if (if d < 0 then -d else d) - 10 ^ 18 > 0 then (if d < 0 then -d else d) - 10 ^ 18 else 0),
        .int (((if d < 0 then -d else d) % 2147483587 * 48271 + 60013 * (k : Int) + 29) % 2147483647)])) := by
      intro d p hp
      refine out p _ hp (same_new hp) ⟨_, _, upd_same, two _, Int.emod_nonneg _ (by decide), ?_⟩
      have := Int.emod_lt_of_pos ((if d < 0 then -d else d) % 2147483587 * 48271 + 60013 * (k : Int) + 29) (b := 2147483647) (by decide)
      omega
    refine ⟨_, rfl, _, rfl, a, _, rfl, .inl hS, _, _, rfl, rfl, _, rfl, ?_⟩
    refine ite2 (fun hlt => ?_) (fun _ => ?_)
    · have hlt2 : (k : Int) < ((ns.map V.int).length : Int) := of_decide_eq_true hlt
      rw [List.length_map] at hlt2
      have hk2 : k < ns.length := by omega
      refine ⟨_, rfl, _, rfl, a, _, _, .int ns[k], rfl, rfl, hS, atI_nat (by simp [hk2]), ?_⟩
      refine ⟨_, rfl, _, rfl, 10, 18, rfl, rfl, ⟨by decide, by decide, by decide⟩, _, _, rfl, rfl, 0, _, rfl, ?_⟩
      refine ⟨_, rfl, _, rfl, _, _, rfl, rfl, (by show (0 : Int) < _; decide), _, _, rfl, rfl, .inl ⟨by have := hm ns[k]; omega, by have := hm ns[k]; omega⟩, _, rfl, 60013, _, rfl, rfl, .inl ⟨by decide, by decide⟩, _, _, rfl, rfl, _, _, rfl, rfl, _, _, rfl, rfl, (by show (0 : Int) < _; decide), ?_⟩
      exact ⟨(by show 2 ≤ sizeLine; decide), fin ns[k]⟩
    · refine ⟨_, rfl, _, rfl, 10, 18, rfl, rfl, ⟨by decide, by decide, by decide⟩, _, _, rfl, rfl, 0, _, rfl, ?_⟩
      refine ⟨_, rfl, _, rfl, _, _, rfl, rfl, (by show (0 : Int) < _; decide), _, _, rfl, rfl, .inl ⟨by have := hm 0; omega, by have := hm 0; omega⟩, _, rfl, 60013, _, rfl, rfl, .inl ⟨by decide, by decide⟩, _, _, rfl, rfl, _, _, rfl, rfl, _, _, rfl, rfl, (by show (0 : Int) < _; decide), ?_⟩
      exact ⟨(by show 2 ≤ sizeLine; decide), fin 0⟩

/-- one draw: a digit below many; the pot goes on -/
def spDraw : Sp := fun vs H Q _ => ∃ (p : Addr) (m : Int), vs = [.ref p, .int m] ∧ PotAt H p ∧ 0 < m ∧ m < 1073741824 ∧
  ∀ d H', 0 ≤ d → d < m → But p H H' → PotAt H' p → Q (.int d) H'
theorem scDraw : FnScope ["_law_pot_here", "_law_many", "_law_digit"] ["_law_pot_here", "_law_many"] (defScope sDraw) := ⟨rfl, rfl, rfl, by decide +kernel, rfl, by decide +kernel, by decide +kernel⟩
theorem ok_draw {f : Addr} {fd : FuncData} (F : Fun K "_law_draw" "_law_draw" sDraw f fd) (B : Bl mg) : FnOk P w K mg base CX0 2 f fd ["_law_pot_here", "_law_many"] spDraw := by
  refine F.ok scDraw (fun vs H Q E h => ?_) (fun cdv A outer s H vs Q E hr h => ?_)
  · obtain ⟨p, m, rfl, _⟩ := h
    rfl
  · obtain ⟨p, m, rfl, ⟨a, b, hp, ha, hb, hb2⟩, hm, hm2, out⟩ := h
    refine ⟨_, pss_cons (ps_if (pt_cmpR op_gt (pe_ix ix_list (pv 0) pe_int (fun _ _ => rfl)) pe_int (nomark _))
        (pss_cons (ps_asg (pe_callB call_divmod (by rfl) B.divmod (by decide +kernel) (pa_cons (pe_ix ix_list (pv 0) pe_int (fun _ _ => rfl)) (pa_cons (pv 1) pa_nil))) (pg_tup rfl (pgs_cons (pg_sub (pv 0) pe_int set_list) (pgs_cons (pg_name (i := 2) scDraw.nd rfl (Or.inl rfl)) pgs_nil))))
          (pss_one (ps_ret (pv 2)))) pss_nil)
      (pss_cons (ps_asg (pe_op op_mod (pe_op op_add (pe_op op_mul (pe_ix ix_list (pv 0) pe_int (fun _ _ => rfl)) pe_int) pe_int) pe_int) (pg_sub (pv 0) pe_int set_list))
      (pss_one (ps_ret (pe_op op_mod (pe_op op_fdiv (pe_op op_mod (pe_op op_mul (pe_ix ix_list (pv 0) pe_int (fun _ _ => rfl)) (pe_ix ix_list (pv 0) pe_int (fun _ _ => rfl))) pe_int) pe_int) (pv 1))))), ?_⟩
    have hL : SqL K H p [.int a, .int b] := SqL.of hp
    refine ⟨_, rfl, p, _, 0, .int a, rfl, rfl, hL, rfl, a, 0, rfl, rfl, _, rfl, ?_⟩
    refine ite2 (fun hpos => ?_) (fun hneg => ?_)
    · refine ⟨_, rfl, p, _, 0, .int a, rfl, rfl, hL, rfl, _, rfl, a, m, rfl, ⟨hm, hm2⟩, fun q hq => ?_⟩
      have hne : p ≠ q := ne_of_none hp hq
      have hT : SqT K (upd H q (.tup [.int (a / m), .int (a % m)])) q [.int (a / m), .int (a % m)] := SqT.of upd_same
      have hp2 : (upd H q (.tup [.int (a / m), .int (a % m)])) p = some (.lst [.int a, .int b]) := by
        rw [upd_ne hne]
        exact hp
      refine ⟨q, _, rfl, hT, rfl, _, _, rfl, _, rfl, p, _, 0, 0, rfl, rfl, hp2, rfl, _, _, rfl, rfl, _, rfl, ?_⟩
      exact out (a % m) _ (Int.emod_nonneg _ (by omega)) (Int.emod_lt_of_pos _ hm) ((But.new hq).trans (But.upd _)) ⟨a / m, b, upd_same, Int.ediv_nonneg ha (by omega), hb, hb2⟩
    · have h0 : (0 : Int) ≤ (b * 39373 + 12227) % 2147483629 := Int.emod_nonneg _ (by decide)
      have h1 : (b * 39373 + 12227) % 2147483629 < 2147483629 := Int.emod_lt_of_pos _ (by decide)
      refine ⟨_, rfl, p, _, 1, .int b, rfl, rfl, hL, rfl, b, 39373, rfl, rfl, .inl ⟨by omega, by omega⟩, _, _, rfl, rfl, _, _, rfl, rfl, (by show (0 : Int) < _; decide), _, rfl, p, _, 1, 1, rfl, rfl, hp, rfl, ?_⟩
      have hL2 : SqL K (upd H p (.lst [.int a, .int ((b * 39373 + 12227) % 2147483629)])) p [.int a, .int ((b * 39373 + 12227) % 2147483629)] := SqL.of upd_same
      refine ⟨_, rfl, p, _, 1, _, rfl, rfl, hL2, rfl, _, rfl, p, _, 1, _, rfl, rfl, hL2, rfl, _, _, rfl, rfl, .inl ⟨by omega, by omega⟩, _, _, rfl, rfl, (by show (0 : Int) < _; decide), _, _, rfl, rfl, ⟨by decide, by decide⟩, _, rfl, _, m, rfl, rfl, hm, ?_⟩
      exact out _ _ (Int.emod_nonneg _ (by omega)) (Int.emod_lt_of_pos _ hm) (But.upd _) ⟨a, _, upd_same, ha, h0, by omega⟩
end
end K12
namespace K12
open PySem PySem.Spec PyProof.Rows L2 Par
section
variable {P : Program} {w : World} {K : PySem.W.Frag} {mg : Str → Option Value} {base : Heap}
/-- a def of the module that raises nothing -/
def Has (P : Program) (w : World) (K : PySem.W.Frag) (mg : Str → Option Value) (base : Heap) (x : Str) (lv : Nat) (ps : List Str) (sp : Sp) : Prop :=
  ∃ f fd, FnOk P w K mg base CX0 lv f fd ps sp ∧ mg x = some (.ref f) ∧ PySem.W.keepIn K (.ref f) = true ∧ Binds K fd ps []

/-- a new list of rising numbers from least to width - 1 -/
def spSpots : Sp := fun vs H Q _ => ∃ (p : Addr) (l m : Int), vs = [.ref p, .int l, .int m] ∧ PotAt H p ∧ 0 ≤ l ∧ l ≤ 1000 ∧ 0 ≤ m ∧ m ≤ 1000 ∧
  ∀ q (ns : List Int) H', H q = none → ns.Pairwise (· < ·) → (∀ n ∈ ns, l ≤ n ∧ n < m) → But p H H' → PotAt H' p → H' q = some (.lst (ns.map V.int)) → Q (.ref q) H'
abbrev nSpots : List Str := ["_law_pot_here", "_law_least", "_law_width_here", "_law_way", "_law_spot"]
theorem scSpots : FnScope nSpots ["_law_pot_here", "_law_least", "_law_width_here"] (defScope sSpots) := ⟨rfl, rfl, rfl, by decide +kernel, rfl, by decide +kernel, by decide +kernel⟩
theorem rgV_ints (a : Int) (n : Nat) : ∃ ns : List Int, rgV a (a + n) = ns.map V.int ∧ ns.Pairwise (· < ·) ∧ ∀ k ∈ ns, a ≤ k ∧ k < a + n := by
  refine ⟨(List.range n).map fun i => a + (i : Nat), ?_, ?_, ?_⟩
  · unfold rgV
    rw [List.map_map, show (a + (n : Int) - a).toNat = n by omega]
    rfl
  · rw [List.pairwise_map]
    exact List.pairwise_lt_range.imp (fun h => by omega)
  · intro k hk
    obtain ⟨i, hi, rfl⟩ := List.mem_map.mp hk
    have := List.mem_range.mp hi
    omega
theorem ok_spots {f : Addr} {fd : FuncData} (F : Fun K "_law_spots" "_law_spots" sSpots f fd) (B : Bl mg) (D : Has P w K mg base "_law_draw" 2 ["_law_pot_here", "_law_many"] spDraw) :
    FnOk P w K mg base CX0 3 f fd ["_law_pot_here", "_law_least", "_law_width_here"] spSpots := by
  obtain ⟨fD, fdD, GD, mD, kD, bD⟩ := D
  refine F.ok scSpots (fun vs H Q E h => ?_) (fun cdv A outer s H vs Q E hr h => ?_)
  · obtain ⟨p, l, m, rfl, _⟩ := h
    rfl
  · obtain ⟨p, l, m, rfl, hp, l0, l1, m0, m1, out⟩ := h
    refine ⟨_, pss_cons (ps_set (i := 3) scSpots.nd rfl (Or.inl rfl) (pe_call GD hr (by rfl) mD kD bD .nil pass0 (pa_cons (pv 0) (pa_cons pe_int pa_nil))))
      (pss_cons (ps_if (PW.pt (pw_or (pt_cmpR op_eq (pv 3) pe_int (nomark _)) (pw_or1 (pt_cmpR op_le (pv 2) (pv 1) (nomark _))))) (pss_one (ps_ret (pe_lst pa_nil))) pss_nil)
      (pss_cons (ps_if (pt_cmpR op_eq (pv 3) pe_int (nomark _)) (pss_one (ps_ret (pe_lst (pa_cons (pe_op op_add (pv 1) (pe_call GD hr (by rfl) mD kD bD .nil pass0 (pa_cons (pv 0) (pa_cons (pe_op op_sub (pv 2) (pv 1)) pa_nil)))) pa_nil)))) pss_nil)
      (pss_cons (ps_if (pt_cmpR op_eq (pv 3) pe_int (nomark _)) (pss_one (ps_ret (pe_listRg rfl (by rfl) B.list (prg_2 (by rfl) B.range (pv 1) (pv 2))))) pss_nil)
      (pss_one (ps_ret (pe_lc (own := [("_law_spot", 4)]) (g := gName 4) rfl scSpots.nd (pi_range2 (by rfl) B.range (pa_cons (pv 1) (pa_cons (pv 2) pa_nil))) (blkOk_by (own := [("_law_spot", 4)]) (N := nSpots) (sc := defScope sSpots) (by decide +kernel))
        (fun _ _ _ _ _ => pg_name (i := 4) scSpots.nd rfl (Or.inl rfl))
        (fun _ _ _ _ _ => pts_one (pt_cmpR op_eq (pe_call GD hr (by rfl) mD kD bD .nil pass0 (pa_cons (pv 0) (pa_cons pe_int pa_nil))) pe_int (nomark _)))
        (fun _ _ _ _ _ => pv 4))))))), ?_⟩
    refine ⟨_, rfl, p, 5, rfl, hp, by decide, by decide, ?_⟩
    intro d H1 d0 d1 b1 hp1
    have fr : ∀ q, H1 q = none → H q = none := fun q hq => b1.free hp hq hp1
    refine ⟨_, rfl, rfl, _, rfl, ?_⟩
    have nil : ∀ q, H1 q = none → Q (.ref q) (upd H1 q (.lst [])) := by
      intro q hq
      refine out q [] _ (fr q hq) List.Pairwise.nil (fun n hn => nomatch hn) (b1.trans (But.new hq)) (hp1.same (same_new hq)) upd_same
    refine ite2 (fun _ => ?_) (fun _ => ?_)
    · refine iteT ⟨by decide, nil⟩
    refine ⟨_, rfl, _, rfl, _, _, rfl, rfl, _, rfl, ?_⟩
    refine ite2 (fun _ => ?_) (fun hlt => ?_)
    · exact ⟨by decide, nil⟩
    have hlt2 : l < m := by
      have := of_decide_eq_false (by simpa using hlt : decide (m ≤ l) = false)
      omega
    refine ⟨_, rfl, rfl, _, rfl, ?_⟩
    refine ite2 (fun _ => ?_) (fun _ => ?_)
    · refine ⟨_, rfl, _, rfl, _, rfl, _, rfl, m, l, rfl, rfl, p, m - l, rfl, hp1, by omega, by omega, ?_⟩
      intro d2 H2 e0 e1 b2 hp2
      refine ⟨l, d2, rfl, rfl, (by show 1 ≤ sizeLine; decide), ?_⟩
      intro q hq
      refine out q [l + d2] _ (fr q (b2.free hp1 hq hp2)) (by simp) (fun n hn => by
        have : n = l + d2 := by simpa using hn
        omega) ((b1.trans b2).trans (But.new hq)) (hp2.same (same_new hq)) upd_same
    refine ⟨_, rfl, rfl, _, rfl, ?_⟩
    refine ite2 (fun _ => ?_) (fun _ => ?_)
    · refine ⟨_, rfl, _, rfl, l, m, rfl, rfl, RgOk.of_le l0 (by omega) (by omega) m0, ?_⟩
      intro q hq
      obtain ⟨ns, e, h1, h2⟩ := rgV_ints l (m - l).toNat
      have em : l + ((m - l).toNat : Int) = m := by omega
      rw [em] at e h2
      rw [e]
      exact out q ns _ (fr q hq) h1 h2 (b1.trans (But.new hq)) (hp1.same (same_new hq)) upd_same
    · refine ⟨_, rfl, _, rfl, l, m, rfl, ⟨by omega, by omega, by omega, by omega⟩, ?_⟩
      intro D hD
      have hDH := fr D hD
      have hDp : D ≠ p := fun z => by
        subst z
        obtain ⟨_, _, e, _⟩ := hp1
        rw [hD] at e
        cases e
      refine lc_range (lo := l) (n := (m - l).toNat) (fun i H' => ∃ ns : List Int, H' D = some (.lst (ns.map V.int)) ∧ ns.length ≤ i ∧ ns.Pairwise (· < ·) ∧ (∀ n ∈ ns, l ≤ n ∧ n < l + i) ∧ But p H H' ∧ PotAt H' p)
        ⟨[], upd_same, Nat.le_refl _, List.Pairwise.nil, fun n hn => (by cases hn), b1.trans (But.new hD), hp1.same (same_new hD)⟩ ?_ ?_
      · rintro i H2 hi ⟨ns, hns, hlen, pw, bd, b2, hp2⟩
        refine ⟨rfl, ?_⟩
        refine ⟨_, rfl, p, 2, rfl, hp2, by decide, by decide, ?_⟩
        intro d2 H3 e0 e1 b3 hp3
        have hD3 : H3 D = some (.lst (ns.map V.int)) := b3 D _ hDp hns
        refine ⟨rfl, _, rfl, ?_⟩
        refine ite2 (fun _ => ?_) (fun _ => ?_)
        · refine ⟨_, rfl, _, hD3, (by rw [List.length_map]; exact small1000 (by omega)), ns ++ [l + (i : Int)], ?_, ?_, ?_, ?_, ?_, ?_⟩
          · rw [upd_same, List.map_append]
            rfl
          · rw [List.length_append]
            show ns.length + 1 ≤ i + 1
            omega
          · refine List.pairwise_append.mpr ⟨pw, by simp, fun a ha b hb => ?_⟩
            have hb2 : b = l + (i : Int) := by simpa using hb
            have := bd a ha
            omega
          · intro n hn
            rcases List.mem_append.mp hn with hn | hn
            · have := bd n hn
              omega
            · have : n = l + (i : Int) := by simpa using hn
              omega
          · exact fun b o n e => by
              have e2 := b2.trans b3 b o n e
              rw [upd_ne (ne_of_none e hDH)]
              exact e2
          · obtain ⟨x, y, e, r⟩ := hp3
            exact ⟨x, y, by rw [upd_ne (Ne.symm hDp)]; exact e, r⟩
        · exact ⟨ns, hD3, by omega, pw, fun n hn => by have := bd n hn; omega, b2.trans b3, hp3⟩
      · rintro H2 ⟨ns, hns, hlen, pw, bd, b2, hp2⟩
        exact out D ns H2 hDH pw (fun n hn => by have := bd n hn; omega) b2 hp2 hns
end
end K12
namespace K12
open PySem PySem.Spec PyProof.Rows L2 Par
theorem perm_erase : ∀ {l : List Int} {i : Nat} {x : Int}, l[i]? = some x → (x :: l.eraseIdx i).Perm l
  | [], i, x, h => by simp at h
  | a :: l, 0, x, h => by
    have e : a = x := by simpa using h
    subst e
    exact List.Perm.refl _
  | a :: l, i + 1, x, h => by
    have h2 : l[i]? = some x := by simpa using h
    have ih := perm_erase h2
    show (x :: a :: l.eraseIdx i).Perm (a :: l)
    exact (List.Perm.swap a x _).trans (ih.cons a)
/-- what len of a list or tuple asks -/
def rLenQ (K : PySem.W.Frag) : List V → Hp → VK → Prop := fun xs H Q => ∃ p ys, xs = [.ref p] ∧ (SqL K H p ys ∨ SqT K H p ys) ∧ Q (.int ys.length) H
theorem map_eraseIdx : ∀ (l : List Int) (i : Nat), (l.map V.int).eraseIdx i = (l.eraseIdx i).map V.int
  | [], _ => rfl
  | _ :: _, 0 => rfl
  | a :: l, i + 1 => by
    show V.int a :: (l.map V.int).eraseIdx i = V.int a :: (l.eraseIdx i).map V.int
    rw [map_eraseIdx l i]
theorem yesT {σ : L2.St} {H : Hp} {A B : Hp → Prop} (h : A H) : tYes σ H (fun b H3 => if b = true then A H3 else B H3) := by
  unfold tYes
  show (if true = true then A H else B H)
  rw [if_pos rfl]
  exact h
section
variable {P : Program} {w : World} {K : PySem.W.Frag} {mg : Str → Option Value} {base : Heap}
/-- a new list of the same numbers, in some order -/
def spMixed (K : PySem.W.Frag) : Sp := fun vs H Q _ => ∃ (p g : Addr) (ns : List Int), vs = [.ref p, .ref g] ∧ PotAt H p ∧ H g = some (.lst (ns.map V.int)) ∧ g ≠ p ∧ ns.length ≤ 500 ∧
  ∀ q (ms : List Int) H', H q = none → ms.Perm ns → But p H H' → PotAt H' p → H' q = some (.lst (ms.map V.int)) → Q (.ref q) H'
abbrev nMixed : List Str := ["_law_pot_here", "_law_given", "_law_left", "_law_spot"]
theorem scMixed : FnScope nMixed ["_law_pot_here", "_law_given"] (defScope sMixed) := ⟨rfl, rfl, rfl, by decide +kernel, rfl, by decide +kernel, by decide +kernel⟩
theorem ok_mixed {f : Addr} {fd : FuncData} (F : Fun K "_law_mixed" "_law_mixed" sMixed f fd) (B : Bl mg) (D : Has P w K mg base "_law_draw" 2 ["_law_pot_here", "_law_many"] spDraw) :
    FnOk P w K mg base CX0 3 f fd ["_law_pot_here", "_law_given"] (spMixed K) := by
  obtain ⟨fD, fdD, GD, mD, kD, bD⟩ := D
  refine F.ok scMixed (fun vs H Q E h => ?_) (fun cdv A outer s H vs Q E hr h => ?_)
  · obtain ⟨p, g, ns, rfl, _⟩ := h
    rfl
  · obtain ⟨p, g, ns, rfl, hp, hg, gp, hl, out⟩ := h
    refine ⟨_, pss_cons (ps_set (i := 2) scMixed.nd rfl (Or.inr rfl) (pe_callTy call_list_of (by rfl) B.list (by decide +kernel) (pa_cons (pv 1) pa_nil)))
      (pss_one (ps_ret (pe_lc (own := [("_law_spot", 3)]) (g := gName 3) (te := tBM K "list" rPopAt (tVar 2) (tCons (tCall spDraw [] E0 (tCons (tVar 0) (tCons (tCB (rLenQ K) (tCons (tVar 2) tNil)) tNil))) tNil)) rfl scMixed.nd (pi_range1 (by rfl) B.range (pa_cons (pe_callB call_len_seq (by rfl) B.len PySem.boot_len (pa_cons (pv 1) pa_nil)) pa_nil)) (blkOk_by (own := [("_law_spot", 3)]) (N := nMixed) (sc := defScope sMixed) (by decide +kernel))
        (fun _ _ _ _ _ => pg_name (i := 3) scMixed.nd rfl (Or.inl rfl)) (fun _ _ _ _ _ => pts_nil)
        (fun _ _ _ _ _ => by exact pe_bm PySem.F.plainAttrs_list PySem.F.slot_list_pop PySem.F.type_list_pop mt_popAt (pv 2) (pa_cons (pe_call GD hr (by rfl) mD kD bD .nil pass0 (pa_cons (pv 0) (pa_cons (pe_callB call_len_seq (by rfl) B.len PySem.boot_len (pa_cons (pv 2) pa_nil)) pa_nil))) pa_nil))))), ?_⟩
    refine ⟨_, rfl, g, _, rfl, .inl (SqL.of hg), ?_⟩
    intro L hL
    have gL : g ≠ L := ne_of_none hg hL
    have hg1 : (upd H L (.lst (ns.map V.int))) g = some (.lst (ns.map V.int)) := by
      rw [upd_ne gL]
      exact hg
    have pL : L ≠ p := fun z => by
      subst z
      obtain ⟨_, _, e, _⟩ := hp
      rw [hL] at e
      cases e
    refine ⟨_, rfl, g, _, rfl, .inl (SqL.of hg1), _, rfl, (by rw [List.length_map]; omega), (by rw [List.length_map]; omega), ?_⟩
    intro D hD
    have DL : D ≠ L := fun z => by
      rw [z, upd_same] at hD
      cases hD
    have hDH : H D = none := by
      rw [upd_ne DL] at hD
      exact hD
    have Dp : D ≠ p := fun z => by
      subst z
      obtain ⟨_, _, e, _⟩ := hp
      rw [hDH] at e
      cases e
    rw [List.length_map, Int.toNat_natCast]
    have base0 : But p H (upd (upd H L (.lst (ns.map V.int))) D (.lst [])) := (But.new hL).trans (But.new hD)
    have pot0 : PotAt (upd (upd H L (.lst (ns.map V.int))) D (.lst [])) p := (hp.same (same_new hL)).same (same_new hD)
    refine lc_range (lo := 0) (n := ns.length) (fun i H' => ∃ ms ls : List Int, H' D = some (.lst (ms.map V.int)) ∧ H' L = some (.lst (ls.map V.int)) ∧ ms.length = i ∧ (ms ++ ls).Perm ns ∧ But p H H' ∧ PotAt H' p)
      ⟨[], ns, upd_same, by rw [upd_ne (Ne.symm DL), upd_same], rfl, List.Perm.refl _, base0, pot0⟩ ?_ ?_
    · rintro i H2 hi ⟨ms, ls, hms, hls, hlen, pm, b2, hp2⟩
      have hll : ms.length + ls.length = ns.length := by
        have := pm.length_eq
        rwa [List.length_append] at this
      refine ⟨rfl, yesT ?_⟩
      refine ⟨_, rfl, .inl ⟨rfl, _, SqL.of hls⟩, ?_⟩
      refine ⟨_, rfl, _, rfl, L, _, rfl, .inl (SqL.of hls), p, _, rfl, hp2, (by rw [List.length_map]; omega), (by rw [List.length_map]; omega), ?_⟩
      intro d H3 d0 d1 b3 hp3
      rw [List.length_map] at d1
      have hD3 : H3 D = some (.lst (ms.map V.int)) := b3 D _ Dp hms
      have hL3 : H3 L = some (.lst (ls.map V.int)) := b3 L _ pL hls
      have dk : d.toNat < ls.length := by omega
      have ex : ls[d.toNat]? = some ls[d.toNat] := by simp [dk]
      refine ⟨L, _, d, d.toNat, .int ls[d.toNat], rfl, rfl, hL3, by omega, by omega, ?_, ?_, ?_⟩
      · rw [List.length_map]
        unfold seqIndex?
        have h1 : ¬ d < 0 := by omega
        have h2 : d < (ls.length : Int) := by omega
        simp [h1, h2, d0]
      · rw [List.getElem?_map, ex]
        rfl
      refine ⟨ms.map V.int, by rw [upd_ne DL]; exact hD3, (by rw [List.length_map]; exact small1000 (by omega)), ms ++ [ls[d.toNat]], ls.eraseIdx d.toNat, ?_, ?_, ?_, ?_, ?_, ?_⟩
      · rw [upd_same, List.map_append]
        rfl
      · rw [upd_ne (Ne.symm DL), upd_same, map_eraseIdx]
      · rw [List.length_append, hlen]
        rfl
      · rw [List.append_assoc]
        exact (List.Perm.append_left ms (perm_erase ex)).trans pm
      · intro b o n e
        rw [upd_ne (ne_of_none e hDH), upd_ne (ne_of_none e hL)]
        exact b3 b o n (b2 b o n e)
      · obtain ⟨x, y, e, r⟩ := hp3
        exact ⟨x, y, by rw [upd_ne (Ne.symm Dp), upd_ne (Ne.symm pL)]; exact e, r⟩
    · rintro H2 ⟨ms, ls, hms, hls, hlen, pm, b2, hp2⟩
      have hll : ms.length + ls.length = ns.length := by
        have := pm.length_eq
        rwa [List.length_append] at this
      have e : ls = [] := List.eq_nil_of_length_eq_zero (by omega)
      subst e
      rw [List.append_nil] at pm
      exact out D ms H2 hDH pm b2 hp2 hms
end
end K12
namespace K12
open PySem PySem.Spec PyProof.Rows L2 Par
theorem sq_ty {K : PySem.W.Frag} {H : Hp} {a : Addr} {xs : List V} (h : SqL K H a xs) : TyX K H (.ref a) (.type "list") := by
  rcases h with (h | ⟨o, h⟩) | ⟨o, its, n, hk, hc, _⟩
  · exact .base (.lst h)
  · exact .base (.frz h)
  · exact .kList hk hc
theorem sqt_ty {K : PySem.W.Frag} {H : Hp} {a : Addr} {xs : List V} (h : SqT K H a xs) : TyX K H (.ref a) (.type "tuple") := by
  rcases h with (h | ⟨o, h⟩) | ⟨o, its, n, hk, hc, _⟩
  · exact .base (.tup h)
  · exact .fTuple h
  · exact .kTuple hk hc
/-- a list or tuple of xs -/
def Sq (K : PySem.W.Frag) (H : Hp) (a : Addr) (xs : List V) : Prop := SqL K H a xs ∨ SqT K H a xs
section
variable {P : Program} {w : World} {K : PySem.W.Frag} {mg : Str → Option Value} {base : Heap}
theorem kit_seq {n : String} (h : n = "list" ∨ n = "tuple") : PySem.W.kitAny K (.type n) [.type "list", .type "tuple"] = some true := by
  rcases h with rfl | rfl
  · exact kitAny_cons (b := true) (kit_ty (by decide +kernel)) (fun z => nomatch z) (fun _ => rfl)
  · exact kitAny_cons (b := false) (kit_ty (by decide +kernel)) (fun _ => kitAny_cons (b := true) (kit_ty (by decide +kernel)) (fun z => nomatch z) (fun _ => rfl)) (fun z => nomatch z)
theorem same_sq {H H' : Hp} {a : Addr} {xs : List V} (s : Same H H') (h : SqL K H a xs) : SqL K H' a xs := s.seq h
theorem same_sqt {H H' : Hp} {a : Addr} {xs : List V} (s : Same H H') (h : SqT K H a xs) : SqT K H' a xs := by
  rcases h with (h | ⟨o, h⟩) | h
  · exact .inl (.inl (s _ _ h))
  · exact .inl (.inr ⟨o, s _ _ h⟩)
  · exact .inr h
theorem same_tyx {H H' : Hp} {v : V} {t : Value} (s : Same H H') (h : TyX K H v t) : TyX K H' v t := by
  cases h with
  | base b =>
    refine .base ?_
    cases b with
    | non => exact .non
    | bl y => exact .bl y
    | int i => exact .int i
    | str y => exact .str y
    | flt y => exact .flt y
    | lst e => exact .lst (s _ _ e)
    | frz e => exact .frz (s _ _ e)
    | tup e => exact .tup (s _ _ e)
    | dK e => exact .dK (s _ _ e)
    | dT e => exact .dT (s _ _ e)
    | ins e cl ha hn htk hm => exact .ins (s _ _ e) cl ha hn htk hm
  | byt y => exact .byt y
  | set e => exact .set (s _ _ e)
  | kList e c => exact .kList e c
  | kTuple e c => exact .kTuple e c
  | kDict e c => exact .kDict e c
  | fTuple e => exact .fTuple (s _ _ e)
  | fDict e => exact .fDict (s _ _ e)
theorem Sq.same {H H' : Hp} {a : Addr} {xs : List V} (s : Same H H') (h : Sq K H a xs) : Sq K H' a xs := h.imp (same_sq s) (same_sqt s)
/-- is_integer -/
def spInteger : Sp := fun vs H Q _ => ∃ i : Int, vs = [.int i] ∧ Q (.bl true) H
theorem scInteger : FnScope ["thing"] ["thing"] (defScope sInteger) := ⟨rfl, rfl, rfl, by decide +kernel, rfl, by decide +kernel, by decide +kernel⟩
theorem ok_integer {f : Addr} {fd : FuncData} (F : Fun K "is_integer" "is_integer" sInteger f fd) (B : Bl mg) : FnOk P w K mg base CX0 1 f fd ["thing"] spInteger := by
  refine F.ok scInteger (fun vs H Q E h => ?_) (fun cdv A outer s H vs Q E hr h => ?_)
  · obtain ⟨i, rfl, _⟩ := h
    rfl
  · obtain ⟨i, rfl, out⟩ := h
    refine ⟨_, pss_one (ps_ret (pe_and (pe_callB call_isi (by rfl) B.isinstance (by decide +kernel) (pa_cons (pv 0) (pa_cons (pe_bltn (v := .ty "int") (by rfl) B.int (by decide +kernel) rfl) pa_nil))) (pe_one (pe_not (pe_callB call_isi (by rfl) B.isinstance (by decide +kernel) (pa_cons (pv 0) (pa_cons (pe_bltn (v := .ty "bool") (by rfl) B.bool (by decide +kernel) rfl) pa_nil))))))), ?_⟩
    refine ⟨_, rfl, _, _, _, _, true, rfl, .ty "int", .base (.int i), kit_ty (by decide +kernel), _, rfl, iteT ?_⟩
    exact ⟨_, rfl, _, _, _, _, false, rfl, .ty "bool", .base (.int i), kit_ty (by decide +kernel), _, rfl, out⟩
/-- is_integer_between, of whole numbers -/
def spBetween : Sp := fun vs H Q _ => ∃ i lo hi : Int, vs = [.int i, .int lo, .int hi] ∧ Q (.bl (decide (lo ≤ i) && decide (i ≤ hi))) H
theorem scBetween : FnScope ["thing", "low", "high"] ["thing", "low", "high"] (defScope sBetween) := ⟨rfl, rfl, rfl, by decide +kernel, rfl, by decide +kernel, by decide +kernel⟩
theorem ok_between {f : Addr} {fd : FuncData} (F : Fun K "is_integer_between" "is_integer_between" sBetween f fd) (B : Bl mg) (D : Has P w K mg base "is_integer" 1 ["thing"] spInteger) : FnOk P w K mg base CX0 2 f fd ["thing", "low", "high"] spBetween := by
  obtain ⟨fD, fdD, GD, mD, kD, bD⟩ := D
  refine F.ok scBetween (fun vs H Q E h => ?_) (fun cdv A outer s H vs Q E hr h => ?_)
  · obtain ⟨i, lo, hi, rfl, _⟩ := h
    rfl
  · obtain ⟨i, lo, hi, rfl, out⟩ := h
    refine ⟨_, pss_one (ps_ret (pe_and (pe_call GD hr (by rfl) mD kD bD .nil pass0 (pa_cons (pv 0) pa_nil)) (pe_one (pe_chain op_le op_le (pv 1) (pv 0) (pv 2))))), ?_⟩
    refine ⟨_, rfl, i, rfl, _, rfl, iteT ?_⟩
    refine ⟨_, rfl, _, rfl, lo, i, rfl, rfl, _, rfl, ite2 (fun h1 => ?_) (fun h1 => ?_)⟩
    · refine ⟨_, rfl, i, hi, rfl, rfl, ?_⟩
      rw [h1, Bool.true_and] at out
      exact out
    · have e : decide (lo ≤ i) = false := by simpa using h1
      rw [e, Bool.false_and] at out
      exact out
def spIsSize : Sp := fun vs H Q _ => ∃ i : Int, vs = [.int i] ∧ Q (.bl (decide (1 ≤ i) && decide (i ≤ 40))) H
theorem scIsSize : FnScope ["thing"] ["thing"] (defScope sIsSize) := ⟨rfl, rfl, rfl, by decide +kernel, rfl, by decide +kernel, by decide +kernel⟩
theorem ok_issize {f : Addr} {fd : FuncData} (F : Fun K "is_size" "is_size" sIsSize f fd) (hM : ∃ t, mg "MOST_CELLS" = some (.int 40 t)) (D : Has P w K mg base "is_integer_between" 2 ["thing", "low", "high"] spBetween) :
    FnOk P w K mg base CX0 3 f fd ["thing"] spIsSize := by
  obtain ⟨fD, fdD, GD, mD, kD, bD⟩ := D
  obtain ⟨tM, hM⟩ := hM
  refine F.ok scIsSize (fun vs H Q E h => ?_) (fun cdv A outer s H vs Q E hr h => ?_)
  · obtain ⟨i, rfl, _⟩ := h
    rfl
  · obtain ⟨i, rfl, out⟩ := h
    refine ⟨_, pss_one (ps_ret (pe_call GD hr (by rfl) mD kD bD .nil pass0 (pa_cons (pv 0) (pa_cons pe_int (pa_cons (pe_glob (v := .int 40) (by rfl) hM ⟨_, rfl⟩) pa_nil))))), ?_⟩
    exact ⟨_, rfl, i, 1, 40, rfl, out⟩
def spIsCell : Sp := fun vs H Q _ => ∃ i n : Int, vs = [.int i, .int n] ∧ Q (.bl (decide (0 ≤ i) && decide (i ≤ n - 1))) H
theorem scIsCell : FnScope ["thing", "size"] ["thing", "size"] (defScope sIsCell) := ⟨rfl, rfl, rfl, by decide +kernel, rfl, by decide +kernel, by decide +kernel⟩
theorem ok_iscell {f : Addr} {fd : FuncData} (F : FunD K "is_cell" "is_cell" (defArgs sIsCell) (defBody sIsCell) (defScope sIsCell) [] [("size", .int 40)] f fd)
    (D : Has P w K mg base "is_integer_between" 2 ["thing", "low", "high"] spBetween) : FnOk P w K mg base CX0 3 f fd ["thing", "size"] spIsCell := by
  obtain ⟨fD, fdD, GD, mD, kD, bD⟩ := D
  refine F.ok scIsCell (fun vs H Q E h => ?_) (fun cdv A outer s H vs Q E hr h => ?_)
  · obtain ⟨i, n, rfl, _⟩ := h
    rfl
  · obtain ⟨i, n, rfl, out⟩ := h
    refine ⟨_, pss_one (ps_ret (pe_call GD hr (by rfl) mD kD bD .nil pass0 (pa_cons (pv 0) (pa_cons pe_int (pa_cons (pe_op op_sub (pv 1) pe_int) pa_nil))))), ?_⟩
    exact ⟨_, rfl, _, rfl, n, 1, rfl, rfl, i, 0, n - 1, rfl, out⟩
/-- a def called with size = .. -/
def HasN (P : Program) (w : World) (K : PySem.W.Frag) (mg : Str → Option Value) (base : Heap) (x : Str) (lv : Nat) (y : Str) (sp : Sp) : Prop :=
  ∃ f fd, FnOk P w K mg base CX0 lv f fd [y, "size"] sp ∧ mg x = some (.ref f) ∧ PySem.W.keepIn K (.ref f) = true ∧ KBn K fd [y, "size"] 1 ["size"] (fun us ws => us ++ ws) (fun vs zs => vs ++ zs)
/-- are_cells of cells of this size -/
def spAre (K : PySem.W.Frag) : Sp := fun vs H Q _ => ∃ (a : Addr) (n : Int) (ns : List Int), vs = [.ref a, .int n] ∧ Sq K H a (ns.map V.int) ∧ ns.length ≤ 500 ∧ (∀ k ∈ ns, 0 ≤ k ∧ k < n) ∧ ns.Nodup ∧
  ∀ H', Same H H' → Q (.bl true) H'
abbrev nCells : List Str := ["things", "size", "thing"]
theorem scAre : FnScope nCells ["things", "size"] (defScope sAre) := ⟨rfl, rfl, rfl, by decide +kernel, rfl, by decide +kernel, by decide +kernel⟩
theorem all_true {l : List Bool} (h : ∀ b ∈ l, b = true) : l.all id = true := List.all_eq_true.mpr fun b hb => h b hb
theorem ok_are {f : Addr} {fd : FuncData} (F : Fun K "are_cells" "are_cells" sAre f fd) (B : Bl mg)
    (D : HasN P w K mg base "is_cell" 3 "thing" spIsCell) : FnOk P w K mg base CX0 4 f fd ["things", "size"] (spAre K) := by
  obtain ⟨fD, fdD, GD, mD, kD, bD⟩ := D
  refine F.ok scAre (fun vs H Q E h => ?_) (fun cdv A outer s H vs Q E hr h => ?_)
  · obtain ⟨a, n, ns, rfl, _⟩ := h
    rfl
  · obtain ⟨a, n, ns, rfl, hq, hl, hin, hnd, good⟩ := h
    rcases hq with hq | hq
    · refine ⟨_, pss_cons (ps_if (pt_not (pt_val (pe_callB call_isiT (by rfl) B.isinstance (by decide +kernel) (pa_cons (pv 0) (pa_cons (pe_tup (pa_cons (pe_bltn (v := .ty "list") (by rfl) B.list (by decide +kernel) rfl) (pa_cons (pe_bltn (v := .ty "tuple") (by rfl) B.tuple (by decide +kernel) rfl) pa_nil))) pa_nil))))) (pss_one ps_off) pss_nil)
      (pss_cons (ps_if (pt_not (pt_val (pe_callB (cr_all rfl) (by rfl) B.all (by decide +kernel) (pa_cons (pe_lc (own := [("thing", 2)]) (g := gName 2) (te := tCallN 1 (["size"] : List Str).length spIsCell (fun vs zs => vs ++ zs) E0 (tCons (tVar 2) tNil) (tCons (tVar 1) tNil)) rfl scAre.nd (pi_list (pv 0)) (blkOk_by (own := [("thing", 2)]) (N := nCells) (sc := defScope sAre) (by decide +kernel))
          (fun _ _ _ _ _ => pg_name (i := 2) scAre.nd rfl (Or.inl rfl)) (fun _ _ _ _ _ => pts_nil) (fun _ _ _ _ _ => by exact pe_callN (n := 1) (ks := ["size"]) GD hr (by rfl) mD kD bD pass0 (pa_cons (pv 2) pa_nil) (pk_cons (pv 1) pk_nil))) pa_nil)))) (pss_one ps_off) pss_nil)
      (pss_one (ps_ret (pe_cmpR op_eq (pe_lenSetQ (by rfl) B.len (by rfl) B.set (pv 0)) (pe_callB call_len_seq (by rfl) B.len PySem.boot_len (pa_cons (pv 0) pa_nil)) (nomark _))))), ?_⟩
      refine ⟨_, rfl, by decide, fun p hp => ?_⟩
      have s1 : Same H (upd H p (.tup [.ty "list", .ty "tuple"])) := same_new hp
      refine ⟨_, p, _, _, _, true, rfl, upd_same, .cons (.ty _) (.cons (.ty _) .nil), sq_ty (same_sq s1 hq), kit_seq (by simp), _, rfl, iteF ?_⟩
      refine ⟨_, rfl, a, rfl, ⟨_, same_sq s1 hq⟩, fun D hD => ?_⟩
      refine lc_list (K := K) (a := a) (xs := ns.map V.int) (fun i H' => Same H H' ∧ H' D = some (.lst ((ns.take i).map fun k => V.bl (decide (0 ≤ k) && decide (k ≤ n - 1))))) ⟨s1.trans (same_new hD), upd_same⟩ (fun i H' _ h => same_sq h.1 hq) ?_ ?_
      · rintro i x H2 hx ⟨s2, hD2⟩
        rw [List.getElem?_map] at hx
        obtain ⟨k, hk, rfl⟩ : ∃ k, ns[i]? = some k ∧ x = V.int k := by
          cases e : ns[i]? with
          | none => rw [e] at hx; cases hx
          | some k => rw [e] at hx; exact ⟨k, rfl, (Option.some.inj hx).symm⟩
        refine ⟨rfl, yesT ?_⟩
        refine ⟨_, rfl, _, rfl, rfl, rfl, k, n, rfl, _, hD2, ?_, ?_, ?_⟩
        · rw [List.length_map, List.length_take]
          exact small1000 (by omega)
        · intro b o e
          have hDb : H D = none := s1.free hD
          rw [upd_ne (ne_of_none e hDb)]
          exact s2 b o e
        · rw [upd_same, List.take_succ, hk, List.map_append]
          rfl
      rintro H2 ⟨s2, hD2⟩
      rw [List.length_map, List.take_length] at hD2
      refine ⟨D, ns.map fun k => decide (0 ≤ k) && decide (k ≤ n - 1), rfl, SqL.of (by rw [hD2, List.map_map]; rfl), _, rfl, ?_⟩
      have eall : (ns.map fun k => decide (0 ≤ k) && decide (k ≤ n - 1)).all id = true := by
        refine all_true fun b hb => ?_
        obtain ⟨k, hk, rfl⟩ := List.mem_map.mp hb
        obtain ⟨h1, h2⟩ := hin k hk
        have h3 : k ≤ n - 1 := by omega
        simp [h1, h3]
      rw [eall]
      refine iteF ⟨_, rfl, a, ns, rfl, .inl (same_sq s2 hq), by omega, fun c hc hiff => ?_⟩
      refine ⟨_, rfl, a, _, rfl, .inl (same_sq s2 hq), ?_⟩
      rw [List.length_map]
      have ec : c = ns.length := hiff.mpr hnd
      subst ec
      refine ⟨rfl, ?_⟩
      rw [decide_eq_true rfl]
      exact good H2 s2
    · refine ⟨_, pss_cons (ps_if (pt_not (pt_val (pe_callB call_isiT (by rfl) B.isinstance (by decide +kernel) (pa_cons (pv 0) (pa_cons (pe_tup (pa_cons (pe_bltn (v := .ty "list") (by rfl) B.list (by decide +kernel) rfl) (pa_cons (pe_bltn (v := .ty "tuple") (by rfl) B.tuple (by decide +kernel) rfl) pa_nil))) pa_nil))))) (pss_one ps_off) pss_nil)
      (pss_cons (ps_if (pt_not (pt_val (pe_callB (cr_all rfl) (by rfl) B.all (by decide +kernel) (pa_cons (pe_lc (own := [("thing", 2)]) (g := gName 2) (te := tCallN 1 (["size"] : List Str).length spIsCell (fun vs zs => vs ++ zs) E0 (tCons (tVar 2) tNil) (tCons (tVar 1) tNil)) rfl scAre.nd (pi_tup (pv 0)) (blkOk_by (own := [("thing", 2)]) (N := nCells) (sc := defScope sAre) (by decide +kernel))
          (fun _ _ _ _ _ => pg_name (i := 2) scAre.nd rfl (Or.inl rfl)) (fun _ _ _ _ _ => pts_nil) (fun _ _ _ _ _ => by exact pe_callN (n := 1) (ks := ["size"]) GD hr (by rfl) mD kD bD pass0 (pa_cons (pv 2) pa_nil) (pk_cons (pv 1) pk_nil))) pa_nil)))) (pss_one ps_off) pss_nil)
      (pss_one (ps_ret (pe_cmpR op_eq (pe_lenSetQ (by rfl) B.len (by rfl) B.set (pv 0)) (pe_callB call_len_seq (by rfl) B.len PySem.boot_len (pa_cons (pv 0) pa_nil)) (nomark _))))), ?_⟩
      refine ⟨_, rfl, by decide, fun p hp => ?_⟩
      have s1 : Same H (upd H p (.tup [.ty "list", .ty "tuple"])) := same_new hp
      refine ⟨_, p, _, _, _, true, rfl, upd_same, .cons (.ty _) (.cons (.ty _) .nil), sqt_ty (same_sqt s1 hq), kit_seq (by simp), _, rfl, iteF ?_⟩
      refine ⟨_, rfl, a, rfl, ⟨_, same_sqt s1 hq⟩, fun D hD => ?_⟩
      refine lc_tup (K := K) (a := a) (xs := ns.map V.int) (fun i H' => Same H H' ∧ H' D = some (.lst ((ns.take i).map fun k => V.bl (decide (0 ≤ k) && decide (k ≤ n - 1))))) ⟨s1.trans (same_new hD), upd_same⟩ (fun i H' _ h => same_sqt h.1 hq) ?_ ?_
      · rintro i x H2 hx ⟨s2, hD2⟩
        rw [List.getElem?_map] at hx
        obtain ⟨k, hk, rfl⟩ : ∃ k, ns[i]? = some k ∧ x = V.int k := by
          cases e : ns[i]? with
          | none => rw [e] at hx; cases hx
          | some k => rw [e] at hx; exact ⟨k, rfl, (Option.some.inj hx).symm⟩
        refine ⟨rfl, yesT ?_⟩
        refine ⟨_, rfl, _, rfl, rfl, rfl, k, n, rfl, _, hD2, ?_, ?_, ?_⟩
        · rw [List.length_map, List.length_take]
          exact small1000 (by omega)
        · intro b o e
          have hDb : H D = none := s1.free hD
          rw [upd_ne (ne_of_none e hDb)]
          exact s2 b o e
        · rw [upd_same, List.take_succ, hk, List.map_append]
          rfl
      rintro H2 ⟨s2, hD2⟩
      rw [List.length_map, List.take_length] at hD2
      refine ⟨D, ns.map fun k => decide (0 ≤ k) && decide (k ≤ n - 1), rfl, SqL.of (by rw [hD2, List.map_map]; rfl), _, rfl, ?_⟩
      have eall : (ns.map fun k => decide (0 ≤ k) && decide (k ≤ n - 1)).all id = true := by
        refine all_true fun b hb => ?_
        obtain ⟨k, hk, rfl⟩ := List.mem_map.mp hb
        obtain ⟨h1, h2⟩ := hin k hk
        have h3 : k ≤ n - 1 := by omega
        simp [h1, h3]
      rw [eall]
      refine iteF ⟨_, rfl, a, ns, rfl, .inr (same_sqt s2 hq), by omega, fun c hc hiff => ?_⟩
      refine ⟨_, rfl, a, _, rfl, .inr (same_sqt s2 hq), ?_⟩
      rw [List.length_map]
      have ec : c = ns.length := hiff.mpr hnd
      subst ec
      refine ⟨rfl, ?_⟩
      rw [decide_eq_true rfl]
      exact good H2 s2
/-- cell_tuple of cells of this size -/
def spCells (K : PySem.W.Frag) : Sp := fun vs H Q _ => ∃ (a : Addr) (n : Int) (ns : List Int), vs = [.ref a, .int n] ∧ Sq K H a (ns.map V.int) ∧ ns.length ≤ 500 ∧ (∀ k ∈ ns, 0 ≤ k ∧ k < n) ∧ ns.Nodup ∧
  ∀ p (ms : List Int) H', H p = none → Same H H' → ms.Perm ns → ms.Pairwise (· ≤ ·) → H' p = some (.tup (ms.map V.int)) → Q (.ref p) H'
theorem scCells : FnScope ["things", "size"] ["things", "size"] (defScope sCells) := ⟨rfl, rfl, rfl, by decide +kernel, rfl, by decide +kernel, by decide +kernel⟩
theorem ok_cells {f : Addr} {fd : FuncData} (F : FunD K "cell_tuple" "cell_tuple" (defArgs sCells) (defBody sCells) (defScope sCells) [] [("size", .int 40)] f fd) (B : Bl mg)
    (D : Has P w K mg base "are_cells" 4 ["things", "size"] (spAre K)) : FnOk P w K mg base CX0 5 f fd ["things", "size"] (spCells K) := by
  obtain ⟨fD, fdD, GD, mD, kD, bD⟩ := D
  refine F.ok scCells (fun vs H Q E h => ?_) (fun cdv A outer s H vs Q E hr h => ?_)
  · obtain ⟨a, n, ns, rfl, _⟩ := h
    rfl
  · obtain ⟨a, n, ns, rfl, hq, hl, hin, hnd, good⟩ := h
    rcases id hq with hq1 | hq1
    · refine ⟨_, pss_cons (ps_if (pt_not (pt_val (pe_call GD hr (by rfl) mD kD bD .nil pass0 (pa_cons (pv 0) (pa_cons (pv 1) pa_nil))))) (pss_one ps_off) pss_nil)
      (pss_one (ps_ret (pe_callTy call_tuple_of (by rfl) B.tuple (by decide +kernel) (pa_cons (pe_callB cr_sortedI (by rfl) B.sorted (by decide +kernel) (pa_cons (pv 0) pa_nil)) pa_nil)))), ?_⟩
      refine ⟨_, rfl, _, rfl, a, n, ns, rfl, hq, hl, hin, hnd, fun H2 s2 => ⟨_, rfl, iteF ?_⟩⟩
      refine ⟨_, rfl, a, ns, rfl, same_sq s2 hq1, fun ms p2 pm pw hp2 => ?_⟩
      refine ⟨p2, _, rfl, .inl ⟨SqL.of upd_same, fun l hl2 => ?_⟩⟩
      have hl3 : H l = none := s2.free ((same_new hp2).free hl2)
      exact good l ms _ hl3 ((s2.trans (same_new hp2)).trans (same_new hl2)) pm pw upd_same
    · refine ⟨_, pss_cons (ps_if (pt_not (pt_val (pe_call GD hr (by rfl) mD kD bD .nil pass0 (pa_cons (pv 0) (pa_cons (pv 1) pa_nil))))) (pss_one ps_off) pss_nil)
      (pss_one (ps_ret (pe_callTy call_tuple_of (by rfl) B.tuple (by decide +kernel) (pa_cons (pe_callB cr_sortedTup (by rfl) B.sorted (by decide +kernel) (pa_cons (pv 0) pa_nil)) pa_nil)))), ?_⟩
      refine ⟨_, rfl, _, rfl, a, n, ns, rfl, hq, hl, hin, hnd, fun H2 s2 => ⟨_, rfl, iteF ?_⟩⟩
      refine ⟨_, rfl, a, ns, rfl, same_sqt s2 hq1, fun ms p2 pm pw hp2 => ?_⟩
      refine ⟨p2, _, rfl, .inl ⟨SqL.of upd_same, fun l hl2 => ?_⟩⟩
      have hl3 : H l = none := s2.free ((same_new hp2).free hl2)
      exact good l ms _ hl3 ((s2.trans (same_new hp2)).trans (same_new hl2)) pm pw upd_same
/-- added_cells of two tuples of cells -/
def spAdded (K : PySem.W.Frag) : Sp := fun vs H Q _ => ∃ (a b : Addr) (ns ms : List Int), vs = [.ref a, .ref b] ∧ SqT K H a (ns.map V.int) ∧ SqT K H b (ms.map V.int) ∧ ns.length ≤ 500 ∧ ms.length ≤ 500 ∧ (∀ k ∈ ns, Cell k) ∧ (∀ k ∈ ms, Cell k) ∧
  ∀ p (ks : List Int) H', H p = none → Same H H' → ks.Pairwise (· < ·) → (∀ k, k ∈ ks ↔ xor (decide (k ∈ ns)) (decide (k ∈ ms)) = true) → H' p = some (.tup (ks.map V.int)) → Q (.ref p) H'
theorem scAdded : FnScope ["one", "other"] ["one", "other"] (defScope sAdded) := ⟨rfl, rfl, rfl, by decide +kernel, rfl, by decide +kernel, by decide +kernel⟩
theorem ok_added {f : Addr} {fd : FuncData} (F : Fun K "added_cells" "added_cells" sAdded f fd) (B : Bl mg) : FnOk P w K mg base CX0 2 f fd ["one", "other"] (spAdded K) := by
  refine F.ok scAdded (fun vs H Q E h => ?_) (fun cdv A outer s H vs Q E hr h => ?_)
  · obtain ⟨a, b, ns, ms, rfl, _⟩ := h
    rfl
  · obtain ⟨a, b, ns, ms, rfl, ha, hb, l1, l2, c1, c2, out⟩ := h
    refine ⟨_, pss_one (ps_ret (pe_callTy call_tuple_of (by rfl) B.tuple (by decide +kernel) (pa_cons (pe_callB (cr_sortedSet rfl) (by rfl) B.sorted (by decide +kernel) (pa_cons (pe_op op_xorS (pe_callTy (cr_setTup rfl) (by rfl) B.set (by decide +kernel) (pa_cons (pv 0) pa_nil)) (pe_callTy (cr_setTup rfl) (by rfl) B.set (by decide +kernel) (pa_cons (pv 1) pa_nil))) pa_nil)) pa_nil))), ?_⟩
    refine ⟨_, rfl, a, ns, rfl, ha, by omega, fun p1 n1 hp1 => ?_⟩
    have s1 := same_new (o := SetO w p1 (fun j => decide (j ∈ ns)) n1) hp1
    refine ⟨_, rfl, b, ms, rfl, same_sqt s1 hb, by omega, fun p2 n2 hp2 => ?_⟩
    have s2 := same_new (o := SetO w p2 (fun j => decide (j ∈ ms)) n2) hp2
    refine ⟨p1, p2, _, _, n1, n2, rfl, rfl, s2 _ _ upd_same, upd_same, fun k hk => c1 k (of_decide_eq_true hk), fun k hk => c2 k (of_decide_eq_true hk), fun p3 c hp3 hc => ?_⟩
    have s3 := same_new (o := SetO w p3 (fun k => xor (decide (k ∈ ns)) (decide (k ∈ ms))) c) hp3
    refine ⟨p3, _, c, rfl, upd_same, by omega, fun ks p4 pw hk hlen hp4 => ?_⟩
    refine ⟨p4, _, rfl, .inl ⟨SqL.of upd_same, fun l hl => ?_⟩⟩
    have s4 := same_new (o := .lst (ks.map V.int)) hp4
    have s5 := same_new (o := .tup (ks.map V.int)) hl
    have sm := ((s1.trans s2).trans s3).trans s4
    exact out l ks _ (sm.free hl) (sm.trans s5) pw hk upd_same
end
end K12
namespace K12
open PySem PySem.Spec PyProof.Rows L2 Par
/-! ### bits -/
def upF : Nat → List Int → List Int
  | _, [] => []
  | i, b :: bs => if b = 1 then (i : Int) :: upF (i + 1) bs else upF (i + 1) bs
theorem upF_snoc : ∀ (j : Nat) (l : List Int) (b : Int), upF j (l ++ [b]) = upF j l ++ (if b = 1 then [((j + l.length : Nat) : Int)] else [])
  | j, [], b => by
    show (if b = 1 then [(j : Int)] else []) = [] ++ _
    simp
  | j, a :: l, b => by
    have h := upF_snoc (j + 1) l b
    have e : j + 1 + l.length = j + (l.length + 1) := by omega
    show (if a = 1 then (j : Int) :: upF (j + 1) (l ++ [b]) else upF (j + 1) (l ++ [b])) = (if a = 1 then (j : Int) :: upF (j + 1) l else upF (j + 1) l) ++ _
    rw [h, e, List.length_cons]
    split <;> rfl
theorem upF_step {bs : List Int} {i : Nat} {b : Int} (h : bs[i]? = some b) : upF 0 (bs.take (i + 1)) = upF 0 (bs.take i) ++ (if b = 1 then [(i : Int)] else []) := by
  have hi : i < bs.length := (List.getElem?_eq_some_iff.mp h).1
  rw [List.take_succ, h]
  show upF 0 (bs.take i ++ [b]) = _
  rw [upF_snoc, List.length_take]
  have : 0 + min i bs.length = i := by omega
  rw [this]
theorem mem_upF : ∀ (j : Nat) (bs : List Int) (k : Int), k ∈ upF j bs ↔ ∃ i : Nat, bs[i]? = some 1 ∧ k = ((j + i : Nat) : Int)
  | j, [], k => by simp [upF]
  | j, b :: bs, k => by
    have ih := mem_upF (j + 1) bs k
    unfold upF
    constructor
    · intro h
      split at h
      · rename_i hb
        rcases List.mem_cons.mp h with e | e
        · exact ⟨0, by simp [hb], by simpa using e⟩
        · obtain ⟨i, h1, h2⟩ := ih.mp e
          exact ⟨i + 1, by simpa using h1, by omega⟩
      · obtain ⟨i, h1, h2⟩ := ih.mp h
        exact ⟨i + 1, by simpa using h1, by omega⟩
    · rintro ⟨i, h1, h2⟩
      cases i with
      | zero =>
        have hb : b = 1 := by simpa using h1
        rw [if_pos hb]
        rw [h2]
        exact List.mem_cons_self ..
      | succ i =>
        have h3 : k ∈ upF (j + 1) bs := ih.mpr ⟨i, by simpa using h1, by omega⟩
        split
        · exact List.mem_cons_of_mem _ h3
        · exact h3
theorem upF_up : ∀ (j : Nat) (bs : List Int), (upF j bs).Pairwise (· < ·)
  | j, [] => List.Pairwise.nil
  | j, b :: bs => by
    unfold upF
    split
    · refine List.pairwise_cons.mpr ⟨fun k hk => ?_, upF_up (j + 1) bs⟩
      obtain ⟨i, _, e⟩ := (mem_upF (j + 1) bs k).mp hk
      omega
    · exact upF_up (j + 1) bs
theorem nodup_lt_ {l : List Int} (h : l.Pairwise (· < ·)) : l.Nodup := h.imp (fun a e => by omega)
theorem upF_in {bs : List Int} {k : Int} (h : k ∈ upF 0 bs) : 0 ≤ k ∧ k < bs.length := by
  obtain ⟨i, h1, e⟩ := (mem_upF 0 bs k).mp h
  have := (List.getElem?_eq_some_iff.mp h1).1
  omega
theorem upF_len : ∀ (j : Nat) (bs : List Int), (upF j bs).length ≤ bs.length
  | j, [] => Nat.le_refl _
  | j, b :: bs => by
    have := upF_len (j + 1) bs
    unfold upF
    split
    · simp only [List.length_cons]; omega
    · simp only [List.length_cons]; omega
/-- the bits of a board of n cells, those of S up, cell 0 too -/
def mkB (n : Nat) (S : Int → Bool) : List Int := (List.range n).map fun (i : Nat) => if (decide (i = 0) || S (i : Int)) = true then 1 else 0
def flipB (bs ns : List Int) : List Int := (List.range bs.length).map fun (i : Nat) => if decide ((i : Int) ∈ ns) = true then 1 - bs.getD i 0 else bs.getD i 0
/-- what is a board's bits: zeros and ones, the first one 1, at most 40 -/
def OkB (bs : List Int) : Prop := (∀ x ∈ bs, x = 0 ∨ x = 1) ∧ bs[0]? = some 1 ∧ bs.length ≤ 40
theorem mkB_len (n : Nat) (S : Int → Bool) : (mkB n S).length = n := by simp [mkB]
theorem flipB_len (bs ns : List Int) : (flipB bs ns).length = bs.length := by simp [flipB]
theorem mkB_ok {n : Nat} {S : Int → Bool} (h1 : 1 ≤ n) (h2 : n ≤ 40) : OkB (mkB n S) := by
  refine ⟨fun x hx => ?_, ?_, by rw [mkB_len]; exact h2⟩
  · obtain ⟨i, _, rfl⟩ := List.mem_map.mp hx
    split <;> simp
  · unfold mkB
    rw [List.getElem?_map, List.getElem?_range (by omega)]
    simp
theorem bit_at {bs : List Int} (h : OkB bs) {i : Nat} (hi : i < bs.length) : bs.getD i 0 = 0 ∨ bs.getD i 0 = 1 := by
  rw [List.getD_eq_getElem?_getD, List.getElem?_eq_getElem hi]
  exact h.1 _ (List.getElem_mem hi)
theorem up_iff {bs : List Int} (i : Nat) (hi : i < bs.length) : ((i : Int) ∈ upF 0 bs) ↔ bs.getD i 0 = 1 := by
  rw [mem_upF, List.getD_eq_getElem?_getD, List.getElem?_eq_getElem hi]
  constructor
  · rintro ⟨j, h1, h2⟩
    have : i = j := by omega
    subst this
    rw [List.getElem?_eq_getElem hi] at h1
    exact Option.some.inj h1
  · intro h
    exact ⟨i, by rw [List.getElem?_eq_getElem hi]; exact congrArg some h, by omega⟩
theorem tog_eq {bs ns : List Int} (h : OkB bs) (h0 : ∀ k ∈ ns, 1 ≤ k) {S : Int → Bool} (hS : ∀ k, S k = xor (decide (k ∈ upF 0 bs)) (decide (k ∈ ns))) : mkB bs.length S = flipB bs ns := by
  unfold mkB flipB
  refine List.map_congr_left fun i hi => ?_
  have hi2 : i < bs.length := List.mem_range.mp hi
  rw [hS]
  by_cases z : i = 0
  · subst z
    have n0 : ¬ ((0 : Nat) : Int) ∈ ns := fun q => by have := h0 _ q; omega
    have b0 : bs.getD 0 0 = 1 := by
      rw [List.getD_eq_getElem?_getD, h.2.1]
      rfl
    rw [decide_eq_false n0, b0]
    simp
  · rw [decide_eq_false z, Bool.false_or]
    by_cases u : (i : Int) ∈ upF 0 bs
    · have b1 := (up_iff i hi2).mp u
      rw [decide_eq_true u, b1]
      by_cases m : (i : Int) ∈ ns
      · rw [decide_eq_true m]; simp
      · rw [decide_eq_false m]; simp
    · have b1 : bs.getD i 0 = 0 := (bit_at h hi2).resolve_right fun q => u ((up_iff i hi2).mpr q)
      rw [decide_eq_false u, b1]
      by_cases m : (i : Int) ∈ ns
      · rw [decide_eq_true m]; simp
      · rw [decide_eq_false m]; simp
theorem flip_ok {bs ns : List Int} (h : OkB bs) (h0 : ∀ k ∈ ns, 1 ≤ k) : OkB (flipB bs ns) := by
  have hl : 1 ≤ bs.length := by
    have := (List.getElem?_eq_some_iff.mp h.2.1).1
    omega
  rw [← tog_eq h h0 (S := fun k => xor (decide (k ∈ upF 0 bs)) (decide (k ∈ ns))) (fun _ => rfl)]
  exact mkB_ok hl h.2.2
theorem flip_flip {bs ns : List Int} : flipB (flipB bs ns) ns = bs := by
  refine List.ext_getElem (by rw [flipB_len, flipB_len]) fun i h1 h2 => ?_
  have e : ∀ (cs : List Int) (h : i < (flipB cs ns).length), (flipB cs ns)[i] = if decide ((i : Int) ∈ ns) = true then 1 - cs.getD i 0 else cs.getD i 0 := fun cs h => by
    unfold flipB
    simp
  rw [e]
  have g : (flipB bs ns).getD i 0 = (flipB bs ns)[i]'(by rw [flipB_len]; exact h2) := by
    rw [List.getD_eq_getElem?_getD, List.getElem?_eq_getElem]
    rfl
  rw [g, e]
  have g2 : bs.getD i 0 = bs[i] := by
    rw [List.getD_eq_getElem?_getD, List.getElem?_eq_getElem h2]
    rfl
  rw [g2]
  split
  · omega
  · rfl
end K12
namespace K12
open PySem PySem.Spec PyProof.Rows L2 Par
theorem in_ints (x : Int) (ns : List Int) : inV (.int x) (ns.map V.int) = decide (x ∈ ns) := by
  unfold inV
  rw [List.any_map]
  rw [Bool.eq_iff_iff, List.any_eq_true, decide_eq_true_eq]
  constructor
  · rintro ⟨y, hy, e⟩
    have e2 : (y == x) = true := e
    have e3 : y = x := by simpa using e2
    exact e3 ▸ hy
  · intro h
    refine ⟨x, h, ?_⟩
    show (x == x) = true
    simp
theorem flat_ints (ns : List Int) : (ns.map V.int).all flatV = true := by
  rw [List.all_map, List.all_eq_true]
  intro x _
  rfl
theorem perm_sum : ∀ {l m : List Int}, l.Perm m → l.sum = m.sum := by
  intro l m h
  induction h with
  | nil => rfl
  | cons x _ ih => rw [List.sum_cons, List.sum_cons, ih]
  | swap x y l =>
    simp only [List.sum_cons]
    omega
  | trans _ _ h1 h2 => exact h1.trans h2
theorem no_fld {m : Str} {v : V} (h : (m == ("states" : Str)) = false) : ([("states", v)] : List (Str × V)).lookup m = none := by
  simp [List.lookup, h]
theorem fld_ {v : V} : ([("states", v)] : List (Str × V)).lookup ("states" : Str) = some v := by
  simp [List.lookup]
/-- a board at b, with these bits -/
def Bd (C : Addr) (H : Hp) (b : Addr) (bs : List Int) : Prop := ∃ dx t, H b = some (.ins C dx [("states", .ref t)]) ∧ H t = some (.tup (bs.map V.int))
theorem Bd.same {C : Addr} {H H' : Hp} {b : Addr} {bs : List Int} (s : Same H H') (h : Bd C H b bs) : Bd C H' b bs := by
  obtain ⟨dx, t, h1, h2⟩ := h
  exact ⟨dx, t, s _ _ h1, s _ _ h2⟩
theorem Bd.but {C p : Addr} {H H' : Hp} {b : Addr} {bs : List Int} (hp : PotAt H p) (s : But p H H') (h : Bd C H b bs) : Bd C H' b bs := by
  obtain ⟨dx, t, h1, h2⟩ := h
  obtain ⟨x, y, e, _⟩ := hp
  have n1 : b ≠ p := fun z => by rw [z, e] at h1; cases h1
  have n2 : t ≠ p := fun z => by rw [z, e] at h2; cases h2
  exact ⟨dx, t, s _ _ n1 h1, s _ _ n2 h2⟩
structure BC (K : PySem.W.Frag) (mg : Str → Option Value) (C : Addr) : Prop where
  cl : Cls K C
  nS : NoAttr K C "states"
  mgC : mg "Board" = some (.ref C)
section
variable {P : Program} {w : World} {K : PySem.W.Frag} {mg : Str → Option Value} {base : Heap}
/-- a method that is called by places -/
def HasM (P : Program) (w : World) (K : PySem.W.Frag) (mg : Str → Option Value) (base : Heap) (C : Addr) (m : Str) (lv : Nat) (ps : List Str) (sp : Sp) : Prop :=
  ∃ f fd, FnOk P w K mg base CX0 lv f fd ps sp ∧ Meth K C m f ∧ Binds K fd ps []
/-- len(self.states) -/
def spSize (C : Addr) : Sp := fun vs H Q _ => ∃ (b : Addr) (bs : List Int), vs = [.ref b] ∧ Bd C H b bs ∧ Q (.int (bs.length : Nat)) H
theorem scSize : FnScope ["self"] ["self"] (defScope mSize) := ⟨rfl, rfl, rfl, by decide +kernel, rfl, by decide +kernel, by decide +kernel⟩
theorem scLen : FnScope ["self"] ["self"] (defScope mLen) := ⟨rfl, rfl, rfl, by decide +kernel, rfl, by decide +kernel, by decide +kernel⟩
theorem ok_size {f C : Addr} {fd : FuncData} (F : Fun K "size" "Board.size" mSize f fd) (B : Bl mg) (T : BC K mg C) : FnOk P w K mg base CX0 2 f fd ["self"] (spSize C) := by
  refine F.ok scSize (fun vs H Q E h => ?_) (fun cdv A outer s H vs Q E hr h => ?_)
  · obtain ⟨b, bs, rfl, _⟩ := h
    rfl
  · obtain ⟨b, bs, rfl, ⟨dx, t, h1, h2⟩, out⟩ := h
    refine ⟨_, pss_one (ps_ret (pe_callB call_len_seq (by rfl) B.len PySem.boot_len (pa_cons (pe_fld (pv 0) rfl) pa_nil))), ?_⟩
    refine ⟨_, rfl, b, C, dx, _, _, rfl, h1, T.cl, T.nS, fld_, t, _, rfl, .inr (SqT.of h2), ?_⟩
    rw [List.length_map]
    exact out
theorem ok_len {f C : Addr} {fd : FuncData} (F : Fun K "__len__" "Board.__len__" mLen f fd) (B : Bl mg) (T : BC K mg C) : FnOk P w K mg base CX0 2 f fd ["self"] (spSize C) := by
  refine F.ok scLen (fun vs H Q E h => ?_) (fun cdv A outer s H vs Q E hr h => ?_)
  · obtain ⟨b, bs, rfl, _⟩ := h
    rfl
  · obtain ⟨b, bs, rfl, ⟨dx, t, h1, h2⟩, out⟩ := h
    refine ⟨_, pss_one (ps_ret (pe_callB call_len_seq (by rfl) B.len PySem.boot_len (pa_cons (pe_fld (pv 0) rfl) pa_nil))), ?_⟩
    refine ⟨_, rfl, b, C, dx, _, _, rfl, h1, T.cl, T.nS, fld_, t, _, rfl, .inr (SqT.of h2), ?_⟩
    rw [List.length_map]
    exact out
/-- up -/
def spUps (C : Addr) : Sp := fun vs H Q _ => ∃ (b : Addr) (bs : List Int), vs = [.ref b] ∧ Bd C H b bs ∧ bs.length ≤ 40 ∧ ∀ p H', H p = none → Same H H' → H' p = some (.tup ((upF 0 bs).map V.int)) → Q (.ref p) H'
abbrev nUps : List Str := ["self", "cell", "state"]
theorem scUps : FnScope nUps ["self"] (defScope mUps) := ⟨rfl, rfl, rfl, by decide +kernel, rfl, by decide +kernel, by decide +kernel⟩
theorem ok_ups {f C : Addr} {fd : FuncData} (F : Fun K "up" "Board.up" mUps f fd) (B : Bl mg) (T : BC K mg C) : FnOk P w K mg base CX0 2 f fd ["self"] (spUps C) := by
  refine F.ok scUps (fun vs H Q E h => ?_) (fun cdv A outer s H vs Q E hr h => ?_)
  · obtain ⟨b, bs, rfl, _⟩ := h
    rfl
  · obtain ⟨b, bs, rfl, ⟨dx, t, h1, h2⟩, hl, out⟩ := h
    refine ⟨_, pss_one (ps_ret (pe_callTy call_tuple_of (by rfl) B.tuple (by decide +kernel) (pa_cons (pe_lc (own := [("cell", 1), ("state", 2)]) (g := gTup K 2 (gCons (gName 1) (gCons (gName 2) gNil))) rfl scUps.nd (pi_enumT (by rfl) B.enumerate (pa_cons (pe_fld (pv 0) rfl) pa_nil)) (blkOk_by (own := [("cell", 1), ("state", 2)]) (N := nUps) (sc := defScope mUps) (by decide +kernel))
        (fun _ _ _ _ _ => by exact pg_tup rfl (pgs_cons (pg_name (i := 1) scUps.nd rfl (Or.inl rfl)) (pgs_cons (pg_name (i := 2) scUps.nd rfl (Or.inl rfl)) pgs_nil)))
        (fun _ _ _ _ _ => pts_one (pt_cmpR op_eq (pv 2) pe_int (nomark _))) (fun _ _ _ _ _ => pv 1)) pa_nil))), ?_⟩
    refine ⟨_, rfl, b, C, dx, _, _, rfl, h1, T.cl, T.nS, fld_, t, _, rfl, SqT.of h2, fun D hD => ?_⟩
    refine lc_it walk_enumT (fun i H' => Same H H' ∧ H' D = some (.lst ((upF 0 (bs.take i)).map V.int))) ⟨same_new hD, upd_same⟩ (fun i H' _ h => SqT.of (h.1 _ _ h2)) ?_ ?_
    · rintro i x H3 H4 hi ⟨s3, hD3⟩ ⟨T1, x1, y1, rfl, hT, rfl, ex, ey⟩
      have hi2 : i < bs.length := by rw [List.length_map] at hi; exact hi
      have hbi : bs[i]? = some bs[i] := List.getElem?_eq_getElem hi2
      have ey2 : y1 = .int bs[i] := by
        have ey' : (bs.map V.int)[i]? = some y1 := ey
        rw [List.getElem?_map, hbi] at ey'
        exact (Option.some.inj ey').symm
      have ex2 : x1 = .int (i : Nat) := (Option.some.inj ex).symm
      subst ey2 ex2
      have s4 : Same H (upd H3 T1 (.tup [.int (i : Nat), .int bs[i]])) := s3.trans (same_new hT)
      have hD4 := (same_new (o := .tup [.int (i : Nat), .int bs[i]]) hT) _ _ hD3
      have st := upF_step hbi
      refine ⟨T1, _, rfl, SqT.of upd_same, rfl, _, _, rfl, _, _, rfl, rfl, rfl, _, rfl, rfl, _, rfl, ite2 (fun hb => ?_) (fun hb => ?_)⟩
      · have hb1 : bs[i] = 1 := by
          have := of_decide_eq_true hb
          injection this
        refine ⟨_, rfl, _, hD4, ?_, ?_, ?_⟩
        · have := upF_len 0 (bs.take i)
          rw [List.length_take] at this
          rw [List.length_map]
          exact small1000 (by omega)
        · intro z o e
          have hDH : H D = none := hD
          rw [upd_ne (ne_of_none e hDH)]
          exact s4 z o e
        · rw [upd_same, st, if_pos hb1, List.map_append]
          rfl
      · have hb1 : ¬ bs[i] = 1 := fun z => hb (decide_eq_true (by rw [z]))
        refine ⟨s4, ?_⟩
        rw [st, if_neg hb1, List.append_nil]
        exact hD4
    · rintro H3 ⟨s3, hD3⟩
      rw [List.length_map, List.take_length] at hD3
      refine ⟨D, _, rfl, .inl ⟨SqL.of hD3, fun l hl2 => ?_⟩⟩
      exact out l _ (s3.free hl2) (s3.trans (same_new hl2)) upd_same
/-- is_up -/
def spIsUp (C : Addr) : Sp := fun vs H Q _ => ∃ (b : Addr) (bs : List Int) (k : Nat), vs = [.ref b, .int (k : Nat)] ∧ Bd C H b bs ∧ k < bs.length ∧ Q (.bl (decide (bs.getD k 0 = 1))) H
theorem scIsUp : FnScope ["self", "cell"] ["self", "cell"] (defScope mIsUp) := ⟨rfl, rfl, rfl, by decide +kernel, rfl, by decide +kernel, by decide +kernel⟩
theorem ok_isup {f C : Addr} {fd : FuncData} (F : Fun K "is_up" "Board.is_up" mIsUp f fd) (B : Bl mg) (T : BC K mg C) (DS : HasM P w K mg base C "size" 2 ["self"] (spSize C)) (DC : HasN P w K mg base "is_cell" 3 "thing" spIsCell) :
    FnOk P w K mg base CX0 4 f fd ["self", "cell"] (spIsUp C) := by
  obtain ⟨fS, fdS, GS, mS, bS⟩ := DS
  obtain ⟨fD, fdD, GD, mD, kD, bD⟩ := DC
  refine F.ok scIsUp (fun vs H Q E h => ?_) (fun cdv A outer s H vs Q E hr h => ?_)
  · obtain ⟨b, bs, k, rfl, _⟩ := h
    rfl
  · obtain ⟨b, bs, k, rfl, hB, hk, out⟩ := h
    obtain ⟨dx, t, h1, h2⟩ := id hB
    have r1 : Room 2 _ := hr.mono (by decide)
    refine ⟨_, pss_cons (ps_if (pt_not (pt_val (pe_callN (n := 1) (ks := ["size"]) GD hr (by rfl) mD kD bD pass0 (pa_cons (pv 1) pa_nil) (pk_cons (pe_meth0 (pv 0) T.cl mS GS r1 bS .nil pass0) pk_nil)))) (pss_one ps_off) pss_nil)
      (pss_one (ps_ret (pe_cmpR op_eq (pe_ix ix_tup (pe_fld (pv 0) rfl) (pv 1) (fun _ _ => rfl)) pe_int (nomark _)))), ?_⟩
    refine ⟨_, rfl, _, rfl, b, dx, _, rfl, h1, no_fld (by decide +kernel), b, bs, rfl, hB, rfl, rfl, (k : Nat), (bs.length : Nat), rfl, _, rfl, ?_⟩
    have e1 : decide ((0 : Int) ≤ (k : Nat)) = true := decide_eq_true (by omega)
    have e2 : decide (((k : Nat) : Int) ≤ ((bs.length : Nat) : Int) - 1) = true := decide_eq_true (by omega)
    rw [e1, e2]
    refine iteF ?_
    refine ⟨_, rfl, b, C, dx, _, _, rfl, h1, T.cl, T.nS, fld_, _, rfl, t, _, _, .int bs[k], rfl, rfl, SqT.of h2, atI_nat (by simp [hk]), rfl, ?_⟩
    have e3 : decide (bs.getD k 0 = 1) = decide (V.int bs[k] = V.int 1) := by
      rw [List.getD_eq_getElem?_getD, List.getElem?_eq_getElem hk]
      show decide (bs[k] = 1) = decide (V.int bs[k] = V.int 1)
      by_cases z : bs[k] = 1
      · rw [decide_eq_true z, decide_eq_true (by rw [z])]
      · rw [decide_eq_false z, decide_eq_false (fun q => z (by injection q))]
    rw [e3] at out
    exact out
/-- parity -/
def spPar (K : PySem.W.Frag) (C : Addr) : Sp := fun vs H Q _ => ∃ (b a : Addr) (bs ns : List Int), vs = [.ref b, .ref a] ∧ Bd C H b bs ∧ Sq K H a (ns.map V.int) ∧ ns.length ≤ 500 ∧ (∀ k ∈ ns, 0 ≤ k ∧ k < bs.length) ∧ ns.Nodup ∧
  ∀ H', Same H H' → Q (.int ((ns.map fun k => bs.getD k.toNat 0).sum % 2)) H'
abbrev nPar : List Str := ["self", "cells", "chosen", "cell"]
theorem scPar : FnScope nPar ["self", "cells"] (defScope mPar) := ⟨rfl, rfl, rfl, by decide +kernel, rfl, by decide +kernel, by decide +kernel⟩
theorem ok_par {f C : Addr} {fd : FuncData} (F : Fun K "parity" "Board.parity" mPar f fd) (B : Bl mg) (T : BC K mg C) (DS : HasM P w K mg base C "size" 2 ["self"] (spSize C)) (DC : HasN P w K mg base "cell_tuple" 5 "things" (spCells K)) :
    FnOk P w K mg base CX0 6 f fd ["self", "cells"] (spPar K C) := by
  obtain ⟨fS, fdS, GS, mS, bS⟩ := DS
  obtain ⟨fD, fdD, GD, mD, kD, bD⟩ := DC
  refine F.ok scPar (fun vs H Q E h => ?_) (fun cdv A outer s H vs Q E hr h => ?_)
  · obtain ⟨b, a, bs, ns, rfl, _⟩ := h
    rfl
  · obtain ⟨b, a, bs, ns, rfl, hB, hq, hl, hin, hnd, out⟩ := h
    obtain ⟨dx, t, h1, h2⟩ := id hB
    have r1 : Room 2 _ := hr.mono (by decide)
    refine ⟨_, pss_cons (ps_set (i := 2) scPar.nd rfl (Or.inl rfl) (pe_callN (n := 1) (ks := ["size"]) GD hr (by rfl) mD kD bD pass0 (pa_cons (pv 1) pa_nil) (pk_cons (pe_meth0 (pv 0) T.cl mS GS r1 bS .nil pass0) pk_nil)))
      (pss_one (ps_ret (pe_op op_mod (pe_callB (cr_sum rfl) (by rfl) B.sum (by decide +kernel) (pa_cons (pe_lc (own := [("cell", 3)]) (g := gName 3) (te := tOp (rIxT K) (tFld K (tVar 0) "states") (tVar 3)) rfl scPar.nd (pi_tup (pv 2)) (blkOk_by (own := [("cell", 3)]) (N := nPar) (sc := defScope mPar) (by decide +kernel))
        (fun _ _ _ _ _ => pg_name (i := 3) scPar.nd rfl (Or.inl rfl)) (fun _ _ _ _ _ => pts_nil) (fun _ _ _ _ _ => by exact pe_ix ix_tup (pe_fld (pv 0) rfl) (pv 3) (fun _ _ => rfl))) pa_nil)) pe_int))), ?_⟩
    refine ⟨_, rfl, _, rfl, b, dx, _, rfl, h1, no_fld (by decide +kernel), b, bs, rfl, hB, rfl, rfl, a, (bs.length : Nat), ns, rfl, hq, hl, hin, hnd, ?_⟩
    intro p ms H1 hp s1 pm pw hp1
    refine ⟨_, rfl, p, rfl, ⟨_, SqT.of hp1⟩, fun D hD => ?_⟩
    have hDH : H D = none := s1.free hD
    refine lc_tup (K := K) (a := p) (xs := ms.map V.int) (fun i H' => Same H1 H' ∧ H' D = some (.lst (((ms.take i).map fun k => bs.getD k.toNat 0).map V.int))) ⟨same_new hD, upd_same⟩ (fun i H' _ h => SqT.of (h.1 _ _ hp1)) ?_ ?_
    · rintro i x H2 hx ⟨s2, hD2⟩
      rw [List.getElem?_map] at hx
      obtain ⟨k, hk, rfl⟩ : ∃ k, ms[i]? = some k ∧ x = V.int k := by
        cases e : ms[i]? with
        | none => rw [e] at hx; cases hx
        | some k => rw [e] at hx; exact ⟨k, rfl, (Option.some.inj hx).symm⟩
      obtain ⟨k0, k1⟩ := hin k (pm.mem_iff.mp (List.mem_of_getElem? hk))
      have kl : k.toNat < bs.length := by omega
      have ek : k = ((k.toNat : Nat) : Int) := by omega
      have hat : atI (bs.map V.int) k = some (.int bs[k.toNat]) := by
        have z : atI (bs.map V.int) ((k.toNat : Nat) : Int) = some (.int bs[k.toNat]) := atI_nat (by simp [kl])
        rwa [Int.toNat_of_nonneg k0] at z
      have s12 : Same H H2 := s1.trans s2
      refine ⟨rfl, yesT ?_⟩
      refine ⟨_, rfl, b, C, dx, _, _, rfl, s12 _ _ h1, T.cl, T.nS, fld_, _, rfl, t, _, _, .int bs[k.toNat], rfl, rfl, SqT.of (s12 _ _ h2), hat, ?_⟩
      refine ⟨_, hD2, ?_, ?_, ?_⟩
      · rw [List.length_map, List.length_map, List.length_take, pm.length_eq]
        exact small1000 (by omega)
      · intro z o e
        rw [upd_ne (ne_of_none e hD)]
        exact s2 z o e
      · rw [upd_same, List.take_succ, hk, List.map_append, List.map_append]
        show some (HO.lst (_ ++ [V.int bs[k.toNat]])) = some (HO.lst (_ ++ [V.int (bs.getD k.toNat 0)]))
        rw [List.getD_eq_getElem?_getD, List.getElem?_eq_getElem kl]
        rfl
    · rintro H2 ⟨s2, hD2⟩
      rw [List.length_map, List.take_length] at hD2
      refine ⟨D, _, rfl, SqL.of hD2, _, _, rfl, rfl, (by show (0 : Int) < 2; decide), ?_⟩
      have es : (ms.map fun k => bs.getD k.toNat 0).sum = (ns.map fun k => bs.getD k.toNat 0).sum := perm_sum (pm.map _)
      have := out H2 (s1.trans s2)
      rw [← es] at this
      exact this
end
end K12
namespace K12
open PySem PySem.Spec PyProof.Rows L2 Par
section
variable {P : Program} {w : World} {K : PySem.W.Frag} {mg : Str → Option Value} {base : Heap}
/-- __init__ -/
def spInit (K : PySem.W.Frag) (C : Addr) : Sp := fun vs H Q _ => ∃ (b dx u : Addr) (n : Nat) (ns : List Int), vs = [.ref b, .int (n : Nat), .ref u] ∧ H b = some (.ins C dx []) ∧ Sq K H u (ns.map V.int) ∧ ns.length ≤ 500 ∧ 1 ≤ n ∧ n ≤ 40 ∧
  (∀ k ∈ ns, 0 ≤ k ∧ k < (n : Nat)) ∧ ns.Nodup ∧
  ∀ H' t, But b H H' → H' b = some (.ins C dx [("states", .ref t)]) → H' t = some (.tup ((mkB n fun k => decide (k ∈ ns)).map V.int)) → Q .non H'
abbrev nInit : List Str := ["self", "size", "up", "raised", "cell"]
theorem scInit : FnScope nInit ["self", "size", "up"] (defScope mInit) := ⟨rfl, rfl, rfl, by decide +kernel, rfl, by decide +kernel, by decide +kernel⟩
theorem ok_init {f C e : Addr} {fd : FuncData} (F : FunD K "__init__" "Board.__init__" (defArgs mInit) (defBody mInit) (defScope mInit) [] [("up", .ref e)] f fd) (B : Bl mg) (T : BC K mg C)
    (DZ : Has P w K mg base "is_size" 3 ["thing"] spIsSize) (DC : HasN P w K mg base "cell_tuple" 5 "things" (spCells K)) : FnOk P w K mg base CX0 6 f fd ["self", "size", "up"] (spInit K C) := by
  obtain ⟨fZ, fdZ, GZ, mZ, kZ, bZ⟩ := DZ
  obtain ⟨fD, fdD, GD, mD, kD, bD⟩ := DC
  refine F.ok scInit (fun vs H Q E h => ?_) (fun cdv A outer s H vs Q E hr h => ?_)
  · obtain ⟨b, dx, u, n, ns, rfl, _⟩ := h
    rfl
  · obtain ⟨b, dx, u, n, ns, rfl, hb, hq, hl, n1, n2, hin, hnd, out⟩ := h
    have r2 : Room 3 _ := hr.mono (by decide)
    refine ⟨_, pss_cons (ps_if (pt_not (pt_val (pe_call GZ r2 (by rfl) mZ kZ bZ .nil pass0 (pa_cons (pv 1) pa_nil)))) (pss_one ps_off) pss_nil)
      (pss_cons (ps_set (i := 3) scInit.nd rfl (Or.inr rfl) (pe_callN (n := 1) (ks := ["size"]) GD hr (by rfl) mD kD bD pass0 (pa_cons (pv 2) pa_nil) (pk_cons (pv 1) pk_nil)))
      (pss_one (ps_fld (pv 0) (pe_callTy call_tuple_of (by rfl) B.tuple (by decide +kernel) (pa_cons (pe_lc (own := [("cell", 4)]) (g := gName 4) (te := tIf (tOr (tTest (tOp rEq (tVar 4) (tC (.int 0)))) (tTest (tOp (rIn K false) (tVar 4) (tVar 3)))) (tC (.int 1)) (tC (.int 0))) rfl scInit.nd (pi_range1 (by rfl) B.range (pa_cons (pv 1) pa_nil)) (blkOk_by (own := [("cell", 4)]) (N := nInit) (sc := defScope mInit) (by decide +kernel))
        (fun _ _ _ _ _ => pg_name (i := 4) scInit.nd rfl (Or.inl rfl)) (fun _ _ _ _ _ => pts_nil)
        (fun _ _ _ _ _ => by exact pe_ifExp (PW.pt (pw_or (pt_cmpR op_eq (pv 4) pe_int (nomark _)) (pw_or1 (pt_cmpR op_in_seq (pv 4) (pv 3) (by rfl))))) pe_int pe_int)) pa_nil)) rfl))), ?_⟩
    refine ⟨_, rfl, (n : Nat), rfl, _, rfl, ?_⟩
    have e1 : decide ((1 : Int) ≤ (n : Nat)) = true := decide_eq_true (by omega)
    have e2 : decide (((n : Nat) : Int) ≤ 40) = true := decide_eq_true (by omega)
    rw [e1, e2]
    refine iteF ?_
    refine ⟨_, rfl, _, rfl, rfl, rfl, u, (n : Nat), ns, rfl, hq, hl, hin, hnd, ?_⟩
    intro p ms H1 hp s1 pm pw hp1
    refine ⟨_, rfl, _, rfl, by omega, by omega, fun D hD => ?_⟩
    rw [Int.toNat_natCast]
    have hms : ∀ k : Int, decide (k ∈ ms) = decide (k ∈ ns) := fun k => by
      by_cases z : k ∈ ns
      · rw [decide_eq_true z, decide_eq_true (pm.mem_iff.mpr z)]
      · rw [decide_eq_false z, decide_eq_false (fun q => z (pm.mem_iff.mp q))]
    refine lc_range (lo := 0) (n := n) (fun i H' => Same H1 H' ∧ H' D = some (.lst ((mkB i fun k => decide (k ∈ ns)).map V.int))) ⟨same_new hD, upd_same⟩ ?_ ?_
    · rintro i H2 hi ⟨s2, hD2⟩
      have e0 : (0 : Int) + (i : Nat) = (i : Nat) := by omega
      rw [e0]
      have step : ∀ x : Int, (if (decide (i = 0) || decide ((i : Int) ∈ ns)) = true then (1 : Int) else 0) = x → ∃ acc, H2 D = some (.lst acc) ∧ acc.length < sizeLine ∧
          Same H1 (upd H2 D (.lst (acc ++ [V.int x]))) ∧ (upd H2 D (.lst (acc ++ [V.int x]))) D = some (.lst ((mkB (i + 1) fun k => decide (k ∈ ns)).map V.int)) := by
        intro x hx
        refine ⟨_, hD2, by rw [List.length_map, mkB_len]; exact small1000 (by omega), ?_, ?_⟩
        · intro z o e
          rw [upd_ne (ne_of_none e hD)]
          exact s2 z o e
        · rw [upd_same]
          unfold mkB
          rw [List.range_succ, List.map_append, List.map_append]
          show some (HO.lst (_ ++ [V.int x])) = some (HO.lst (_ ++ [V.int (if (decide (i = 0) || decide ((i : Int) ∈ ns)) = true then (1 : Int) else 0)]))
          rw [hx]
      refine ⟨rfl, yesT ?_⟩
      refine ⟨_, rfl, rfl, _, rfl, ite2 (fun hz => iteT ?_) (fun hz => ?_)⟩
      · have hz1 : i = 0 := by
          have z := of_decide_eq_true hz
          have z2 : ((i : Nat) : Int) = 0 := by injection z
          omega
        exact step 1 (by rw [decide_eq_true hz1]; rfl)
      · have hz1 : ¬ i = 0 := fun z => hz (decide_eq_true (by rw [z]; rfl))
        refine ⟨_, rfl, _, rfl, p, _, rfl, .inr (SqT.of (s2 _ _ hp1)), rfl, flat_ints _, _, rfl, ?_⟩
        show if inV (V.int ((i : Nat) : Int)) (ms.map V.int) = true then _ else _
        rw [in_ints, hms]
        by_cases hm : ((i : Nat) : Int) ∈ ns
        · rw [decide_eq_true hm]
          exact iteT (step 1 (by rw [decide_eq_true hm, Bool.or_true]; rfl))
        · rw [decide_eq_false hm]
          exact iteF (step 0 (by rw [decide_eq_false hm, decide_eq_false hz1]; rfl))
    · rintro H2 ⟨s2, hD2⟩
      refine ⟨D, _, rfl, .inl ⟨SqL.of hD2, fun t ht => ?_⟩⟩
      have s3 := same_new (o := .tup ((mkB n fun k => decide (k ∈ ns)).map V.int)) ht
      have s123 : Same H _ := (s1.trans s2).trans s3
      have nb : t ≠ b := fun z => by
        have := (s1.trans s2) _ _ hb
        rw [← z, ht] at this
        cases this
      refine ⟨_, rfl, b, C, dx, [], rfl, s123 _ _ hb, T.cl, T.nS, (by show 0 < 1000; decide), ?_⟩
      refine out _ t (fun x o nx e => ?_) upd_same ?_
      · rw [upd_ne nx]
        exact s123 _ _ e
      · rw [upd_ne nb, upd_same]
/-- Board as a class whose __init__ keeps its promise -/
def HasIni (P : Program) (w : World) (K : PySem.W.Frag) (mg : Str → Option Value) (base : Heap) (C : Addr) : Prop :=
  ∃ f fd, FnOk P w K mg base CX0 6 f fd ["self", "size", "up"] (spInit K C) ∧ Mk K C f ∧ KBn K fd ["self", "size", "up"] 2 ["up"] (fun us ws => us ++ ws) (fun vs zs => vs ++ zs) ∧
    KBn K fd ["self", "size", "up"] 1 ["size", "up"] (fun us ws => us ++ ws) (fun vs zs => vs ++ zs) ∧ ∃ (e : Addr) (ds : List Value), (∀ H, SqT K H e []) ∧ Vals [V.ref e] ds ∧ Binds K fd ["self", "size", "up"] ds
/-- what Board(..) leads to -/
theorem made_board {C : Addr} {H : Hp} {n : Nat} {u : Addr} {ns : List Int} {W : Addr → Hp → Prop} (hq : Sq K H u (ns.map V.int)) (hl : ns.length ≤ 500) (n1 : 1 ≤ n) (n2 : n ≤ 40) (hin : ∀ k ∈ ns, 0 ≤ k ∧ k < (n : Nat)) (hnd : ns.Nodup)
    (out : ∀ x H', H x = none → Same H H' → Bd C H' x (mkB n fun k => decide (k ∈ ns)) → W x H') :
    ∀ x dx, H x = none → H dx = none → dx ≠ x → spInit K C [.ref x, .int (n : Nat), .ref u] (upd (upd H dx (.own x)) x (.ins C dx [])) (fun v H3 => v = .non ∧ W x H3) (fun _ _ _ => False) := by
  intro x dx hx hdx ne
  have s1 : Same H (upd (upd H dx (.own x)) x (.ins C dx [])) := fun z o e => by
    rw [upd_ne (ne_of_none e hx), upd_ne (ne_of_none e hdx)]
    exact e
  refine ⟨x, dx, u, n, ns, rfl, upd_same, hq.same s1, hl, n1, n2, hin, hnd, fun H' t bt h1 h2 => ⟨rfl, ?_⟩⟩
  refine out x H' hx (fun z o e => ?_) ⟨dx, t, h1, h2⟩
  exact bt z o (ne_of_none e hx) (s1 z o e)
/-- toggled -/
def spTog (K : PySem.W.Frag) (C : Addr) : Sp := fun vs H Q _ => ∃ (b a : Addr) (bs ns : List Int), vs = [.ref b, .ref a] ∧ Bd C H b bs ∧ OkB bs ∧ Sq K H a (ns.map V.int) ∧ ns.length ≤ 500 ∧ (∀ k ∈ ns, 1 ≤ k ∧ k < bs.length) ∧ ns.Nodup ∧
  ∀ q H', H q = none → Same H H' → Bd C H' q (flipB bs ns) → Q (.ref q) H'
abbrev nTog : List Str := ["self", "cells", "changed"]
theorem scTog : FnScope nTog ["self", "cells"] (defScope mTog) := ⟨rfl, rfl, rfl, by decide +kernel, rfl, by decide +kernel, by decide +kernel⟩
theorem ok_tog {f C : Addr} {fd : FuncData} (F : Fun K "toggled" "Board.toggled" mTog f fd) (B : Bl mg) (T : BC K mg C) (DS : HasM P w K mg base C "size" 2 ["self"] (spSize C)) (DU : HasM P w K mg base C "up" 2 ["self"] (spUps C))
    (DC : HasN P w K mg base "cell_tuple" 5 "things" (spCells K)) (DA : Has P w K mg base "added_cells" 2 ["one", "other"] (spAdded K)) (DI : HasIni P w K mg base C) :
    FnOk P w K mg base CX0 8 f fd ["self", "cells"] (spTog K C) := by
  obtain ⟨fS, fdS, GS, mS, bS⟩ := DS
  obtain ⟨fU, fdU, GU, mU, bU⟩ := DU
  obtain ⟨fD, fdD, GD, mD, kD, bD⟩ := DC
  obtain ⟨fA, fdA, GA, mA, kA, bA⟩ := DA
  obtain ⟨fI, fdI, GI, MI, kb2, _⟩ := DI
  refine F.ok scTog (fun vs H Q E h => ?_) (fun cdv A outer s H vs Q E hr h => ?_)
  · obtain ⟨b, a, bs, ns, rfl, _⟩ := h
    rfl
  · obtain ⟨b, a, bs, ns, rfl, hB, hO, hq, hl, hin, hnd, out⟩ := h
    obtain ⟨dx, t, h1, h2⟩ := id hB
    have r1 : Room 2 _ := hr.mono (by decide)
    have r3 : Room 5 _ := hr.mono (by decide)
    refine ⟨_, pss_cons (ps_set (i := 2) scTog.nd rfl (Or.inl rfl) (pe_callN (n := 1) (ks := ["size"]) GD r3 (by rfl) mD kD bD pass0 (pa_cons (pv 1) pa_nil) (pk_cons (pe_meth0 (pv 0) T.cl mS GS r1 bS .nil pass0) pk_nil)))
      (pss_cons (ps_if (pt_cmpR op_in_seq pe_int (pv 2) (by rfl)) (pss_one ps_off) pss_nil)
      (pss_one (ps_ret (pe_makeN (n := 1) (ks := ["up"]) (E := E0) MI GI hr (by rfl) T.mgC kb2 pass0 (pa_cons (pe_meth0 (pv 0) T.cl mS GS r1 bS .nil pass0) pa_nil) (pk_cons (pe_call GA r1 (by rfl) mA kA bA .nil pass0 (pa_cons (pe_meth0 (pv 0) T.cl mU GU r1 bU .nil pass0) (pa_cons (pv 2) pa_nil))) pk_nil))))), ?_⟩
    have hin0 : ∀ k ∈ ns, 0 ≤ k ∧ k < ((bs.length : Nat) : Int) := fun k hk => by
      have := hin k hk
      omega
    refine ⟨_, rfl, _, rfl, b, dx, _, rfl, h1, no_fld (by decide +kernel), b, bs, rfl, hB, rfl, rfl, a, (bs.length : Nat), ns, rfl, hq, hl, hin0, hnd, ?_⟩
    intro p ms H1 hp s1 pm pw hp1
    refine ⟨_, rfl, p, _, rfl, .inr (SqT.of hp1), rfl, flat_ints _, _, rfl, ?_⟩
    have h0 : ¬ (0 : Int) ∈ ms := fun z => by
      have := hin 0 (pm.mem_iff.mp z)
      omega
    show if inV (V.int 0) (ms.map V.int) = true then _ else _
    rw [in_ints, decide_eq_false h0]
    refine iteF ?_
    have hB1 := hB.same s1
    refine ⟨_, rfl, b, dx, _, rfl, s1 _ _ h1, no_fld (by decide +kernel), b, bs, rfl, hB1, ?_⟩
    refine ⟨_, rfl, b, dx, _, rfl, s1 _ _ h1, no_fld (by decide +kernel), b, bs, rfl, hB1, hO.2.2, ?_⟩
    intro p2 H2 hp2 s2 hup
    refine ⟨_, rfl, p2, p, upF 0 bs, ms, rfl, SqT.of hup, SqT.of (s2 _ _ hp1), ?_, ?_, ?_, ?_, ?_⟩
    · have := upF_len 0 bs
      have := hO.2.2
      omega
    · rw [pm.length_eq]
      exact hl
    · intro k hk
      have := upF_in hk
      have := hO.2.2
      exact ⟨by omega, by omega⟩
    · intro k hk
      have := hin k (pm.mem_iff.mp hk)
      have := hO.2.2
      exact ⟨by omega, by omega⟩
    intro p3 ks H3 hp3 s3 pk hks hp3'
    have hlen1 : 1 ≤ bs.length := by
      have := (List.getElem?_eq_some_iff.mp hO.2.1).1
      omega
    have hinks : ∀ k ∈ ks, 0 ≤ k ∧ k < ((bs.length : Nat) : Int) := fun k hk => by
      have z := (hks k).mp hk
      by_cases u : k ∈ upF 0 bs
      · exact upF_in u
      · rw [decide_eq_false u] at z
        have z2 : k ∈ ms := by simpa using z
        exact hin0 k (pm.mem_iff.mp z2)
    have hlks : ks.length ≤ 40 := cells_few (nodup_lt_ pk) fun k hk => by
      have := hinks k hk
      have := hO.2.2
      exact ⟨by omega, by omega⟩
    refine ⟨rfl, rfl, made_board (n := bs.length) (ns := ks) (.inr (SqT.of hp3')) (by omega) hlen1 hO.2.2 hinks (nodup_lt_ pk) fun x H' hx sx hb => ?_⟩
    have s123 := (s1.trans s2).trans s3
    refine out x H' (s123.free hx) (s123.trans sx) ?_
    have e := tog_eq (bs := bs) (ns := ns) hO (fun k hk => (hin k hk).1) (S := fun k => decide (k ∈ ks)) (fun k => by
      have z := hks k
      have em : decide (k ∈ ms) = decide (k ∈ ns) := by
        by_cases q : k ∈ ns
        · rw [decide_eq_true q, decide_eq_true (pm.mem_iff.mpr q)]
        · rw [decide_eq_false q, decide_eq_false (fun y => q (pm.mem_iff.mp y))]
      rw [← em]
      by_cases q : k ∈ ks
      · rw [decide_eq_true q]
        exact (z.mp q).symm
      · rw [decide_eq_false q]
        cases y : xor (decide (k ∈ upF 0 bs)) (decide (k ∈ ms)) with
        | false => rfl
        | true => exact absurd (z.mpr y) q)
    rw [← e]
    exact hb
end
end K12
namespace K12
open PySem PySem.Spec PyProof.Rows L2 Par
section
variable {P : Program} {w : World} {K : PySem.W.Frag} {mg : Str → Option Value} {base : Heap}
/-- a width from 1 to most -/
def spWidth : Sp := fun vs H Q _ => ∃ (p : Addr) (m : Int), vs = [.ref p, .int m] ∧ PotAt H p ∧ 4 ≤ m ∧ m ≤ 1000 ∧ ∀ (n : Nat) H', 1 ≤ n → (n : Int) ≤ m → But p H H' → PotAt H' p → Q (.int (n : Nat)) H'
theorem scWidth : FnScope ["_law_pot_here", "_law_most"] ["_law_pot_here", "_law_most"] (defScope sWidth) := ⟨rfl, rfl, rfl, by decide +kernel, rfl, by decide +kernel, by decide +kernel⟩
theorem ok_width {f : Addr} {fd : FuncData} (F : Fun K "_law_width" "_law_width" sWidth f fd) (B : Bl mg) (D : Has P w K mg base "_law_draw" 2 ["_law_pot_here", "_law_many"] spDraw) : FnOk P w K mg base CX0 3 f fd ["_law_pot_here", "_law_most"] spWidth := by
  obtain ⟨fD, fdD, GD, mD, kD, bD⟩ := D
  refine F.ok scWidth (fun vs H Q E h => ?_) (fun cdv A outer s H vs Q E hr h => ?_)
  · obtain ⟨p, m, rfl, _⟩ := h
    rfl
  · obtain ⟨p, m, rfl, hp, m1, m2, out⟩ := h
    refine ⟨_, pss_one (ps_ret (pe_ix ix_list (pe_lst (pa_cons (pe_callB (call_min2 rfl) (by rfl) B.min (by decide +kernel) (pa_cons pe_int (pa_cons (pv 1) pa_nil))) (pa_cons (pe_callB (call_min2 rfl) (by rfl) B.min (by decide +kernel) (pa_cons pe_int (pa_cons (pv 1) pa_nil)))
      (pa_cons (pe_op op_add pe_int (pe_call GD hr (by rfl) mD kD bD .nil pass0 (pa_cons (pv 0) (pa_cons (pv 1) pa_nil)))) pa_nil)))) (pe_call GD hr (by rfl) mD kD bD .nil pass0 (pa_cons (pv 0) (pa_cons pe_int pa_nil))) (fun _ _ => rfl))), ?_⟩
    refine ⟨_, rfl, 2, m, rfl, ?_⟩
    refine ⟨_, rfl, 4, m, rfl, ?_⟩
    refine ⟨_, rfl, _, rfl, p, m, rfl, hp, by omega, by omega, ?_⟩
    intro d H1 d0 d1 b1 hp1
    refine ⟨1, d, rfl, rfl, (by show 3 ≤ sizeLine; decide), fun q hq => ?_⟩
    have hp2 := hp1.same (same_new (o := .lst [.int (if m < 2 then m else 2), .int (if m < 4 then m else 4), .int (1 + d)]) hq)
    refine ⟨_, rfl, p, 3, rfl, hp2, by decide, by decide, ?_⟩
    intro e H2 e0 e1 b2 hp3
    have nq : q ≠ p := fun z => by
      obtain ⟨_, _, y, _⟩ := hp1
      rw [← z, hq] at y
      cases y
    have hq2 := b2 q _ nq upd_same
    have bb : But p H H2 := (b1.trans (But.new hq)).trans b2
    rcases (show e = 0 ∨ e = 1 ∨ e = 2 by omega) with rfl | rfl | rfl
    · refine ⟨q, _, 0, _, rfl, rfl, SqL.of hq2, rfl, ?_⟩
      rw [if_neg (by omega)]
      exact out 2 H2 (by decide) (by omega) bb hp3
    · refine ⟨q, _, 1, _, rfl, rfl, SqL.of hq2, rfl, ?_⟩
      rw [if_neg (by omega)]
      exact out 4 H2 (by decide) (by omega) bb hp3
    · refine ⟨q, _, 2, _, rfl, rfl, SqL.of hq2, rfl, ?_⟩
      have z := out (1 + d).toNat H2 (by omega) (by omega) bb hp3
      have y : (((1 + d).toNat : Nat) : Int) = 1 + d := by omega
      rw [y] at z
      exact z
/-- new bits -/
def spBits : Sp := fun vs H Q _ => ∃ (p : Addr) (n : Nat), vs = [.ref p, .int (n : Nat)] ∧ PotAt H p ∧ 1 ≤ n ∧ n ≤ 40 ∧ ∀ q (bs : List Int) H', H q = none → OkB bs → bs.length = n → But p H H' → PotAt H' p → H' q = some (.lst (bs.map V.int)) → Q (.ref q) H'
abbrev nBits : List Str := ["_law_pot_here", "_law_width_here", "_law_spot"]
theorem scBits : FnScope nBits ["_law_pot_here", "_law_width_here"] (defScope sBits) := ⟨rfl, rfl, rfl, by decide +kernel, rfl, by decide +kernel, by decide +kernel⟩
theorem ok_bits {f : Addr} {fd : FuncData} (F : Fun K "_law_bits" "_law_bits" sBits f fd) (B : Bl mg) (D : Has P w K mg base "_law_draw" 2 ["_law_pot_here", "_law_many"] spDraw) : FnOk P w K mg base CX0 3 f fd ["_law_pot_here", "_law_width_here"] spBits := by
  obtain ⟨fD, fdD, GD, mD, kD, bD⟩ := D
  refine F.ok scBits (fun vs H Q E h => ?_) (fun cdv A outer s H vs Q E hr h => ?_)
  · obtain ⟨p, n, rfl, _⟩ := h
    rfl
  · obtain ⟨p, n, rfl, hp, n1, n2, out⟩ := h
    refine ⟨_, pss_one (ps_ret (pe_op op_cat (pe_lst (pa_cons pe_int pa_nil)) (pe_lc (own := [("_law_spot", 2)]) (g := gName 2) (te := tCall spDraw [] E0 (tCons (tVar 0) (tCons (tC (.int 2)) tNil))) rfl scBits.nd (pi_range2 (by rfl) B.range (pa_cons pe_int (pa_cons (pv 1) pa_nil))) (blkOk_by (own := [("_law_spot", 2)]) (N := nBits) (sc := defScope sBits) (by decide +kernel))
        (fun _ _ _ _ _ => pg_name (i := 2) scBits.nd rfl (Or.inl rfl)) (fun _ _ _ _ _ => pts_nil) (fun _ _ _ _ _ => by exact pe_call GD hr (by rfl) mD kD bD .nil pass0 (pa_cons (pv 0) (pa_cons pe_int pa_nil)))))), ?_⟩
    refine ⟨by decide, fun q hq => ?_⟩
    have hp1 := hp.same (same_new (o := .lst [.int 1]) hq)
    have nq : q ≠ p := fun z => by
      obtain ⟨_, _, y, _⟩ := hp
      rw [← z, hq] at y
      cases y
    refine ⟨_, rfl, 1, (n : Nat), rfl, ⟨by omega, by omega, by omega, by omega⟩, fun D hD => ?_⟩
    have hDH : H D = none := (same_new hq).free hD
    have nD : D ≠ p := fun z => by
      obtain ⟨_, _, y, _⟩ := hp
      rw [← z, hDH] at y
      cases y
    have qD : q ≠ D := fun z => by
      rw [← z, upd_same] at hD
      cases hD
    have en : ((n : Nat) : Int) - 1 = ((n - 1 : Nat) : Int) := by omega
    rw [en, Int.toNat_natCast]
    refine lc_range (lo := 1) (n := n - 1) (fun i H' => ∃ cs : List Int, H' D = some (.lst (cs.map V.int)) ∧ cs.length = i ∧ (∀ c ∈ cs, c = 0 ∨ c = 1) ∧ H' q = some (.lst [.int 1]) ∧ But p H H' ∧ PotAt H' p)
      ⟨[], upd_same, rfl, by simp, by rw [upd_ne qD, upd_same], (But.new hq).trans (But.new hD), hp1.same (same_new hD)⟩ ?_ ?_
    · rintro i H2 hi ⟨cs, hc, hcl, hcb, hq2, b2, hp2⟩
      refine ⟨rfl, yesT ?_⟩
      refine ⟨_, rfl, p, 2, rfl, hp2, by decide, by decide, ?_⟩
      intro d H3 d0 d1 b3 hp3
      refine ⟨_, b3 D _ nD hc, (by rw [List.length_map]; exact small1000 (by omega)), cs ++ [d], ?_, ?_, ?_, ?_, ?_, ?_⟩
      · rw [upd_same, List.map_append]
        rfl
      · rw [List.length_append, hcl]
        rfl
      · intro c hc2
        rcases List.mem_append.mp hc2 with z | z
        · exact hcb c z
        · have : c = d := by simpa using z
          omega
      · rw [upd_ne qD]
        exact b3 q _ nq hq2
      · intro z o n3 e
        rw [upd_ne (ne_of_none e hDH)]
        exact b3 z o n3 (b2 z o n3 e)
      · obtain ⟨x, y, e, r⟩ := hp3
        exact ⟨x, y, by rw [upd_ne (Ne.symm nD)]; exact e, r⟩
    · rintro H2 ⟨cs, hc, hcl, hcb, hq2, b2, hp2⟩
      refine ⟨q, D, _, _, rfl, rfl, hq2, hc, (by rw [List.length_map]; show 1 + _ ≤ sizeLine; rw [sizeLine_eq]; omega), fun r hr2 => ?_⟩
      have hrH : H r = none := b2.free hp hr2 hp2
      refine out r (1 :: cs) _ hrH ⟨fun x hx => ?_, rfl, by rw [List.length_cons]; omega⟩ (by rw [List.length_cons]; omega) (b2.trans (But.new hr2)) (hp2.same (same_new hr2)) upd_same
      rcases List.mem_cons.mp hx with z | z
      · exact .inr z
      · exact hcb x z
/-- the sum of the bits at these places, by its rest -/
def parB (bs ns : List Int) : Int := (ns.map fun k => bs.getD k.toNat 0).sum % 2
def spParity (K : PySem.W.Frag) : Sp := fun vs H Q _ => ∃ (a b : Addr) (bs ns : List Int), vs = [.ref a, .ref b] ∧ H a = some (.lst (bs.map V.int)) ∧ H b = some (.lst (ns.map V.int)) ∧ ns.length ≤ 500 ∧ (∀ k ∈ ns, 0 ≤ k ∧ k < bs.length) ∧
  ∀ H', Same H H' → Q (.int (parB bs ns)) H'
abbrev nParity : List Str := ["_law_bits_here", "_law_spots_here", "_law_spot"]
theorem scParity : FnScope nParity ["_law_bits_here", "_law_spots_here"] (defScope sParity) := ⟨rfl, rfl, rfl, by decide +kernel, rfl, by decide +kernel, by decide +kernel⟩
theorem ok_parity {f : Addr} {fd : FuncData} (F : Fun K "_law_parity" "_law_parity" sParity f fd) (B : Bl mg) : FnOk P w K mg base CX0 2 f fd ["_law_bits_here", "_law_spots_here"] (spParity K) := by
  refine F.ok scParity (fun vs H Q E h => ?_) (fun cdv A outer s H vs Q E hr h => ?_)
  · obtain ⟨a, b, bs, ns, rfl, _⟩ := h
    rfl
  · obtain ⟨a, b, bs, ns, rfl, ha, hb, hl, hin, out⟩ := h
    refine ⟨_, pss_one (ps_ret (pe_op op_mod (pe_callB (cr_sum rfl) (by rfl) B.sum (by decide +kernel) (pa_cons (pe_lc (own := [("_law_spot", 2)]) (g := gName 2) (te := tOp (rIxL K) (tVar 0) (tVar 2)) rfl scParity.nd (pi_list (pv 1)) (blkOk_by (own := [("_law_spot", 2)]) (N := nParity) (sc := defScope sParity) (by decide +kernel))
        (fun _ _ _ _ _ => pg_name (i := 2) scParity.nd rfl (Or.inl rfl)) (fun _ _ _ _ _ => pts_nil) (fun _ _ _ _ _ => by exact pe_ix ix_list (pv 0) (pv 2) (fun _ _ => rfl))) pa_nil)) pe_int)), ?_⟩
    refine ⟨_, rfl, b, rfl, ⟨_, SqL.of hb⟩, fun D hD => ?_⟩
    refine lc_list (K := K) (a := b) (xs := ns.map V.int) (fun i H' => Same H H' ∧ H' D = some (.lst (((ns.take i).map fun k => bs.getD k.toNat 0).map V.int))) ⟨same_new hD, upd_same⟩ (fun i H' _ h => SqL.of (h.1 _ _ hb)) ?_ ?_
    · rintro i x H2 hx ⟨s2, hD2⟩
      rw [List.getElem?_map] at hx
      obtain ⟨k, hk, rfl⟩ : ∃ k, ns[i]? = some k ∧ x = V.int k := by
        cases e : ns[i]? with
        | none => rw [e] at hx; cases hx
        | some k => rw [e] at hx; exact ⟨k, rfl, (Option.some.inj hx).symm⟩
      obtain ⟨k0, k1⟩ := hin k (List.mem_of_getElem? hk)
      have kl : k.toNat < bs.length := by omega
      have hat : atI (bs.map V.int) k = some (.int bs[k.toNat]) := by
        have z : atI (bs.map V.int) ((k.toNat : Nat) : Int) = some (.int bs[k.toNat]) := atI_nat (by simp [kl])
        rwa [Int.toNat_of_nonneg k0] at z
      refine ⟨rfl, yesT ?_⟩
      refine ⟨_, rfl, _, rfl, a, _, _, .int bs[k.toNat], rfl, rfl, SqL.of (s2 _ _ ha), hat, ?_⟩
      refine ⟨_, hD2, ?_, ?_, ?_⟩
      · rw [List.length_map, List.length_map, List.length_take]
        exact small1000 (by omega)
      · intro z o e
        rw [upd_ne (ne_of_none e hD)]
        exact s2 z o e
      · rw [upd_same, List.take_succ, hk, List.map_append, List.map_append]
        show some (HO.lst (_ ++ [V.int bs[k.toNat]])) = some (HO.lst (_ ++ [V.int (bs.getD k.toNat 0)]))
        rw [List.getD_eq_getElem?_getD, List.getElem?_eq_getElem kl]
        rfl
    · rintro H2 ⟨s2, hD2⟩
      rw [List.length_map, List.take_length] at hD2
      refine ⟨D, _, rfl, SqL.of hD2, _, _, rfl, rfl, (by show (0 : Int) < 2; decide), ?_⟩
      exact out H2 s2
/-- the places of the ones -/
def spUpL (K : PySem.W.Frag) : Sp := fun vs H Q _ => ∃ (a : Addr) (bs : List Int), vs = [.ref a] ∧ H a = some (.lst (bs.map V.int)) ∧ bs.length ≤ 40 ∧ ∀ p H', H p = none → Same H H' → H' p = some (.lst ((upF 0 bs).map V.int)) → Q (.ref p) H'
abbrev nUpL : List Str := ["_law_bits_here", "_law_spot", "_law_bit"]
theorem scUpL : FnScope nUpL ["_law_bits_here"] (defScope sUp) := ⟨rfl, rfl, rfl, by decide +kernel, rfl, by decide +kernel, by decide +kernel⟩
theorem ok_upL {f : Addr} {fd : FuncData} (F : Fun K "_law_up" "_law_up" sUp f fd) (B : Bl mg) : FnOk P w K mg base CX0 2 f fd ["_law_bits_here"] (spUpL K) := by
  refine F.ok scUpL (fun vs H Q E h => ?_) (fun cdv A outer s H vs Q E hr h => ?_)
  · obtain ⟨b, bs, rfl, _⟩ := h
    rfl
  · obtain ⟨t, bs, rfl, h2, hl, out⟩ := h
    refine ⟨_, pss_one (ps_ret (pe_lc (own := [("_law_spot", 1), ("_law_bit", 2)]) (g := gTup K 2 (gCons (gName 1) (gCons (gName 2) gNil))) rfl scUpL.nd (pi_enum (by rfl) B.enumerate (pa_cons (pv 0) pa_nil)) (blkOk_by (own := [("_law_spot", 1), ("_law_bit", 2)]) (N := nUpL) (sc := defScope sUp) (by decide +kernel))
        (fun _ _ _ _ _ => by exact pg_tup rfl (pgs_cons (pg_name (i := 1) scUpL.nd rfl (Or.inl rfl)) (pgs_cons (pg_name (i := 2) scUpL.nd rfl (Or.inl rfl)) pgs_nil)))
        (fun _ _ _ _ _ => pts_one (pt_cmpR op_eq (pv 2) pe_int (nomark _))) (fun _ _ _ _ _ => pv 1))), ?_⟩
    refine ⟨_, rfl, t, _, rfl, SqL.of h2, fun D hD => ?_⟩
    refine lc_it walk_enum (fun i H' => Same H H' ∧ H' D = some (.lst ((upF 0 (bs.take i)).map V.int))) ⟨same_new hD, upd_same⟩ (fun i H' _ h => SqL.of (h.1 _ _ h2)) ?_ ?_
    · rintro i x H3 H4 hi ⟨s3, hD3⟩ ⟨T1, x1, y1, rfl, hT, rfl, ex, ey⟩
      have hi2 : i < bs.length := by rw [List.length_map] at hi; exact hi
      have hbi : bs[i]? = some bs[i] := List.getElem?_eq_getElem hi2
      have ey2 : y1 = .int bs[i] := by
        have ey' : (bs.map V.int)[i]? = some y1 := ey
        rw [List.getElem?_map, hbi] at ey'
        exact (Option.some.inj ey').symm
      have ex2 : x1 = .int (i : Nat) := (Option.some.inj ex).symm
      subst ey2 ex2
      have s4 : Same H (upd H3 T1 (.tup [.int (i : Nat), .int bs[i]])) := s3.trans (same_new hT)
      have hD4 := (same_new (o := .tup [.int (i : Nat), .int bs[i]]) hT) _ _ hD3
      have st := upF_step hbi
      refine ⟨T1, _, rfl, SqT.of upd_same, rfl, _, _, rfl, _, _, rfl, rfl, rfl, _, rfl, rfl, _, rfl, ite2 (fun hb => ?_) (fun hb => ?_)⟩
      · have hb1 : bs[i] = 1 := by
          have := of_decide_eq_true hb
          injection this
        refine ⟨_, rfl, _, hD4, ?_, ?_, ?_⟩
        · have := upF_len 0 (bs.take i)
          rw [List.length_take] at this
          rw [List.length_map]
          exact small1000 (by omega)
        · intro z o e
          rw [upd_ne (ne_of_none e hD)]
          exact s4 z o e
        · rw [upd_same, st, if_pos hb1, List.map_append]
          rfl
      · have hb1 : ¬ bs[i] = 1 := fun z => hb (decide_eq_true (by rw [z]))
        refine ⟨s4, ?_⟩
        rw [st, if_neg hb1, List.append_nil]
        exact hD4
    · rintro H3 ⟨s3, hD3⟩
      rw [List.length_map, List.take_length] at hD3
      exact out D _ hD s3 hD3
end
end K12
namespace K12
open PySem PySem.Spec PyProof.Rows L2 Par
theorem small_ints {ns : List Int} (h : ∀ n ∈ ns, n.natAbs < 2 ^ 100) : ∀ d ∈ ns.map PyData.int, small d := fun d hd => by
  obtain ⟨n, hn, rfl⟩ := List.mem_map.mp hd
  exact small_int (h n hn)
theorem small_bools (bs : List Bool) : ∀ d ∈ bs.map PyData.bool, small d := fun d hd => by
  obtain ⟨n, hn, rfl⟩ := List.mem_map.mp hd
  exact small_bool n
theorem bit_eq (b : Int) : decide (V.int b = V.int 1) = decide (b = 1) := by
  by_cases z : b = 1
  · rw [decide_eq_true z, decide_eq_true (by rw [z])]
  · rw [decide_eq_false z, decide_eq_false (fun q => z (by injection q))]
theorem map_bits (bs : List Int) : (List.range bs.length).map (fun i => decide (bs.getD i 0 = 1)) = bs.map fun b => decide (b = 1) := by
  refine List.ext_getElem (by simp) fun i h1 h2 => ?_
  have hi : i < bs.length := by simpa using h1
  simp [List.getD_eq_getElem?_getD, List.getElem?_eq_getElem hi]
section
variable {P : Program} {w : World} {K : PySem.W.Frag} {mg : Str → Option Value} {base : Heap}
def HasG (P : Program) (w : World) (K : PySem.W.Frag) (mg : Str → Option Value) (base : Heap) (x : Str) (lv : Nat) (ps : List Str) (sp : Sp) : Prop :=
  ∃ f fd, FnG P w K mg base CX0 lv f fd ps sp ∧ mg x = some (.ref f) ∧ PySem.W.keepIn K (.ref f) = true ∧ Binds K fd ps []
/-- a method that is called by places and by its parameter's name -/
def HasMK (P : Program) (w : World) (K : PySem.W.Frag) (mg : Str → Option Value) (base : Heap) (C : Addr) (m : Str) (lv : Nat) (y : Str) (sp : Sp) : Prop :=
  ∃ f fd, FnOk P w K mg base CX0 lv f fd ["self", y] sp ∧ Meth K C m f ∧ Binds K fd ["self", y] [] ∧ KBn K fd ["self", y] 1 [y] (fun us ws => us ++ ws) (fun vs zs => vs ++ zs)
/-- the board shows these bits -/
def spBR (C : Addr) : Sp := fun vs H Q _ => ∃ (b a : Addr) (bs : List Int), vs = [.ref b, .ref a] ∧ Bd C H b bs ∧ OkB bs ∧ H a = some (.lst (bs.map V.int)) ∧ ∀ H', Same H H' → Q (.bl true) H'
abbrev nBR : List Str := ["_law_board", "_law_bits_here", "_law_width_here", "_law_spot", "_law_bit"]
theorem scBR : FnScope nBR ["_law_board", "_law_bits_here"] (defScope sBoardR) := ⟨rfl, rfl, rfl, by decide +kernel, rfl, by decide +kernel, by decide +kernel⟩
theorem ok_BR {f C : Addr} {fd : FuncData} (F : Fun K "_law_board_right" "_law_board_right" sBoardR f fd) (B : Bl mg) (T : BC K mg C) (DS : HasM P w K mg base C "size" 2 ["self"] (spSize C)) (DU : HasM P w K mg base C "up" 2 ["self"] (spUps C))
    (DL : HasM P w K mg base C "__len__" 2 ["self"] (spSize C)) (DI : HasMK P w K mg base C "is_up" 4 "cell" (spIsUp C)) (DV : Has P w K mg base "_law_up" 2 ["_law_bits_here"] (spUpL K)) :
    FnG P w K mg base CX0 5 f fd ["_law_board", "_law_bits_here"] (spBR C) := by
  obtain ⟨fS, fdS, GS, mS, bS⟩ := DS
  obtain ⟨fU, fdU, GU, mU, bU⟩ := DU
  obtain ⟨fL, fdL, GL, mL, bL⟩ := DL
  obtain ⟨fI, fdI, GI, mI, bI, kI⟩ := DI
  obtain ⟨fV, fdV, GV, mV, kV, bV⟩ := DV
  refine fnG_of F scBR (fun vs H Q E h => ?_) (fun cdv A outer s H vs Q E gs hr h => ?_)
  · obtain ⟨b, a, bs, rfl, _⟩ := h
    rfl
  · obtain ⟨b, a, bs, rfl, hB, hO, ha, out⟩ := h
    obtain ⟨dx, t, h1, h2⟩ := id hB
    have r1 : Room 2 (A.deeper (envOfC "_law_board_right" (defScope sBoardR) s.heap.objs.size f cdv)) := hr.mono (by decide)
    have r2 : Room 3 (A.deeper (envOfC "_law_board_right" (defScope sBoardR) s.heap.objs.size f cdv)) := hr.mono (by decide)
    have hu := hr.units
    refine ⟨_, pss_cons (ps_set (i := 2) scBR.nd rfl (Or.inl rfl) (pe_callB call_len_seq (by rfl) B.len PySem.boot_len (pa_cons (pv 1) pa_nil)))
      (pss_cons (ps_if (PW.pt (pw_or (pt_cmpR op_ne (pe_meth0 (pv 0) T.cl mS GS r1 bS .nil pass0) (pv 2) (nomark _))
        (pw_or (pt_cmpR op_ne (pe_callB (cr_repr gs hu) (by rfl) B.repr (by decide +kernel) (pa_cons (pe_meth0 (pv 0) T.cl mU GU r1 bU .nil pass0) pa_nil)) (pe_callB (cr_repr gs hu) (by rfl) B.repr (by decide +kernel) (pa_cons (pe_callTy call_tuple_of (by rfl) B.tuple (by decide +kernel) (pa_cons (pe_call GV r1 (by rfl) mV kV bV .nil pass0 (pa_cons (pv 1) pa_nil)) pa_nil)) pa_nil)) (nomark _))
        (pw_or1 (pt_cmpR op_ne (pe_callB (cr_lenOwn (E := E0) mL.at_ mL.fn GL r2 bL pass0) (by rfl) B.len PySem.boot_len (pa_cons (pv 0) pa_nil)) (pv 2) (nomark _)))))) (pss_one (ps_ret pe_bl)) pss_nil)
      (pss_one (ps_ret (pe_cmpR op_eq (pe_callB (cr_repr gs hu) (by rfl) B.repr (by decide +kernel) (pa_cons (pe_lc (own := [("_law_spot", 3)]) (g := gName 3) (te := tMethK C "is_up" (["cell"] : List Str).length (spIsUp C) (fun vs zs => vs ++ zs) E0 (tVar 0) (tCons (tVar 3) tNil)) rfl scBR.nd (pi_range1 (by rfl) B.range (pa_cons (pv 2) pa_nil)) (blkOk_by (own := [("_law_spot", 3)]) (N := nBR) (sc := defScope sBoardR) (by decide +kernel))
          (fun _ _ _ _ _ => pg_name (i := 3) scBR.nd rfl (Or.inl rfl)) (fun _ _ _ _ _ => pts_nil) (fun _ _ _ _ _ => by exact pe_methK (ks := ["cell"]) (pv 0) T.cl mI GI hr kI pass0 (pk_cons (pv 3) pk_nil))) pa_nil))
        (pe_callB (cr_repr gs hu) (by rfl) B.repr (by decide +kernel) (pa_cons (pe_lc (own := [("_law_bit", 4)]) (g := gName 4) rfl scBR.nd (pi_list (pv 1)) (blkOk_by (own := [("_law_bit", 4)]) (N := nBR) (sc := defScope sBoardR) (by decide +kernel))
          (fun _ _ _ _ _ => pg_name (i := 4) scBR.nd rfl (Or.inl rfl)) (fun _ _ _ _ _ => pts_nil) (fun _ _ _ _ _ => pe_cmpR op_eq (pv 4) pe_int (nomark _))) pa_nil)) (nomark _))))), ?_⟩
    have hb40 := hO.2.2
    refine ⟨_, rfl, a, _, rfl, .inl (SqL.of ha), ?_⟩
    rw [List.length_map]
    refine ⟨_, rfl, b, dx, _, rfl, h1, no_fld (by decide +kernel), b, bs, rfl, hB, ?_⟩
    refine ⟨_, rfl, rfl, _, rfl, iteNS rfl ?_⟩
    refine ⟨_, rfl, b, dx, _, rfl, h1, no_fld (by decide +kernel), b, bs, rfl, hB, hb40, fun p H1 hp s1 hp1 => ?_⟩
    have upsm : ∀ d ∈ (upF 0 bs).map PyData.int, small d := small_ints fun n hn => by
      have := upF_in hn
      omega
    have gT : good (.tuple ((upF 0 bs).map PyData.int)) := good_tuple upsm (by
      rw [List.length_map]
      have := upF_len 0 bs
      omega)
    obtain ⟨sh, dep, len⟩ := shown_good gT
    refine ⟨_, _, rfl, .dp (.tup (SqT.of hp1) (dps_ints _)), sh, dep, len, ?_⟩
    refine ⟨_, rfl, a, bs, rfl, s1 _ _ ha, hb40, fun p2 H2 hp2 s2 hp2' => ?_⟩
    refine ⟨p2, _, rfl, .inl ⟨SqL.of hp2', fun l hl => ?_⟩⟩
    have s3 := same_new (o := .tup ((upF 0 bs).map V.int)) hl
    refine ⟨_, _, rfl, .dp (.tup (SqT.of upd_same) (dps_ints _)), sh, dep, len, ?_⟩
    refine ⟨rfl, _, rfl, iteNS rfl ?_⟩
    have s123 := (s1.trans s2).trans s3
    have hB3 := hB.same s123
    refine ⟨_, rfl, b, dx, _, rfl, s123 _ _ h1, b, bs, rfl, hB3, _, rfl, by omega, by omega, ?_⟩
    refine ⟨_, rfl, rfl, _, rfl, iteNS rfl ?_⟩
    refine ⟨_, rfl, _, rfl, by omega, by omega, fun D hD => ?_⟩
    rw [Int.toNat_natCast]
    refine lc_range (lo := 0) (n := bs.length) (fun i H' => Same H H' ∧ H' D = some (.lst (((List.range i).map fun i => decide (bs.getD i 0 = 1)).map V.bl))) ⟨s123.trans (same_new hD), upd_same⟩ ?_ ?_
    · rintro i H4 hi ⟨s4, hD4⟩
      refine ⟨rfl, yesT ?_⟩
      refine ⟨_, rfl, b, dx, _, rfl, s4 _ _ h1, no_fld (by decide +kernel), _, rfl, rfl, b, bs, i, (by rw [Int.zero_add]; rfl), hB.same s4, hi, ?_⟩
      refine ⟨_, hD4, ?_, ?_, ?_⟩
      · rw [List.length_map, List.length_map, List.length_range]
        exact small1000 (by omega)
      · intro z o e
        rw [upd_ne (ne_of_none e (s123.free hD))]
        exact s4 z o e
      · rw [upd_same, List.range_succ, List.map_append, List.map_append]
        rfl
    · rintro H4 ⟨s4, hD4⟩
      rw [map_bits] at hD4
      have gB : good (.list ((bs.map fun b => decide (b = 1)).map PyData.bool)) := good_list (small_bools _) (by
        rw [List.length_map, List.length_map]
        omega)
      obtain ⟨sh2, dep2, len2⟩ := shown_good gB
      refine ⟨_, _, rfl, .dp (.lst (SqL.of hD4) (dps_bools _)), sh2, dep2, len2, ?_⟩
      refine ⟨_, rfl, a, rfl, ⟨_, SqL.of (s4 _ _ ha)⟩, fun D2 hD2 => ?_⟩
      refine lc_list (K := K) (a := a) (xs := bs.map V.int) (fun i H' => Same H4 H' ∧ H' D2 = some (.lst (((bs.take i).map fun b => decide (b = 1)).map V.bl))) ⟨same_new hD2, upd_same⟩ (fun i H' _ h => SqL.of (h.1 _ _ (s4 _ _ ha))) ?_ ?_
      · rintro i x H5 hx ⟨s5, hD5⟩
        rw [List.getElem?_map] at hx
        obtain ⟨k, hk, rfl⟩ : ∃ k, bs[i]? = some k ∧ x = V.int k := by
          cases e : bs[i]? with
          | none => rw [e] at hx; cases hx
          | some k => rw [e] at hx; exact ⟨k, rfl, (Option.some.inj hx).symm⟩
        refine ⟨rfl, yesT ?_⟩
        refine ⟨_, rfl, rfl, _, hD5, ?_, ?_, ?_⟩
        · rw [List.length_map, List.length_map, List.length_take]
          exact small1000 (by omega)
        · intro z o e
          rw [upd_ne (ne_of_none e hD2)]
          exact s5 z o e
        · rw [upd_same, List.take_succ, hk, List.map_append, List.map_append]
          show some (HO.lst (_ ++ [V.bl (decide (V.int k = V.int 1))])) = some (HO.lst (_ ++ [V.bl (decide (k = 1))]))
          rw [bit_eq]
      · rintro H5 ⟨s5, hD5⟩
        rw [List.length_map, List.take_length] at hD5
        refine ⟨_, _, rfl, .dp (.lst (SqL.of hD5) (dps_bools _)), sh2, dep2, len2, rfl, ?_⟩
        rw [decide_eq_true rfl]
        exact out H5 (s4.trans s5)
end
end K12
namespace K12
open PySem PySem.Spec PyProof.Rows L2 Par
theorem pot_ne {H : Hp} {p q : Addr} (h : PotAt H p) (hq : H q = none) : q ≠ p := fun z => by
  obtain ⟨_, _, y, _⟩ := h
  rw [← z, hq] at y
  cases y
theorem parB_small (bs ns : List Int) : (parB bs ns).natAbs < 2 ^ 100 := by
  have h1 := Int.emod_nonneg ((ns.map fun k => bs.getD k.toNat 0).sum) (b := 2) (by decide)
  have h2 := Int.emod_lt_of_pos ((ns.map fun k => bs.getD k.toNat 0).sum) (b := 2) (by decide)
  have h3 : (parB bs ns) = ((ns.map fun k => bs.getD k.toNat 0).sum) % 2 := rfl
  rw [← h3] at h1 h2
  have : (2 : Nat) ≤ 2 ^ 100 := by decide
  omega
theorem mem2 {a b x : PyData} (h : x ∈ [a, b]) : x = a ∨ x = b := by simpa using h
section
variable {P : Program} {w : World} {K : PySem.W.Frag} {mg : Str → Option Value} {base : Heap}
/-- the parities of drawn cells are right -/
def spPR (C : Addr) : Sp := fun vs H Q _ => ∃ (p b a : Addr) (bs : List Int), vs = [.ref p, .ref b, .ref a] ∧ PotAt H p ∧ Bd C H b bs ∧ OkB bs ∧ H a = some (.lst (bs.map V.int)) ∧ a ≠ p ∧ ∀ H', But p H H' → PotAt H' p → Q (.bl true) H'
abbrev nPR : List Str := ["_law_pot_here", "_law_board", "_law_bits_here", "_law_turn", "_law_spots_here", "_law_due"]
theorem scPR : FnScope nPR ["_law_pot_here", "_law_board", "_law_bits_here"] (defScope sParR) := ⟨rfl, rfl, rfl, by decide +kernel, rfl, by decide +kernel, by decide +kernel⟩
theorem ok_PR {f C : Addr} {fd : FuncData} (F : Fun K "_law_parities_right" "_law_parities_right" sParR f fd) (B : Bl mg) (T : BC K mg C) (DS : Has P w K mg base "_law_spots" 3 ["_law_pot_here", "_law_least", "_law_width_here"] spSpots)
    (DM : Has P w K mg base "_law_mixed" 3 ["_law_pot_here", "_law_given"] (spMixed K)) (DP : Has P w K mg base "_law_parity" 2 ["_law_bits_here", "_law_spots_here"] (spParity K)) (DB : HasMK P w K mg base C "parity" 6 "cells" (spPar K C)) :
    FnG P w K mg base CX0 7 f fd ["_law_pot_here", "_law_board", "_law_bits_here"] (spPR C) := by
  obtain ⟨fS, fdS, GS, mS, kS, bS⟩ := DS
  obtain ⟨fM, fdM, GM, mM, kM, bM⟩ := DM
  obtain ⟨fP, fdP, GP, mP, kP, bP⟩ := DP
  obtain ⟨fB, fdB, GB, mB, bB, kB⟩ := DB
  refine fnG_of F scPR (fun vs H Q E h => ?_) (fun cdv A outer s H vs Q E gs hr h => ?_)
  · obtain ⟨p, b, a, bs, rfl, _⟩ := h
    rfl
  · obtain ⟨p, b, a, bs, rfl, hp, hB, hO, ha, nap, out⟩ := h
    have r1 : Room 2 (A.deeper (envOfC "_law_parities_right" (defScope sParR) s.heap.objs.size f cdv)) := hr.mono (by decide)
    have r2 : Room 3 (A.deeper (envOfC "_law_parities_right" (defScope sParR) s.heap.objs.size f cdv)) := hr.mono (by decide)
    have hu := hr.units
    have hb40 := hO.2.2
    refine ⟨_, pss_cons (ps_for PassesOwn.never rfl (pi_range1 (by rfl) B.range (pa_cons pe_int pa_nil)) (pg_name (i := 3) scPR.nd rfl (Or.inl rfl))
        (pss_cons (ps_set (i := 4) scPR.nd rfl (Or.inl rfl) (pe_call GM r2 (by rfl) mM kM bM .nil pass0 (pa_cons (pv 0) (pa_cons (pe_call GS r2 (by rfl) mS kS bS .nil pass0 (pa_cons (pv 0) (pa_cons pe_int (pa_cons (pe_callB call_len_seq (by rfl) B.len PySem.boot_len (pa_cons (pv 2) pa_nil)) pa_nil)))) pa_nil))))
        (pss_cons (ps_set (i := 5) scPR.nd rfl (Or.inl rfl) (pe_call GP r1 (by rfl) mP kP bP .nil pass0 (pa_cons (pv 2) (pa_cons (pv 4) pa_nil))))
        (pss_one (ps_if (pt_cmpR op_ne (pe_callB (cr_repr gs hu) (by rfl) B.repr (by decide +kernel) (pa_cons (pe_lst (pa_cons (pe_meth (pv 1) T.cl mB GB hr bB .nil pass0 (pa_cons (pv 4) pa_nil)) (pa_cons (pe_methK (ks := ["cells"]) (pv 1) T.cl mB GB hr kB pass0 (pk_cons (pe_callTy call_tuple_of (by rfl) B.tuple (by decide +kernel) (pa_cons (pv 4) pa_nil)) pk_nil)) pa_nil))) pa_nil))
          (pe_callB (cr_repr gs hu) (by rfl) B.repr (by decide +kernel) (pa_cons (pe_lst (pa_cons (pv 5) (pa_cons (pv 5) pa_nil))) pa_nil)) (nomark _)) (pss_one (ps_ret pe_bl)) pss_nil)))))
      (pss_one (ps_ret pe_bl)), ?_⟩
    refine ⟨4, rfl, by decide, by decide, ?_⟩
    refine for_range (lo := 0) (n := 4) (fun i σ H' => But p H H' ∧ PotAt H' p ∧ ∃ tv sv dv : Option V, σ = [some (.ref p), some (.ref b), some (.ref a), tv, sv, dv]) ⟨But.refl p H, hp, none, none, none, rfl⟩ ?_ ?_
    · rintro i σ H0 hi ⟨b0, pot0, tv, sv, dv, rfl⟩
      have hB0 := hB.but hp b0
      have ha0 := b0 a _ nap ha
      refine ⟨_, rfl, _, rfl, _, rfl, a, _, rfl, .inl (SqL.of ha0), p, 0, _, rfl, pot0, by decide, by decide, ?_, ?_, ?_⟩
      · omega
      · rw [List.length_map]
        omega
      intro q1 ns H1 hq1 pw hin b1 pot1 hq1'
      rw [List.length_map] at hin
      have nq1 := pot_ne pot0 hq1
      have nd1 := nodup_lt_ pw
      have len1 : ns.length ≤ 40 := cells_few nd1 fun k hk => by
        have := hin k hk
        exact ⟨by omega, by omega⟩
      refine ⟨p, q1, ns, rfl, pot1, hq1', nq1, by omega, ?_⟩
      intro q2 ms H2 hq2 pm b2 pot2 hq2'
      have ha2 : H2 a = some (.lst (bs.map V.int)) := b2 a _ nap (b1 a _ nap ha0)
      have hinm : ∀ k ∈ ms, 0 ≤ k ∧ k < bs.length := fun k hk => hin k (pm.mem_iff.mp hk)
      have lenm : ms.length ≤ 500 := by rw [pm.length_eq]; omega
      have ndm : ms.Nodup := pm.nodup_iff.mpr nd1
      refine ⟨_, rfl, _, rfl, a, q2, bs, ms, rfl, ha2, hq2', lenm, hinm, ?_⟩
      intro H3 s3
      have hB3 : Bd C H3 b bs := ((hB0.but pot0 b1).but pot1 b2).same s3
      obtain ⟨dx, t, h1, h2⟩ := id hB3
      refine ⟨_, rfl, b, dx, _, rfl, h1, no_fld (by decide +kernel), _, rfl, b, q2, bs, ms, rfl, hB3, .inl (SqL.of (s3 _ _ hq2')), lenm, hinm, ndm, ?_⟩
      intro H4 s4
      refine ⟨_, rfl, b, dx, _, rfl, s4 _ _ h1, no_fld (by decide +kernel), _, rfl, q2, _, rfl, .inl ⟨SqL.of (s4 _ _ (s3 _ _ hq2')), fun l hl => ?_⟩⟩
      have s5 := same_new (o := .tup (ms.map V.int)) hl
      refine ⟨rfl, b, l, bs, ms, rfl, (hB3.same s4).same s5, .inr (SqT.of upd_same), lenm, hinm, ndm, ?_⟩
      intro H6 s6
      refine ⟨(by show 2 ≤ sizeLine; decide), fun L hL => ?_⟩
      have s7 := same_new (o := .lst [.int (parB bs ms), .int (parB bs ms)]) hL
      have shl := shown_list (ds := [.int (parB bs ms), .int (parB bs ms)]) (fun e he => by
        rcases mem2 he with rfl | rfl
        · exact small_good (small_int (parB_small _ _))
        · exact small_good (small_int (parB_small _ _))) (by show 2 ≤ 8; decide)
      refine ⟨_, _, rfl, .dp (.lst (SqL.of upd_same) (.cons (.int (parB bs ms)) (.cons (.int (parB bs ms)) .nil))), shl.1, shl.2.1, shl.2.2, ?_⟩
      refine ⟨_, rfl, _, rfl, (by show 2 ≤ sizeLine; decide), fun L2 hL2 => ?_⟩
      have s8 := same_new (o := .lst [.int (parB bs ms), .int (parB bs ms)]) hL2
      refine ⟨_, _, rfl, .dp (.lst (SqL.of upd_same) (.cons (.int (parB bs ms)) (.cons (.int (parB bs ms)) .nil))), shl.1, shl.2.1, shl.2.2, ?_⟩
      refine ⟨rfl, _, rfl, iteNS rfl ?_⟩
      have sAll := ((((s3.trans s4).trans s5).trans s6).trans s7).trans s8
      exact ⟨((b0.trans b1).trans b2).trans (But.same sAll), pot2.same sAll, _, _, _, rfl⟩
    · rintro σ H0 ⟨b0, pot0, tv, sv, dv, rfl⟩
      exact out H0 b0 pot0
end
end K12
namespace K12
open PySem PySem.Spec PyProof.Rows L2 Par
section
variable {P : Program} {w : World} {K : PySem.W.Frag} {mg : Str → Option Value} {base : Heap}
theorem depth_ints : ∀ ns : List Int, PyData.depthAll (ns.map PyData.int) = 0
  | [] => rfl
  | n :: ns => by
    show max 0 (PyData.depthAll (ns.map PyData.int)) = 0
    rw [depth_ints ns]
    rfl
theorem lay_ints : ∀ ns : List Int, (PyData.list (ns.map PyData.int)).canLay0 = true := by
  intro ns
  induction ns with
  | nil => rfl
  | cons n ns ih => exact ih
theorem shaped_ints (ns : List Int) : SeqAt.shaped (.list (ns.map PyData.int)) = true := by
  unfold SeqAt.shaped
  rw [lay_ints]
  have : (PyData.list (ns.map PyData.int)).depth = 1 := by
    show PyData.depthAll (ns.map PyData.int) + 1 = 1
    rw [depth_ints]
  rw [this]
  rfl
theorem Bd.updL {C l : Addr} {H : Hp} {b : Addr} {bs : List Int} {xs : List V} {o : HO} (e : H l = some (.lst xs)) (h : Bd C H b bs) : Bd C (upd H l o) b bs := by
  obtain ⟨dx, t, h1, h2⟩ := h
  have n1 : b ≠ l := fun z => by rw [z, e] at h1; cases h1
  have n2 : t ≠ l := fun z => by rw [z, e] at h2; cases h2
  exact ⟨dx, t, by rw [upd_ne n1]; exact h1, by rw [upd_ne n2]; exact h2⟩
/-- the board with drawn cells toggled is right, there and back -/
def spTR (C : Addr) : Sp := fun vs H Q _ => ∃ (p b a : Addr) (bs : List Int), vs = [.ref p, .ref b, .ref a] ∧ PotAt H p ∧ Bd C H b bs ∧ OkB bs ∧ H a = some (.lst (bs.map V.int)) ∧ a ≠ p ∧ ∀ H', But p H H' → PotAt H' p → Q (.bl true) H'
abbrev nTR : List Str := ["_law_pot_here", "_law_board", "_law_bits_here", "_law_spots_here", "_law_handed", "_law_later", "_law_found", "_law_spot", "_law_bit"]
theorem scTR : FnScope nTR ["_law_pot_here", "_law_board", "_law_bits_here"] (defScope sTogR) := ⟨rfl, rfl, rfl, by decide +kernel, rfl, by decide +kernel, by decide +kernel⟩
theorem ok_TR {f C : Addr} {fd : FuncData} (F : Fun K "_law_toggled_right" "_law_toggled_right" sTogR f fd) (B : Bl mg) (T : BC K mg C) (DD : Has P w K mg base "_law_draw" 2 ["_law_pot_here", "_law_many"] spDraw) (DS : Has P w K mg base "_law_spots" 3 ["_law_pot_here", "_law_least", "_law_width_here"] spSpots)
    (DM : Has P w K mg base "_law_mixed" 3 ["_law_pot_here", "_law_given"] (spMixed K)) (DT : HasMK P w K mg base C "toggled" 8 "cells" (spTog K C)) (DR : HasG P w K mg base "_law_board_right" 5 ["_law_board", "_law_bits_here"] (spBR C)) :
    FnG P w K mg base CX0 9 f fd ["_law_pot_here", "_law_board", "_law_bits_here"] (spTR C) := by
  obtain ⟨fD, fdD, GD, mD, kD, bD⟩ := DD
  obtain ⟨fS, fdS, GS, mS, kS, bS⟩ := DS
  obtain ⟨fM, fdM, GM, mM, kM, bM⟩ := DM
  obtain ⟨fT, fdT, GT, mT, bT, kT⟩ := DT
  obtain ⟨fR, fdR, GR, mR, kR, bR⟩ := DR
  refine fnG_of F scTR (fun vs H Q E h => ?_) (fun cdv A outer s H vs Q E gs hr h => ?_)
  · obtain ⟨p, b, a, bs, rfl, _⟩ := h
    rfl
  · obtain ⟨p, b, a, bs, rfl, hp, hB, hO, ha, nap, out⟩ := h
    have r1 : Room 2 (A.deeper (envOfC "_law_toggled_right" (defScope sTogR) s.heap.objs.size f cdv)) := hr.mono (by decide)
    have r2 : Room 3 (A.deeper (envOfC "_law_toggled_right" (defScope sTogR) s.heap.objs.size f cdv)) := hr.mono (by decide)
    have r4 : Room 5 (A.deeper (envOfC "_law_toggled_right" (defScope sTogR) s.heap.objs.size f cdv)) := hr.mono (by decide)
    have hu := hr.units
    have hb40 := hO.2.2
    refine ⟨_, pss_cons (ps_set (i := 3) scTR.nd rfl (Or.inr rfl) (pe_call GM r2 (by rfl) mM kM bM .nil pass0 (pa_cons (pv 0) (pa_cons (pe_call GS r2 (by rfl) mS kS bS .nil pass0 (pa_cons (pv 0) (pa_cons pe_int (pa_cons (pe_callB call_len_seq (by rfl) B.len PySem.boot_len (pa_cons (pv 2) pa_nil)) pa_nil)))) pa_nil))))
      (pss_cons (ps_set (i := 4) scTR.nd rfl (Or.inl rfl) (pe_callTy call_list_of (by rfl) B.list (by decide +kernel) (pa_cons (pv 3) pa_nil)))
      (pss_cons (ps_setLc (i := 5) (own := [("_law_spot", 7), ("_law_bit", 8)]) (g := gTup K 2 (gCons (gName 7) (gCons (gName 8) gNil))) (te := tIf (tTest (tOp (rIn K false) (tVar 7) (tVar 3))) (tOp (rI0 fun i j => .int (i - j)) (tC (.int 1)) (tVar 8)) (tVar 8)) rfl scTR.nd rfl rfl (sw_true rfl rfl rfl (by decide +kernel)) (pi_enum (by rfl) B.enumerate (pa_cons (pv 2) pa_nil)) (blkOk_by (own := [("_law_spot", 7), ("_law_bit", 8)]) (N := nTR) (sc := defScope sTogR) (by decide +kernel))
          (fun _ _ _ _ _ => by exact pg_tup rfl (pgs_cons (pg_name (i := 7) scTR.nd rfl (Or.inl rfl)) (pgs_cons (pg_name (i := 8) scTR.nd rfl (Or.inl rfl)) pgs_nil))) (fun _ _ _ _ _ => pts_nil)
          (fun _ _ _ _ _ => by exact pe_ifExp (pt_cmpR op_in_seq (pv 7) (pv 3) (by rfl)) (pe_op op_sub pe_int (pv 8)) (pv 8)))
      (pss_cons (ps_set (i := 6) scTR.nd rfl (Or.inl rfl) (pe_ifExp (pt_cmpR op_eq (pe_call GD r1 (by rfl) mD kD bD .nil pass0 (pa_cons (pv 0) (pa_cons pe_int pa_nil))) pe_int (nomark _)) (pe_meth (pv 1) T.cl mT GT hr bT .nil pass0 (pa_cons (pv 4) pa_nil)) (pe_methK (ks := ["cells"]) (pv 1) T.cl mT GT hr kT pass0 (pk_cons (pe_callTy call_tuple_of (by rfl) B.tuple (by decide +kernel) (pa_cons (pv 4) pa_nil)) pk_nil))))
      (pss_cons (ps_if (pt_cmpR (op_neD hu) (pv 4) (pv 3) (nomark _)) (pss_one (ps_ret pe_bl)) pss_nil)
      (pss_cons (ps_expr (pe_bm0 PySem.F.plainAttrs_list PySem.F.slot_list_clear PySem.F.type_list_clear mt_clear (pv 4)))
      (pss_cons (ps_if (PW.pt (pw_or (pt_not (pt_val (pe_callG GR gs r4 (by rfl) mR kR bR pass0 (pa_cons (pv 6) (pa_cons (pv 5) pa_nil))))) (pw_or1 (pt_not (pt_val (pe_callG GR gs r4 (by rfl) mR kR bR pass0 (pa_cons (pv 1) (pa_cons (pv 2) pa_nil)))))))) (pss_one (ps_ret pe_bl)) pss_nil)
      (pss_one (ps_ret (pe_callG GR gs r4 (by rfl) mR kR bR pass0 (pa_cons (pe_meth (pv 6) T.cl mT GT hr bT .nil pass0 (pa_cons (pv 3) pa_nil)) (pa_cons (pv 2) pa_nil))))))))))), ?_⟩
    refine ⟨_, rfl, _, rfl, _, rfl, a, _, rfl, .inl (SqL.of ha), p, 1, _, rfl, hp, by decide, by decide, ?_, ?_, ?_⟩
    · omega
    · rw [List.length_map]
      omega
    intro q1 ns H1 hq1 pw hin b1 pot1 hq1'
    rw [List.length_map] at hin
    have nq1 := pot_ne hp hq1
    have nd1 := nodup_lt_ pw
    have len1 : ns.length ≤ 40 := cells_few nd1 fun k hk => by
      have := hin k hk
      exact ⟨by omega, by omega⟩
    refine ⟨p, q1, ns, rfl, pot1, hq1', nq1, by omega, ?_⟩
    intro q2 ms H2 hq2 pm b2 pot2 hq2'
    have b02 : But p H H2 := b1.trans b2
    have ha2 : H2 a = some (.lst (bs.map V.int)) := b02 a _ nap ha
    have hinm : ∀ k ∈ ms, 1 ≤ k ∧ k < bs.length := fun k hk => hin k (pm.mem_iff.mp hk)
    have lenm : ms.length ≤ 500 := by rw [pm.length_eq]; omega
    have ndm : ms.Nodup := pm.nodup_iff.mpr nd1
    have hB2 : Bd C H2 b bs := hB.but hp b02
    -- handed
    refine ⟨_, rfl, q2, _, rfl, .inl (SqL.of hq2'), fun h3 hh3 => ?_⟩
    have s3 := same_new (o := .lst (ms.map V.int)) hh3
    -- later
    refine ⟨_, rfl, a, _, rfl, SqL.of (s3 _ _ ha2), fun D hD => ?_⟩
    refine lc_it walk_enum (fun i H' => Same (upd H2 h3 (.lst (ms.map V.int))) H' ∧ H' D = some (.lst (((List.range i).map fun (i : Nat) => if decide ((i : Int) ∈ ms) = true then 1 - bs.getD i 0 else bs.getD i 0).map V.int)))
      ⟨same_new hD, upd_same⟩ (fun i H' _ h => SqL.of (h.1 _ _ (s3 _ _ ha2))) ?_ ?_
    · rintro i x H4 H5 hi ⟨s4, hD4⟩ ⟨T1, x1, y1, rfl, hT, rfl, ex, ey⟩
      have hi2 : i < bs.length := by rw [List.length_map] at hi; exact hi
      have ey2 : y1 = .int (bs.getD i 0) := by
        have ey' : (bs.map V.int)[i]? = some y1 := ey
        rw [List.getElem?_map, List.getElem?_eq_getElem hi2] at ey'
        rw [List.getD_eq_getElem?_getD, List.getElem?_eq_getElem hi2]
        exact (Option.some.inj ey').symm
      have ex2 : x1 = .int (i : Nat) := (Option.some.inj ex).symm
      subst ey2 ex2
      have s5 := s4.trans (same_new (o := .tup [.int (i : Nat), .int (bs.getD i 0)]) hT)
      have hD5 := (same_new (o := .tup [.int (i : Nat), .int (bs.getD i 0)]) hT) _ _ hD4
      have step : ∀ z : Int, (if decide ((i : Int) ∈ ms) = true then 1 - bs.getD i 0 else bs.getD i 0) = z → ∃ acc, (upd H4 T1 (.tup [.int (i : Nat), .int (bs.getD i 0)])) D = some (.lst acc) ∧ acc.length < sizeLine ∧
          Same (upd H2 h3 (.lst (ms.map V.int))) (upd (upd H4 T1 (.tup [.int (i : Nat), .int (bs.getD i 0)])) D (.lst (acc ++ [V.int z]))) ∧
          (upd (upd H4 T1 (.tup [.int (i : Nat), .int (bs.getD i 0)])) D (.lst (acc ++ [V.int z]))) D = some (.lst (((List.range (i + 1)).map fun (i : Nat) => if decide ((i : Int) ∈ ms) = true then 1 - bs.getD i 0 else bs.getD i 0).map V.int)) := by
        intro z hz
        refine ⟨_, hD5, by rw [List.length_map, List.length_map, List.length_range]; exact small1000 (by omega), ?_, ?_⟩
        · intro y o e
          rw [upd_ne (ne_of_none e hD)]
          exact s5 y o e
        · rw [upd_same, List.range_succ, List.map_append, List.map_append]
          show some (HO.lst (_ ++ [V.int z])) = some (HO.lst (_ ++ [V.int (if decide ((i : Int) ∈ ms) = true then 1 - bs.getD i 0 else bs.getD i 0)]))
          rw [hz]
      refine ⟨T1, _, rfl, SqT.of upd_same, rfl, _, _, rfl, _, _, rfl, rfl, rfl, yesT ?_⟩
      refine ⟨_, rfl, _, rfl, q2, _, rfl, .inl (SqL.of (s5 _ _ (s3 _ _ hq2'))), rfl, flat_ints _, _, rfl, ?_⟩
      show if inV (V.int ((i : Nat) : Int)) (ms.map V.int) = true then _ else _
      rw [in_ints]
      by_cases hm : ((i : Nat) : Int) ∈ ms
      · rw [decide_eq_true hm]
        exact iteT ⟨_, rfl, 1, bs.getD i 0, rfl, rfl, step _ (by rw [decide_eq_true hm]; rfl)⟩
      · rw [decide_eq_false hm]
        exact iteF ⟨_, rfl, step _ (by rw [decide_eq_false hm]; rfl)⟩
    rintro H4 ⟨s4, hD4⟩
    rw [List.length_map] at hD4
    have hD4' : H4 D = some (.lst ((flipB bs ms).map V.int)) := hD4
    have s24 : Same H2 H4 := s3.trans s4
    have pot4 := pot2.same s24
    have hh4 : H4 h3 = some (.lst (ms.map V.int)) := s4 _ _ upd_same
    have hD2 : H2 D = none := s3.free hD
    have nh3 := pot_ne pot2 hh3
    have nD := pot_ne pot2 hD2
    have nq2 := pot_ne pot1 hq2
    have hDh : D ≠ h3 := fun z => by
      rw [z, upd_same] at hD
      cases hD
    -- found
    refine ⟨_, rfl, p, 2, rfl, pot4, by decide, by decide, fun d H5 d0 d1 b5 pot5 => ⟨rfl, _, rfl, ?_⟩⟩
    have b25 : But p H2 H5 := (But.same s24).trans b5
    have hB5 : Bd C H5 b bs := hB2.but pot2 b25
    obtain ⟨dx, t, h1, h2⟩ := id hB5
    have hh5 : H5 h3 = some (.lst (ms.map V.int)) := b5 h3 _ nh3 hh4
    have hD5 : H5 D = some (.lst ((flipB bs ms).map V.int)) := b5 D _ nD hD4'
    have hq5 : H5 q2 = some (.lst (ms.map V.int)) := b25 q2 _ nq2 hq2'
    have ha5 : H5 a = some (.lst (bs.map V.int)) := b25 a _ nap ha2
    have okF := flip_ok hO (fun k hk => (hinm k hk).1)
    refine ite2 (fun _ => ?_) (fun _ => ?_)
    · refine ⟨_, rfl, b, dx, _, rfl, h1, no_fld (by decide +kernel), _, rfl, b, h3, bs, ms, rfl, hB5, hO, .inl (SqL.of hh5), lenm, hinm, ndm, fun q H6 hq s6 hbF => ?_⟩
      refine ⟨_, rfl, _, rfl, .list (ms.map PyData.int), .list (ms.map PyData.int), .lst (SqL.of (s6 _ _ hh5)) (dps_ints _), .lst (SqL.of (s6 _ _ hq5)) (dps_ints _), shaped_ints _, shaped_ints _, _, rfl, ?_⟩
      rw [SeqAt.eqv_refl _ (lay_ints ms)]
      refine iteF ?_
      have hh6 := s6 _ _ hh5
      refine ⟨_, rfl, .inl ⟨rfl, _, SqL.of hh6⟩, h3, _, rfl, rfl, hh6, ?_⟩
      have nah : a ≠ h3 := ne_of_none ha2 hh3
      have nqh : q2 ≠ h3 := ne_of_none hq2' hh3
      have a7 : (upd H6 h3 (.lst [])) a = some (.lst (bs.map V.int)) := by
        rw [upd_ne nah]
        exact s6 _ _ ha5
      have D7 : (upd H6 h3 (.lst [])) D = some (.lst ((flipB bs ms).map V.int)) := by
        rw [upd_ne hDh]
        exact s6 _ _ hD5
      have q7 : (upd H6 h3 (.lst [])) q2 = some (.lst (ms.map V.int)) := by
        rw [upd_ne nqh]
        exact s6 _ _ hq5
      refine ⟨_, rfl, _, rfl, q, D, flipB bs ms, rfl, hbF.updL hh6, okF, D7, fun H8 s8 => ⟨_, rfl, iteF ?_⟩⟩
      refine ⟨_, rfl, _, rfl, b, a, bs, rfl, ((hB5.same s6).updL hh6).same s8, hO, s8 _ _ a7, fun H9 s9 => ⟨_, rfl, iteF ?_⟩⟩
      have s79 := s8.trans s9
      have hF9 : Bd C H9 q (flipB bs ms) := (hbF.updL hh6).same s79
      obtain ⟨dxF, tF, f1, f2⟩ := id hF9
      refine ⟨_, rfl, q, dxF, _, rfl, f1, no_fld (by decide +kernel), _, rfl, q, q2, flipB bs ms, ms, rfl, hF9, okF, .inl (SqL.of (s79 _ _ q7)), lenm, ?_, ndm, fun q9 H10 hq9 s10 hb10 => ?_⟩
      · intro k hk
        have := hinm k hk
        rw [flipB_len]
        exact this
      rw [flip_flip] at hb10
      refine ⟨_, rfl, q9, a, bs, rfl, hb10, hO, s10 _ _ (s79 _ _ a7), fun H11 s11 => ?_⟩
      have s711 := (s79.trans s10).trans s11
      refine out H11 (fun x o nx e => ?_) ?_
      · have e2 := b02 x o nx e
        refine s711 _ _ ?_
        rw [upd_ne (ne_of_none e2 hh3)]
        exact s6 _ _ (b25 x o nx e2)
      · refine PotAt.same ?_ s711
        obtain ⟨x, y, e, r⟩ := pot5.same s6
        exact ⟨x, y, by rw [upd_ne (Ne.symm nh3)]; exact e, r⟩
    · refine ⟨_, rfl, b, dx, _, rfl, h1, no_fld (by decide +kernel), _, rfl, h3, _, rfl, .inl ⟨SqL.of hh5, fun l hl => ?_⟩⟩
      have sl := same_new (o := .tup (ms.map V.int)) hl
      refine ⟨rfl, b, l, bs, ms, rfl, hB5.same sl, hO, .inr (SqT.of upd_same), lenm, hinm, ndm, fun q H6 hq s6' hbF => ?_⟩
      have s6 : Same H5 H6 := sl.trans s6'
      refine ⟨_, rfl, _, rfl, .list (ms.map PyData.int), .list (ms.map PyData.int), .lst (SqL.of (s6 _ _ hh5)) (dps_ints _), .lst (SqL.of (s6 _ _ hq5)) (dps_ints _), shaped_ints _, shaped_ints _, _, rfl, ?_⟩
      rw [SeqAt.eqv_refl _ (lay_ints ms)]
      refine iteF ?_
      have hh6 := s6 _ _ hh5
      refine ⟨_, rfl, .inl ⟨rfl, _, SqL.of hh6⟩, h3, _, rfl, rfl, hh6, ?_⟩
      have nah : a ≠ h3 := ne_of_none ha2 hh3
      have nqh : q2 ≠ h3 := ne_of_none hq2' hh3
      have a7 : (upd H6 h3 (.lst [])) a = some (.lst (bs.map V.int)) := by
        rw [upd_ne nah]
        exact s6 _ _ ha5
      have D7 : (upd H6 h3 (.lst [])) D = some (.lst ((flipB bs ms).map V.int)) := by
        rw [upd_ne hDh]
        exact s6 _ _ hD5
      have q7 : (upd H6 h3 (.lst [])) q2 = some (.lst (ms.map V.int)) := by
        rw [upd_ne nqh]
        exact s6 _ _ hq5
      refine ⟨_, rfl, _, rfl, q, D, flipB bs ms, rfl, hbF.updL hh6, okF, D7, fun H8 s8 => ⟨_, rfl, iteF ?_⟩⟩
      refine ⟨_, rfl, _, rfl, b, a, bs, rfl, ((hB5.same s6).updL hh6).same s8, hO, s8 _ _ a7, fun H9 s9 => ⟨_, rfl, iteF ?_⟩⟩
      have s79 := s8.trans s9
      have hF9 : Bd C H9 q (flipB bs ms) := (hbF.updL hh6).same s79
      obtain ⟨dxF, tF, f1, f2⟩ := id hF9
      refine ⟨_, rfl, q, dxF, _, rfl, f1, no_fld (by decide +kernel), _, rfl, q, q2, flipB bs ms, ms, rfl, hF9, okF, .inl (SqL.of (s79 _ _ q7)), lenm, ?_, ndm, fun q9 H10 hq9 s10 hb10 => ?_⟩
      · intro k hk
        have := hinm k hk
        rw [flipB_len]
        exact this
      rw [flip_flip] at hb10
      refine ⟨_, rfl, q9, a, bs, rfl, hb10, hO, s10 _ _ (s79 _ _ a7), fun H11 s11 => ?_⟩
      have s711 := (s79.trans s10).trans s11
      refine out H11 (fun x o nx e => ?_) ?_
      · have e2 := b02 x o nx e
        refine s711 _ _ ?_
        rw [upd_ne (ne_of_none e2 hh3)]
        exact s6 _ _ (b25 x o nx e2)
      · refine PotAt.same ?_ s711
        obtain ⟨x, y, e, r⟩ := pot5.same s6
        exact ⟨x, y, by rw [upd_ne (Ne.symm nh3)]; exact e, r⟩
end
end K12
namespace K12
open PySem PySem.Spec PyProof.Rows L2 Par
theorem same_but {H0 H H' : Hp} {p : Addr} (h0 : H0 p = none) (s : Same H0 H) (b : But p H H') : Same H0 H' := fun c o e => b c o (ne_of_none e h0) (s c o e)
theorem cut_drop (xs : List V) (i : Nat) (h : i ≤ xs.length) : cutV xs (some (i : Int)) none = xs.drop i := by
  unfold cutV
  rw [HT.sIx_none, HT.sIx_nat, Nat.min_eq_left h]
  exact List.take_of_length_le (by rw [List.length_drop]; exact Nat.le_refl _)
theorem up_cons {bs : List Int} (h : OkB bs) : ∃ t, bs = 1 :: t ∧ upF 0 bs = 0 :: upF 1 t := by
  cases bs with
  | nil => cases h.2.1
  | cons b t =>
    have e : b = 1 := by simpa using h.2.1
    subst e
    exact ⟨t, rfl, rfl⟩
theorem mk_up {bs ms : List Int} (h : OkB bs) {d : Nat} (hd : d ≤ 1) (pm : ms.Perm ((upF 0 bs).drop d)) : (mkB bs.length fun k => decide (k ∈ ms)) = bs := by
  refine List.ext_getElem (mkB_len _ _) fun i h1 h2 => ?_
  have e : (mkB bs.length fun k => decide (k ∈ ms))[i] = if (decide (i = 0) || decide ((i : Int) ∈ ms)) = true then 1 else 0 := by
    unfold mkB
    simp
  rw [e]
  have g : bs.getD i 0 = bs[i] := by
    rw [List.getD_eq_getElem?_getD, List.getElem?_eq_getElem h2]
    rfl
  obtain ⟨t, et, eu⟩ := up_cons h
  by_cases z : i = 0
  · subst z
    rw [decide_eq_true rfl, Bool.true_or, if_pos rfl, ← g, List.getD_eq_getElem?_getD, h.2.1]
    rfl
  · have hmem : ((i : Int) ∈ ms) ↔ ((i : Int) ∈ upF 0 bs) := by
      rw [pm.mem_iff, eu]
      rcases (show d = 0 ∨ d = 1 by omega) with rfl | rfl
      · rfl
      · show (i : Int) ∈ upF 1 t ↔ (i : Int) ∈ 0 :: upF 1 t
        rw [List.mem_cons]
        constructor
        · exact .inr
        · rintro (q | q)
          · omega
          · exact q
    rw [decide_eq_false z, Bool.false_or]
    by_cases u : (i : Int) ∈ upF 0 bs
    · rw [decide_eq_true (hmem.mpr u), if_pos rfl, ← g]
      exact ((up_iff i h2).mp u).symm
    · rw [decide_eq_false (fun q => u (hmem.mp q)), if_neg Bool.false_ne_true, ← g]
      exact ((bit_at h h2).resolve_right fun q => u ((up_iff i h2).mpr q)).symm
theorem bare_eq (n : Nat) (h : 1 ≤ n) : (mkB n fun k => decide (k ∈ ([] : List Int))) = 1 :: List.replicate (n - 1) 0 := by
  obtain ⟨m, rfl⟩ : ∃ m, n = m + 1 := ⟨n - 1, by omega⟩
  unfold mkB
  rw [List.range_succ_eq_map, List.map_cons, List.map_map]
  refine congr (congrArg _ (by simp)) ?_
  rw [Nat.add_sub_cancel]
  refine List.ext_getElem (by simp) fun i h1 h2 => ?_
  simp
theorem flat_rep (k : Nat) : (List.replicate k [V.int 0]).flatten = (List.replicate k (0 : Int)).map V.int := by
  induction k with
  | zero => rfl
  | succ k ih =>
    rw [List.replicate_succ, List.replicate_succ, List.flatten_cons, ih]
    rfl
theorem elder_bits : (mkB 3 fun k => decide (k ∈ ([2] : List Int))) = [1, 0, 1] := by decide
section
variable {P : Program} {w : World} {K : PySem.W.Frag} {mg : Str → Option Value} {base : Heap}
def spLaw (K : PySem.W.Frag) : Sp := fun vs H Q _ => ∃ (a : Addr) (ns : List Int), vs = [.ref a] ∧ SqL K H a (ns.map V.int) ∧ ns.length ≤ 63 ∧ ∀ H', Q (.bl true) H'
abbrev nLaw : List Str := ["_law_script", "_law_elder", "_law_before", "_law_k", "_law_pot_here", "_law_width_here", "_law_bits_here", "_law_handed", "_law_board", "_law_turn", "_law_bare"]
theorem scLaw : FnScope nLaw ["_law_script"] (defScope sLaw) := ⟨rfl, rfl, rfl, by decide +kernel, rfl, by decide +kernel, by decide +kernel⟩
theorem ok_law {f C : Addr} {fd : FuncData} (F : Fun K "law" "law" sLaw f fd) (B : Bl mg) (T : BC K mg C) (DP : Has P w K mg base "_law_pot" 2 ["_law_script", "_law_k"] (spPot K)) (DD : Has P w K mg base "_law_draw" 2 ["_law_pot_here", "_law_many"] spDraw)
    (DW : Has P w K mg base "_law_width" 3 ["_law_pot_here", "_law_most"] spWidth) (DB : Has P w K mg base "_law_bits" 3 ["_law_pot_here", "_law_width_here"] spBits) (DV : Has P w K mg base "_law_up" 2 ["_law_bits_here"] (spUpL K))
    (DM : Has P w K mg base "_law_mixed" 3 ["_law_pot_here", "_law_given"] (spMixed K)) (DI : HasIni P w K mg base C) (DR : HasG P w K mg base "_law_board_right" 5 ["_law_board", "_law_bits_here"] (spBR C))
    (DQ : HasG P w K mg base "_law_parities_right" 7 ["_law_pot_here", "_law_board", "_law_bits_here"] (spPR C)) (DT : HasG P w K mg base "_law_toggled_right" 9 ["_law_pot_here", "_law_board", "_law_bits_here"] (spTR C)) :
    FnG P w K mg base CX0 10 f fd ["_law_script"] (spLaw K) := by
  obtain ⟨fP, fdP, GP, mP, kP, bP⟩ := DP
  obtain ⟨fD, fdD, GD, mD, kD, bD⟩ := DD
  obtain ⟨fW, fdW, GW, mW, kW, bW⟩ := DW
  obtain ⟨fB, fdB, GB, mB, kB, bB⟩ := DB
  obtain ⟨fV, fdV, GV, mV, kV, bV⟩ := DV
  obtain ⟨fM, fdM, GM, mM, kM, bM⟩ := DM
  obtain ⟨fI, fdI, GI, MI, kb2, kb1, e0, dsI, hE, hdI, bI⟩ := DI
  obtain ⟨fR, fdR, GR, mR, kR, bR⟩ := DR
  obtain ⟨fQ, fdQ, GQ, mQ, kQ, bQ⟩ := DQ
  obtain ⟨fT, fdT, GT, mT, kT, bT⟩ := DT
  refine fnG_of F scLaw (fun vs H Q E h => ?_) (fun cdv A outer s H vs Q E gs hr h => ?_)
  · obtain ⟨a, ns, rfl, _⟩ := h
    rfl
  · obtain ⟨a, ns, rfl, hS, hlen, out⟩ := h
    have r1 : Room 2 (A.deeper (envOfC "law" (defScope sLaw) s.heap.objs.size f cdv)) := hr.mono (by decide)
    have r2 : Room 3 (A.deeper (envOfC "law" (defScope sLaw) s.heap.objs.size f cdv)) := hr.mono (by decide)
    have r4 : Room 5 (A.deeper (envOfC "law" (defScope sLaw) s.heap.objs.size f cdv)) := hr.mono (by decide)
    have r5 : Room 7 (A.deeper (envOfC "law" (defScope sLaw) s.heap.objs.size f cdv)) := hr.mono (by decide)
    refine ⟨_, pss_cons (ps_par (by rfl) scLaw.nd (i := 1) (j := 2) rfl rfl (by decide) rfl rfl (pa_cons (pe_makeN (n := 1) (ks := ["up"]) (E := E0) MI GI r5 (by rfl) T.mgC kb2 pass0 (pa_cons pe_int pa_nil) (pk_cons (pe_lst (pa_cons pe_int pa_nil)) pk_nil)) (pa_cons (pe_lst (pa_cons pe_int (pa_cons pe_int (pa_cons pe_int pa_nil)))) pa_nil)) (by rfl))
        (pss_cons (ps_for PassesOwn.never rfl (pi_range1 (by rfl) B.range (pa_cons (pe_callB (call_max2 rfl) (by rfl) B.max (by decide +kernel) (pa_cons pe_int (pa_cons (pe_callB (call_min2 rfl) (by rfl) B.min (by decide +kernel) (pa_cons pe_int (pa_cons (pe_callB call_len_seq (by rfl) B.len PySem.boot_len (pa_cons (pv 0) pa_nil)) pa_nil))) pa_nil))) pa_nil)) (pg_name (i := 3) scLaw.nd rfl (Or.inl rfl)) (pss_cons (ps_set (i := 4) scLaw.nd rfl (Or.inl rfl) (pe_call GP r1 (by rfl) mP kP bP .nil pass0 (pa_cons (pv 0) (pa_cons (pv 3) pa_nil))))
        (pss_cons (ps_set (i := 5) scLaw.nd rfl (Or.inl rfl) (pe_call GW r2 (by rfl) mW kW bW .nil pass0 (pa_cons (pv 4) (pa_cons pe_int pa_nil))))
        (pss_cons (ps_set (i := 6) scLaw.nd rfl (Or.inl rfl) (pe_call GB r2 (by rfl) mB kB bB .nil pass0 (pa_cons (pv 4) (pa_cons (pv 5) pa_nil))))
        (pss_cons (ps_set (i := 7) scLaw.nd rfl (Or.inl rfl) (pe_call GM r2 (by rfl) mM kM bM .nil pass0 (pa_cons (pv 4) (pa_cons (pe_slice sl_list (pe_call GV r1 (by rfl) mV kV bV .nil pass0 (pa_cons (pv 6) pa_nil)) (po_some (pe_call GD r1 (by rfl) mD kD bD .nil pass0 (pa_cons (pv 4) (pa_cons pe_int pa_nil)))) po_none) pa_nil))))
        (pss_cons (ps_set (i := 8) scLaw.nd rfl (Or.inl rfl) (pe_ifExp (pt_cmpR op_eq (pe_call GD r1 (by rfl) mD kD bD .nil pass0 (pa_cons (pv 4) (pa_cons pe_int pa_nil))) pe_int (nomark _)) (pe_makeN (n := 1) (ks := ["up"]) (E := E0) MI GI r5 (by rfl) T.mgC kb2 pass0 (pa_cons (pv 5) pa_nil) (pk_cons (pv 7) pk_nil)) (pe_makeK0 (ks := ["size", "up"]) (E := E0) MI GI r5 (by rfl) T.mgC kb1 pass0 (pk_cons (pv 5) (pk_cons (pe_callTy call_tuple_of (by rfl) B.tuple (by decide +kernel) (pa_cons (pv 7) pa_nil)) pk_nil)))))
        (pss_cons (ps_expr (pe_bm PySem.F.plainAttrs_list PySem.F.slot_list_append PySem.F.type_list_append mt_append (pv 7) (pa_cons pe_int pa_nil)))
        (pss_cons (ps_if (PW.pt (pw_or (pt_not (pt_val (pe_callG GR gs r4 (by rfl) mR kR bR pass0 (pa_cons (pv 8) (pa_cons (pv 6) pa_nil))))) (pw_or1 (pt_not (pt_val (pe_callG GQ gs r5 (by rfl) mQ kQ bQ pass0 (pa_cons (pv 4) (pa_cons (pv 8) (pa_cons (pv 6) pa_nil))))))))) (pss_one (ps_ret pe_bl)) pss_nil)
        (pss_cons (ps_for PassesOwn.never rfl (pi_range1 (by rfl) B.range (pa_cons pe_int pa_nil)) (pg_name (i := 9) scLaw.nd rfl (Or.inl rfl)) (pss_cons (ps_if (pt_not (pt_val (pe_callG GT gs hr (by rfl) mT kT bT pass0 (pa_cons (pv 4) (pa_cons (pv 8) (pa_cons (pv 6) pa_nil)))))) (pss_one (ps_ret pe_bl)) pss_nil)
        (pss_one (ps_if (PW.pt (pw_or (pt_not (pt_val (pe_callG GQ gs r5 (by rfl) mQ kQ bQ pass0 (pa_cons (pv 4) (pa_cons (pv 1) (pa_cons (pv 2) pa_nil)))))) (pw_or1 (pt_not (pt_val (pe_callG GR gs r4 (by rfl) mR kR bR pass0 (pa_cons (pv 1) (pa_cons (pv 2) pa_nil)))))))) (pss_one (ps_ret pe_bl)) pss_nil))))
        (pss_cons (ps_set (i := 10) scLaw.nd rfl (Or.inl rfl) (pe_op op_cat (pe_lst (pa_cons pe_int pa_nil)) (pe_op op_rep (pe_lst (pa_cons pe_int pa_nil)) (pe_op op_sub (pv 5) pe_int))))
        (pss_cons (ps_if (PW.pt (pw_or (pt_not (pt_val (pe_callG GR gs r4 (by rfl) mR kR bR pass0 (pa_cons (pe_make (E := E0) MI GI r5 (by rfl) T.mgC bI hdI pass0 (pa_cons (pv 5) pa_nil)) (pa_cons (pv 10) pa_nil))))) (pw_or1 (pt_not (pt_val (pe_callG GR gs r4 (by rfl) mR kR bR pass0 (pa_cons (pv 8) (pa_cons (pv 6) pa_nil)))))))) (pss_one (ps_ret pe_bl)) pss_nil)
        (pss_one (ps_asg (pe_ix ix_list (pe_lst (pa_cons (pe_tup (pa_cons (pv 8) (pa_cons (pv 6) pa_nil))) (pa_cons (pe_tup (pa_cons (pe_make (E := E0) MI GI r5 (by rfl) T.mgC bI hdI pass0 (pa_cons (pv 5) pa_nil)) (pa_cons (pv 10) pa_nil))) pa_nil))) (pe_call GD r1 (by rfl) mD kD bD .nil pass0 (pa_cons (pv 4) (pa_cons pe_int pa_nil))) (fun _ _ => rfl)) (pg_tup rfl (pgs_cons (pg_name (i := 1) scLaw.nd rfl (Or.inl rfl)) (pgs_cons (pg_name (i := 2) scLaw.nd rfl (Or.inl rfl)) pgs_nil))))))))))))))))
        (pss_one (ps_ret pe_bl))), ?_⟩
    -- the first elder
    refine ⟨by decide, fun L0 hL0 => ⟨rfl, rfl, made_board (H := upd H L0 (.lst [.int 2])) (u := L0) (n := 3) (ns := [2]) (.inl (SqL.of (show (upd H L0 (.lst [.int 2])) L0 = some (.lst (([2] : List Int).map V.int)) from upd_same))) (by decide) (by decide) (by decide) (by decide) (by decide) fun x0 H1 hx0 s1 hB1 => ?_⟩⟩
    rw [elder_bits] at hB1
    refine ⟨by decide, fun be0 hbe0 => ⟨_, _, rfl, ?_⟩⟩
    have s2 := same_new (o := .lst [.int 1, .int 0, .int 1]) hbe0
    have s02 : Same H _ := ((same_new (o := .lst [.int 2]) hL0).trans s1).trans s2
    -- the loop
    refine ⟨_, rfl, a, _, rfl, .inl (s02.seq hS), _, _, rfl, _, _, rfl, _, rfl, ?_, ?_, ?_⟩
    · rw [List.length_map]
      split <;> split <;> omega
    · rw [List.length_map]
      split <;> split <;> omega
    refine for_range (lo := 0) (fun i σ H' => Same H H' ∧ ∃ (x be : Addr) (bs : List Int) (kv pv wv bv hv dv tv rv : Option V), σ = [some (.ref a), some (.ref x), some (.ref be), kv, pv, wv, bv, hv, dv, tv, rv] ∧ Bd C H' x bs ∧ OkB bs ∧ H' be = some (.lst (bs.map V.int)))
      ⟨s02, x0, be0, [1, 0, 1], none, none, none, none, none, none, none, none, rfl, hB1.same s2, ⟨by decide, rfl, by decide⟩, upd_same⟩ ?_ ?_
    · rintro i σ H3 hi ⟨s3, xE, be, bE, kv, pv0, wv, bv, hv, dv, tv, rv, rfl, hE3, hOE, hbe3⟩
      have hi8 : i < 9 := by
        rw [List.length_map] at hi
        revert hi
        split <;> split <;> omega
      refine ⟨_, rfl, _, rfl, a, ns, i, (by rw [Int.zero_add]; rfl), s3.seq hS, by omega, fun p H4 hp s4 pot4 => ?_⟩
      refine ⟨_, rfl, p, 40, rfl, pot4, by decide, by decide, fun n H5 n1 n2 b5 pot5 => ?_⟩
      refine ⟨_, rfl, _, rfl, p, n, rfl, pot5, n1, by omega, fun ab bs H6 hab hO hbl b6 pot6 hab6 => ?_⟩
      have nab := pot_ne pot5 hab
      have hb40 := hO.2.2
      refine ⟨_, rfl, _, rfl, ab, bs, rfl, hab6, hb40, fun u H7 hu s7 hu7 => ?_⟩
      have pot7 := pot6.same s7
      have nu := pot_ne pot6 hu
      refine ⟨_, rfl, p, 2, rfl, pot7, by decide, by decide, fun d H8 d0 d1 b8 pot8 => ?_⟩
      obtain ⟨dn, rfl⟩ : ∃ dn : Nat, d = ((dn : Nat) : Int) := ⟨d.toNat, by omega⟩
      have hu8 := b8 u _ nu hu7
      refine ⟨_, rfl, u, _, rfl, SqL.of hu8, fun g hg => ?_⟩
      obtain ⟨tl, et, eu⟩ := up_cons hO
      have hup1 : 1 ≤ (upF 0 bs).length := by
        rw [eu, List.length_cons]
        omega
      rw [cut_drop _ dn (by rw [List.length_map]; omega), ← List.map_drop]
      have s9 := same_new (o := .lst (((upF 0 bs).drop dn).map V.int)) hg
      have hupl := upF_len 0 bs
      refine ⟨p, g, (upF 0 bs).drop dn, rfl, pot8.same s9, upd_same, pot_ne pot8 hg, by rw [List.length_drop]; omega, ?_⟩
      intro hd ms H10 hhd pm b10 pot10 hhd10
      have nhd := pot_ne (pot8.same s9) hhd
      have b68 : But p H6 H8 := (But.same s7).trans b8
      have b910 : But p H8 _ := But.same s9
      have ndms : ms.Nodup := pm.nodup_iff.mpr ((nodup_lt_ (upF_up 0 bs)).sublist (List.drop_sublist _ _))
      have hinms : ∀ k ∈ ms, 0 ≤ k ∧ k < ((n : Nat) : Int) := fun k hk => by
        have := upF_in ((List.drop_sublist _ _).subset (pm.mem_iff.mp hk))
        omega
      have lenms : ms.length ≤ 500 := by
        rw [pm.length_eq, List.length_drop]
        omega
      have em := mk_up hO (d := dn) (by omega) pm
      rw [hbl] at em
      have s39 : Same H3 (upd H8 g (.lst (((upF 0 bs).drop dn).map V.int))) := same_but hp s4 (((b5.trans b6).trans b68).trans b910)
      refine ⟨_, rfl, p, 2, rfl, pot10, by decide, by decide, fun c H11 c0 c1 b11 pot11 => ⟨rfl, _, rfl, ?_⟩⟩
      have s311 : Same H3 H11 := same_but hp s39 (b10.trans b11)
      refine ite2 (fun _ => ?_) (fun _ => ?_)
      · refine ⟨_, rfl, _, rfl, rfl, rfl, made_board (n := n) (ns := ms) (.inl (SqL.of (b11 hd _ nhd hhd10))) lenms n1 (by omega) hinms ndms fun x H12 hx s12 hB12 => ?_⟩
        rw [em] at hB12
        have hd12 : H12 hd = some (.lst (ms.map V.int)) := s12 _ _ (b11 hd _ nhd hhd10)
        refine ⟨_, rfl, .inl ⟨rfl, _, SqL.of hd12⟩, hd, _, _, rfl, rfl, hd12, (by rw [List.length_map]; exact small1000 (by omega)), ?_⟩
        have nah : ab ≠ hd := ne_of_none (b910 ab _ nab (b68 ab _ nab hab6)) hhd
        have ab13 : (upd H12 hd (.lst (ms.map V.int ++ [.int 0]))) ab = some (.lst (bs.map V.int)) := by
          rw [upd_ne nah]
          exact s12 _ _ (b11 ab _ nab (b10 ab _ nab (b910 ab _ nab (b68 ab _ nab hab6))))
        have pot13 : PotAt (upd H12 hd (.lst (ms.map V.int ++ [.int 0]))) p := by
          obtain ⟨y, z, e, r⟩ := pot11.same s12
          exact ⟨y, z, by rw [upd_ne (Ne.symm nhd)]; exact e, r⟩
        have s313 : Same H3 (upd H12 hd (.lst (ms.map V.int ++ [.int 0]))) := fun z o e => by
          have e11 := s311 z o e
          have e9 := s39 z o e
          rw [upd_ne (ne_of_none e9 hhd)]
          exact s12 _ _ e11
        have hB13 : Bd C (upd H12 hd (.lst (ms.map V.int ++ [.int 0]))) x bs := hB12.updL hd12
        refine ⟨_, rfl, _, rfl, x, ab, bs, rfl, hB13, hO, ab13, fun H14 s14 => ⟨_, rfl, iteF ?_⟩⟩
        refine ⟨_, rfl, _, rfl, _, rfl, p, x, ab, bs, rfl, pot13.same s14, hB13.same s14, hO, s14 _ _ ab13, nab, fun H15 b15 pot15 => ⟨_, rfl, iteF ?_⟩⟩
        have s315 : Same H3 H15 := same_but hp (s313.trans s14) b15
        have hB15 : Bd C H15 x bs := (hB13.same s14).but (pot13.same s14) b15
        have ab15 : H15 ab = some (.lst (bs.map V.int)) := b15 ab _ nab (s14 _ _ ab13)
        have nbe : be ≠ p := ne_of_none hbe3 hp
        refine ⟨3, rfl, by decide, by decide, ?_⟩
        refine for_range (lo := 0) (n := 3) (fun j σ H' => But p H15 H' ∧ PotAt H' p ∧ ∃ tv : Option V, σ = [some (.ref a), some (.ref xE), some (.ref be), some (.int (0 + (i : Int))), some (.ref p), some (.int (n : Nat)), some (.ref ab), some (.ref hd), some (.ref x), tv, rv])
          ⟨But.refl p H15, pot15, tv, rfl⟩ ?_ ?_
        · rintro j σ H16 hj ⟨b16, pot16, tv, rfl⟩
          refine ⟨_, rfl, _, rfl, _, rfl, p, x, ab, bs, rfl, pot16, hB15.but pot15 b16, hO, b16 ab _ nab ab15, nab, fun H17 b17 pot17 => ⟨_, rfl, iteF ?_⟩⟩
          have s317 : Same H3 H17 := same_but hp s315 (b16.trans b17)
          refine ⟨_, rfl, _, rfl, _, rfl, p, xE, be, bE, rfl, pot17, hE3.same s317, hOE, s317 _ _ hbe3, nbe, fun H18 b18 pot18 => ⟨_, rfl, iteF ?_⟩⟩
          have s318 : Same H3 H18 := same_but hp s317 b18
          refine ⟨_, rfl, _, rfl, xE, be, bE, rfl, hE3.same s318, hOE, s318 _ _ hbe3, fun H19 s19 => ⟨_, rfl, iteF ?_⟩⟩
          exact ⟨((b16.trans b17).trans b18).trans (But.same s19), pot18.same s19, _, rfl⟩
        · rintro σ H16 ⟨b16, pot16, tv, rfl⟩
          have s316 : Same H3 H16 := same_but hp s315 b16
          have hB16 : Bd C H16 x bs := hB15.but pot15 b16
          have ab16 : H16 ab = some (.lst (bs.map V.int)) := b16 ab _ nab ab15
          refine ⟨by decide, fun L1 hL1 => ⟨by decide, fun L2 hL2 => ?_⟩⟩
          have t1 := same_new (o := .lst [.int 1]) hL1
          have t2 := same_new (o := .lst [.int 0]) hL2
          refine ⟨_, rfl, (n : Nat), 1, rfl, rfl, L2, _, _, rfl, rfl, upd_same, by omega, by omega, (by show 1 * _ ≤ sizeLine; rw [sizeLine_eq]; omega), fun L3 hL3 => ?_⟩
          have en : (((n : Nat) : Int) - 1).toNat = n - 1 := by omega
          rw [en, flat_rep]
          have t3 := same_new (o := .lst ((List.replicate (n - 1) (0 : Int)).map V.int)) hL3
          refine ⟨L1, L3, _, _, rfl, rfl, t3 _ _ (t2 _ _ upd_same), upd_same, (by rw [List.length_map, List.length_replicate]; show 1 + _ ≤ sizeLine; rw [sizeLine_eq]; omega), fun L4 hL4 => ?_⟩
          have eb : [V.int 1] ++ (List.replicate (n - 1) (0 : Int)).map V.int = (mkB n fun k => decide (k ∈ ([] : List Int))).map V.int := by
            rw [bare_eq n n1]
            rfl
          rw [eb]
          have t4 := same_new (o := .lst ((mkB n fun k => decide (k ∈ ([] : List Int))).map V.int)) hL4
          have t14 := ((t1.trans t2).trans t3).trans t4
          refine ⟨_, rfl, made_board (n := n) (u := e0) (ns := []) (.inr (hE _)) (by decide) n1 (by omega) (fun k hk => nomatch hk) List.nodup_nil fun x2 H18 hx2 s18 hB18 => ?_⟩
          refine ⟨_, rfl, x2, L4, _, rfl, hB18, mkB_ok n1 (by omega), s18 _ _ upd_same, fun H19 s19 => ⟨_, rfl, iteF ?_⟩⟩
          have s1619 : Same H16 H19 := (t14.trans s18).trans s19
          refine ⟨_, rfl, _, rfl, x, ab, bs, rfl, hB16.same s1619, hO, s1619 _ _ ab16, fun H20 s20 => ⟨_, rfl, iteF ?_⟩⟩
          have s1620 := s1619.trans s20
          have L420 : H20 L4 = some (.lst ((mkB n fun k => decide (k ∈ ([] : List Int))).map V.int)) := s20 _ _ (s19 _ _ (s18 _ _ upd_same))
          refine ⟨_, rfl, _, rfl, (by show 2 ≤ sizeLine; decide), fun t1' ht1 => ?_⟩
          have w1 := same_new (o := .tup [.ref x, .ref ab]) ht1
          refine ⟨_, rfl, made_board (n := n) (u := e0) (ns := []) (.inr (hE _)) (by decide) n1 (by omega) (fun k hk => nomatch hk) List.nodup_nil fun x3 H21 hx3 s21 hB21 => ?_⟩
          refine ⟨_, rfl, (by show 2 ≤ sizeLine; decide), fun t2' ht2 => ?_⟩
          have w2 := same_new (o := .tup [.ref x3, .ref L4]) ht2
          refine ⟨(by show 2 ≤ sizeLine; decide), fun Ls hLs => ?_⟩
          have w3 := same_new (o := .lst [.ref t1', .ref t2']) hLs
          have w123 := ((w1.trans s21).trans w2).trans w3
          have potw := (pot16.same s1620).same w123
          refine ⟨_, rfl, p, 2, rfl, potw, by decide, by decide, fun c2 H22 c20 c21 b22 pot22 => ?_⟩
          have s322 : Same H3 H22 := same_but hp ((s316.trans s1620).trans w123) b22
          have pw0 := pot16.same s1620
          have nLs := pot_ne ((pw0.same ((w1.trans s21).trans w2))) hLs
          have nt1 := pot_ne pw0 ht1
          have nt2 := pot_ne (pw0.same (w1.trans s21)) ht2
          have nL4 : L4 ≠ p := fun z => by
            obtain ⟨y1, y2, e, _⟩ := pot16
            exact ne_of_none ((((t1.trans t2).trans t3)) _ _ e) hL4 z.symm
          have eLs : H22 Ls = some (.lst [.ref t1', .ref t2']) := b22 Ls _ nLs upd_same
          rcases (show c2 = 0 ∨ c2 = 1 by omega) with rfl | rfl
          · refine ⟨Ls, _, 0, .ref t1', rfl, rfl, SqL.of eLs, rfl, t1', _, rfl, SqT.of (b22 t1' _ nt1 (w3 _ _ (w2 _ _ (s21 _ _ upd_same)))), rfl, _, _, rfl, _, _, rfl, rfl, ?_⟩
            exact ⟨s3.trans s322, x, ab, bs, _, _, _, _, _, _, _, _, rfl, ((hB16.same s1620).same w123).but potw b22, hO, b22 ab _ nab (w123 _ _ (s1620 _ _ ab16))⟩
          · refine ⟨Ls, _, 1, .ref t2', rfl, rfl, SqL.of eLs, rfl, t2', _, rfl, SqT.of (b22 t2' _ nt2 (w3 _ _ upd_same)), rfl, _, _, rfl, _, _, rfl, rfl, ?_⟩
            exact ⟨s3.trans s322, x3, L4, _, _, _, _, _, _, _, _, _, rfl, ((hB21.same w2).same w3).but potw b22, mkB_ok n1 (by omega), b22 L4 _ nL4 (w123 _ _ L420)⟩
      · refine ⟨_, rfl, _, rfl, hd, _, rfl, .inl ⟨SqL.of (b11 hd _ nhd hhd10), fun l hl => ?_⟩⟩
        have sl := same_new (o := .tup (ms.map V.int)) hl
        refine ⟨rfl, rfl, made_board (n := n) (ns := ms) (.inr (SqT.of upd_same)) lenms n1 (by omega) hinms ndms fun x H12 hx s12' hB12 => ?_⟩
        rw [em] at hB12
        have s12 : Same H11 H12 := sl.trans s12'
        have hd12 : H12 hd = some (.lst (ms.map V.int)) := s12 _ _ (b11 hd _ nhd hhd10)
        refine ⟨_, rfl, .inl ⟨rfl, _, SqL.of hd12⟩, hd, _, _, rfl, rfl, hd12, (by rw [List.length_map]; exact small1000 (by omega)), ?_⟩
        have nah : ab ≠ hd := ne_of_none (b910 ab _ nab (b68 ab _ nab hab6)) hhd
        have ab13 : (upd H12 hd (.lst (ms.map V.int ++ [.int 0]))) ab = some (.lst (bs.map V.int)) := by
          rw [upd_ne nah]
          exact s12 _ _ (b11 ab _ nab (b10 ab _ nab (b910 ab _ nab (b68 ab _ nab hab6))))
        have pot13 : PotAt (upd H12 hd (.lst (ms.map V.int ++ [.int 0]))) p := by
          obtain ⟨y, z, e, r⟩ := pot11.same s12
          exact ⟨y, z, by rw [upd_ne (Ne.symm nhd)]; exact e, r⟩
        have s313 : Same H3 (upd H12 hd (.lst (ms.map V.int ++ [.int 0]))) := fun z o e => by
          have e11 := s311 z o e
          have e9 := s39 z o e
          rw [upd_ne (ne_of_none e9 hhd)]
          exact s12 _ _ e11
        have hB13 : Bd C (upd H12 hd (.lst (ms.map V.int ++ [.int 0]))) x bs := hB12.updL hd12
        refine ⟨_, rfl, _, rfl, x, ab, bs, rfl, hB13, hO, ab13, fun H14 s14 => ⟨_, rfl, iteF ?_⟩⟩
        refine ⟨_, rfl, _, rfl, _, rfl, p, x, ab, bs, rfl, pot13.same s14, hB13.same s14, hO, s14 _ _ ab13, nab, fun H15 b15 pot15 => ⟨_, rfl, iteF ?_⟩⟩
        have s315 : Same H3 H15 := same_but hp (s313.trans s14) b15
        have hB15 : Bd C H15 x bs := (hB13.same s14).but (pot13.same s14) b15
        have ab15 : H15 ab = some (.lst (bs.map V.int)) := b15 ab _ nab (s14 _ _ ab13)
        have nbe : be ≠ p := ne_of_none hbe3 hp
        refine ⟨3, rfl, by decide, by decide, ?_⟩
        refine for_range (lo := 0) (n := 3) (fun j σ H' => But p H15 H' ∧ PotAt H' p ∧ ∃ tv : Option V, σ = [some (.ref a), some (.ref xE), some (.ref be), some (.int (0 + (i : Int))), some (.ref p), some (.int (n : Nat)), some (.ref ab), some (.ref hd), some (.ref x), tv, rv])
          ⟨But.refl p H15, pot15, tv, rfl⟩ ?_ ?_
        · rintro j σ H16 hj ⟨b16, pot16, tv, rfl⟩
          refine ⟨_, rfl, _, rfl, _, rfl, p, x, ab, bs, rfl, pot16, hB15.but pot15 b16, hO, b16 ab _ nab ab15, nab, fun H17 b17 pot17 => ⟨_, rfl, iteF ?_⟩⟩
          have s317 : Same H3 H17 := same_but hp s315 (b16.trans b17)
          refine ⟨_, rfl, _, rfl, _, rfl, p, xE, be, bE, rfl, pot17, hE3.same s317, hOE, s317 _ _ hbe3, nbe, fun H18 b18 pot18 => ⟨_, rfl, iteF ?_⟩⟩
          have s318 : Same H3 H18 := same_but hp s317 b18
          refine ⟨_, rfl, _, rfl, xE, be, bE, rfl, hE3.same s318, hOE, s318 _ _ hbe3, fun H19 s19 => ⟨_, rfl, iteF ?_⟩⟩
          exact ⟨((b16.trans b17).trans b18).trans (But.same s19), pot18.same s19, _, rfl⟩
        · rintro σ H16 ⟨b16, pot16, tv, rfl⟩
          have s316 : Same H3 H16 := same_but hp s315 b16
          have hB16 : Bd C H16 x bs := hB15.but pot15 b16
          have ab16 : H16 ab = some (.lst (bs.map V.int)) := b16 ab _ nab ab15
          refine ⟨by decide, fun L1 hL1 => ⟨by decide, fun L2 hL2 => ?_⟩⟩
          have t1 := same_new (o := .lst [.int 1]) hL1
          have t2 := same_new (o := .lst [.int 0]) hL2
          refine ⟨_, rfl, (n : Nat), 1, rfl, rfl, L2, _, _, rfl, rfl, upd_same, by omega, by omega, (by show 1 * _ ≤ sizeLine; rw [sizeLine_eq]; omega), fun L3 hL3 => ?_⟩
          have en : (((n : Nat) : Int) - 1).toNat = n - 1 := by omega
          rw [en, flat_rep]
          have t3 := same_new (o := .lst ((List.replicate (n - 1) (0 : Int)).map V.int)) hL3
          refine ⟨L1, L3, _, _, rfl, rfl, t3 _ _ (t2 _ _ upd_same), upd_same, (by rw [List.length_map, List.length_replicate]; show 1 + _ ≤ sizeLine; rw [sizeLine_eq]; omega), fun L4 hL4 => ?_⟩
          have eb : [V.int 1] ++ (List.replicate (n - 1) (0 : Int)).map V.int = (mkB n fun k => decide (k ∈ ([] : List Int))).map V.int := by
            rw [bare_eq n n1]
            rfl
          rw [eb]
          have t4 := same_new (o := .lst ((mkB n fun k => decide (k ∈ ([] : List Int))).map V.int)) hL4
          have t14 := ((t1.trans t2).trans t3).trans t4
          refine ⟨_, rfl, made_board (n := n) (u := e0) (ns := []) (.inr (hE _)) (by decide) n1 (by omega) (fun k hk => nomatch hk) List.nodup_nil fun x2 H18 hx2 s18 hB18 => ?_⟩
          refine ⟨_, rfl, x2, L4, _, rfl, hB18, mkB_ok n1 (by omega), s18 _ _ upd_same, fun H19 s19 => ⟨_, rfl, iteF ?_⟩⟩
          have s1619 : Same H16 H19 := (t14.trans s18).trans s19
          refine ⟨_, rfl, _, rfl, x, ab, bs, rfl, hB16.same s1619, hO, s1619 _ _ ab16, fun H20 s20 => ⟨_, rfl, iteF ?_⟩⟩
          have s1620 := s1619.trans s20
          have L420 : H20 L4 = some (.lst ((mkB n fun k => decide (k ∈ ([] : List Int))).map V.int)) := s20 _ _ (s19 _ _ (s18 _ _ upd_same))
          refine ⟨_, rfl, _, rfl, (by show 2 ≤ sizeLine; decide), fun t1' ht1 => ?_⟩
          have w1 := same_new (o := .tup [.ref x, .ref ab]) ht1
          refine ⟨_, rfl, made_board (n := n) (u := e0) (ns := []) (.inr (hE _)) (by decide) n1 (by omega) (fun k hk => nomatch hk) List.nodup_nil fun x3 H21 hx3 s21 hB21 => ?_⟩
          refine ⟨_, rfl, (by show 2 ≤ sizeLine; decide), fun t2' ht2 => ?_⟩
          have w2 := same_new (o := .tup [.ref x3, .ref L4]) ht2
          refine ⟨(by show 2 ≤ sizeLine; decide), fun Ls hLs => ?_⟩
          have w3 := same_new (o := .lst [.ref t1', .ref t2']) hLs
          have w123 := ((w1.trans s21).trans w2).trans w3
          have potw := (pot16.same s1620).same w123
          refine ⟨_, rfl, p, 2, rfl, potw, by decide, by decide, fun c2 H22 c20 c21 b22 pot22 => ?_⟩
          have s322 : Same H3 H22 := same_but hp ((s316.trans s1620).trans w123) b22
          have pw0 := pot16.same s1620
          have nLs := pot_ne ((pw0.same ((w1.trans s21).trans w2))) hLs
          have nt1 := pot_ne pw0 ht1
          have nt2 := pot_ne (pw0.same (w1.trans s21)) ht2
          have nL4 : L4 ≠ p := fun z => by
            obtain ⟨y1, y2, e, _⟩ := pot16
            exact ne_of_none ((((t1.trans t2).trans t3)) _ _ e) hL4 z.symm
          have eLs : H22 Ls = some (.lst [.ref t1', .ref t2']) := b22 Ls _ nLs upd_same
          rcases (show c2 = 0 ∨ c2 = 1 by omega) with rfl | rfl
          · refine ⟨Ls, _, 0, .ref t1', rfl, rfl, SqL.of eLs, rfl, t1', _, rfl, SqT.of (b22 t1' _ nt1 (w3 _ _ (w2 _ _ (s21 _ _ upd_same)))), rfl, _, _, rfl, _, _, rfl, rfl, ?_⟩
            exact ⟨s3.trans s322, x, ab, bs, _, _, _, _, _, _, _, _, rfl, ((hB16.same s1620).same w123).but potw b22, hO, b22 ab _ nab (w123 _ _ (s1620 _ _ ab16))⟩
          · refine ⟨Ls, _, 1, .ref t2', rfl, rfl, SqL.of eLs, rfl, t2', _, rfl, SqT.of (b22 t2' _ nt2 (w3 _ _ upd_same)), rfl, _, _, rfl, _, _, rfl, rfl, ?_⟩
            exact ⟨s3.trans s322, x3, L4, _, _, _, _, _, _, _, _, _, rfl, ((hB21.same w2).same w3).but potw b22, mkB_ok n1 (by omega), b22 L4 _ nL4 (w123 _ _ L420)⟩
    · rintro σ H3 ⟨s3, xE, be, bE, kv, pv0, wv, bv, hv, dv, tv, rv, rfl, hE3, hOE, hbe3⟩
      exact out H3
end
end K12
namespace K12
open PySem PySem.Spec PyProof.Rows L2 Par
theorem kb_size {K : PySem.W.Frag} {x : Str} {st : Stmt} {f : Addr} {fd : FuncData} {y : Str} (F : FunD K x x (defArgs st) (defBody st) (defScope st) [] [("size", .int 40)] f fd)
    (h : ∀ (D : Addr) (doc pm : Value) (an : Option Addr) (cdv ct u v : Value), bindArgs (PySem.W.fnOf x x (defArgs st) (defBody st) (defScope st) .none (.ref D) doc pm an cdv ct) ⟨[u], [("size", v)]⟩ = pure [(y, u), ("size", v)]) :
    KBn K fd [y, "size"] 1 ["size"] (fun us ws => us ++ ws) (fun vs zs => vs ++ zs) := by
  obtain ⟨oc, od, dV, kV, doc, pm, an, cdv, ct, osl, rfl, lk, hcd, hD, hK⟩ := F.ex
  rcases hD with ⟨_, rfl⟩ | ⟨e, _⟩
  · rcases hK with e | ⟨D, rfl, hq⟩
    · cases e
    · refine ⟨fun s us ws X l1 l2 => ?_, fun r1 r2 => r1.append r2⟩
      match us, ws, l1, l2 with
      | [u], [v], _, _ => exact .of_eq (h D doc pm an cdv ct u v)
  · exact absurd rfl e
theorem kb_one {K : PySem.W.Frag} {x q : Str} {st : Stmt} {f : Addr} {fd : FuncData} {y : Str} (F : Fun K x q st f fd)
    (h : ∀ (kV doc pm : Value) (an : Option Addr) (cdv ct u v : Value), bindArgs (PySem.W.fnOf x q (defArgs st) (defBody st) (defScope st) .none kV doc pm an cdv ct) ⟨[u], [(y, v)]⟩ = pure ([("self", u), (y, v)] : List (Str × Value))) :
    KBn K fd ["self", y] 1 [y] (fun us ws => us ++ ws) (fun vs zs => vs ++ zs) := by
  obtain ⟨oc, od, kV, doc, pm, an, cdv, ct, osl, rfl, lk, hcd⟩ := F.ex
  refine ⟨fun s us ws X l1 l2 => ?_, fun r1 r2 => r1.append r2⟩
  match us, ws, l1, l2 with
  | [u], [v], _, _ => exact .of_eq (h kV doc pm an cdv ct u v)
theorem kb_ini {K : PySem.W.Frag} {f e : Addr} {fd : FuncData} {n : Nat} {ks : List Str} (F : FunD K "__init__" "Board.__init__" (defArgs mInit) (defBody mInit) (defScope mInit) [] [("up", .ref e)] f fd)
    (h : ∀ (D : Addr) (doc pm : Value) (an : Option Addr) (cdv ct : Value) (us ws : List Value), us.length = n → ws.length = ks.length →
      bindArgs (PySem.W.fnOf "__init__" "Board.__init__" (defArgs mInit) (defBody mInit) (defScope mInit) .none (.ref D) doc pm an cdv ct) ⟨us, ks.zip ws⟩ = pure ((["self", "size", "up"] : List Str).zip (us ++ ws))) :
    KBn K fd ["self", "size", "up"] n ks (fun us ws => us ++ ws) (fun vs zs => vs ++ zs) := by
  obtain ⟨oc, od, dV, kV, doc, pm, an, cdv, ct, osl, rfl, lk, hcd, hD, hK⟩ := F.ex
  rcases hD with ⟨_, rfl⟩ | ⟨e, _⟩
  · rcases hK with e | ⟨D, rfl, hq⟩
    · cases e
    · exact ⟨fun s us ws X l1 l2 => .of_eq (h D doc pm an cdv ct us ws l1 l2), fun r1 r2 => r1.append r2⟩
  · exact absurd rfl e
theorem all_mk {l : PySem.W.OpenLaw} {w : World} {K : PySem.W.Frag} {h : Heap} {mg : Str → Option Value} {fa : Addr} (X : K.In h) (G : h.Ns mainGlobals mg) (hfa : mg "law" = some (.ref fa))
    {f6 : Addr} {oc6 kV6 dc6 pm6 cd6 ct6 : Value} {od6 an6 : Option Addr} {sl6 : Array (Option Value)}
    {f9 : Addr} {oc9 kV9 dc9 pm9 cd9 ct9 : Value} {od9 an9 : Option Addr} {sl9 : Array (Option Value)}
    {fare : Addr} {ocare kVare dcare pmare cdare ctare : Value} {odare anare : Option Addr} {slare : Array (Option Value)}
    {f12 : Addr} {oc12 kV12 dc12 pm12 cd12 ct12 : Value} {od12 an12 : Option Addr} {sl12 : Array (Option Value)}
    {f16 : Addr} {oc16 kV16 dc16 pm16 cd16 ct16 : Value} {od16 an16 : Option Addr} {sl16 : Array (Option Value)}
    {f17 : Addr} {oc17 kV17 dc17 pm17 cd17 ct17 : Value} {od17 an17 : Option Addr} {sl17 : Array (Option Value)}
    {f18 : Addr} {oc18 kV18 dc18 pm18 cd18 ct18 : Value} {od18 an18 : Option Addr} {sl18 : Array (Option Value)}
    {f19 : Addr} {oc19 kV19 dc19 pm19 cd19 ct19 : Value} {od19 an19 : Option Addr} {sl19 : Array (Option Value)}
    {f20 : Addr} {oc20 kV20 dc20 pm20 cd20 ct20 : Value} {od20 an20 : Option Addr} {sl20 : Array (Option Value)}
    {f21 : Addr} {oc21 kV21 dc21 pm21 cd21 ct21 : Value} {od21 an21 : Option Addr} {sl21 : Array (Option Value)}
    {f22 : Addr} {oc22 kV22 dc22 pm22 cd22 ct22 : Value} {od22 an22 : Option Addr} {sl22 : Array (Option Value)}
    {f23 : Addr} {oc23 kV23 dc23 pm23 cd23 ct23 : Value} {od23 an23 : Option Addr} {sl23 : Array (Option Value)}
    {f24 : Addr} {oc24 kV24 dc24 pm24 cd24 ct24 : Value} {od24 an24 : Option Addr} {sl24 : Array (Option Value)}
    {f25 : Addr} {oc25 kV25 dc25 pm25 cd25 ct25 : Value} {od25 an25 : Option Addr} {sl25 : Array (Option Value)}
    {f26 : Addr} {oc26 kV26 dc26 pm26 cd26 ct26 : Value} {od26 an26 : Option Addr} {sl26 : Array (Option Value)}
    {f27 : Addr} {oc27 kV27 dc27 pm27 cd27 ct27 : Value} {od27 an27 : Option Addr} {sl27 : Array (Option Value)}
    {f10 D10 : Addr} {t10 : Tok} {oc10 dc10 pm10 cd10 ct10 : Value} {od10 an10 : Option Addr} {sl10 : Array (Option Value)}
    {f11 D11 : Addr} {t11 : Tok} {oc11 dc11 pm11 cd11 ct11 : Value} {od11 an11 : Option Addr} {sl11 : Array (Option Value)}
    {C fI DI e : Addr} {tM : Tok} {ocI dcI pmI cdI ctI : Value} {odI anI : Option Addr} {slI : Array (Option Value)} {ode : Option Addr} {ne : Nat} {sle : Array (Option Value)}
    {fL : Addr} {ocL kVL dcL pmL cdL ctL : Value} {odL anL : Option Addr} {slL : Array (Option Value)}
    {fS : Addr} {ocS kVS dcS pmS cdS ctS : Value} {odS anS : Option Addr} {slS : Array (Option Value)}
    {fU : Addr} {ocU kVU dcU pmU cdU ctU : Value} {odU anU : Option Addr} {slU : Array (Option Value)}
    {fX : Addr} {ocX kVX dcX pmX cdX ctX : Value} {odX anX : Option Addr} {slX : Array (Option Value)}
    {fY : Addr} {ocY kVY dcY pmY cdY ctY : Value} {odY anY : Option Addr} {slY : Array (Option Value)}
    {fZ : Addr} {ocZ kVZ dcZ pmZ cdZ ctZ : Value} {odZ anZ : Option Addr} {slZ : Array (Option Value)}
    {fii : Addr} {ocii kVii dcii pmii cdii ctii : Value} {odii anii : Option Addr} {slii : Array (Option Value)}
    (aii : PySem.W.nsIn K mainGlobals "is_integer" = some (some (.ref fii)))
    (lii : K.lookup fii = some ⟨ocii, odii, .func (PySem.W.fnOf "is_integer" "is_integer" (defArgs sInteger) (defBody sInteger) (defScope sInteger) .none kVii dcii pmii anii cdii ctii), slii⟩)
    (cii : PySem.W.codeIn K cdii "is_integer" = true)
    (kii : PySem.W.keepIn K (.ref fii) = true)
    (a6 : PySem.W.nsIn K mainGlobals "is_integer_between" = some (some (.ref f6)))
    (l6 : K.lookup f6 = some ⟨oc6, od6, .func (PySem.W.fnOf "is_integer_between" "is_integer_between" (defArgs sBetween) (defBody sBetween) (defScope sBetween) .none kV6 dc6 pm6 an6 cd6 ct6), sl6⟩)
    (c6 : PySem.W.codeIn K cd6 "is_integer_between" = true)
    (k6 : PySem.W.keepIn K (.ref f6) = true)
    (a9 : PySem.W.nsIn K mainGlobals "is_size" = some (some (.ref f9)))
    (l9 : K.lookup f9 = some ⟨oc9, od9, .func (PySem.W.fnOf "is_size" "is_size" (defArgs sIsSize) (defBody sIsSize) (defScope sIsSize) .none kV9 dc9 pm9 an9 cd9 ct9), sl9⟩)
    (c9 : PySem.W.codeIn K cd9 "is_size" = true)
    (k9 : PySem.W.keepIn K (.ref f9) = true)
    (aare : PySem.W.nsIn K mainGlobals "are_cells" = some (some (.ref fare)))
    (lare : K.lookup fare = some ⟨ocare, odare, .func (PySem.W.fnOf "are_cells" "are_cells" (defArgs sAre) (defBody sAre) (defScope sAre) .none kVare dcare pmare anare cdare ctare), slare⟩)
    (care : PySem.W.codeIn K cdare "are_cells" = true)
    (kare : PySem.W.keepIn K (.ref fare) = true)
    (a12 : PySem.W.nsIn K mainGlobals "added_cells" = some (some (.ref f12)))
    (l12 : K.lookup f12 = some ⟨oc12, od12, .func (PySem.W.fnOf "added_cells" "added_cells" (defArgs sAdded) (defBody sAdded) (defScope sAdded) .none kV12 dc12 pm12 an12 cd12 ct12), sl12⟩)
    (c12 : PySem.W.codeIn K cd12 "added_cells" = true)
    (k12 : PySem.W.keepIn K (.ref f12) = true)
    (a16 : PySem.W.nsIn K mainGlobals "_law_pot" = some (some (.ref f16)))
    (l16 : K.lookup f16 = some ⟨oc16, od16, .func (PySem.W.fnOf "_law_pot" "_law_pot" (defArgs sPot) (defBody sPot) (defScope sPot) .none kV16 dc16 pm16 an16 cd16 ct16), sl16⟩)
    (c16 : PySem.W.codeIn K cd16 "_law_pot" = true)
    (k16 : PySem.W.keepIn K (.ref f16) = true)
    (a17 : PySem.W.nsIn K mainGlobals "_law_draw" = some (some (.ref f17)))
    (l17 : K.lookup f17 = some ⟨oc17, od17, .func (PySem.W.fnOf "_law_draw" "_law_draw" (defArgs sDraw) (defBody sDraw) (defScope sDraw) .none kV17 dc17 pm17 an17 cd17 ct17), sl17⟩)
    (c17 : PySem.W.codeIn K cd17 "_law_draw" = true)
    (k17 : PySem.W.keepIn K (.ref f17) = true)
    (a18 : PySem.W.nsIn K mainGlobals "_law_width" = some (some (.ref f18)))
    (l18 : K.lookup f18 = some ⟨oc18, od18, .func (PySem.W.fnOf "_law_width" "_law_width" (defArgs sWidth) (defBody sWidth) (defScope sWidth) .none kV18 dc18 pm18 an18 cd18 ct18), sl18⟩)
    (c18 : PySem.W.codeIn K cd18 "_law_width" = true)
    (k18 : PySem.W.keepIn K (.ref f18) = true)
    (a19 : PySem.W.nsIn K mainGlobals "_law_spots" = some (some (.ref f19)))
    (l19 : K.lookup f19 = some ⟨oc19, od19, .func (PySem.W.fnOf "_law_spots" "_law_spots" (defArgs sSpots) (defBody sSpots) (defScope sSpots) .none kV19 dc19 pm19 an19 cd19 ct19), sl19⟩)
    (c19 : PySem.W.codeIn K cd19 "_law_spots" = true)
    (k19 : PySem.W.keepIn K (.ref f19) = true)
    (a20 : PySem.W.nsIn K mainGlobals "_law_bits" = some (some (.ref f20)))
    (l20 : K.lookup f20 = some ⟨oc20, od20, .func (PySem.W.fnOf "_law_bits" "_law_bits" (defArgs sBits) (defBody sBits) (defScope sBits) .none kV20 dc20 pm20 an20 cd20 ct20), sl20⟩)
    (c20 : PySem.W.codeIn K cd20 "_law_bits" = true)
    (k20 : PySem.W.keepIn K (.ref f20) = true)
    (a21 : PySem.W.nsIn K mainGlobals "_law_parity" = some (some (.ref f21)))
    (l21 : K.lookup f21 = some ⟨oc21, od21, .func (PySem.W.fnOf "_law_parity" "_law_parity" (defArgs sParity) (defBody sParity) (defScope sParity) .none kV21 dc21 pm21 an21 cd21 ct21), sl21⟩)
    (c21 : PySem.W.codeIn K cd21 "_law_parity" = true)
    (k21 : PySem.W.keepIn K (.ref f21) = true)
    (a22 : PySem.W.nsIn K mainGlobals "_law_up" = some (some (.ref f22)))
    (l22 : K.lookup f22 = some ⟨oc22, od22, .func (PySem.W.fnOf "_law_up" "_law_up" (defArgs sUp) (defBody sUp) (defScope sUp) .none kV22 dc22 pm22 an22 cd22 ct22), sl22⟩)
    (c22 : PySem.W.codeIn K cd22 "_law_up" = true)
    (k22 : PySem.W.keepIn K (.ref f22) = true)
    (a23 : PySem.W.nsIn K mainGlobals "_law_mixed" = some (some (.ref f23)))
    (l23 : K.lookup f23 = some ⟨oc23, od23, .func (PySem.W.fnOf "_law_mixed" "_law_mixed" (defArgs sMixed) (defBody sMixed) (defScope sMixed) .none kV23 dc23 pm23 an23 cd23 ct23), sl23⟩)
    (c23 : PySem.W.codeIn K cd23 "_law_mixed" = true)
    (k23 : PySem.W.keepIn K (.ref f23) = true)
    (a24 : PySem.W.nsIn K mainGlobals "_law_board_right" = some (some (.ref f24)))
    (l24 : K.lookup f24 = some ⟨oc24, od24, .func (PySem.W.fnOf "_law_board_right" "_law_board_right" (defArgs sBoardR) (defBody sBoardR) (defScope sBoardR) .none kV24 dc24 pm24 an24 cd24 ct24), sl24⟩)
    (c24 : PySem.W.codeIn K cd24 "_law_board_right" = true)
    (k24 : PySem.W.keepIn K (.ref f24) = true)
    (a25 : PySem.W.nsIn K mainGlobals "_law_parities_right" = some (some (.ref f25)))
    (l25 : K.lookup f25 = some ⟨oc25, od25, .func (PySem.W.fnOf "_law_parities_right" "_law_parities_right" (defArgs sParR) (defBody sParR) (defScope sParR) .none kV25 dc25 pm25 an25 cd25 ct25), sl25⟩)
    (c25 : PySem.W.codeIn K cd25 "_law_parities_right" = true)
    (k25 : PySem.W.keepIn K (.ref f25) = true)
    (a26 : PySem.W.nsIn K mainGlobals "_law_toggled_right" = some (some (.ref f26)))
    (l26 : K.lookup f26 = some ⟨oc26, od26, .func (PySem.W.fnOf "_law_toggled_right" "_law_toggled_right" (defArgs sTogR) (defBody sTogR) (defScope sTogR) .none kV26 dc26 pm26 an26 cd26 ct26), sl26⟩)
    (c26 : PySem.W.codeIn K cd26 "_law_toggled_right" = true)
    (k26 : PySem.W.keepIn K (.ref f26) = true)
    (a27 : PySem.W.nsIn K mainGlobals "law" = some (some (.ref f27)))
    (l27 : K.lookup f27 = some ⟨oc27, od27, .func (PySem.W.fnOf "law" "law" (defArgs sLaw) (defBody sLaw) (defScope sLaw) .none kV27 dc27 pm27 an27 cd27 ct27), sl27⟩)
    (c27 : PySem.W.codeIn K cd27 "law" = true)
    (k27 : PySem.W.keepIn K (.ref f27) = true)
    (a10 : PySem.W.nsIn K mainGlobals "is_cell" = some (some (.ref f10)))
    (l10 : K.lookup f10 = some ⟨oc10, od10, .func (PySem.W.fnOf "is_cell" "is_cell" (defArgs sIsCell) (defBody sIsCell) (defScope sIsCell) .none (.ref D10) dc10 pm10 an10 cd10 ct10), sl10⟩)
    (d10 : PySem.W.nsIn K D10 "size" = some (some (.int 40 t10)))
    (c10 : PySem.W.codeIn K cd10 "is_cell" = true)
    (k10 : PySem.W.keepIn K (.ref f10) = true)
    (a11 : PySem.W.nsIn K mainGlobals "cell_tuple" = some (some (.ref f11)))
    (l11 : K.lookup f11 = some ⟨oc11, od11, .func (PySem.W.fnOf "cell_tuple" "cell_tuple" (defArgs sCells) (defBody sCells) (defScope sCells) .none (.ref D11) dc11 pm11 an11 cd11 ct11), sl11⟩)
    (d11 : PySem.W.nsIn K D11 "size" = some (some (.int 40 t11)))
    (c11 : PySem.W.codeIn K cd11 "cell_tuple" = true)
    (k11 : PySem.W.keepIn K (.ref f11) = true)
    (aC : PySem.W.nsIn K mainGlobals "Board" = some (some (.ref C)))
    (iI : PySem.W.findIn K (.ref C) "__init__" = some (some (.ref fI)))
    (nI : PySem.W.isFn K (.ref fI) = true)
    (lI : K.lookup fI = some ⟨ocI, odI, .func (PySem.W.fnOf "__init__" "Board.__init__" (defArgs mInit) (defBody mInit) (defScope mInit) .none (.ref DI) dcI pmI anI cdI ctI), slI⟩)
    (dI : PySem.W.nsIn K DI "up" = some (some (.ref e)))
    (le : K.lookup e = some ⟨.type "tuple", ode, .seq #[] ne, sle⟩)
    (cI : PySem.W.codeIn K cdI "Board.__init__" = true)
    (kI : PySem.W.keepIn K (.ref fI) = true)
    (aL : PySem.W.findIn K (.ref C) "__len__" = some (some (.ref fL)))
    (nL : PySem.W.isFn K (.ref fL) = true)
    (lL : K.lookup fL = some ⟨ocL, odL, .func (PySem.W.fnOf "__len__" "Board.__len__" (defArgs mLen) (defBody mLen) (defScope mLen) .none kVL dcL pmL anL cdL ctL), slL⟩)
    (cL : PySem.W.codeIn K cdL "Board.__len__" = true)
    (kL : PySem.W.keepIn K (.ref fL) = true)
    (aS : PySem.W.findIn K (.ref C) "size" = some (some (.ref fS)))
    (nS : PySem.W.isFn K (.ref fS) = true)
    (lS : K.lookup fS = some ⟨ocS, odS, .func (PySem.W.fnOf "size" "Board.size" (defArgs mSize) (defBody mSize) (defScope mSize) .none kVS dcS pmS anS cdS ctS), slS⟩)
    (cS : PySem.W.codeIn K cdS "Board.size" = true)
    (kS : PySem.W.keepIn K (.ref fS) = true)
    (aU : PySem.W.findIn K (.ref C) "up" = some (some (.ref fU)))
    (nU : PySem.W.isFn K (.ref fU) = true)
    (lU : K.lookup fU = some ⟨ocU, odU, .func (PySem.W.fnOf "up" "Board.up" (defArgs mUps) (defBody mUps) (defScope mUps) .none kVU dcU pmU anU cdU ctU), slU⟩)
    (cU : PySem.W.codeIn K cdU "Board.up" = true)
    (kU : PySem.W.keepIn K (.ref fU) = true)
    (aX : PySem.W.findIn K (.ref C) "is_up" = some (some (.ref fX)))
    (nX : PySem.W.isFn K (.ref fX) = true)
    (lX : K.lookup fX = some ⟨ocX, odX, .func (PySem.W.fnOf "is_up" "Board.is_up" (defArgs mIsUp) (defBody mIsUp) (defScope mIsUp) .none kVX dcX pmX anX cdX ctX), slX⟩)
    (cX : PySem.W.codeIn K cdX "Board.is_up" = true)
    (kX : PySem.W.keepIn K (.ref fX) = true)
    (aY : PySem.W.findIn K (.ref C) "parity" = some (some (.ref fY)))
    (nY : PySem.W.isFn K (.ref fY) = true)
    (lY : K.lookup fY = some ⟨ocY, odY, .func (PySem.W.fnOf "parity" "Board.parity" (defArgs mPar) (defBody mPar) (defScope mPar) .none kVY dcY pmY anY cdY ctY), slY⟩)
    (cY : PySem.W.codeIn K cdY "Board.parity" = true)
    (kY : PySem.W.keepIn K (.ref fY) = true)
    (aZ : PySem.W.findIn K (.ref C) "toggled" = some (some (.ref fZ)))
    (nZ : PySem.W.isFn K (.ref fZ) = true)
    (lZ : K.lookup fZ = some ⟨ocZ, odZ, .func (PySem.W.fnOf "toggled" "Board.toggled" (defArgs mTog) (defBody mTog) (defScope mTog) .none kVZ dcZ pmZ anZ cdZ ctZ), slZ⟩)
    (cZ : PySem.W.codeIn K cdZ "Board.toggled" = true)
    (kZ : PySem.W.keepIn K (.ref fZ) = true)
    (pg : PySem.W.plainGet K C Str.empty = true)
    (hd : PySem.W.hasDictIn K C = true)
    (po : PySem.W.plainOver K C = true)
    (sa : PySem.W.findIn K (.ref C) "__setattr__" = some (some (.builtin "object.__setattr__")))
    (mk : PySem.W.makesIn K C = true)
    (kc : PySem.W.keepIn K (.ref C) = true)
    (nst : PySem.W.findIn K (.ref C) "states" = some none)
    (mM : PySem.W.nsIn K mainGlobals "MOST_CELLS" = some (some (.int 40 tM)))
    (z_len : PySem.W.nsIn K mainGlobals "len" = some none)
    (z_abs : PySem.W.nsIn K mainGlobals "abs" = some none)
    (z_max : PySem.W.nsIn K mainGlobals "max" = some none)
    (z_min : PySem.W.nsIn K mainGlobals "min" = some none)
    (z_divmod : PySem.W.nsIn K mainGlobals "divmod" = some none)
    (z_list : PySem.W.nsIn K mainGlobals "list" = some none)
    (z_tuple : PySem.W.nsIn K mainGlobals "tuple" = some none)
    (z_range : PySem.W.nsIn K mainGlobals "range" = some none)
    (z_isinstance : PySem.W.nsIn K mainGlobals "isinstance" = some none)
    (z_bool : PySem.W.nsIn K mainGlobals "bool" = some none)
    (z_int : PySem.W.nsIn K mainGlobals "int" = some none)
    (z_sorted : PySem.W.nsIn K mainGlobals "sorted" = some none)
    (z_set : PySem.W.nsIn K mainGlobals "set" = some none)
    (z_all : PySem.W.nsIn K mainGlobals "all" = some none)
    (z_enumerate : PySem.W.nsIn K mainGlobals "enumerate" = some none)
    (z_repr : PySem.W.nsIn K mainGlobals "repr" = some none)
    (z_sum : PySem.W.nsIn K mainGlobals "sum" = some none) :
    ∃ fd : FuncData, (∀ (s : Shared) (v : Value), BindsTo s fd ⟨[v], []⟩ [("_law_script", v)]) ∧ ∀ base : Heap, K.In base → base.Ns mainGlobals mg → FnG l.prog w K mg base CX0 10 fa fd ["_law_script"] (spLaw K) := by
  have e0 := hfa.symm.trans (PySem.W.mg_of X G a27)
  cases e0
  have B : Bl mg := ⟨PySem.W.mg_none_of X G z_len, PySem.W.mg_none_of X G z_abs, PySem.W.mg_none_of X G z_max, PySem.W.mg_none_of X G z_min, PySem.W.mg_none_of X G z_divmod, PySem.W.mg_none_of X G z_list, PySem.W.mg_none_of X G z_tuple, PySem.W.mg_none_of X G z_range, PySem.W.mg_none_of X G z_isinstance, PySem.W.mg_none_of X G z_bool, PySem.W.mg_none_of X G z_int, PySem.W.mg_none_of X G z_sorted, PySem.W.mg_none_of X G z_set, PySem.W.mg_none_of X G z_all, PySem.W.mg_none_of X G z_enumerate, PySem.W.mg_none_of X G z_repr, PySem.W.mg_none_of X G z_sum⟩
  have Fii := fun_mk (st := sInteger) lii cii kii
  have bii := Fii.binds (ps := ["thing"]) fun _ _ _ _ _ _ us hl => match us, hl with | [_], _ => rfl
  have mii := PySem.W.mg_of X G aii
  have F6 := fun_mk (st := sBetween) l6 c6 k6
  have b6 := F6.binds (ps := ["thing", "low", "high"]) fun _ _ _ _ _ _ us hl => match us, hl with | [_, _, _], _ => rfl
  have m6 := PySem.W.mg_of X G a6
  have F9 := fun_mk (st := sIsSize) l9 c9 k9
  have b9 := F9.binds (ps := ["thing"]) fun _ _ _ _ _ _ us hl => match us, hl with | [_], _ => rfl
  have m9 := PySem.W.mg_of X G a9
  have Fare := fun_mk (st := sAre) lare care kare
  have bare := Fare.binds (ps := ["things", "size"]) fun _ _ _ _ _ _ us hl => match us, hl with | [_, _], _ => rfl
  have mare := PySem.W.mg_of X G aare
  have F12 := fun_mk (st := sAdded) l12 c12 k12
  have b12 := F12.binds (ps := ["one", "other"]) fun _ _ _ _ _ _ us hl => match us, hl with | [_, _], _ => rfl
  have m12 := PySem.W.mg_of X G a12
  have F16 := fun_mk (st := sPot) l16 c16 k16
  have b16 := F16.binds (ps := ["_law_script", "_law_k"]) fun _ _ _ _ _ _ us hl => match us, hl with | [_, _], _ => rfl
  have m16 := PySem.W.mg_of X G a16
  have F17 := fun_mk (st := sDraw) l17 c17 k17
  have b17 := F17.binds (ps := ["_law_pot_here", "_law_many"]) fun _ _ _ _ _ _ us hl => match us, hl with | [_, _], _ => rfl
  have m17 := PySem.W.mg_of X G a17
  have F18 := fun_mk (st := sWidth) l18 c18 k18
  have b18 := F18.binds (ps := ["_law_pot_here", "_law_most"]) fun _ _ _ _ _ _ us hl => match us, hl with | [_, _], _ => rfl
  have m18 := PySem.W.mg_of X G a18
  have F19 := fun_mk (st := sSpots) l19 c19 k19
  have b19 := F19.binds (ps := ["_law_pot_here", "_law_least", "_law_width_here"]) fun _ _ _ _ _ _ us hl => match us, hl with | [_, _, _], _ => rfl
  have m19 := PySem.W.mg_of X G a19
  have F20 := fun_mk (st := sBits) l20 c20 k20
  have b20 := F20.binds (ps := ["_law_pot_here", "_law_width_here"]) fun _ _ _ _ _ _ us hl => match us, hl with | [_, _], _ => rfl
  have m20 := PySem.W.mg_of X G a20
  have F21 := fun_mk (st := sParity) l21 c21 k21
  have b21 := F21.binds (ps := ["_law_bits_here", "_law_spots_here"]) fun _ _ _ _ _ _ us hl => match us, hl with | [_, _], _ => rfl
  have m21 := PySem.W.mg_of X G a21
  have F22 := fun_mk (st := sUp) l22 c22 k22
  have b22 := F22.binds (ps := ["_law_bits_here"]) fun _ _ _ _ _ _ us hl => match us, hl with | [_], _ => rfl
  have m22 := PySem.W.mg_of X G a22
  have F23 := fun_mk (st := sMixed) l23 c23 k23
  have b23 := F23.binds (ps := ["_law_pot_here", "_law_given"]) fun _ _ _ _ _ _ us hl => match us, hl with | [_, _], _ => rfl
  have m23 := PySem.W.mg_of X G a23
  have F24 := fun_mk (st := sBoardR) l24 c24 k24
  have b24 := F24.binds (ps := ["_law_board", "_law_bits_here"]) fun _ _ _ _ _ _ us hl => match us, hl with | [_, _], _ => rfl
  have m24 := PySem.W.mg_of X G a24
  have F25 := fun_mk (st := sParR) l25 c25 k25
  have b25 := F25.binds (ps := ["_law_pot_here", "_law_board", "_law_bits_here"]) fun _ _ _ _ _ _ us hl => match us, hl with | [_, _, _], _ => rfl
  have m25 := PySem.W.mg_of X G a25
  have F26 := fun_mk (st := sTogR) l26 c26 k26
  have b26 := F26.binds (ps := ["_law_pot_here", "_law_board", "_law_bits_here"]) fun _ _ _ _ _ _ us hl => match us, hl with | [_, _, _], _ => rfl
  have m26 := PySem.W.mg_of X G a26
  have F27 := fun_mk (st := sLaw) l27 c27 k27
  have b27 := F27.binds (ps := ["_law_script"]) fun _ _ _ _ _ _ us hl => match us, hl with | [_], _ => rfl
  have m27 := PySem.W.mg_of X G a27
  have FL := fun_mk (st := mLen) lL cL kL
  have bL := FL.binds (ps := ["self"]) fun _ _ _ _ _ _ us hl => match us, hl with | [_], _ => rfl
  have mL : Meth K C "__len__" fL := ⟨aL, nL, kL⟩
  have FS := fun_mk (st := mSize) lS cS kS
  have bS := FS.binds (ps := ["self"]) fun _ _ _ _ _ _ us hl => match us, hl with | [_], _ => rfl
  have mS : Meth K C "size" fS := ⟨aS, nS, kS⟩
  have FU := fun_mk (st := mUps) lU cU kU
  have bU := FU.binds (ps := ["self"]) fun _ _ _ _ _ _ us hl => match us, hl with | [_], _ => rfl
  have mU : Meth K C "up" fU := ⟨aU, nU, kU⟩
  have FX := fun_mk (st := mIsUp) lX cX kX
  have bX := FX.binds (ps := ["self", "cell"]) fun _ _ _ _ _ _ us hl => match us, hl with | [_, _], _ => rfl
  have mX : Meth K C "is_up" fX := ⟨aX, nX, kX⟩
  have FY := fun_mk (st := mPar) lY cY kY
  have bY := FY.binds (ps := ["self", "cells"]) fun _ _ _ _ _ _ us hl => match us, hl with | [_, _], _ => rfl
  have mY : Meth K C "parity" fY := ⟨aY, nY, kY⟩
  have FZ := fun_mk (st := mTog) lZ cZ kZ
  have bZ := FZ.binds (ps := ["self", "cells"]) fun _ _ _ _ _ _ us hl => match us, hl with | [_, _], _ => rfl
  have mZ : Meth K C "toggled" fZ := ⟨aZ, nZ, kZ⟩
  have kbX := kb_one (st := mIsUp) (y := "cell") FX (fun _ _ _ _ _ _ _ _ => rfl)
  have kbY := kb_one (st := mPar) (y := "cells") FY (fun _ _ _ _ _ _ _ _ => rfl)
  have kbZ := kb_one (st := mTog) (y := "cells") FZ (fun _ _ _ _ _ _ _ _ => rfl)
  have F10 : FunD K "is_cell" "is_cell" (defArgs sIsCell) (defBody sIsCell) (defScope sIsCell) [] [("size", .int 40)] f10 _ := ⟨⟨oc10, od10, .none, .ref D10, dc10, pm10, an10, cd10, ct10, sl10, rfl, l10, c10, .inl ⟨rfl, rfl⟩, .inr ⟨D10, rfl, fun q hq => by
    rw [List.mem_singleton.mp hq]
    exact ⟨_, d10, _, rfl⟩⟩⟩, k10⟩
  have m10 := PySem.W.mg_of X G a10
  have kb10 := kb_size (st := sIsCell) (y := "thing") F10 (fun _ _ _ _ _ _ _ _ => rfl)
  have F11 : FunD K "cell_tuple" "cell_tuple" (defArgs sCells) (defBody sCells) (defScope sCells) [] [("size", .int 40)] f11 _ := ⟨⟨oc11, od11, .none, .ref D11, dc11, pm11, an11, cd11, ct11, sl11, rfl, l11, c11, .inl ⟨rfl, rfl⟩, .inr ⟨D11, rfl, fun q hq => by
    rw [List.mem_singleton.mp hq]
    exact ⟨_, d11, _, rfl⟩⟩⟩, k11⟩
  have m11 := PySem.W.mg_of X G a11
  have kb11 := kb_size (st := sCells) (y := "things") F11 (fun _ _ _ _ _ _ _ _ => rfl)
  have FI : FunD K "__init__" "Board.__init__" (defArgs mInit) (defBody mInit) (defScope mInit) [] [("up", .ref e)] fI _ := ⟨⟨ocI, odI, .none, .ref DI, dcI, pmI, anI, cdI, ctI, slI, rfl, lI, cI, .inl ⟨rfl, rfl⟩, .inr ⟨DI, rfl, fun q hq => by
    rw [List.mem_singleton.mp hq]
    exact ⟨_, dI, rfl⟩⟩⟩, kI⟩
  have kbI2 := kb_ini (n := 2) (ks := ["up"]) FI (fun D doc pm an cdv ct us ws h1 h2 => match us, ws, h1, h2 with | [_, _], [_], _, _ => rfl)
  have kbI1 := kb_ini (n := 1) (ks := ["size", "up"]) FI (fun D doc pm an cdv ct us ws h1 h2 => match us, ws, h1, h2 with | [_], [_, _], _, _ => rfl)
  obtain ⟨dsI, hdI, bI⟩ := FI.binds0 (ps := ["self", "size", "up"]) 2 (by simp) rfl (fun D doc pm an cdv ct us ks h1 h2 => match us, ks, h1, h2 with | [_, _], [_], _, _ => ⟨_, _, _, _, _, _, rfl, rfl, rfl⟩)
  have T : BC K mg C := ⟨⟨pg, hd, po, sa⟩, nst, PySem.W.mg_of X G aC⟩
  refine ⟨PySem.W.fnOf "law" "law" (defArgs sLaw) (defBody sLaw) (defScope sLaw) .none kV27 dc27 pm27 an27 cd27 ct27, fun s v => .of_eq rfl, fun base _ _ => ?_⟩
  have HD : Has l.prog w K mg base "_law_draw" 2 ["_law_pot_here", "_law_many"] spDraw := ⟨f17, _, ok_draw F17 B, m17, k17, b17⟩
  have HNi : Has l.prog w K mg base "is_integer" 1 ["thing"] spInteger := ⟨fii, _, ok_integer Fii B, mii, kii, bii⟩
  have HB : Has l.prog w K mg base "is_integer_between" 2 ["thing", "low", "high"] spBetween := ⟨f6, _, ok_between F6 B HNi, m6, k6, b6⟩
  have HZ : Has l.prog w K mg base "is_size" 3 ["thing"] spIsSize := ⟨f9, _, ok_issize F9 ⟨_, PySem.W.mg_of X G mM⟩ HB, m9, k9, b9⟩
  have HC : HasN l.prog w K mg base "is_cell" 3 "thing" spIsCell := ⟨f10, _, ok_iscell F10 HB, m10, k10, kb10⟩
  have HAr : Has l.prog w K mg base "are_cells" 4 ["things", "size"] (spAre K) := ⟨fare, _, ok_are Fare B HC, mare, kare, bare⟩
  have HE : HasN l.prog w K mg base "cell_tuple" 5 "things" (spCells K) := ⟨f11, _, ok_cells F11 B HAr, m11, k11, kb11⟩
  have HA : Has l.prog w K mg base "added_cells" 2 ["one", "other"] (spAdded K) := ⟨f12, _, ok_added F12 B, m12, k12, b12⟩
  have HP : Has l.prog w K mg base "_law_pot" 2 ["_law_script", "_law_k"] (spPot K) := ⟨f16, _, ok_pot F16 B, m16, k16, b16⟩
  have HW : Has l.prog w K mg base "_law_width" 3 ["_law_pot_here", "_law_most"] spWidth := ⟨f18, _, ok_width F18 B HD, m18, k18, b18⟩
  have HS : Has l.prog w K mg base "_law_spots" 3 ["_law_pot_here", "_law_least", "_law_width_here"] spSpots := ⟨f19, _, ok_spots F19 B HD, m19, k19, b19⟩
  have HT : Has l.prog w K mg base "_law_bits" 3 ["_law_pot_here", "_law_width_here"] spBits := ⟨f20, _, ok_bits F20 B HD, m20, k20, b20⟩
  have HY : Has l.prog w K mg base "_law_parity" 2 ["_law_bits_here", "_law_spots_here"] (spParity K) := ⟨f21, _, ok_parity F21 B, m21, k21, b21⟩
  have HV : Has l.prog w K mg base "_law_up" 2 ["_law_bits_here"] (spUpL K) := ⟨f22, _, ok_upL F22 B, m22, k22, b22⟩
  have HM : Has l.prog w K mg base "_law_mixed" 3 ["_law_pot_here", "_law_given"] (spMixed K) := ⟨f23, _, ok_mixed F23 B HD, m23, k23, b23⟩
  have ML : HasM l.prog w K mg base C "__len__" 2 ["self"] (spSize C) := ⟨fL, _, ok_len FL B T, mL, bL⟩
  have MS : HasM l.prog w K mg base C "size" 2 ["self"] (spSize C) := ⟨fS, _, ok_size FS B T, mS, bS⟩
  have MU : HasM l.prog w K mg base C "up" 2 ["self"] (spUps C) := ⟨fU, _, ok_ups FU B T, mU, bU⟩
  have MX : HasMK l.prog w K mg base C "is_up" 4 "cell" (spIsUp C) := ⟨fX, _, ok_isup FX B T MS HC, mX, bX, kbX⟩
  have MY : HasMK l.prog w K mg base C "parity" 6 "cells" (spPar K C) := ⟨fY, _, ok_par FY B T MS HE, mY, bY, kbY⟩
  have HI : HasIni l.prog w K mg base C := ⟨fI, _, ok_init FI B T HZ HE, ⟨mk, iI, nI, kc⟩, kbI2, kbI1, e, dsI, fun H => .inr ⟨_, #[], _, le, rfl, rfl, Nat.zero_le _, .nil⟩, hdI, bI⟩
  have MZ : HasMK l.prog w K mg base C "toggled" 8 "cells" (spTog K C) := ⟨fZ, _, ok_tog FZ B T MS MU HE HA HI, mZ, bZ, kbZ⟩
  have GR : HasG l.prog w K mg base "_law_board_right" 5 ["_law_board", "_law_bits_here"] (spBR C) := ⟨f24, _, ok_BR F24 B T MS MU ML MX HV, m24, k24, b24⟩
  have GQ : HasG l.prog w K mg base "_law_parities_right" 7 ["_law_pot_here", "_law_board", "_law_bits_here"] (spPR C) := ⟨f25, _, ok_PR F25 B T HS HM HY MY, m25, k25, b25⟩
  have GT : HasG l.prog w K mg base "_law_toggled_right" 9 ["_law_pot_here", "_law_board", "_law_bits_here"] (spTR C) := ⟨f26, _, ok_TR F26 B T HD HS HM MZ GR, m26, k26, b26⟩
  exact ok_law F27 B T HP HD HW HT HV HM HI GR GQ GT
end K12
open PySem PySem.W PyProof.Rows
set_option maxRecDepth 100000 in
set_option maxHeartbeats 0 in
theorem PySem.Challenge.cw_paritycells_k12_boards_read_holds : PySem.Challenge.rw_paritycells_k12_boards_read.Holds := by
  w_on; o_law; k_head; (case hw => w_witness2)
  k_fill
  refine Par.walkG (l := PySem.Challenge.rw_paritycells_k12_boards_read) (k := 10) (x := "_law_script") (sp := K12.spLaw) rfl (by decide) rfl ⟨rfl, by decide, by decide⟩ (fun w h Y => PySem.W.kIn_of Y) ?F (fun K H a ns hl _ hS => ⟨a, ns, rfl, hS, hl, fun _ => rfl⟩)
  case F =>
    intro w mg fa h KX G hmg
    refine' K12.all_mk KX G hmg ?q_aii ?q_lii ?q_cii ?q_kii ?q_a6 ?q_l6 ?q_c6 ?q_k6 ?q_a9 ?q_l9 ?q_c9 ?q_k9 ?q_aare ?q_lare ?q_care ?q_kare ?q_a12 ?q_l12 ?q_c12 ?q_k12 ?q_a16 ?q_l16 ?q_c16 ?q_k16 ?q_a17 ?q_l17 ?q_c17 ?q_k17 ?q_a18 ?q_l18 ?q_c18 ?q_k18 ?q_a19 ?q_l19 ?q_c19 ?q_k19 ?q_a20 ?q_l20 ?q_c20 ?q_k20 ?q_a21 ?q_l21 ?q_c21 ?q_k21 ?q_a22 ?q_l22 ?q_c22 ?q_k22 ?q_a23 ?q_l23 ?q_c23 ?q_k23 ?q_a24 ?q_l24 ?q_c24 ?q_k24 ?q_a25 ?q_l25 ?q_c25 ?q_k25 ?q_a26 ?q_l26 ?q_c26 ?q_k26 ?q_a27 ?q_l27 ?q_c27 ?q_k27 ?q_a10 ?q_l10 ?q_d10 ?q_c10 ?q_k10 ?q_a11 ?q_l11 ?q_d11 ?q_c11 ?q_k11 ?q_aC ?q_iI ?q_nI ?q_lI ?q_dI ?q_le ?q_cI ?q_kI ?q_aL ?q_nL ?q_lL ?q_cL ?q_kL ?q_aS ?q_nS ?q_lS ?q_cS ?q_kS ?q_aU ?q_nU ?q_lU ?q_cU ?q_kU ?q_aX ?q_nX ?q_lX ?q_cX ?q_kX ?q_aY ?q_nY ?q_lY ?q_cY ?q_kY ?q_aZ ?q_nZ ?q_lZ ?q_cZ ?q_kZ ?q_pg ?q_hd ?q_po ?q_sa ?q_mk ?q_kc ?q_nst ?q_mM ?q_z_len ?q_z_abs ?q_z_max ?q_z_min ?q_z_divmod ?q_z_list ?q_z_tuple ?q_z_range ?q_z_isinstance ?q_z_bool ?q_z_int ?q_z_sorted ?q_z_set ?q_z_all ?q_z_enumerate ?q_z_repr ?q_z_sum
    (case q_aii => k_is)
    (case q_lii => k_is)
    (case q_cii => k_is)
    (case q_kii => k_is)
    (case q_a6 => k_is)
    (case q_l6 => k_is)
    (case q_c6 => k_is)
    (case q_k6 => k_is)
    (case q_a9 => k_is)
    (case q_l9 => k_is)
    (case q_c9 => k_is)
    (case q_k9 => k_is)
    (case q_aare => k_is)
    (case q_lare => k_is)
    (case q_care => k_is)
    (case q_kare => k_is)
    (case q_a12 => k_is)
    (case q_l12 => k_is)
    (case q_c12 => k_is)
    (case q_k12 => k_is)
    (case q_a16 => k_is)
    (case q_l16 => k_is)
    (case q_c16 => k_is)
    (case q_k16 => k_is)
    (case q_a17 => k_is)
    (case q_l17 => k_is)
    (case q_c17 => k_is)
    (case q_k17 => k_is)
    (case q_a18 => k_is)
    (case q_l18 => k_is)
    (case q_c18 => k_is)
    (case q_k18 => k_is)
    (case q_a19 => k_is)
    (case q_l19 => k_is)
    (case q_c19 => k_is)
    (case q_k19 => k_is)
    (case q_a20 => k_is)
    (case q_l20 => k_is)
    (case q_c20 => k_is)
    (case q_k20 => k_is)
    (case q_a21 => k_is)
    (case q_l21 => k_is)
    (case q_c21 => k_is)
    (case q_k21 => k_is)
    (case q_a22 => k_is)
    (case q_l22 => k_is)
    (case q_c22 => k_is)
    (case q_k22 => k_is)
    (case q_a23 => k_is)
    (case q_l23 => k_is)
    (case q_c23 => k_is)
    (case q_k23 => k_is)
    (case q_a24 => k_is)
    (case q_l24 => k_is)
    (case q_c24 => k_is)
    (case q_k24 => k_is)
    (case q_a25 => k_is)
    (case q_l25 => k_is)
    (case q_c25 => k_is)
    (case q_k25 => k_is)
    (case q_a26 => k_is)
    (case q_l26 => k_is)
    (case q_c26 => k_is)
    (case q_k26 => k_is)
    (case q_a27 => k_is)
    (case q_l27 => k_is)
    (case q_c27 => k_is)
    (case q_k27 => k_is)
    (case q_a10 => k_is)
    (case q_l10 => k_is)
    (case q_d10 => k_is)
    (case q_c10 => k_is)
    (case q_k10 => k_is)
    (case q_a11 => k_is)
    (case q_l11 => k_is)
    (case q_d11 => k_is)
    (case q_c11 => k_is)
    (case q_k11 => k_is)
    (case q_aC => k_is)
    (case q_iI => k_is)
    (case q_nI => k_is)
    (case q_lI => k_is)
    (case q_dI => k_is)
    (case q_le => k_is)
    (case q_cI => k_is)
    (case q_kI => k_is)
    (case q_aL => k_is)
    (case q_nL => k_is)
    (case q_lL => k_is)
    (case q_cL => k_is)
    (case q_kL => k_is)
    (case q_aS => k_is)
    (case q_nS => k_is)
    (case q_lS => k_is)
    (case q_cS => k_is)
    (case q_kS => k_is)
    (case q_aU => k_is)
    (case q_nU => k_is)
    (case q_lU => k_is)
    (case q_cU => k_is)
    (case q_kU => k_is)
    (case q_aX => k_is)
    (case q_nX => k_is)
    (case q_lX => k_is)
    (case q_cX => k_is)
    (case q_kX => k_is)
    (case q_aY => k_is)
    (case q_nY => k_is)
    (case q_lY => k_is)
    (case q_cY => k_is)
    (case q_kY => k_is)
    (case q_aZ => k_is)
    (case q_nZ => k_is)
    (case q_lZ => k_is)
    (case q_cZ => k_is)
    (case q_kZ => k_is)
    (case q_pg => k_is)
    (case q_hd => k_is)
    (case q_po => k_is)
    (case q_sa => k_is)
    (case q_mk => k_is)
    (case q_kc => k_is)
    (case q_nst => k_is)
    (case q_mM => k_is)
    (case q_z_len => k_is)
    (case q_z_abs => k_is)
    (case q_z_max => k_is)
    (case q_z_min => k_is)
    (case q_z_divmod => k_is)
    (case q_z_list => k_is)
    (case q_z_tuple => k_is)
    (case q_z_range => k_is)
    (case q_z_isinstance => k_is)
    (case q_z_bool => k_is)
    (case q_z_int => k_is)
    (case q_z_sorted => k_is)
    (case q_z_set => k_is)
    (case q_z_all => k_is)
    (case q_z_enumerate => k_is)
    (case q_z_repr => k_is)
    (case q_z_sum => k_is)
#print axioms PySem.Challenge.cw_paritycells_k12_boards_read_holds
