import PyProof.Rows.All
import Wide.All
import OpenK.AllK
import Wide.FinOn
import HandS.ForMost
import HandS.ForExc
import HandS.ExcInit
import HandS.ExcIs
import HandS.ExcField
import HandS.IsInst
import HandS.Defaults
import HandS.SortInts
import HandS.SetFor
import HandS.More
import HandS.Conv
import HandS.WideBits
import HandS.TupAny
import HandS.SuiteRaise
import HandS.TryMany
import KE.GoesMore
import HandS.Walk
import KE.KExcIs
import HandS.CallSlots
import HandS.Strs
import HandS.SortKw
import KE.KExcInit
import HandS.MakeKw
import HandS.MakeKwOnly
import HandS.OwnEq
import PyProof.InstNe
import PyProof.ReprReads
import HandS.FStr
import KE.KCallOwn
import PyProof.ReprRoads
import KE.DataEq
import HandS.Flow
import PySem.Challenge.RW_paritycells_k14_flips_made_or_refused
set_option Elab.async false
set_option linter.all false
set_option maxRecDepth 100000
set_option maxHeartbeats 4000000
namespace Par
open PySem PySem.Spec PyProof.Rows L2

/-! A def's promise where nothing is being shown by repr around it: the guards are known to be none. -/
structure FnG (P : Program) (w : World) (K : PySem.W.Frag) (mg : Str → Option Value) (base : Heap) (CX : CXT) (k : Nat)
    (f : Addr) (fd : FuncData) (ps : List Str) (sp : Sp) : Prop where
  arity : ∀ vs H Q E, sp vs H Q E → vs.length = ps.length
  go : ∀ (A : Around) (outer : List Env) (s : Shared) (H : Hp) (args : Args) (us : List Value) (vs : List V) (Q : VK) (E : XK),
    A.guards = some [] → Room k A → Env0 P w K mg base A outer s H → BindsTo s fd args (ps.zip us) → Vals vs us →
    sp vs H Q E → codeAny (model P w) A (.call (.ref f) args) (CR CX outer P w H s Q E) s

section
variable {P : Program} {w : World} {K : PySem.W.Frag} {mg : Str → Option Value} {base : Heap}

theorem fnG_of {k : Nat} {x qual : Str} {st : Stmt} {f : Addr} {fd : FuncData} {N ps : List Str} {sp : Sp}
    (F : Fun K x qual st f fd) (S : FnScope N ps (defScope st))
    (arity : ∀ vs H Q E, sp vs H Q E → vs.length = ps.length)
    (body : ∀ (cdv : Value) (A : Around) (outer : List Env) (s : Shared) (H : Hp) (vs : List V) (Q : VK) (E : XK),
      A.guards = some [] → Room k (A.deeper (envOfC qual (defScope st) s.heap.objs.size f cdv)) → sp vs H Q E →
      ∃ t, PSs (cxOf CX0 P w K mg base N qual (defScope st) f cdv A outer s H E).nox (defBody st) t ∧
        t { nx := fun _ H' => Q .non H', rt := Q } (start N vs) H) :
    FnG P w K mg base CX0 (k + 1) f fd ps sp := by
  obtain ⟨oc, od, kV, doc, pm, an, cdv, ct, osl, efd, lk, hcd⟩ := F.ex
  subst efd
  constructor
  · exact arity
  intro A outer s H args us vs Q E gs room e0 bound rel hsp
  have lens := arity _ _ _ _ hsp
  have kin : K.In s.heap := e0.mod.kin.keeps (fun b o z => (e0.bs b o z).1)
  have nolim : s.heap.NoLimit := e0.mod.nolimit.keeps (fun b o z => (e0.bs b o z).1)
  have kinds : ∀ y ∈ ps.zip us, (defScope st).names.lookup y.1 = some .local ∨ ((defScope st).names.lookup y.1 = some .cell ∧
      ((cellsFrom (s.heap.objs.size + 1) (defScope st).names []).lookup y.1).isSome = true) := by
    rintro ⟨n, v⟩ hy
    cases S.par n (List.of_mem_zip hy).1 with
    | inl q => exact Or.inl q
    | inr q => exact Or.inr ⟨q, PySem.W.cellsFrom_some _ _ _ (Or.inl q)⟩
  refine codeAny_call_function room.depth (kin _ _ lk) rfl S.co S.gen rfl (PySem.W.codeRec_of kin hcd) (bound _ _ _ _ ?_)
  refine wpAny_newFunctionEnv_cells S.kind kinds ?_
  intro env he s1 x1
  subst he
  refine ⟨nolim.keeps x1.toInCall.keep, codeAny_func ?_⟩
  obtain ⟨t, ht, hq⟩ := body cdv A outer s H vs Q E gs (room.deeper _) hsp
  have I := inv_start (CX := CX0) (E := E) (w := w) S room.hd e0 lens rel x1
  refine wpAny_mono (ht.nox.run [] s1 (start N vs) H _ I hq) ?_ (fun e s' hs => hs)
  intro fl s' hs
  cases fl with
  | ret u =>
    obtain ⟨v, σ1, H1, J, rv, q⟩ := hs
    exact ⟨v, H1, J.os, J.bare, J.base, J.hok, rv, q⟩
  | next =>
    obtain ⟨σ1, H1, J, q⟩ := hs
    exact ⟨V.non, H1, J.os, J.bare, J.base, J.hok, rfl, q⟩
  | brk => exact (let ⟨_, _, _, q⟩ := hs; False.elim q)
  | cont => exact (let ⟨_, _, _, q⟩ := hs; False.elim q)
end

section
variable {X : Cx} {CX : CXT} {k : Nat} {f : Addr} {fd : FuncData} {ps : List Str} {sp : Sp} {x : Str} {p pos : Pos} {e : Expr} {es : List Expr} {t : TA} {E : XK}

/-- f(e, ..) of such a def, called where the guards are none -/
theorem pe_callG (F : FnG X.prog X.w X.K X.mg X.base CX k f fd ps sp) (gs : X.A.guards = some []) (hr : Room k X.A) (hg : Gl X x)
    (hm : X.mg x = some (.ref f)) (hk : PySem.W.keepIn X.K (.ref f) = true) (hb : Binds X.K fd ps []) (hx : Passes CX X E) (ha : PA X (e :: es) t)
    (hdb : (x == ("__debug__" : Str)) = false := by decide)
    (he : starEach (e :: es) X.env = (false, eval e X.env) :: starEach es X.env := by rfl)
    (hpl : (backTo pos (starEach es X.env)).any (·.1) = false := by rfl) :
    PE X (.Call (.Name x p) (e :: es) [] pos) (tCall sp [] E t) := by
  constructor
  intro pins s σ H Q I h
  refine wpAny_Call_Name_kw (ld_glob I hg hm ?_ hdb)
  refine PySem.W.callWith_K (h₀ := X.base) I.ok.mod.kin hk (thn (ha.run pos pins s σ H _ I h) ?_) he hpl
  rintro us s1 ⟨vs, H1, I1, r, q⟩
  refine ⟨I1.kIn, ?_⟩
  rw [List.append_nil] at q
  have hl : (us ++ []).length = ps.length := by
    rw [List.append_nil, ← r.length]
    exact F.arity _ _ _ _ q
  have hbi := hb s1 us I1.kIn hl
  rw [List.append_nil] at hbi
  refine wpAny_call (codeAny_mono (F.go X.A X.stack s1 H1 ⟨us, []⟩ us vs Q E gs hr I1.env0 hbi r q) ?_)
  intro res s' hq
  cases res with
  | error er => exact hx pins σ H1 s1 er s' I1 hq
  | ok fl =>
    cases fl with
    | ret u => exact I1.after hq
    | next => exact False.elim hq
    | brk => exact False.elim hq
    | cont => exact False.elim hq
end

/-- the law's end over such a promise -/
theorem law_callG {P : Program} {w : World} {K : PySem.W.Frag} {mg mb : Str → Option Value} {k : Nat} {fa a : Addr} {fd : FuncData} {x : Str} {sp : Sp}
    {s1 : Shared} {vs : List Value} {ns : List Int}
    (KX : K.In s1.heap) (hns : s1.heap.Ns mainGlobals mg) (hb : s1.heap.Ns builtinsNs mb)
    (hbb : ∀ x : Str, x ≠ "__name__" → mb x = bootBuiltins x) (hlim : s1.heap.NoLimit) (hg : s1.gens = #[])
    (ha : s1.heap.get? a = some { cls := .type "list", data := .seq vs.toArray }) (hi : IntsAre vs ns) (hl : ns.length ≤ sizeLine) (hr : Room k callerA)
    (F : ∀ base : Heap, K.In base → base.Ns mainGlobals mg → FnG P w K mg base CX0 k fa fd [x] sp)
    (hbind : ∀ (s : Shared) (u : Value), BindsTo s fd ⟨[u], []⟩ [(x, u)])
    (hsp : ∀ H : Hp, Only H → SqL K H a (ns.map V.int) → sp [.ref a] H (fun v _ => v = .bl true) fun _ _ _ => False) :
    codeAny (model P w) callerA (.call (.ref fa) ⟨[.ref a], []⟩)
      (fun r s' => r = .ok (.ret (.bool true)) ∧ OldK s1.heap s'.heap ∧ s'.os = s1.os ∧ AllBare s'.gens) s1 := by
  have rv := vals_ints hi
  have lenV := hi.length
  have core : ∀ H : Hp, Only H → SqL K H a (ns.map V.int) → HOk P w H s1.heap → (∀ b, H b ≠ none → b = a) →
      (H a ≠ none → K.lookup a = none) → codeAny (model P w) callerA (.call (.ref fa) ⟨[.ref a], []⟩)
      (fun r s' => r = .ok (.ret (.bool true)) ∧ OldK s1.heap s'.heap ∧ s'.os = s1.os ∧ AllBare s'.gens) s1 := by
    intro H only sq ok only_a out_a
    have un_dict : ∀ {b : Addr} {o : Obj} {es : Array DictEntry} {ep : Nat}, s1.heap.get? b = some o → o.data = .dict es ep → H b = none := by
      intro b o es ep e d
      cases q : H b with
      | none => rfl
      | some u =>
        have e' : b = a := only_a b (by rw [q]; simp)
        rw [e', ha] at e
        cases e
        exact nomatch d
    have ns_of : ∀ {b : Addr} {m : Str → Option Value}, s1.heap.Ns b m → (hidT s1.heap H).Ns b m := by
      rintro b m ⟨o, es, ep, e, d, r⟩
      exact ⟨o, es, ep, hidT_get e (un_dict e d), d, r⟩
    have kin : K.In (hidT s1.heap H) := by
      intro b o e
      refine hidT_get (KX b o e) ?_
      cases q : H b with
      | none => rfl
      | some u =>
        have e' : b = a := only_a b (by rw [q]; simp)
        rw [e'] at q e
        rw [out_a (by rw [q]; simp)] at e
        cases e
    have md : Mod K mg (hidT s1.heap H) := by
      obtain ⟨mc, h1, h2⟩ := hlim
      exact ⟨kin, ns_of hns, ⟨mb, ns_of hb, hbb⟩, ⟨mc, ns_of h1, h2⟩⟩
    have e0 : Env0 P w K mg (hidT s1.heap H) callerA [] s1 H := by
      refine ⟨rfl, md, fun b o e => of_hidT e, Nat.le_of_eq (hidT_size _ _), trivial, ?_, ok, .of_eq hg⟩
      intro b z
      exact absurd (show b ∈ ([] : List Addr) from z) (by simp)
    refine codeAny_mono ((F _ kin (ns_of hns)).go callerA [] s1 H ⟨[.ref a], []⟩ [.ref a] [.ref a] _ _ rfl hr e0
      (hbind s1 (.ref a)) (.cons rfl .nil) (hsp H only sq)) ?_
    intro r s' h
    cases r with
    | error e => exact False.elim h
    | ok fl =>
      cases fl with
      | next => exact False.elim h
      | brk => exact False.elim h
      | cont => exact False.elim h
      | ret u =>
        obtain ⟨v, H1, os, bare, un, ok1, rel, q⟩ := h
        have q' : v = .bl true := q
        subst q'
        obtain rfl : u = Value.bool true := rel
        refine ⟨rfl, OldK.of_keep ?_, os, bare⟩
        intro b o e
        cases q : H b with
        | none => exact un.keep b o e q (fun z => absurd (show b ∈ ([] : List Addr) from z) (by simp)) (by simp)
        | some u =>
          rcases only b with z | ⟨ob, xs, z⟩
          · rw [q] at z
            cases z
          · have z2 := un.frzs b ob _ z
            have e1 := (ok b _ z).1
            have e2 := (ok1 b _ z2).1
            rw [e] at e1
            cases e1
            exact e2
  cases hk : K.lookup a with
  | some o =>
    have e := KX a o hk
    rw [ha] at e
    cases e
    refine core (fun _ => none) (fun _ => .inl rfl) (.inr ⟨_, vs.toArray, _, hk, rfl, rfl, rfl, ?_, by simpa using rv⟩) ?_ (fun b z => absurd rfl z) (fun z => absurd rfl z)
    · rw [List.size_toArray, lenV]
      exact hl
    · intro b u z
      exact nomatch (show (none : Option HO) = some u from z)
  | none =>
    refine core (fun b => if b = a then some (.frz { cls := .type "list", data := .seq vs.toArray } (.lst (ns.map V.int))) else none) ?_ (.inl (.inr ⟨_, if_pos rfl⟩)) ?_ ?_ (fun _ => hk)
    · intro b
      by_cases hb : b = a
      · exact .inr ⟨_, _, if_pos hb⟩
      · exact .inl (if_neg hb)
    · intro b u z
      by_cases hb : b = a
      · have z1 := (if_pos hb).symm.trans z
        cases z1
        subst hb
        exact ⟨ha, by rw [List.length_map]; exact hl, vs, _, rv, ha⟩
      · have z1 := (if_neg hb).symm.trans z
        cases z1
    · intro b z
      by_cases hb : b = a
      · exact hb
      · exact absurd (if_neg hb) z

theorem walkG {l : PySem.W.OpenLaw} {n k : Nat} {q : Program} {loose : List Str} {XP : (Str → Option Value) → Heap → Prop} {YP : World → Heap → Prop}
    {d : DefRec} {K : Params → PySem.W.Frag} {sp : PySem.W.Frag → Sp} {x : Str}
    (hn : l.most = some n) (hn2 : n ≤ sizeLine) (hdf : d.params.defaults = []) (hr : Room k callerA)
    (hY : ∀ (w : World) (h : Heap), YP w h → (K w.params).In h)
    (F : ∀ (w : World) (mg : Str → Option Value) (fa : Addr) (h : Heap), (K w.params).In h → h.Ns mainGlobals mg → mg d.name = some (.ref fa) →
      ∃ fd : FuncData, (∀ (s : Shared) (u : Value), BindsTo s fd ⟨[u], []⟩ [(x, u)]) ∧
        ∀ base : Heap, (K w.params).In base → base.Ns mainGlobals mg → FnG l.prog w (K w.params) mg base CX0 k fa fd [x] (sp (K w.params)))
    (hsp : ∀ (K : PySem.W.Frag) (H : Hp) (a : Addr) (ns : List Int), ns.length ≤ n → Only H → SqL K H a (ns.map V.int) →
      sp K [.ref a] H (fun v _ => v = .bl true) fun _ _ _ => False) :
    PySem.W.WalkO q loose XP YP l.row.toRowW d [] (fun f vs => PySem.call f vs) := by
  refine Att.attach_call hn hdf ?_
  intro w s0 s1 mg mb fa o pm cd doc a vs ns G Y ho hd hcd hmg hobj hints hlen hg
  have KX := hY w _ Y
  obtain ⟨fd, hb, hF⟩ := F w mg fa _ KX G.T.g hmg
  exact law_callG KX G.T.g G.T.b G.T.builtins G.T.nolimit hg hobj hints (Nat.le_trans hlen hn2) hr hF hb
    (fun H hO hS => hsp _ H a ns hlen hO hS)
end Par
namespace Par
open PySem PySem.Spec PyProof.Rows L2

section
variable {X : Cx} {CX : CXT} {k : Nat} {f : Addr} {fd : FuncData} {ps ks : List Str} {sp : Sp} {E : XK} {x : Str} {p pos : Pos} {kws : List Keyword} {tk : TA}
  {g : List Value → List Value → List Value} {gV : List V → List V → List V}
/-- f(k = v, ..), no positional argument -/
theorem pe_callN0 (F : FnOk X.prog X.w X.K X.mg X.base CX k f fd ps sp) (hr : Room k X.A) (hg : Gl X x) (hm : X.mg x = some (.ref f))
    (hk : PySem.W.keepIn X.K (.ref f) = true) (hb : KBn X.K fd ps 0 ks g gV) (hx : Passes CX X E) (hkw : PK X kws tk)
    (hall : (backToKw pos (keywordEach kws X.env)).all (·.1.isSome) = true := by rfl)
    (hks : (backToKw pos (keywordEach kws X.env)).filterMap (·.1) = ks := by rfl)
    (hdb : (x == ("__debug__" : Str)) = false := by decide)
    (hpl : ((backTo pos (starEach [] X.env)).any (·.1) || (backToKw pos (keywordEach kws X.env)).any (·.1.isNone)) = false := by rfl) :
    PE X (.Call (.Name x p) [] kws pos) (tCallN 0 ks.length sp gV E tNil tk) := by
  constructor
  intro pins s σ H Q I h
  refine wpAny_Call_Name_kw (ld_glob I hg hm ?_ hdb)
  refine PySem.W.callWith_KW0 (h₀ := X.base) I.ok.mod.kin hk hall ?_ hpl
  refine thn (hkw.run pos pins s σ H _ I h) ?_
  rintro ws s2 ⟨zs, H2, I2, rz, l1, l2, q2⟩
  refine ⟨I2.kIn, ?_⟩
  rw [hks]
  exact run_fnN F hr hb hx I2 .nil rz l1 l2 q2
end

/-! ### a new list whose place is not that of sys.modules -/
def tLstS (t : TA) : TE := fun σ H Q => t σ H fun xs H1 => xs.length ≤ sizeLine ∧ ∀ p, H1 p = none → p ≠ sysModules → Q (.ref p) (upd H1 p (.lst xs))
theorem new_ne_sys {X : Cx} {pins : List (Addr × Obj)} {σ : L2.St} {H : Hp} {s : Shared} (I : Inv X pins σ H s) : s.heap.objs.size ≠ sysModules := by
  obtain ⟨o, _, _, e, _⟩ := I.ok.mod.glob
  have h1 := Heap.lt_size (I.bk _ _ e)
  intro z
  rw [z] at h1
  exact absurd h1 (by decide)
theorem pe_lstS {X : Cx} {es : List Expr} {t : TA} {pos : Pos} (h : PA X es t) : PE X (.List es pos) (tLstS t) := by
  constructor
  intro pins s σ H Q I hq
  refine wpAny_List_spliced (thn (h.run pos pins s σ H _ I hq) ?_)
  rintro us s1 ⟨xs, H1, I1, r, z, q⟩
  refine ⟨by rw [← r.length]; exact z, ?_⟩
  have free : H1 s1.heap.objs.size = none := I1.hok.fresh (Nat.le_refl _)
  have lay := I1.laid (t' := s1.toks) (o := .lst xs) (h' := s1.heap.push { cls := .type "list", data := .seq us.toArray 0 })
    (fun b u e => Heap.get?_push_of_some _ e) (Nat.le_refl _) ⟨z, us, 0, r, Heap.get?_push_size _ rfl⟩
  exact ⟨V.ref s1.heap.objs.size, _, lay, rfl, q _ free (new_ne_sys I1)⟩

/-! ### repr -/
/-- a value that is no container, or a dict with keys and values that are none -/
inductive Fl (H : Hp) : V → PyData → Prop
  | non : Fl H .non .none
  | bl (b : Bool) : Fl H (.bl b) (.bool b)
  | int (i : Int) : Fl H (.int i) (.int i)
  | str (x : Str) : Fl H (.str x) (.str x)
  | dic0 {a : Addr} : H a = some (.dK []) → Fl H (.ref a) (.dict [])
  | dic1 {a : Addr} {i j : Int} : H a = some (.dK [(Sum.inl i, .int j)]) → Fl H (.ref a) (.dict [(.int i, .int j)])
inductive FlAll (H : Hp) : List V → List PyData → Prop
  | nil : FlAll H [] []
  | cons {v : V} {vs : List V} {d : PyData} {ds : List PyData} : Fl H v d → FlAll H vs ds → FlAll H (v :: vs) (d :: ds)
/-- what repr is asked of: data without a dict, a flat thing, a list of flat things -/
inductive Dx (K : PySem.W.Frag) (H : Hp) : V → PyData → Prop
  | dp {v : V} {d : PyData} : Dp K H v d → Dx K H v d
  | fl {v : V} {d : PyData} : Fl H v d → Dx K H v d
  | lst {a : Addr} {xs : List V} {ds : List PyData} : H a = some (.lst xs) → a ≠ sysModules → FlAll H xs ds → Dx K H (.ref a) (.list ds)

mutual
theorem dp_nodict {K : PySem.W.Frag} {H : Hp} : ∀ (d : PyData) (v : V), Dp K H v d → d.hasDict = false
  | .none, _, _ => rfl
  | .bool _, _, _ => rfl
  | .int _, _, _ => rfl
  | .str _, _, _ => rfl
  | .list ds, _, h => by
    cases h with
    | lst _ ha => exact dps_nodict ds _ ha
  | .tuple ds, _, h => by
    cases h with
    | tup _ ha => exact dps_nodict ds _ ha
  | .dict _, _, h => by cases h
theorem dps_nodict {K : PySem.W.Frag} {H : Hp} : ∀ (ds : List PyData) (vs : List V), DpAll K H vs ds → PyData.hasDictAll ds = false
  | [], _, _ => rfl
  | d :: ds, _, h => by
    cases h with
    | cons h1 h2 =>
      show (d.hasDict || PyData.hasDictAll ds) = false
      rw [dp_nodict d _ h1, dps_nodict ds _ h2]
      rfl
end

section
variable {X : Cx} {pins : List (Addr × Obj)} {σ : L2.St} {H : Hp} {s : Shared}
theorem fl_reads (I : Inv X pins σ H s) {v : V} {d : PyData} {u : Value} (h : Fl H v d) (r : RelV v u) : ∃ as, Reads s.heap u d as ∧ sysModules ∉ as := by
  cases h with
  | non =>
    cases r
    exact ⟨_, Reads.none, by simp⟩
  | bl b =>
    cases r
    exact ⟨_, Reads.bool b, by simp⟩
  | int i =>
    obtain ⟨t, rfl⟩ := r
    exact ⟨_, Reads.int i t, by simp⟩
  | str x =>
    obtain ⟨t, rfl⟩ := r
    exact ⟨_, Reads.str x t, by simp⟩
  | @dic0 a e =>
    cases r
    obtain ⟨_, ns, vs, kv, o, es, ep, ho, hx, hd, hk, hp, _⟩ := dk_of I.hok e
    cases kv
    have ne : sysModules ≠ a := fun z => by rw [← z] at ns; exact absurd ns (by decide)
    cases hes : es.toList with
    | cons e1 t1 => rw [hes] at hp; cases hp
    | nil =>
      refine ⟨_, Reads.dict (kvs := []) (as := []) (bs := []) ho hx.1 hd (by rw [hes]; exact ReadsAll.nil) (by rw [hes]; exact ReadsAll.nil), ?_⟩
      simpa using ne
  | @dic1 a i j e =>
    cases r
    obtain ⟨_, ns, vs, kv, o, es, ep, ho, hx, hd, hk, hp, _⟩ := dk_of I.hok e
    have ne : sysModules ≠ a := fun z => by rw [← z] at ns; exact absurd ns (by decide)
    cases kv with
    | @cons _ q _ _ k1 k2 =>
      cases k2
      obtain ⟨k, u⟩ := q
      obtain ⟨e1, t, e2⟩ := k1
      have e1' : Sum.inl i = k := e1
      have e2' : u = Value.int j t := e2
      subst e1' e2'
      cases hes : es.toList with
      | nil => rw [hes] at hp; cases hp
      | cons e1 t1 =>
        rw [hes] at hp
        cases hp with
        | cons p1 p3 p2 =>
          cases p2
          have p1' : keyIs (Sum.inl i) e1.key = true := p1
          rcases keyIs_shape p1' with ⟨i2, t2, w1, w2⟩ | ⟨x2, t2, w1, w2⟩
          · cases w1
            have p3' : e1.val = Value.int j t := p3
            refine ⟨_, Reads.dict (kvs := [(.int i, .int j)]) ho hx.1 hd (as := [] ++ []) (bs := [] ++ []) ?_ ?_, ?_⟩
            · rw [hes]
              show ReadsAll s.heap [e1.key] [PyData.int i] ([] ++ [])
              rw [w2]
              exact ReadsAll.cons (Reads.int i t2) ReadsAll.nil
            · rw [hes]
              show ReadsAll s.heap [e1.val] [PyData.int j] ([] ++ [])
              rw [p3']
              exact ReadsAll.cons (Reads.int j t) ReadsAll.nil
            · simpa using ne
          · cases w1
theorem flAll_reads (I : L2.Inv X pins σ H s) : ∀ {vs : List V} {ds : List PyData} {us : List Value}, FlAll H vs ds → Vals vs us → ∃ as, ReadsAll s.heap us ds as ∧ sysModules ∉ as
  | _, _, _, .nil, .nil => ⟨_, ReadsAll.nil, by simp⟩
  | _, _, _, .cons h1 h2, .cons r1 r2 => by
    obtain ⟨as, q1, n1⟩ := fl_reads I h1 r1
    obtain ⟨bs, q2, n2⟩ := flAll_reads I h2 r2
    refine ⟨_, ReadsAll.cons q1 q2, ?_⟩
    intro z
    rcases List.mem_append.mp z with z | z
    · exact n1 z
    · exact n2 z
theorem dx_reads (I : L2.Inv X pins σ H s) {v : V} {d : PyData} {u : Value} (h : Dx X.K H v d) (r : RelV v u) :
    ∃ as, Reads s.heap u d as ∧ (d.hasDict = true → sysModules ∉ as) := by
  cases h with
  | dp h =>
    obtain ⟨as, q⟩ := Dp.reads I d v u h r
    refine ⟨as, q, fun z => ?_⟩
    rw [dp_nodict d v h] at z
    cases z
  | fl h =>
    obtain ⟨as, q, n⟩ := fl_reads I h r
    exact ⟨as, q, fun _ => n⟩
  | @lst a xs ds e ne h =>
    cases r
    obtain ⟨its, rv, ⟨o, n, ho, hc, _, hd⟩, _⟩ := I.list (a := a) (xs := xs) (SqL.of e)
    obtain ⟨as, q, nn⟩ := flAll_reads I h rv
    refine ⟨_, Reads.list ho hc hd q, fun _ z => ?_⟩
    rcases List.mem_cons.mp z with z | z
    · exact ne z.symm
    · exact nn z
end

section
variable {X : Cx}
/-- repr(x) where the guards are none -/
theorem cr_repr (gs : X.A.guards = some []) (hu : X.A.units + 64 < cLine) : CallR X (.builtin "repr") (fun xs H Q => ∃ v d, xs = [v] ∧ Dx X.K H v d ∧
    d.showable = true ∧ d.depth ≤ 40 ∧ d.shown.length ≤ sizeLine ∧ Q (.str d.shown) H) := by
  intro pins s σ H xs us Q I r h
  obtain ⟨v, d, rfl, hd, sh, dep, len, q⟩ := h
  cases r with
  | @cons _ u _ _ r1 r2 =>
    cases r2
    obtain ⟨as, rd, ns⟩ := dx_reads I hd r1
    have fin : ∀ (h' : Heap) (tk u' : Nat), (∀ b o, s.heap.get? b = some o → h'.get? b = some o) → EP X pins σ Q (.str d.shown u') { s with heap := h', toks := tk } :=
      fun h' tk u' k => ⟨.str d.shown, H, I.un (t' := tk) (Un.kept k) (I.hok.kept k), ⟨_, rfl⟩, q⟩
    cases u with
    | ref a => exact repr_of_reads' rd sh ns gs (by omega) (fun _ _ z => z) (fun h' u tk k => fin h' tk u k) len
    | none => cases rd; exact PySem.P.repr_of_none (fin s.heap _ _ fun _ _ z => z)
    | bool b => cases rd; exact PySem.P.repr_of_bool (fin s.heap _ _ fun _ _ z => z)
    | int i t => cases rd; exact PySem.P.repr_of_int (by simpa [PyData.showable] using sh) (fin s.heap _ _ fun _ _ z => z)
    | str x t => cases rd; exact PySem.P.repr_of_str (fin s.heap _ _ fun _ _ z => z) len
    | _ => cases rd
end
end Par
namespace Par
open PySem PySem.Spec PyProof.Rows L2

/-! ### how many distinct items there are -/
theorem nodup_le : ∀ {L M : List Int}, L.Nodup → (∀ k ∈ L, k ∈ M) → L.length ≤ M.length
  | [], M, _, _ => Nat.zero_le _
  | a :: L, M, hn, hs => by
    have ha : a ∈ M := hs a (List.mem_cons_self ..)
    have h1 := nodup_le (L := L) (M := M.erase a) (List.nodup_cons.mp hn).2 (fun k hk => by
      have hka : k ≠ a := fun e => (List.nodup_cons.mp hn).1 (e ▸ hk)
      exact (List.mem_erase_of_ne hka).mpr (hs k (List.mem_cons_of_mem _ hk)))
    have h2 := List.length_erase_of_mem ha
    have h3 : 0 < M.length := List.length_pos_of_mem ha
    show L.length + 1 ≤ M.length
    omega
theorem nodup_lt : ∀ {M L : List Int}, L.Nodup → (∀ k ∈ L, k ∈ M) → ¬ M.Nodup → L.length < M.length
  | [], _, _, _, h => absurd List.nodup_nil h
  | a :: M, L, hn, hs, hM => by
    by_cases ha : a ∈ M
    · have h := nodup_le (L := L) (M := M) hn (fun k hk => by
        rcases List.mem_cons.mp (hs k hk) with e | e
        · exact e ▸ ha
        · exact e)
      show L.length < M.length + 1
      omega
    · have hM' : ¬ M.Nodup := fun z => hM (List.nodup_cons.mpr ⟨ha, z⟩)
      have h := nodup_lt (M := M) (L := L.erase a) (hn.erase a) (fun k hk => by
        have hk2 := (hn.mem_erase_iff).mp hk
        rcases List.mem_cons.mp (hs k hk2.2) with e | e
        · exact absurd e hk2.1
        · exact e) hM'
      have h2 : L.length ≤ (L.erase a).length + 1 := by
        by_cases hL : a ∈ L
        · have := List.length_erase_of_mem hL
          omega
        · rw [List.erase_of_not_mem hL]
          omega
      show L.length < M.length + 1
      omega
theorem distinct_iff {L M : List Int} (hn : L.Nodup) (hs : ∀ k, k ∈ L ↔ k ∈ M) : L.length ≤ M.length ∧ (L.length = M.length ↔ M.Nodup) := by
  have h1 := nodup_le hn (fun k hk => (hs k).mp hk)
  refine ⟨h1, fun e => ?_, fun e => ?_⟩
  · by_cases h : M.Nodup
    · exact h
    · have := nodup_lt hn (fun k hk => (hs k).mp hk) h
      omega
  · have := nodup_le e (fun k hk => (hs k).mpr hk)
    omega
theorem firstMet_nodup2 (val : Nat → Int) : ∀ i, (firstMet val i).Nodup
  | 0 => List.nodup_nil
  | i + 1 => by
    rw [firstMet_succ]
    have ih := firstMet_nodup2 val i
    unfold step_dedup
    split
    · exact ih
    · rename_i h
      refine List.nodup_append.mpr ⟨ih, by simp, ?_⟩
      intro a ha b hb e
      have hb' : b = val i := by simpa using hb
      apply h
      rw [List.any_eq_true]
      exact ⟨a, ha, by simp [e, hb']⟩
theorem firstMet_mem (ns : List Int) (k : Int) : k ∈ firstMet (fun i => ns.getD i 0) ns.length ↔ k ∈ ns := by
  have h := firstMet_any (fun i => ns.getD i 0) ns.length k
  have e : (List.range ns.length).map (fun i => ns.getD i 0) = ns := by
    refine List.ext_getElem (by simp) (fun i h1 h2 => ?_)
    simp [List.getD_eq_getElem?_getD, List.getElem?_eq_getElem h2]
  rw [e] at h
  constructor
  · intro z
    have y : (firstMet (fun i => ns.getD i 0) ns.length).any (· == k) = true := List.any_eq_true.mpr ⟨k, z, by simp⟩
    rw [h] at y
    obtain ⟨x, hx, ex⟩ := List.any_eq_true.mp y
    have : x = k := by simpa using ex
    exact this ▸ hx
  · intro z
    have y : ns.any (· == k) = true := List.any_eq_true.mpr ⟨k, z, by simp⟩
    rw [← h] at y
    obtain ⟨x, hx, ex⟩ := List.any_eq_true.mp y
    have : x = k := by simpa using ex
    exact this ▸ hx

/-- len(set(x)), x a list or tuple of ints -/
def tLenSetQ (K : PySem.W.Frag) (ta : TE) : TE := fun σ H Q => ta σ H fun x H1 => ∃ (l : Addr) (ns : List Int), x = .ref l ∧
  (SqL K H1 l (ns.map V.int) ∨ SqT K H1 l (ns.map V.int)) ∧ ns.length ≤ 4000 ∧
  ∀ c : Nat, c ≤ ns.length → (c = ns.length ↔ ns.Nodup) → Q (.int (c : Nat)) H1
theorem numbers_of : ∀ {ns : List Int} {us : List Value}, Vals (ns.map V.int) us → IntsAre us ns
  | [], _, h => by
    cases h
    exact .nil
  | n :: ns, _, h => by
    cases h with
    | cons r t =>
      obtain ⟨tk, rfl⟩ := r
      exact .cons n tk (numbers_of t)
theorem pe_lenSetQ {X : Cx} {a : Expr} {ta : TE} {p p2 q pos : Pos} (hg : Gl X "len") (hm : X.mg "len" = none) (hg2 : Gl X "set") (hm2 : X.mg "set" = none) (ha : PE X a ta)
    (hc : X.calm = true := by rfl) (na : starEach [a] X.env = (false, eval a X.env) :: starEach [] X.env := by rfl) :
    PE X (.Call (.Name "len" p) [.Call (.Name "set" p2) [a] [] q] [] pos) (tLenSetQ X.K ta) := by
  constructor
  intro pins s σ H Q I h
  refine Call_ (ld_blt I hg hm boot_len ?_)
  refine PyProof.Rows.callWith_builtin1 (PyProof.Rows.args_cons (Call_ (ld_blt I hg2 hm2 boot_set ?_)) rfl) rfl rfl
  refine PyProof.Rows.callWith_type1 (PyProof.Rows.args_cons (thn (ha.run pins s σ H _ I h) ?_) na) na rfl
  rintro v s1 ⟨x, H1, I1, r1, l, ns, rfl, hq, hl, q1⟩
  refine PyProof.Rows.args_nil ?_
  cases r1
  rcases hq with hq | hq
  · obtain ⟨its, r, plain, hz⟩ := I1.list hq
    have hlen : its.toArray.size = ns.length := by
      rw [List.size_toArray, ← r.length]
      exact List.length_map ..
    refine call_set_list (I1.ok.hd hc) plain.isList (by simpa using numbers_of r) (by rw [hlen]; unfold scanBound; omega) ?_
    intro h' tk hS hk
    refine PyProof.Rows.args_nil ?_
    rw [hlen] at hS
    obtain ⟨o, es, ep, t, ho, hex, hd, _, _, _, hf, hn⟩ := hS
    have I2 : L2.Inv X pins σ H1 { s1 with heap := h', toks := tk } := I1.kept fun b o e => hk b o (Heap.lt_size e) e
    obtain ⟨d1, d2⟩ := distinct_iff (firstMet_nodup2 (fun i => ns.getD i 0) ns.length) (fun k => firstMet_mem ns k)
    exact call_len_set ho hex hd hf (by rw [hn]; unfold sizeLine at *; omega) ⟨.int _, H1, I2.tok _, ⟨_, by rw [hn]⟩, q1 _ d1 d2⟩
  · obtain ⟨its, r, tup, hz⟩ := I1.tuple hq
    have hlen : its.toArray.size = ns.length := by
      rw [List.size_toArray, ← r.length]
      exact List.length_map ..
    refine L2.call_set_tupI ns (I1.ok.hd hc) tup (by simpa using numbers_of r) (by unfold scanBound; omega) ?_
    intro h' tk c hS hcn hk
    refine PyProof.Rows.args_nil ?_
    obtain ⟨o, es, ep, t, ho, hex, hd, _, nd, mem, _, hf, hn, _, _⟩ := hS
    have I2 : L2.Inv X pins σ H1 { s1 with heap := h', toks := tk } := I1.kept hk
    have hmem : ∀ k, k ∈ es.toList.map keyOf ↔ k ∈ ns := fun k => (mem k).symm.trans (by simp)
    obtain ⟨d1, d2⟩ := distinct_iff nd hmem
    have hc2 : (es.toList.map keyOf).length = c := by rw [List.length_map, Array.length_toList, hn]
    rw [hc2] at d1 d2
    exact call_len_set ho hex hd hf (by rw [hn]; omega) ⟨.int (c : Nat), H1, I2.tok _, ⟨_, by rw [hn]⟩, q1 c d1 d2⟩
end Par
namespace Par
open PySem PySem.Spec PyProof.Rows L2
section
variable {prog : Program} {w : World} {A : Around} {E : Value → Shared → Prop} {s : Shared}
theorem collect_tup {tp : Addr} {vs : List Value} {Q : List Value → Shared → Prop} (htp : IsTup s.heap tp vs.toArray)
    (h : Q vs { s with heap := (s.heap.push (seqObj "list" #[] 0)).update s.heap.objs.size (Obj.mapSeq (· ++ vs.toArray)) })
    (len : vs.length ≤ sizeLine) : wpAny (model prog w) A (collect (.ref tp)) Q E s := by
  obtain ⟨o, hob, hcl, n, hdt⟩ := id htp
  unfold collect
  refine wpAny_bind (wpAny_runValue ?_)
  refine codeAny_builtin entry_proto_collect' ?_
  show wpAny _ _ (do again (.builtin "list.__iadd__" ⟨[← newList [], .ref tp], []⟩)) _ _ s
  refine wpAny_bind (wpAny_newList (wpAny_pure ?_))
  refine ⟨Code.quiet_builtin _ (by decide +kernel), codeAny_builtin entry_list_iadd' ?_⟩
  show wpAny _ _ (Builtin.List.listExtendWith (.ref s.heap.objs.size) (.ref tp) (.ref s.heap.objs.size)) _ _ { s with heap := s.heap.push (seqObj "list" #[] 0) }
  unfold Builtin.List.listExtendWith -- a tuple's items go over at once
  have ho2 : (s.heap.push (seqObj "list" #[] 0)).get? tp = some o := Heap.get?_push_of_some _ hob
  refine wpAny_bind (wpAny_typeOf (T := "tuple") ⟨o, ho2, hcl⟩ ?_)
  have ht : (Value.type "tuple" == Value.type "tuple") = true := by rfl
  rw [if_pos (by simp [ht])]
  refine wpAny_bind (listItems_at ho2 hdt ?_)
  refine wpAny_bind (listItems_at (n := 0) (xs := #[]) (Heap.get?_push_size _ rfl) rfl ?_)
  rw [if_neg (by simp)]
  have room : (#[] ++ vs.toArray).size ≤ sizeLine + 1 := by
    simp only [Array.size_append, List.size_toArray, List.length_nil]
    omega
  refine wpAny_bind (listUpdate_at (xs := #[]) (n := 0) (Heap.get?_push_size _ rfl) rfl ?_ (Nat.zero_le _) room)
  refine wpAny_pure ?_
  have flat : ((#[] : Array Value) ++ vs.toArray).toList = vs := by simp
  refine wpAny_bind (wpAny_load (get?_update_seq (Heap.get?_push_size s.heap rfl) _) ?_)
  show wpAny _ _ (pure (#[] ++ vs.toArray).toList) Q E _
  rw [flat]
  exact wpAny_pure h
theorem sorted_tupOrd {tp : Addr} {vs : List Value} {ltv : Value → Value → Bool} {Q : Value → Shared → Prop} (O : SrtO.Swo ltv) (htp : IsTup s.heap tp vs.toArray) (hz : vs.length ≤ sizeLine)
    (can : 2 ≤ vs.length → ∀ (h1 : Heap) (a : Addr), h1.get? a = some (seqObj "list" vs.toArray 0) → (∀ b o, s.heap.get? b = some o → b ≠ a ∧ h1.get? b = some o) → SrtO.SortableO prog w A.in1.in1 { s with heap := h1 } a vs ltv)
    (h : ∀ out : List Value, SrtO.Srtd ltv out → SrtO.Stb ltv out vs → Q (.ref (s.heap.objs.size + 1)) { s with heap := sortedAll s.heap vs out.toArray }) :
    wpAny (model prog w) A (call (.builtin "sorted") [.ref tp]) Q E s := by
  refine Calls.call_function_entry kind_sorted plain_sorted entry_sorted (args_sorted1 (.ref tp)) ?_
  unfold Builtin.«sorted»
  refine wpAny_bind (m := checkCount "sorted" 1 1 _) ?_
  refine wpAny_pure ?_
  refine wpAny_bind (collect_tup htp ?_ hz)
  refine wpAny_bind (wpAny_newList (s := _) ?_ hz)
  generalize eg : (s.heap.push (seqObj "list" #[] 0)).update s.heap.objs.size (Obj.mapSeq (· ++ vs.toArray)) = g
  have hsz : g.objs.size = s.heap.objs.size + 1 := by rw [← eg, Heap.size_update, size_push']
  have hoL : (g.push (seqObj "list" vs.toArray 0)).get? (s.heap.objs.size + 1) = some (seqObj "list" vs.toArray 0) := by
    rw [← hsz]
    exact Heap.get?_push_size g rfl
  have keep : ∀ b o, s.heap.get? b = some o → b ≠ s.heap.objs.size + 1 ∧ (g.push (seqObj "list" vs.toArray 0)).get? b = some o := by
    intro b o q
    have hbl : b < s.heap.objs.size := Heap.lt_size q
    refine ⟨Nat.ne_of_lt (Nat.lt_succ_of_lt hbl), Heap.get?_push_of_some (seqObj "list" vs.toArray 0) ?_⟩
    rw [← eg, Heap.get?_update_ne _ _ _ _ (Nat.ne_of_lt hbl)]
    exact Heap.get?_push_of_some (seqObj "list" #[] 0) q
  show wpAny _ _ _ _ _ { s with heap := g.push (seqObj "list" vs.toArray 0) }
  rw [hsz]
  refine wpAny_bind (wpAny_holding (wpAny_call_entry slot_list_sort ⟨_, hoL, rfl⟩ entry_list_sort (SrtO.list_sort_ord O hoL hz (fun h2 => can h2 _ _ hoL keep) ?_) (args_list_sort _)))
  intro out hs hb
  refine ⟨_, rfl, ?_⟩
  subst eg
  exact wpAny_pure ⟨.ref (s.heap.objs.size + 1), rfl, h out hs hb⟩
end
/-- sorted(t), t a tuple of ints -/
theorem cr_sortedTup {X : Cx} : CallR X (.builtin "sorted") (fun vs H Q => ∃ (a : Addr) (ns : List Int), vs = [V.ref a] ∧ SqT X.K H a (ns.map V.int) ∧
    ∀ (ms : List Int) (p : Addr), ms.Perm ns → ms.Pairwise (· ≤ ·) → H p = none → Q (.ref p) (upd H p (.lst (ms.map V.int)))) := by
  intro pins s σ H vs us Q I r h
  obtain ⟨a, ns, rfl, hs, q⟩ := h
  obtain ⟨its, rv, htp, hz⟩ := I.tuple hs
  rw [Vals.ref1 r]
  have hi := rv.ints
  refine sorted_tupOrd SrtO.swo_int htp (by rw [← rv.length]; exact hz) (fun h2 h1 a2 _ _ => SrtO.ints_sortable hi h2) ?_
  intro out h1 h2
  obtain ⟨o1, o2, o3⟩ := SrtO.ints_out hi h1 h2
  obtain ⟨ep, he⟩ := PyProof.Rows.sortedAll_at s.heap its out.toArray
  have hshort : ((out.map SrtO.iv).map V.int).length ≤ sizeLine := by
    rw [List.length_map, o2.length_eq]
    rw [List.length_map] at hz
    exact hz
  have lay := I.laid (t' := s.toks) (a := s.heap.objs.size + 1) (o := .lst ((out.map SrtO.iv).map V.int)) (fun _ _ => PyProof.Rows.sortedAll_old) (Nat.le_succ _)
    ⟨hshort, out, ep, vals_of_ints o1, he⟩
  exact ⟨.ref _, _, lay, rfl, q _ _ o2 o3 (I.hok.fresh (Nat.le_succ _))⟩
end Par
namespace Par
open PySem PySem.Spec PyProof.Rows L2
theorem meets_enumT (l : Addr) (items : Array Value) :
    Meets (Builtin.«enumerate.__new__» ⟨[.type "enumerate", .ref l], []⟩) (fun _ R s => s.heap.IsTuple l items ∧
      R (.ok (.ret (.ref (s.heap.push { cls := .type "tuple_iterator", data := .fields #[.ref l, .int 0 0] }).objs.size)))
        { s with heap := (s.heap.push { cls := .type "tuple_iterator", data := .fields #[.ref l, .int 0 0] }).push { cls := .type "enumerate", data := .fields #[.none, .bool false, .ref s.heap.objs.size, rawInt 0, .none, .none] } }) := by
  refine .of_wp ?_
  rintro prog w A R ⟨hp, g, d, tk, os⟩ ⟨h1, h⟩
  have sub1 := sub_enumerate
  have it1 : ∀ {B : Around} {E : Value → Shared → Prop} {Q : Value → Shared → Prop},
      Q (.ref hp.objs.size) ⟨hp.push { cls := .type "tuple_iterator", data := .fields #[.ref l, .int 0 0] }, g, d, tk, os⟩ → wpAny (model prog w) B (pyIter (.ref l)) Q E ⟨hp, g, d, tk, os⟩ :=
    fun q => (begins_tuple l items).iter prog w _ _ ⟨hp, g, d, tk, os⟩ _ h1 q
  wp_walk using it1
  refine wpAny_stack_any (fun st => wpAny_pure ?_)
  split
  · rename_i c _ _ _ _ _
    cases (c == Value.type "enumerate") <;> (wp_walk using it1; exact ⟨_, rfl, h⟩)
  · wp_walk using it1
    exact ⟨_, rfl, h⟩
section
variable {prog : Program} {w : World} {A : Around} {E : Value → Shared → Prop} {s : Shared}
theorem call_enumT {l : Addr} {items : Array Value} {Q : Value → Shared → Prop} (hL : s.heap.IsTuple l items)
    (h : ∀ h', IsEnum h' (s.heap.objs.size + 1) s.heap.objs.size 0 .none → h'.IsTupleIter s.heap.objs.size l 0 → (∀ b o, s.heap.get? b = some o → h'.get? b = some o) →
      Q (.ref (s.heap.objs.size + 1)) { s with heap := h' }) : wpAny (model prog w) A (call (.type "enumerate") [.ref l]) Q E s := by
  refine callType_new F.called_enumerate (by decide) (F.typeCall_enumerate_1 _) (F.newCall_enumerate_1 _) (fun obj => F.args_object_init_2 obj _) F.entry_enumerate_new (meets_enumT l items) ⟨hL, ?_⟩
  generalize eg : s.heap.push { cls := .type "tuple_iterator", data := .fields #[.ref l, .int 0 0] } = g
  have hz : g.objs.size = s.heap.objs.size + 1 := by rw [← eg]; exact Heap.size_push ..
  have hi : g.get? s.heap.objs.size = some { cls := .type "tuple_iterator", data := .fields #[.ref l, .int 0 0] } := by rw [← eg]; exact Heap.get?_push_size _ rfl
  have hk : ∀ b o, s.heap.get? b = some o → g.get? b = some o := by rw [← eg]; exact fun b o x => Heap.get?_push_of_some _ x
  show _ ∧ _
  have he := Heap.get?_push_size g (o := { cls := .type "enumerate", data := .fields #[.none, .bool false, .ref s.heap.objs.size, rawInt 0, .none, .none] }) rfl
  rw [hz] at he ⊢
  exact ⟨⟨_, he, rfl⟩, h _ he ⟨_, Heap.get?_push_of_some _ hi, rfl, rfl⟩ fun b o x => Heap.get?_push_of_some _ (hk b o x)⟩
end
/-- the tuple at a, each item in a new pair -/
def ItEnT (K : PySem.W.Frag) (a : Addr) : It where
  go := fun i H => ∃ (xs : List V) (x : V), SqT K H a xs ∧ xs[i]? = some x
  yld := fun i H v H' => ∃ T x, v = .ref T ∧ H T = none ∧ H' = upd H T (.tup [.int (i : Nat), x]) ∧ ∀ xs, SqT K H a xs → xs[i]? = some x
  stop := fun i H => ∃ xs : List V, SqT K H a xs ∧ xs.length ≤ i
theorem turn_enumT {P : Program} {w : World} {K : PySem.W.Frag} {elts : List Expr} {kk : Nat} {tpos : Pos} (a e it : Addr) :
    Turn P w K (.Tuple elts kk tpos) (ItEnT K a) [e, it] e (fun i h => (∃ old, IsEnum h e it ((i : Nat) : Int) old) ∧ h.IsTupleIter it a i ∧ e ≠ it ∧ a ≠ it ∧ a ≠ e) where
  mem := by simp
  obj := by
    rintro i h ⟨⟨old, he⟩, ⟨o, ho, hc, hd⟩, _⟩ b hb
    rcases (show b = e ∨ b = it by simpa using hb) with rfl | rfl
    · exact ⟨_, he, fun v q => nomatch q⟩
    · exact ⟨o, ho, fun v q => by rw [hd] at q; cases q⟩
  keep := by
    rintro i h h' ⟨⟨old, he⟩, ⟨o, ho, r⟩, ne⟩ k
    exact ⟨⟨old, k e (by simp) _ he⟩, ⟨o, k it (by simp) o ho, r⟩, ne⟩
  item := by
    intro X hP hw hK hc i pins s σ H E I hf st hg
    subst hP hw hK
    obtain ⟨⟨old, he⟩, hit, hne, n1, n2⟩ := st
    obtain ⟨xs, x, hq, hx⟩ := hg
    obtain ⟨its, rv, p, hz⟩ := I.tuple hq
    obtain ⟨u, hu, ru⟩ := rv.get hx
    have hel : e < s.heap.objs.size := Heap.lt_size he
    have hil : it < s.heap.objs.size := let ⟨_, q, _⟩ := hit; Heap.lt_size q
    have hlt : i < its.toArray.size := by
      rcases Nat.lt_or_ge i its.length with z | z
      · simpa using z
      · rw [List.getElem?_eq_none z] at hu
        cases hu
    have hh : X.A.in1.handled = none := I.ok.hd hc
    refine wpAny_pyNext_enum_itemD (Draws.tuple hh it a n1 its.toArray) he ⟨hit, p⟩ hlt hne (by simp [hne, Ne.symm n2]) ?_
    intro y h1 tk hy ho hit1 hT hsz hk
    have ey : y = u := by
      have q : its.toArray[i]? = some u := by simpa using hu
      rw [hy] at q
      exact Option.some.inj q
    subst ey
    refine ⟨_, rfl, wpAny_letOwnedTupleGo_enum (s := { s with heap := h1, toks := tk + 1 }) ho ?_⟩
    intro h2 he2 sb
    have hT2 : h2.get? s.heap.objs.size = some { cls := .type "tuple", data := .seq #[.int i tk, y] } := (sb.2 _ (Nat.ne_of_gt hel)).trans hT
    have new : ObjOk X.prog X.w (upd H s.heap.objs.size (.tup [.int (i : Nat), x])) h2 s.heap.objs.size (.tup [.int (i : Nat), x]) :=
      ⟨by show 2 ≤ sizeLine; decide, [.int i tk, y], .cons ⟨_, rfl⟩ (.cons ru .nil), ⟨_, hT2, rfl, _, rfl⟩⟩
    have I1 : L2.Inv X pins σ (upd H s.heap.objs.size (.tup [.int (i : Nat), x])) { s with heap := h2, toks := tk + 1 } := by
      refine I.turnedNew (ch := [e, it]) ?_ hf (Nat.le_refl _) new
      intro b ob hb q
      have b1 : b ≠ e := fun z => hb (by simp [z])
      exact (sb.2 b b1).trans (hk b ob b1 (fun z => hb (by simp [z])) q)
    refine ⟨.ref s.heap.objs.size, _, I1, rfl, ⟨_, x, rfl, I.hok.fresh (Nat.le_refl _), rfl, ?_⟩, ⟨⟨y, ?_⟩, ?_, hne, n1, n2⟩, ?_⟩
    · intro ys hy
      rw [I.tuple_inj hy hq]
      exact hx
    · have e1 : ((i + 1 : Nat) : Int) = (i : Int) + 1 := by omega
      rw [e1]
      exact he2
    · obtain ⟨o, q, r⟩ := hit1.1
      exact ⟨o, (sb.2 it (Ne.symm hne)).trans q, r⟩
    · intro b hb
      have hb2 : b < s.heap.objs.size := by
        rcases (show b = e ∨ b = it by simpa using hb) with rfl | rfl
        · exact hel
        · exact hil
      rw [upd_ne (Nat.ne_of_lt hb2)]
      exact (hf b hb).1
  done := by
    intro X hP hw hK hc i pins s σ H E I hf st hg
    subst hP hw hK
    obtain ⟨⟨old, he⟩, hit, hne, n1, n2⟩ := st
    obtain ⟨xs, hq, hx⟩ := hg
    obtain ⟨its, rv, p, hz⟩ := I.tuple hq
    obtain ⟨f0, f1, f2, f3, f4, f5⟩ := hf it (by simp)
    have hh : X.A.in1.handled = none := I.ok.hd hc
    by_cases hi : i = its.toArray.size
    · subst hi
      refine wpAny_pyNext_enum_endD (Draws.tuple hh it a n1 its.toArray) he ⟨hit, p⟩ ?_
      intro h1 ex
      exact ⟨rfl, I.turned (t' := s.toks) (fun b o hb q => ex b o hb q) f0 f1 f3 f4 f5⟩
    · refine wpAny_bind (wpAny_attempt (wpAny_callSpecial?_slot (s := s) (name := Str.ofString "__next__") ⟨_, he, rfl⟩ F.slot_enumerate_next
        (wpAny_call_entry (s := s) F.slot_enumerate_next ⟨_, he, rfl⟩ F.entry_enumerate_next ?_ (F.args_enumerate_next_1 _))))
      show wpAny _ _ (field (Value.ref e) 2 >>= _) _ _ s
      refine wpAny_bind (wpAny_field (s := s) he rfl (x := .ref it) rfl ?_)
      refine wpAny_bind (wpAny_nextOf_tuple_end hh hit p (by simp; have := rv.length; omega) ?_)
      rintro h1 z ex ⟨o, ho, hcl⟩
      refine wpAny_bind (wpAny_isInstance (T := "StopIteration") (b := true) ⟨o, ho, hcl⟩ isSubtype_stop ?_)
      exact wpAny_pure ⟨rfl, I.turned (t' := s.toks) (fun b o hb q => ex b o hb q) f0 f1 f3 f4 f5⟩
  self := by
    rintro A i s Q E ⟨⟨_, he⟩, _⟩ h
    exact wpAny_pyIter_enum he h
def iEnumT (K : PySem.W.Frag) (ta : TA) : TI := fun σ H R => ta σ H fun vs H1 => ∃ a xs, vs = [.ref a] ∧ SqT K H1 a xs ∧ R (ItEnT K a) H1
/-- for i, x in enumerate(t), t a tuple -/
theorem pi_enumT {X : Cx} {e : Expr} {ta : TA} {p pos tpos : Pos} {elts : List Expr} {kk : Nat} (hg : Gl X "enumerate") (hm : X.mg "enumerate" = none) (ha : PA X [e] ta)
    (hs : starEach [e] X.env = [(false, eval e X.env)] := by rfl) : PI X (.Tuple elts kk tpos) (.Call (.Name "enumerate" p) [e] [] pos) (iEnumT X.K ta) := by
  constructor
  intro pins s σ H R I h
  refine Call_ (ld_blt I hg hm boot_enumerate (PyProof.Rows.callWith_type1 (thn (ha.run pos pins s σ H _ I h) ?_) hs rfl))
  rintro us s1 ⟨vs, H1, I1, r1, a, xs, rfl, hq, q⟩
  cases r1 with
  | cons r rr =>
    cases rr
    cases r
    obtain ⟨its, rv, pl, hz⟩ := I1.tuple hq
    refine call_enumT pl ?_
    intro h1 he hit hk
    refine wpAny_pyIter_enum he ?_
    have I2 : L2.Inv X pins σ H1 { s1 with heap := h1 } := I1.kept (t' := s1.toks) hk
    have al : a < s1.heap.objs.size := pl.lt
    refine ⟨s1.heap.objs.size + 1, [s1.heap.objs.size + 1, s1.heap.objs.size], _, _, H1, rfl, I2, turn_enumT a (s1.heap.objs.size + 1) s1.heap.objs.size,
      ⟨⟨.none, he⟩, hit, Nat.succ_ne_self _, Nat.ne_of_lt al, Nat.ne_of_lt (Nat.lt_succ_of_lt al)⟩, ?_, q⟩
    intro b hb
    have hle : s1.heap.objs.size ≤ b := by
      rcases (show b = s1.heap.objs.size + 1 ∨ b = s1.heap.objs.size by simpa using hb) with z | z
      · rw [z]
        exact Nat.le_succ _
      · rw [z]
        exact Nat.le_refl _
    exact I1.fpOk hle (I1.hok.fresh hle)
theorem walk_enumT {K : PySem.W.Frag} {a : Addr} {xs : List V} :
    Walk (ItEnT K a) xs.length (fun H => SqT K H a xs) (YPair (fun i => some (.int (i : Nat))) (fun i => xs[i]?)) where
  goes := fun i H hi h => ⟨xs, xs[i], h, by simp [hi]⟩
  stops := fun H h => ⟨xs, h, Nat.le_refl _⟩
  yields := by
    rintro i H v H' hi h ⟨T, x, rfl, hn, rfl, hx⟩
    exact ⟨T, _, x, rfl, hn, rfl, rfl, hx xs h⟩
end Par
namespace K14
open PySem PySem.Spec PyProof.Rows L2 Par
def topS (i : Nat) : Stmt := PySem.Challenge.pw_paritycells_k14_flips_made_or_refused.main.body.getD i (.Pass ⟨0, 0, 0, 0⟩)
abbrev sInteger : Stmt := topS 6
abbrev sBetween : Stmt := topS 7
abbrev sIsCell : Stmt := topS 10
abbrev sAreC : Stmt := topS 11
abbrev sCells : Stmt := topS 12
abbrev sPot : Stmt := topS 18
abbrev sDraw : Stmt := topS 19
abbrev sSpots : Stmt := topS 21
abbrev sAny : Stmt := topS 23
abbrev sIsInt : Stmt := topS 24
abbrev sMixed : Stmt := topS 25
abbrev sAre : Stmt := topS 26
abbrev sOdd : Stmt := topS 27
abbrev sLaw : Stmt := topS 33
abbrev sShare : Stmt := topS 13
abbrev sWidth : Stmt := topS 20
abbrev sPair : Stmt := topS 22
abbrev sMet : Stmt := topS 28
abbrev sDue : Stmt := topS 29
abbrev sFlipR : Stmt := topS 30
abbrev sRight : Stmt := topS 31
abbrev sEither : Stmt := topS 32
abbrev gInit : Stmt := inClass (topS 16) 0
abbrev gTested : Stmt := inClass (topS 16) 4
abbrev gToggled : Stmt := inClass (topS 16) 5
abbrev gIdle : Stmt := inClass (topS 16) 6
abbrev gWidth : Stmt := inClass (topS 16) 7
abbrev sIni : Stmt := inClass (topS 3) 0
abbrev sFIni : Stmt := inClass (topS 4) 0
/-- the built-in names that the module leaves alone -/
structure Bl (mg : Str → Option Value) : Prop where
  len : mg "len" = none
  abs : mg "abs" = none
  max : mg "max" = none
  min : mg "min" = none
  divmod : mg "divmod" = none
  list : mg "list" = none
  tuple : mg "tuple" = none
  range : mg "range" = none
  isinstance : mg "isinstance" = none
  bool : mg "bool" = none
  int : mg "int" = none
  sorted : mg "sorted" = none
  set : mg "set" = none
  all : mg "all" = none
  enumerate : mg "enumerate" = none
  repr : mg "repr" = none
  vErr : mg "ValueError" = none
  lErr : mg "LookupError" = none
  rErr : mg "RuntimeError" = none
  aErr : mg "ArithmeticError" = none

/-! ### the pot: two numbers that are not negative, the second one small -/
def PotAt (H : Hp) (p : Addr) : Prop := ∃ a b : Int, H p = some (.lst [.int a, .int b]) ∧ 0 ≤ a ∧ 0 ≤ b ∧ b < 2147483648
/-- all but what stands at p is as it was -/
def But (p : Addr) (H H' : Hp) : Prop := ∀ b o, b ≠ p → H b = some o → H' b = some o
theorem But.refl (p : Addr) (H : Hp) : But p H H := fun _ _ _ h => h
theorem But.trans {p : Addr} {H H1 H2 : Hp} (a : But p H H1) (b : But p H1 H2) : But p H H2 := fun c o n h => b c o n (a c o n h)
theorem But.upd {p : Addr} {H : Hp} (o : HO) : But p H (L2.upd H p o) := fun b u n h => by rw [upd_ne n]; exact h
theorem But.new {p q : Addr} {H : Hp} {o : HO} (n : H q = none) : But p H (L2.upd H q o) := fun b u _ h => by rw [upd_ne (ne_of_none h n)]; exact h
theorem But.same {p : Addr} {H H' : Hp} (h : Same H H') : But p H H' := fun b o _ e => h b o e
theorem PotAt.same {p : Addr} {H H' : Hp} (x : PotAt H p) (s : Same H H') : PotAt H' p := by
  obtain ⟨a, b, e, r⟩ := x
  exact ⟨a, b, s _ _ e, r⟩
theorem same_new {H : Hp} {q : Addr} {o : HO} (n : H q = none) : Same H (upd H q o) := fun b u h => by
  rw [upd_ne (ne_of_none h n)]
  exact h
theorem But.free {p q : Addr} {H H' : Hp} (h : But p H H') (x : PotAt H p) (n : H' q = none) (x' : PotAt H' p) : H q = none := by
  cases e : H q with
  | none => rfl
  | some o =>
    by_cases z : q = p
    · subst z
      obtain ⟨_, _, e', _⟩ := x'
      rw [n] at e'
      cases e'
    · rw [h q o z e] at n
      cases n

section
variable {P : Program} {w : World} {K : PySem.W.Frag} {mg : Str → Option Value} {base : Heap}

def spPot (K : PySem.W.Frag) : Sp := fun vs H Q _ => ∃ (a : Addr) (ns : List Int) (k : Nat), vs = [.ref a, .int (k : Int)] ∧ SqL K H a (ns.map V.int) ∧ k ≤ 1000 ∧
  ∀ p H', H p = none → Same H H' → PotAt H' p → Q (.ref p) H'
theorem scPot : FnScope ["_law_script", "_law_k", "_law_digits"] ["_law_script", "_law_k"] (defScope sPot) := ⟨rfl, rfl, rfl, by decide +kernel, rfl, by decide +kernel, by decide +kernel⟩
theorem ok_pot {f : Addr} {fd : FuncData} (F : Fun K "_law_pot" "_law_pot" sPot f fd) (B : Bl mg) : FnOk P w K mg base CX0 2 f fd ["_law_script", "_law_k"] (spPot K) := by
  refine F.ok scPot (fun vs H Q E h => ?_) (fun cdv A outer s H vs Q E hr h => ?_)
  · obtain ⟨a, ns, k, rfl, _⟩ := h
    rfl
  · obtain ⟨a, ns, k, rfl, hS, hk, out⟩ := h
    refine ⟨_, pss_cons (ps_set (i := 2) scPot.nd rfl (Or.inl rfl) (pe_ifExp (pt_cmpR op_lt (pv 1) (pe_callB call_len_seq (by rfl) B.len PySem.boot_len (pa_cons (pv 0) pa_nil)) (nomark _)) (pe_ix ix_list (pv 0) (pv 1) (fun _ _ => rfl)) pe_int))
      (pss_one (ps_ret (pe_lst (pa_cons
        (pe_callB (call_max2 rfl) (by rfl) B.max (by decide +kernel) (pa_cons pe_int (pa_cons (pe_op op_sub (pe_callB call_abs (by rfl) B.abs (by decide +kernel) (pa_cons (pv 2) pa_nil)) (pe_op op_pow pe_int pe_int)) pa_nil)))
        (pa_cons (pe_op op_mod (pe_op op_add (pe_op op_add (pe_op op_mul (pe_op op_mod (pe_callB call_abs (by rfl) B.abs (by decide +kernel) (pa_cons (pv 2) pa_nil)) pe_int) pe_int) (pe_op op_mul pe_int (pv 1))) pe_int) pe_int) pa_nil))))), ?_⟩
    have hm : ∀ d : Int, (0 : Int) ≤ (if d < 0 then -d else d) % 2147483587 ∧ (if d < 0 then -d else d) % 2147483587 < 2147483587 := fun d => ⟨Int.emod_nonneg _ (by decide), Int.emod_lt_of_pos _ (by decide)⟩
    have two : ∀ x : Int, 0 ≤ (if x > 0 then x else 0) := fun x => by split <;> omega
    have fin : ∀ d : Int, ∀ p, H p = none → Q (.ref p) (upd H p (.lst [.int (if (if d < 0 then -d else d) - 10 ^ 18 > 0 then (if d < 0 then -d else d) - 10 ^ 18 else 0),
        .int (((if d < 0 then -d else d) % 2147483587 * 48271 + 60013 * (k : Int) + 29) % 2147483647)])) := by
      intro d p hp
      refine out p _ hp (same_new hp) ⟨_, _, upd_same, two _, Int.emod_nonneg _ (by decide), ?_⟩
      have := Int.emod_lt_of_pos ((if d < 0 then -d else d) % 2147483587 * 48271 + 60013 * (k : Int) + 29) (b := 2147483647) (by decide)
      omega
    refine ⟨_, rfl, _, rfl, a, _, rfl, .inl hS, _, _, rfl, rfl, _, rfl, ?_⟩
    refine ite2 (fun hlt => ?_) (fun _ => ?_)
    · have hlt2 : (k : Int) < ((ns.map V.int).length : Int) := of_decide_eq_true hlt
      rw [List.length_map] at hlt2
      have hk2 : k < ns.length := by omega
      refine ⟨_, rfl, _, rfl, a, _, _, .int ns[k], rfl, rfl, hS, atI_nat (by simp [hk2]), ?_⟩
      refine ⟨_, rfl, _, rfl, 10, 18, rfl, rfl, ⟨by decide, by decide, by decide⟩, _, _, rfl, rfl, 0, _, rfl, ?_⟩
      refine ⟨_, rfl, _, rfl, _, _, rfl, rfl, (by show (0 : Int) < _; decide), _, _, rfl, rfl, .inl ⟨by have := hm ns[k]; omega, by have := hm ns[k]; omega⟩, _, rfl, 60013, _, rfl, rfl, .inl ⟨by decide, by decide⟩, _, _, rfl, rfl, _, _, rfl, rfl, _, _, rfl, rfl, (by show (0 : Int) < _; decide), ?_⟩
      exact ⟨(by show 2 ≤ sizeLine; decide), fin ns[k]⟩
    · refine ⟨_, rfl, _, rfl, 10, 18, rfl, rfl, ⟨by decide, by decide, by decide⟩, _, _, rfl, rfl, 0, _, rfl, ?_⟩
      refine ⟨_, rfl, _, rfl, _, _, rfl, rfl, (by show (0 : Int) < _; decide), _, _, rfl, rfl, .inl ⟨by have := hm 0; omega, by have := hm 0; omega⟩, _, rfl, 60013, _, rfl, rfl, .inl ⟨by decide, by decide⟩, _, _, rfl, rfl, _, _, rfl, rfl, _, _, rfl, rfl, (by show (0 : Int) < _; decide), ?_⟩
      exact ⟨(by show 2 ≤ sizeLine; decide), fin 0⟩

/-- one draw: a digit below many; the pot goes on -/
def spDraw : Sp := fun vs H Q _ => ∃ (p : Addr) (m : Int), vs = [.ref p, .int m] ∧ PotAt H p ∧ 0 < m ∧ m < 1073741824 ∧
  ∀ d H', 0 ≤ d → d < m → But p H H' → PotAt H' p → Q (.int d) H'
theorem scDraw : FnScope ["_law_pot_here", "_law_many", "_law_digit"] ["_law_pot_here", "_law_many"] (defScope sDraw) := ⟨rfl, rfl, rfl, by decide +kernel, rfl, by decide +kernel, by decide +kernel⟩
theorem ok_draw {f : Addr} {fd : FuncData} (F : Fun K "_law_draw" "_law_draw" sDraw f fd) (B : Bl mg) : FnOk P w K mg base CX0 2 f fd ["_law_pot_here", "_law_many"] spDraw := by
  refine F.ok scDraw (fun vs H Q E h => ?_) (fun cdv A outer s H vs Q E hr h => ?_)
  · obtain ⟨p, m, rfl, _⟩ := h
    rfl
  · obtain ⟨p, m, rfl, ⟨a, b, hp, ha, hb, hb2⟩, hm, hm2, out⟩ := h
    refine ⟨_, pss_cons (ps_if (pt_cmpR op_gt (pe_ix ix_list (pv 0) pe_int (fun _ _ => rfl)) pe_int (nomark _))
        (pss_cons (ps_asg (pe_callB call_divmod (by rfl) B.divmod (by decide +kernel) (pa_cons (pe_ix ix_list (pv 0) pe_int (fun _ _ => rfl)) (pa_cons (pv 1) pa_nil))) (pg_tup rfl (pgs_cons (pg_sub (pv 0) pe_int set_list) (pgs_cons (pg_name (i := 2) scDraw.nd rfl (Or.inl rfl)) pgs_nil))))
          (pss_one (ps_ret (pv 2)))) pss_nil)
      (pss_cons (ps_asg (pe_op op_mod (pe_op op_add (pe_op op_mul (pe_ix ix_list (pv 0) pe_int (fun _ _ => rfl)) pe_int) pe_int) pe_int) (pg_sub (pv 0) pe_int set_list))
      (pss_one (ps_ret (pe_op op_mod (pe_op op_fdiv (pe_op op_mod (pe_op op_mul (pe_ix ix_list (pv 0) pe_int (fun _ _ => rfl)) (pe_ix ix_list (pv 0) pe_int (fun _ _ => rfl))) pe_int) pe_int) (pv 1))))), ?_⟩
    have hL : SqL K H p [.int a, .int b] := SqL.of hp
    refine ⟨_, rfl, p, _, 0, .int a, rfl, rfl, hL, rfl, a, 0, rfl, rfl, _, rfl, ?_⟩
    refine ite2 (fun hpos => ?_) (fun hneg => ?_)
    · refine ⟨_, rfl, p, _, 0, .int a, rfl, rfl, hL, rfl, _, rfl, a, m, rfl, ⟨hm, hm2⟩, fun q hq => ?_⟩
      have hne : p ≠ q := ne_of_none hp hq
      have hT : SqT K (upd H q (.tup [.int (a / m), .int (a % m)])) q [.int (a / m), .int (a % m)] := SqT.of upd_same
      have hp2 : (upd H q (.tup [.int (a / m), .int (a % m)])) p = some (.lst [.int a, .int b]) := by
        rw [upd_ne hne]
        exact hp
      refine ⟨q, _, rfl, hT, rfl, _, _, rfl, _, rfl, p, _, 0, 0, rfl, rfl, hp2, rfl, _, _, rfl, rfl, _, rfl, ?_⟩
      exact out (a % m) _ (Int.emod_nonneg _ (by omega)) (Int.emod_lt_of_pos _ hm) ((But.new hq).trans (But.upd _)) ⟨a / m, b, upd_same, Int.ediv_nonneg ha (by omega), hb, hb2⟩
    · have h0 : (0 : Int) ≤ (b * 39373 + 12227) % 2147483629 := Int.emod_nonneg _ (by decide)
      have h1 : (b * 39373 + 12227) % 2147483629 < 2147483629 := Int.emod_lt_of_pos _ (by decide)
      refine ⟨_, rfl, p, _, 1, .int b, rfl, rfl, hL, rfl, b, 39373, rfl, rfl, .inl ⟨by omega, by omega⟩, _, _, rfl, rfl, _, _, rfl, rfl, (by show (0 : Int) < _; decide), _, rfl, p, _, 1, 1, rfl, rfl, hp, rfl, ?_⟩
      have hL2 : SqL K (upd H p (.lst [.int a, .int ((b * 39373 + 12227) % 2147483629)])) p [.int a, .int ((b * 39373 + 12227) % 2147483629)] := SqL.of upd_same
      refine ⟨_, rfl, p, _, 1, _, rfl, rfl, hL2, rfl, _, rfl, p, _, 1, _, rfl, rfl, hL2, rfl, _, _, rfl, rfl, .inl ⟨by omega, by omega⟩, _, _, rfl, rfl, (by show (0 : Int) < _; decide), _, _, rfl, rfl, ⟨by decide, by decide⟩, _, rfl, _, m, rfl, rfl, hm, ?_⟩
      exact out _ _ (Int.emod_nonneg _ (by omega)) (Int.emod_lt_of_pos _ hm) (But.upd _) ⟨a, _, upd_same, ha, h0, by omega⟩
end
end K14
namespace K14
open PySem PySem.Spec PyProof.Rows L2 Par
section
variable {P : Program} {w : World} {K : PySem.W.Frag} {mg : Str → Option Value} {base : Heap}
/-- a def of the module that raises nothing -/
def Has (P : Program) (w : World) (K : PySem.W.Frag) (mg : Str → Option Value) (base : Heap) (x : Str) (lv : Nat) (ps : List Str) (sp : Sp) : Prop :=
  ∃ f fd, FnOk P w K mg base CX0 lv f fd ps sp ∧ mg x = some (.ref f) ∧ PySem.W.keepIn K (.ref f) = true ∧ Binds K fd ps []

/-- a new list of rising numbers from least to width - 1 -/
def spSpots : Sp := fun vs H Q _ => ∃ (p : Addr) (l m : Int), vs = [.ref p, .int l, .int m] ∧ PotAt H p ∧ 0 ≤ l ∧ l ≤ 1000 ∧ 0 ≤ m ∧ m ≤ 1000 ∧
  ∀ q (ns : List Int) H', H q = none → ns.Pairwise (· < ·) → (∀ n ∈ ns, l ≤ n ∧ n < m) → But p H H' → PotAt H' p → H' q = some (.lst (ns.map V.int)) → Q (.ref q) H'
abbrev nSpots : List Str := ["_law_pot_here", "_law_least", "_law_width_here", "_law_way", "_law_spot"]
theorem scSpots : FnScope nSpots ["_law_pot_here", "_law_least", "_law_width_here"] (defScope sSpots) := ⟨rfl, rfl, rfl, by decide +kernel, rfl, by decide +kernel, by decide +kernel⟩
theorem rgV_ints (a : Int) (n : Nat) : ∃ ns : List Int, rgV a (a + n) = ns.map V.int ∧ ns.Pairwise (· < ·) ∧ ∀ k ∈ ns, a ≤ k ∧ k < a + n := by
  refine ⟨(List.range n).map fun i => a + (i : Nat), ?_, ?_, ?_⟩
  · unfold rgV
    rw [List.map_map, show (a + (n : Int) - a).toNat = n by omega]
    rfl
  · rw [List.pairwise_map]
    exact List.pairwise_lt_range.imp (fun h => by omega)
  · intro k hk
    obtain ⟨i, hi, rfl⟩ := List.mem_map.mp hk
    have := List.mem_range.mp hi
    omega
theorem ok_spots {f : Addr} {fd : FuncData} (F : Fun K "_law_spots" "_law_spots" sSpots f fd) (B : Bl mg) (D : Has P w K mg base "_law_draw" 2 ["_law_pot_here", "_law_many"] spDraw) :
    FnOk P w K mg base CX0 3 f fd ["_law_pot_here", "_law_least", "_law_width_here"] spSpots := by
  obtain ⟨fD, fdD, GD, mD, kD, bD⟩ := D
  refine F.ok scSpots (fun vs H Q E h => ?_) (fun cdv A outer s H vs Q E hr h => ?_)
  · obtain ⟨p, l, m, rfl, _⟩ := h
    rfl
  · obtain ⟨p, l, m, rfl, hp, l0, l1, m0, m1, out⟩ := h
    refine ⟨_, pss_cons (ps_set (i := 3) scSpots.nd rfl (Or.inl rfl) (pe_call GD hr (by rfl) mD kD bD .nil pass0 (pa_cons (pv 0) (pa_cons pe_int pa_nil))))
      (pss_cons (ps_if (PW.pt (pw_or (pt_cmpR op_eq (pv 3) pe_int (nomark _)) (pw_or1 (pt_cmpR op_le (pv 2) (pv 1) (nomark _))))) (pss_one (ps_ret (pe_lst pa_nil))) pss_nil)
      (pss_cons (ps_if (pt_cmpR op_eq (pv 3) pe_int (nomark _)) (pss_one (ps_ret (pe_lst (pa_cons (pe_op op_add (pv 1) (pe_call GD hr (by rfl) mD kD bD .nil pass0 (pa_cons (pv 0) (pa_cons (pe_op op_sub (pv 2) (pv 1)) pa_nil)))) pa_nil)))) pss_nil)
      (pss_cons (ps_if (pt_cmpR op_eq (pv 3) pe_int (nomark _)) (pss_one (ps_ret (pe_listRg rfl (by rfl) B.list (prg_2 (by rfl) B.range (pv 1) (pv 2))))) pss_nil)
      (pss_one (ps_ret (pe_lc (own := [("_law_spot", 4)]) (g := gName 4) rfl scSpots.nd (pi_range2 (by rfl) B.range (pa_cons (pv 1) (pa_cons (pv 2) pa_nil))) (blkOk_by (own := [("_law_spot", 4)]) (N := nSpots) (sc := defScope sSpots) (by decide +kernel))
        (fun _ _ _ _ _ => pg_name (i := 4) scSpots.nd rfl (Or.inl rfl))
        (fun _ _ _ _ _ => pts_one (pt_cmpR op_eq (pe_call GD hr (by rfl) mD kD bD .nil pass0 (pa_cons (pv 0) (pa_cons pe_int pa_nil))) pe_int (nomark _)))
        (fun _ _ _ _ _ => pv 4))))))), ?_⟩
    refine ⟨_, rfl, p, 5, rfl, hp, by decide, by decide, ?_⟩
    intro d H1 d0 d1 b1 hp1
    have fr : ∀ q, H1 q = none → H q = none := fun q hq => b1.free hp hq hp1
    refine ⟨_, rfl, rfl, _, rfl, ?_⟩
    have nil : ∀ q, H1 q = none → Q (.ref q) (upd H1 q (.lst [])) := by
      intro q hq
      refine out q [] _ (fr q hq) List.Pairwise.nil (fun n hn => nomatch hn) (b1.trans (But.new hq)) (hp1.same (same_new hq)) upd_same
    refine ite2 (fun _ => ?_) (fun _ => ?_)
    · refine iteT ⟨by decide, nil⟩
    refine ⟨_, rfl, _, rfl, _, _, rfl, rfl, _, rfl, ?_⟩
    refine ite2 (fun _ => ?_) (fun hlt => ?_)
    · exact ⟨by decide, nil⟩
    have hlt2 : l < m := by
      have := of_decide_eq_false (by simpa using hlt : decide (m ≤ l) = false)
      omega
    refine ⟨_, rfl, rfl, _, rfl, ?_⟩
    refine ite2 (fun _ => ?_) (fun _ => ?_)
    · refine ⟨_, rfl, _, rfl, _, rfl, _, rfl, m, l, rfl, rfl, p, m - l, rfl, hp1, by omega, by omega, ?_⟩
      intro d2 H2 e0 e1 b2 hp2
      refine ⟨l, d2, rfl, rfl, (by show 1 ≤ sizeLine; decide), ?_⟩
      intro q hq
      refine out q [l + d2] _ (fr q (b2.free hp1 hq hp2)) (by simp) (fun n hn => by
        have : n = l + d2 := by simpa using hn
        omega) ((b1.trans b2).trans (But.new hq)) (hp2.same (same_new hq)) upd_same
    refine ⟨_, rfl, rfl, _, rfl, ?_⟩
    refine ite2 (fun _ => ?_) (fun _ => ?_)
    · refine ⟨_, rfl, _, rfl, l, m, rfl, rfl, RgOk.of_le l0 (by omega) (by omega) m0, ?_⟩
      intro q hq
      obtain ⟨ns, e, h1, h2⟩ := rgV_ints l (m - l).toNat
      have em : l + ((m - l).toNat : Int) = m := by omega
      rw [em] at e h2
      rw [e]
      exact out q ns _ (fr q hq) h1 h2 (b1.trans (But.new hq)) (hp1.same (same_new hq)) upd_same
    · refine ⟨_, rfl, _, rfl, l, m, rfl, ⟨by omega, by omega, by omega, by omega⟩, ?_⟩
      intro D hD
      have hDH := fr D hD
      have hDp : D ≠ p := fun z => by
        subst z
        obtain ⟨_, _, e, _⟩ := hp1
        rw [hD] at e
        cases e
      refine lc_range (lo := l) (n := (m - l).toNat) (fun i H' => ∃ ns : List Int, H' D = some (.lst (ns.map V.int)) ∧ ns.length ≤ i ∧ ns.Pairwise (· < ·) ∧ (∀ n ∈ ns, l ≤ n ∧ n < l + i) ∧ But p H H' ∧ PotAt H' p)
        ⟨[], upd_same, Nat.le_refl _, List.Pairwise.nil, fun n hn => (by cases hn), b1.trans (But.new hD), hp1.same (same_new hD)⟩ ?_ ?_
      · rintro i H2 hi ⟨ns, hns, hlen, pw, bd, b2, hp2⟩
        refine ⟨rfl, ?_⟩
        refine ⟨_, rfl, p, 2, rfl, hp2, by decide, by decide, ?_⟩
        intro d2 H3 e0 e1 b3 hp3
        have hD3 : H3 D = some (.lst (ns.map V.int)) := b3 D _ hDp hns
        refine ⟨rfl, _, rfl, ?_⟩
        refine ite2 (fun _ => ?_) (fun _ => ?_)
        · refine ⟨_, rfl, _, hD3, (by rw [List.length_map]; exact small1000 (by omega)), ns ++ [l + (i : Int)], ?_, ?_, ?_, ?_, ?_, ?_⟩
          · rw [upd_same, List.map_append]
            rfl
          · rw [List.length_append]
            show ns.length + 1 ≤ i + 1
            omega
          · refine List.pairwise_append.mpr ⟨pw, by simp, fun a ha b hb => ?_⟩
            have hb2 : b = l + (i : Int) := by simpa using hb
            have := bd a ha
            omega
          · intro n hn
            rcases List.mem_append.mp hn with hn | hn
            · have := bd n hn
              omega
            · have : n = l + (i : Int) := by simpa using hn
              omega
          · exact fun b o n e => by
              have e2 := b2.trans b3 b o n e
              rw [upd_ne (ne_of_none e hDH)]
              exact e2
          · obtain ⟨x, y, e, r⟩ := hp3
            exact ⟨x, y, by rw [upd_ne (Ne.symm hDp)]; exact e, r⟩
        · exact ⟨ns, hD3, by omega, pw, fun n hn => by have := bd n hn; omega, b2.trans b3, hp3⟩
      · rintro H2 ⟨ns, hns, hlen, pw, bd, b2, hp2⟩
        exact out D ns H2 hDH pw (fun n hn => by have := bd n hn; omega) b2 hp2 hns
end
end K14
namespace K14
open PySem PySem.Spec PyProof.Rows L2 Par
theorem perm_erase : ∀ {l : List Int} {i : Nat} {x : Int}, l[i]? = some x → (x :: l.eraseIdx i).Perm l
  | [], i, x, h => by simp at h
  | a :: l, 0, x, h => by
    have e : a = x := by simpa using h
    subst e
    exact List.Perm.refl _
  | a :: l, i + 1, x, h => by
    have h2 : l[i]? = some x := by simpa using h
    have ih := perm_erase h2
    show (x :: a :: l.eraseIdx i).Perm (a :: l)
    exact (List.Perm.swap a x _).trans (ih.cons a)
/-- what len of a list or tuple asks -/
def rLenQ (K : PySem.W.Frag) : List V → Hp → VK → Prop := fun xs H Q => ∃ p ys, xs = [.ref p] ∧ (SqL K H p ys ∨ SqT K H p ys) ∧ Q (.int ys.length) H
theorem map_eraseIdx : ∀ (l : List Int) (i : Nat), (l.map V.int).eraseIdx i = (l.eraseIdx i).map V.int
  | [], _ => rfl
  | _ :: _, 0 => rfl
  | a :: l, i + 1 => by
    show V.int a :: (l.map V.int).eraseIdx i = V.int a :: (l.eraseIdx i).map V.int
    rw [map_eraseIdx l i]
theorem yesT {σ : L2.St} {H : Hp} {A B : Hp → Prop} (h : A H) : tYes σ H (fun b H3 => if b = true then A H3 else B H3) := by
  unfold tYes
  show (if true = true then A H else B H)
  rw [if_pos rfl]
  exact h
section
variable {P : Program} {w : World} {K : PySem.W.Frag} {mg : Str → Option Value} {base : Heap}
/-- a new list of the same numbers, in some order -/
def spMixed (K : PySem.W.Frag) : Sp := fun vs H Q _ => ∃ (p g : Addr) (ns : List Int), vs = [.ref p, .ref g] ∧ PotAt H p ∧ H g = some (.lst (ns.map V.int)) ∧ g ≠ p ∧ ns.length ≤ 500 ∧
  ∀ q (ms : List Int) H', H q = none → ms.Perm ns → But p H H' → PotAt H' p → H' q = some (.lst (ms.map V.int)) → Q (.ref q) H'
abbrev nMixed : List Str := ["_law_pot_here", "_law_given", "_law_left", "_law_spot"]
theorem scMixed : FnScope nMixed ["_law_pot_here", "_law_given"] (defScope sMixed) := ⟨rfl, rfl, rfl, by decide +kernel, rfl, by decide +kernel, by decide +kernel⟩
theorem ok_mixed {f : Addr} {fd : FuncData} (F : Fun K "_law_mixed" "_law_mixed" sMixed f fd) (B : Bl mg) (D : Has P w K mg base "_law_draw" 2 ["_law_pot_here", "_law_many"] spDraw) :
    FnOk P w K mg base CX0 3 f fd ["_law_pot_here", "_law_given"] (spMixed K) := by
  obtain ⟨fD, fdD, GD, mD, kD, bD⟩ := D
  refine F.ok scMixed (fun vs H Q E h => ?_) (fun cdv A outer s H vs Q E hr h => ?_)
  · obtain ⟨p, g, ns, rfl, _⟩ := h
    rfl
  · obtain ⟨p, g, ns, rfl, hp, hg, gp, hl, out⟩ := h
    refine ⟨_, pss_cons (ps_set (i := 2) scMixed.nd rfl (Or.inr rfl) (pe_callTy call_list_of (by rfl) B.list (by decide +kernel) (pa_cons (pv 1) pa_nil)))
      (pss_one (ps_ret (pe_lc (own := [("_law_spot", 3)]) (g := gName 3) (te := tBM K "list" rPopAt (tVar 2) (tCons (tCall spDraw [] E0 (tCons (tVar 0) (tCons (tCB (rLenQ K) (tCons (tVar 2) tNil)) tNil))) tNil)) rfl scMixed.nd (pi_range1 (by rfl) B.range (pa_cons (pe_callB call_len_seq (by rfl) B.len PySem.boot_len (pa_cons (pv 1) pa_nil)) pa_nil)) (blkOk_by (own := [("_law_spot", 3)]) (N := nMixed) (sc := defScope sMixed) (by decide +kernel))
        (fun _ _ _ _ _ => pg_name (i := 3) scMixed.nd rfl (Or.inl rfl)) (fun _ _ _ _ _ => pts_nil)
        (fun _ _ _ _ _ => by exact pe_bm PySem.F.plainAttrs_list PySem.F.slot_list_pop PySem.F.type_list_pop mt_popAt (pv 2) (pa_cons (pe_call GD hr (by rfl) mD kD bD .nil pass0 (pa_cons (pv 0) (pa_cons (pe_callB call_len_seq (by rfl) B.len PySem.boot_len (pa_cons (pv 2) pa_nil)) pa_nil))) pa_nil))))), ?_⟩
    refine ⟨_, rfl, g, _, rfl, .inl (SqL.of hg), ?_⟩
    intro L hL
    have gL : g ≠ L := ne_of_none hg hL
    have hg1 : (upd H L (.lst (ns.map V.int))) g = some (.lst (ns.map V.int)) := by
      rw [upd_ne gL]
      exact hg
    have pL : L ≠ p := fun z => by
      subst z
      obtain ⟨_, _, e, _⟩ := hp
      rw [hL] at e
      cases e
    refine ⟨_, rfl, g, _, rfl, .inl (SqL.of hg1), _, rfl, (by rw [List.length_map]; omega), (by rw [List.length_map]; omega), ?_⟩
    intro D hD
    have DL : D ≠ L := fun z => by
      rw [z, upd_same] at hD
      cases hD
    have hDH : H D = none := by
      rw [upd_ne DL] at hD
      exact hD
    have Dp : D ≠ p := fun z => by
      subst z
      obtain ⟨_, _, e, _⟩ := hp
      rw [hDH] at e
      cases e
    rw [List.length_map, Int.toNat_natCast]
    have base0 : But p H (upd (upd H L (.lst (ns.map V.int))) D (.lst [])) := (But.new hL).trans (But.new hD)
    have pot0 : PotAt (upd (upd H L (.lst (ns.map V.int))) D (.lst [])) p := (hp.same (same_new hL)).same (same_new hD)
    refine lc_range (lo := 0) (n := ns.length) (fun i H' => ∃ ms ls : List Int, H' D = some (.lst (ms.map V.int)) ∧ H' L = some (.lst (ls.map V.int)) ∧ ms.length = i ∧ (ms ++ ls).Perm ns ∧ But p H H' ∧ PotAt H' p)
      ⟨[], ns, upd_same, by rw [upd_ne (Ne.symm DL), upd_same], rfl, List.Perm.refl _, base0, pot0⟩ ?_ ?_
    · rintro i H2 hi ⟨ms, ls, hms, hls, hlen, pm, b2, hp2⟩
      have hll : ms.length + ls.length = ns.length := by
        have := pm.length_eq
        rwa [List.length_append] at this
      refine ⟨rfl, yesT ?_⟩
      refine ⟨_, rfl, .inl ⟨rfl, _, SqL.of hls⟩, ?_⟩
      refine ⟨_, rfl, _, rfl, L, _, rfl, .inl (SqL.of hls), p, _, rfl, hp2, (by rw [List.length_map]; omega), (by rw [List.length_map]; omega), ?_⟩
      intro d H3 d0 d1 b3 hp3
      rw [List.length_map] at d1
      have hD3 : H3 D = some (.lst (ms.map V.int)) := b3 D _ Dp hms
      have hL3 : H3 L = some (.lst (ls.map V.int)) := b3 L _ pL hls
      have dk : d.toNat < ls.length := by omega
      have ex : ls[d.toNat]? = some ls[d.toNat] := by simp [dk]
      refine ⟨L, _, d, d.toNat, .int ls[d.toNat], rfl, rfl, hL3, by omega, by omega, ?_, ?_, ?_⟩
      · rw [List.length_map]
        unfold seqIndex?
        have h1 : ¬ d < 0 := by omega
        have h2 : d < (ls.length : Int) := by omega
        simp [h1, h2, d0]
      · rw [List.getElem?_map, ex]
        rfl
      refine ⟨ms.map V.int, by rw [upd_ne DL]; exact hD3, (by rw [List.length_map]; exact small1000 (by omega)), ms ++ [ls[d.toNat]], ls.eraseIdx d.toNat, ?_, ?_, ?_, ?_, ?_, ?_⟩
      · rw [upd_same, List.map_append]
        rfl
      · rw [upd_ne (Ne.symm DL), upd_same, map_eraseIdx]
      · rw [List.length_append, hlen]
        rfl
      · rw [List.append_assoc]
        exact (List.Perm.append_left ms (perm_erase ex)).trans pm
      · intro b o n e
        rw [upd_ne (ne_of_none e hDH), upd_ne (ne_of_none e hL)]
        exact b3 b o n (b2 b o n e)
      · obtain ⟨x, y, e, r⟩ := hp3
        exact ⟨x, y, by rw [upd_ne (Ne.symm Dp), upd_ne (Ne.symm pL)]; exact e, r⟩
    · rintro H2 ⟨ms, ls, hms, hls, hlen, pm, b2, hp2⟩
      have hll : ms.length + ls.length = ns.length := by
        have := pm.length_eq
        rwa [List.length_append] at this
      have e : ls = [] := List.eq_nil_of_length_eq_zero (by omega)
      subst e
      rw [List.append_nil] at pm
      exact out D ms H2 hDH pm b2 hp2 hms
end
end K14
namespace K14
open PySem PySem.Spec PyProof.Rows L2 Par
/-- is it a whole number from lo to hi -/
def isV (v : V) (lo hi : Int) : Bool := match v with
  | .int i => decide (lo ≤ i) && decide (i ≤ hi)
  | _ => false
/-- its type is known, and tells whether it is a bool, an int -/
def Typed (K : PySem.W.Frag) (H : Hp) (v : V) : Prop := (∃ b, v = .bl b) ∨ (∃ i, v = .int i) ∨
  (∃ n, TyX K H v (.type n) ∧ (n = "NoneType" ∨ n = "str" ∨ n = "list" ∨ n = "tuple" ∨ n = "dict") ∧ (∀ b, v ≠ .bl b) ∧ ∀ i, v ≠ .int i)
theorem isV_other {v : V} {lo hi : Int} (h : ∀ i, v ≠ .int i) : isV v lo hi = false := by
  unfold isV
  split
  · rename_i i
    exact absurd rfl (h i)
  · rfl
theorem sq_ty {K : PySem.W.Frag} {H : Hp} {a : Addr} {xs : List V} (h : SqL K H a xs) : TyX K H (.ref a) (.type "list") := by
  rcases h with (h | ⟨o, h⟩) | ⟨o, its, n, hk, hc, _⟩
  · exact .base (.lst h)
  · exact .base (.frz h)
  · exact .kList hk hc
theorem sqt_ty {K : PySem.W.Frag} {H : Hp} {a : Addr} {xs : List V} (h : SqT K H a xs) : TyX K H (.ref a) (.type "tuple") := by
  rcases h with (h | ⟨o, h⟩) | ⟨o, its, n, hk, hc, _⟩
  · exact .base (.tup h)
  · exact .fTuple h
  · exact .kTuple hk hc
theorem typed_dp {K : PySem.W.Frag} {H : Hp} {v : V} {d : PyData} (h : Dp K H v d) : Typed K H v := by
  cases h with
  | non => exact .inr (.inr ⟨_, .base .non, .inl rfl, by simp, by simp⟩)
  | bl b => exact .inl ⟨b, rfl⟩
  | int i => exact .inr (.inl ⟨i, rfl⟩)
  | str x => exact .inr (.inr ⟨_, .base (.str x), .inr (.inl rfl), by simp, by simp⟩)
  | lst hs _ => exact .inr (.inr ⟨_, sq_ty hs, by simp, by simp, by simp⟩)
  | tup hs _ => exact .inr (.inr ⟨_, sqt_ty hs, by simp, by simp, by simp⟩)
theorem typed_fl {K : PySem.W.Frag} {H : Hp} {v : V} {d : PyData} (h : Fl H v d) : Typed K H v := by
  cases h with
  | non => exact .inr (.inr ⟨_, .base .non, .inl rfl, by simp, by simp⟩)
  | bl b => exact .inl ⟨b, rfl⟩
  | int i => exact .inr (.inl ⟨i, rfl⟩)
  | str x => exact .inr (.inr ⟨_, .base (.str x), .inr (.inl rfl), by simp, by simp⟩)
  | dic0 e => exact .inr (.inr ⟨_, .base (.dK e), by simp, by simp, by simp⟩)
  | dic1 e => exact .inr (.inr ⟨_, .base (.dK e), by simp, by simp, by simp⟩)
section
variable {P : Program} {w : World} {K : PySem.W.Frag} {mg : Str → Option Value} {base : Heap}
theorem kit_bool {n : String} (h : n = "NoneType" ∨ n = "str" ∨ n = "list" ∨ n = "tuple" ∨ n = "dict") : PySem.W.kitOne K (.type n) (.type "bool") = some false := by
  rcases h with rfl | rfl | rfl | rfl | rfl <;> exact kit_ty (by decide +kernel)
theorem kit_int {n : String} (h : n = "NoneType" ∨ n = "str" ∨ n = "list" ∨ n = "tuple" ∨ n = "dict") : PySem.W.kitOne K (.type n) (.type "int") = some false := by
  rcases h with rfl | rfl | rfl | rfl | rfl <;> exact kit_ty (by decide +kernel)
/-- a whole number and no bool -/
def wholeV : V → Bool
  | .int _ => true
  | _ => false
theorem wholeV_other {v : V} (h : ∀ i, v ≠ .int i) : wholeV v = false := by
  cases v <;> first | rfl | exact absurd rfl (h _)
/-- is_integer -/
def spIntegerA (K : PySem.W.Frag) : Sp := fun vs H Q _ => ∃ v : V, vs = [v] ∧ Typed K H v ∧ Q (.bl (wholeV v)) H
theorem scInteger : FnScope ["thing"] ["thing"] (defScope sInteger) := ⟨rfl, rfl, rfl, by decide +kernel, rfl, by decide +kernel, by decide +kernel⟩
theorem ok_integerA {f : Addr} {fd : FuncData} (F : Fun K "is_integer" "is_integer" sInteger f fd) (B : Bl mg) : FnOk P w K mg base CX0 1 f fd ["thing"] (spIntegerA K) := by
  refine F.ok scInteger (fun vs H Q E h => ?_) (fun cdv A outer s H vs Q E hr h => ?_)
  · obtain ⟨v, rfl, _⟩ := h
    rfl
  · obtain ⟨v, rfl, hT, out⟩ := h
    refine ⟨_, pss_one (ps_ret (pe_and (pe_callB call_isi (by rfl) B.isinstance (by decide +kernel) (pa_cons (pv 0) (pa_cons (pe_bltn (v := .ty "int") (by rfl) B.int (by decide +kernel) rfl) pa_nil))) (pe_one (pe_not (pe_callB call_isi (by rfl) B.isinstance (by decide +kernel) (pa_cons (pv 0) (pa_cons (pe_bltn (v := .ty "bool") (by rfl) B.bool (by decide +kernel) rfl) pa_nil))))))), ?_⟩
    rcases hT with ⟨b, rfl⟩ | ⟨i, rfl⟩ | ⟨n, ty, hn, nb, ni⟩
    · refine ⟨_, rfl, _, _, _, _, true, rfl, .ty "int", .base (.bl b), kit_ty (by decide +kernel), _, rfl, iteT ?_⟩
      exact ⟨_, rfl, _, _, _, _, true, rfl, .ty "bool", .base (.bl b), kit_ty (by decide +kernel), _, rfl, out⟩
    · refine ⟨_, rfl, _, _, _, _, true, rfl, .ty "int", .base (.int i), kit_ty (by decide +kernel), _, rfl, iteT ?_⟩
      exact ⟨_, rfl, _, _, _, _, false, rfl, .ty "bool", .base (.int i), kit_ty (by decide +kernel), _, rfl, out⟩
    · rw [wholeV_other ni] at out
      refine ⟨_, rfl, _, _, _, _, false, rfl, .ty "int", ty, kit_int hn, _, rfl, iteF ?_⟩
      exact out
/-- is_integer_between -/
def spBetween (K : PySem.W.Frag) : Sp := fun vs H Q _ => ∃ (v : V) (lo hi : Int), vs = [v, .int lo, .int hi] ∧ Typed K H v ∧ Q (.bl (isV v lo hi)) H
theorem scBetween : FnScope ["thing", "low", "high"] ["thing", "low", "high"] (defScope sBetween) := ⟨rfl, rfl, rfl, by decide +kernel, rfl, by decide +kernel, by decide +kernel⟩
theorem ok_between {f : Addr} {fd : FuncData} (F : Fun K "is_integer_between" "is_integer_between" sBetween f fd) (B : Bl mg) (D : Has P w K mg base "is_integer" 1 ["thing"] (spIntegerA K)) : FnOk P w K mg base CX0 2 f fd ["thing", "low", "high"] (spBetween K) := by
  obtain ⟨fD, fdD, GD, mD, kD, bD⟩ := D
  refine F.ok scBetween (fun vs H Q E h => ?_) (fun cdv A outer s H vs Q E hr h => ?_)
  · obtain ⟨v, lo, hi, rfl, _⟩ := h
    rfl
  · obtain ⟨v, lo, hi, rfl, hT, out⟩ := h
    refine ⟨_, pss_one (ps_ret (pe_and (pe_call GD hr (by rfl) mD kD bD .nil pass0 (pa_cons (pv 0) pa_nil)) (pe_one (pe_chain op_le op_le (pv 1) (pv 0) (pv 2))))), ?_⟩
    have hT0 := hT
    rcases hT with ⟨b, rfl⟩ | ⟨i, rfl⟩ | ⟨n, ty, hn, nb, ni⟩
    · exact ⟨_, rfl, _, rfl, hT0, _, rfl, iteF out⟩
    · refine ⟨_, rfl, _, rfl, hT0, _, rfl, iteT ?_⟩
      refine ⟨_, rfl, _, rfl, lo, i, rfl, rfl, _, rfl, ite2 (fun h1 => ?_) (fun h1 => ?_)⟩
      · refine ⟨_, rfl, i, hi, rfl, rfl, ?_⟩
        have e : isV (.int i) lo hi = decide (i ≤ hi) := by
          show (decide (lo ≤ i) && decide (i ≤ hi)) = _
          rw [h1]
          rfl
        rw [e] at out
        exact out
      · have e : isV (.int i) lo hi = false := by
          show (decide (lo ≤ i) && decide (i ≤ hi)) = _
          rw [show decide (lo ≤ i) = false by simpa using h1]
          rfl
        rw [e] at out
        exact out
    · rw [isV_other ni] at out
      refine ⟨_, rfl, _, rfl, hT0, ?_⟩
      rw [wholeV_other ni]
      exact ⟨_, rfl, iteF out⟩
/-- _law_is_int -/
theorem scIsInt : FnScope ["_law_item", "_law_low", "_law_high"] ["_law_item", "_law_low", "_law_high"] (defScope sIsInt) := ⟨rfl, rfl, rfl, by decide +kernel, rfl, by decide +kernel, by decide +kernel⟩
theorem ok_isint {f : Addr} {fd : FuncData} (F : Fun K "_law_is_int" "_law_is_int" sIsInt f fd) (B : Bl mg) : FnOk P w K mg base CX0 2 f fd ["_law_item", "_law_low", "_law_high"] (spBetween K) := by
  refine F.ok scIsInt (fun vs H Q E h => ?_) (fun cdv A outer s H vs Q E hr h => ?_)
  · obtain ⟨v, lo, hi, rfl, _⟩ := h
    rfl
  · obtain ⟨v, lo, hi, rfl, hT, out⟩ := h
    refine ⟨_, pss_one (ps_ret (pe_and (pe_callB call_isi (by rfl) B.isinstance (by decide +kernel) (pa_cons (pv 0) (pa_cons (pe_bltn (v := .ty "int") (by rfl) B.int (by decide +kernel) rfl) pa_nil)))
        (pe_and (pe_not (pe_callB call_isi (by rfl) B.isinstance (by decide +kernel) (pa_cons (pv 0) (pa_cons (pe_bltn (v := .ty "bool") (by rfl) B.bool (by decide +kernel) rfl) pa_nil))))
        (pe_one (pe_chain op_le op_le (pv 1) (pv 0) (pv 2)))))), ?_⟩
    rcases hT with ⟨b, rfl⟩ | ⟨i, rfl⟩ | ⟨n, ty, hn, nb, ni⟩
    · refine ⟨_, rfl, _, _, _, _, true, rfl, .ty "int", .base (.bl b), kit_ty (by decide +kernel), _, rfl, iteT ?_⟩
      refine ⟨_, rfl, _, _, _, _, true, rfl, .ty "bool", .base (.bl b), kit_ty (by decide +kernel), _, rfl, _, rfl, iteF ?_⟩
      exact out
    · refine ⟨_, rfl, _, _, _, _, true, rfl, .ty "int", .base (.int i), kit_ty (by decide +kernel), _, rfl, iteT ?_⟩
      refine ⟨_, rfl, _, _, _, _, false, rfl, .ty "bool", .base (.int i), kit_ty (by decide +kernel), _, rfl, _, rfl, iteT ?_⟩
      refine ⟨_, rfl, _, rfl, lo, i, rfl, rfl, _, rfl, ite2 (fun h1 => ?_) (fun h1 => ?_)⟩
      · refine ⟨_, rfl, i, hi, rfl, rfl, ?_⟩
        have e : isV (.int i) lo hi = decide (i ≤ hi) := by
          show (decide (lo ≤ i) && decide (i ≤ hi)) = _
          rw [h1]
          rfl
        rw [e] at out
        exact out
      · have e : isV (.int i) lo hi = false := by
          show (decide (lo ≤ i) && decide (i ≤ hi)) = _
          rw [show decide (lo ≤ i) = false by simpa using h1]
          rfl
        rw [e] at out
        exact out
    · rw [isV_other ni] at out
      refine ⟨_, rfl, _, _, _, _, false, rfl, .ty "int", ty, kit_int hn, _, rfl, iteF ?_⟩
      exact out
/-- is_cell -/
def spIsCell (K : PySem.W.Frag) : Sp := fun vs H Q _ => ∃ (v : V) (n : Int), vs = [v, .int n] ∧ Typed K H v ∧ Q (.bl (isV v 0 (n - 1))) H
theorem scIsCell : FnScope ["thing", "size"] ["thing", "size"] (defScope sIsCell) := ⟨rfl, rfl, rfl, by decide +kernel, rfl, by decide +kernel, by decide +kernel⟩
theorem ok_iscell {f : Addr} {fd : FuncData} (F : FunD K "is_cell" "is_cell" (defArgs sIsCell) (defBody sIsCell) (defScope sIsCell) [] [("size", .int 40)] f fd)
    (D : Has P w K mg base "is_integer_between" 2 ["thing", "low", "high"] (spBetween K)) : FnOk P w K mg base CX0 3 f fd ["thing", "size"] (spIsCell K) := by
  obtain ⟨fD, fdD, GD, mD, kD, bD⟩ := D
  refine F.ok scIsCell (fun vs H Q E h => ?_) (fun cdv A outer s H vs Q E hr h => ?_)
  · obtain ⟨v, n, rfl, _⟩ := h
    rfl
  · obtain ⟨v, n, rfl, hT, out⟩ := h
    refine ⟨_, pss_one (ps_ret (pe_call GD hr (by rfl) mD kD bD .nil pass0 (pa_cons (pv 0) (pa_cons pe_int (pa_cons (pe_op op_sub (pv 1) pe_int) pa_nil))))), ?_⟩
    refine ⟨_, rfl, _, rfl, n, 1, rfl, rfl, v, 0, n - 1, rfl, hT, out⟩
end
end K14
namespace K14
open PySem PySem.Spec PyProof.Rows L2 Par
/-- what the module says of NoCells, at C, its __init__ at fI -/
structure CellsC (K : PySem.W.Frag) (mg : Str → Option Value) (C : Addr) : Prop where
  gC : mg "NoCells" = some (.ref C)
  ox : OexC K C
  no : PySem.W.findIn K (.ref C) "cells" = some none
section
variable {P : Program} {w : World} {K : PySem.W.Frag} {mg : Str → Option Value} {base : Heap}
def spIni (C : Addr) : Sp := fun vs H Q _ => ∃ (a : Addr) (v : V), vs = [.ref a, v] ∧ H a = some (exo a C none) ∧
  ∀ dx, H dx = none → dx ≠ a → Q .non (upd (upd H dx (exd dx [("cells", v)])) a (exo a C (some dx)))
theorem scIni : FnScope ["self", "cells"] ["self", "cells"] (defScope sIni) := ⟨rfl, rfl, rfl, by decide +kernel, rfl, by decide +kernel, by decide +kernel⟩
theorem ok_ini {f C : Addr} {fd : FuncData} (F : Fun K "__init__" "NoCells.__init__" sIni f fd) (T : CellsC K mg C) : FnOk P w K mg base CX0 2 f fd ["self", "cells"] (spIni C) := by
  refine F.ok scIni (fun vs H Q E h => ?_) (fun cdv A outer s H vs Q E hr h => ?_)
  · obtain ⟨a, v, rfl, _⟩ := h
    rfl
  · obtain ⟨a, v, rfl, ha, out⟩ := h
    refine ⟨_, pss_one (ps_ost (pv 0) (pv 1)), ?_⟩
    exact ⟨_, rfl, _, rfl, a, C, rfl, T.ox, T.no, .inl ⟨ha, out⟩⟩
/-- NoCells as a class whose __init__ keeps its promise -/
def HasIni (P : Program) (w : World) (K : PySem.W.Frag) (mg : Str → Option Value) (base : Heap) (C : Addr) : Prop :=
  ∃ f fd, FnOk P w K mg base CX0 2 f fd ["self", "cells"] (spIni C) ∧ PySem.W.findIn K (.ref C) "__init__" = some (some (.ref f)) ∧ PySem.W.typeIn K (.ref f) = some (.type "function") ∧ Binds K fd ["self", "cells"] []
/-- what raise NoCells(v) leads to -/
theorem made_ini {C : Addr} {H : Hp} {v : V} {W : Value → Option Addr → Hp → Prop} (h : ∀ d H', H d = none → Same H H' → H' d = some (.xd [("cells", v)]) → W (.ref C) (some d) H') :
    ∀ a, H a = none → spIni C (.ref a :: ([v] ++ [])) (upd H a (exo a C none)) (fun u H2 => u = .non ∧ ∃ (d : Addr) (fs : List (Str × V)), H2 a = some (exo a C (some d)) ∧ H2 d = some (exd d fs) ∧ H d = none ∧
      W (.ref C) (some d) (upd (del H2 a) d (.xd fs))) (fun _ _ _ => False) := by
  intro a ha
  refine ⟨a, v, rfl, upd_same, fun dx hd ne => ?_⟩
  rw [upd_ne ne] at hd
  refine ⟨rfl, dx, [("cells", v)], upd_same, by rw [upd_ne ne, upd_same], hd, ?_⟩
  refine h dx _ hd (fun b o e => ?_) upd_same
  have n1 := ne_of_none e hd
  have n2 := ne_of_none e ha
  rw [upd_ne n1, del_ne n2, upd_ne n2, upd_ne n1, upd_ne n2]
  exact e

/-- it is neither a list nor a tuple -/
def NoSeq (K : PySem.W.Frag) (H : Hp) (v : V) : Prop := ∃ n, TyX K H v (.type n) ∧ (n = "NoneType" ∨ n = "bool" ∨ n = "int" ∨ n = "str" ∨ n = "dict")
theorem kit_noseq {n : String} (h : n = "NoneType" ∨ n = "bool" ∨ n = "int" ∨ n = "str" ∨ n = "dict") : PySem.W.kitAny K (.type n) [.type "list", .type "tuple"] = some false := by
  have h1 : PySem.W.kitOne K (.type n) (.type "list") = some false := by rcases h with rfl | rfl | rfl | rfl | rfl <;> exact kit_ty (by decide +kernel)
  have h2 : PySem.W.kitOne K (.type n) (.type "tuple") = some false := by rcases h with rfl | rfl | rfl | rfl | rfl <;> exact kit_ty (by decide +kernel)
  exact kitAny_cons h1 (fun _ => kitAny_cons h2 (fun _ => kitAny_nil) (fun z => nomatch z)) (fun z => nomatch z)
theorem kit_seq {n : String} (h : n = "list" ∨ n = "tuple") : PySem.W.kitAny K (.type n) [.type "list", .type "tuple"] = some true := by
  rcases h with rfl | rfl
  · exact kitAny_cons (b := true) (kit_ty (by decide +kernel)) (fun z => nomatch z) (fun _ => rfl)
  · exact kitAny_cons (b := false) (kit_ty (by decide +kernel)) (fun _ => kitAny_cons (b := true) (kit_ty (by decide +kernel)) (fun z => nomatch z) (fun _ => rfl)) (fun z => nomatch z)
/-- a list or tuple of xs -/
def Sq (K : PySem.W.Frag) (H : Hp) (a : Addr) (xs : List V) : Prop := SqL K H a xs ∨ SqT K H a xs
/-- the items as whole numbers from l to m - 1 -/
def AllOf (l m : Int) (xs : List V) : Bool := xs.all fun x => isV x l (m - 1)
/-- a list or tuple of these items, or none of both -/
def Desc (K : PySem.W.Frag) (H : Hp) (v : V) : Option (List V) → Prop
  | none => NoSeq K H v
  | some xs => ∃ a, v = .ref a ∧ Sq K H a xs ∧ xs.length ≤ 500 ∧ ∀ x ∈ xs, Typed K H x
theorem desc_cases {H : Hp} {v : V} : ∀ {o : Option (List V)}, Desc K H v o → (o = none ∧ NoSeq K H v) ∨ ∃ a xs, o = some xs ∧ v = .ref a ∧ Sq K H a xs ∧ xs.length ≤ 500 ∧ ∀ x ∈ xs, Typed K H x
  | none, h => .inl ⟨rfl, h⟩
  | some xs, ⟨a, e, r⟩ => .inr ⟨a, xs, rfl, e, r⟩
def Fine (l m : Int) (o : Option (List V)) (ns : List Int) : Prop := o = some (ns.map V.int) ∧ AllOf l m (ns.map V.int) = true ∧ ns.Nodup
def Foul (l m : Int) (o : Option (List V)) : Prop := o = none ∨ (∃ xs, o = some xs ∧ AllOf l m xs = false) ∨ ∃ ns : List Int, o = some (ns.map V.int) ∧ AllOf l m (ns.map V.int) = true ∧ ¬ ns.Nodup
/-- cell_tuple: the cells in order, or NoCells with the value -/
def spCells (K : PySem.W.Frag) (C : Addr) : Sp := fun vs H Q E => ∃ (v : V) (n : Int) (o : Option (List V)), vs = [v, .int n] ∧ Desc K H v o ∧
  (∀ ns, Fine 0 n o ns → ∀ p (ms : List Int) H', H p = none → Same H H' → ms.Perm ns → ms.Pairwise (· ≤ ·) → H' p = some (.tup (ms.map V.int)) → Q (.ref p) H') ∧
  (Foul 0 n o → ∀ d H', H d = none → Same H H' → H' d = some (.xd [("cells", v)]) → E (.ref C) (some d) H')
/-- are_cells of any value -/
def spAreC (K : PySem.W.Frag) : Sp := fun vs H Q _ => ∃ (v : V) (n : Int) (o : Option (List V)), vs = [v, .int n] ∧ Desc K H v o ∧ (∀ ns, Fine 0 n o ns → ∀ H', Same H H' → Q (.bl true) H') ∧ (Foul 0 n o → ∀ H', Same H H' → Q (.bl false) H')
abbrev nCells : List Str := ["things", "size", "thing"]
theorem scAreC : FnScope nCells ["things", "size"] (defScope sAreC) := ⟨rfl, rfl, rfl, by decide +kernel, rfl, by decide +kernel, by decide +kernel⟩
theorem scCells : FnScope ["things", "size"] ["things", "size"] (defScope sCells) := ⟨rfl, rfl, rfl, by decide +kernel, rfl, by decide +kernel, by decide +kernel⟩
/-- is_cell by its callers: one positional, size by its name
-/
def HasCell (P : Program) (w : World) (K : PySem.W.Frag) (mg : Str → Option Value) (base : Heap) : Prop :=
  ∃ f fd, FnOk P w K mg base CX0 3 f fd ["thing", "size"] (spIsCell K) ∧ mg "is_cell" = some (.ref f) ∧ PySem.W.keepIn K (.ref f) = true ∧
    KBn K fd ["thing", "size"] 1 ["size"] (fun us ws => us ++ ws) (fun vs zs => vs ++ zs)
theorem of_ints : ∀ {xs : List V} {l m : Int}, AllOf l m xs = true → ∃ ns : List Int, xs = ns.map V.int
  | [], _, _, _ => ⟨[], rfl⟩
  | x :: xs, l, m, h => by
    have h1 : isV x l (m - 1) = true ∧ AllOf l m xs = true := by simpa [AllOf] using h
    obtain ⟨ns, e⟩ := of_ints h1.2
    cases x with
    | int i => exact ⟨i :: ns, by rw [e]; rfl⟩
    | _ => exact absurd h1.1 (by simp [isV])
theorem same_sq {H H' : Hp} {a : Addr} {xs : List V} (s : Same H H') (h : SqL K H a xs) : SqL K H' a xs := s.seq h
theorem same_sqt {H H' : Hp} {a : Addr} {xs : List V} (s : Same H H') (h : SqT K H a xs) : SqT K H' a xs := by
  rcases h with (h | ⟨o, h⟩) | h
  · exact .inl (.inl (s _ _ h))
  · exact .inl (.inr ⟨o, s _ _ h⟩)
  · exact .inr h
theorem same_tyx {H H' : Hp} {v : V} {t : Value} (s : Same H H') (h : TyX K H v t) : TyX K H' v t := by
  cases h with
  | base b =>
    refine .base ?_
    cases b with
    | non => exact .non
    | bl y => exact .bl y
    | int i => exact .int i
    | str y => exact .str y
    | flt y => exact .flt y
    | lst e => exact .lst (s _ _ e)
    | frz e => exact .frz (s _ _ e)
    | tup e => exact .tup (s _ _ e)
    | dK e => exact .dK (s _ _ e)
    | dT e => exact .dT (s _ _ e)
    | ins e cl ha hn htk hm => exact .ins (s _ _ e) cl ha hn htk hm
  | byt y => exact .byt y
  | set e => exact .set (s _ _ e)
  | kList e c => exact .kList e c
  | kTuple e c => exact .kTuple e c
  | kDict e c => exact .kDict e c
  | fTuple e => exact .fTuple (s _ _ e)
  | fDict e => exact .fDict (s _ _ e)
theorem same_typed {H H' : Hp} {v : V} (s : Same H H') (h : Typed K H v) : Typed K H' v := by
  rcases h with h | h | ⟨n, ty, r⟩
  · exact .inl h
  · exact .inr (.inl h)
  · exact .inr (.inr ⟨n, same_tyx s ty, r⟩)
theorem ok_areC {f : Addr} {fd : FuncData} (F : Fun K "are_cells" "are_cells" sAreC f fd) (B : Bl mg)
    (D : HasCell P w K mg base) : FnOk P w K mg base CX0 4 f fd ["things", "size"] (spAreC K) := by
  obtain ⟨fD, fdD, GD, mD, kD, bD⟩ := D
  refine F.ok scAreC (fun vs H Q E h => ?_) (fun cdv A outer s H vs Q E hr h => ?_)
  · obtain ⟨v, n, o, rfl, _⟩ := h
    rfl
  · obtain ⟨v, n, o, rfl, desc, good, bad⟩ := h
    rcases desc_cases desc with ⟨rfl, hno⟩ | ⟨a, xs, rfl, rfl, hq | hq, hl, hty⟩
    · refine ⟨_, pss_cons (ps_if (pt_not (pt_val (pe_callB call_isiT (by rfl) B.isinstance (by decide +kernel) (pa_cons (pv 0) (pa_cons (pe_tup (pa_cons (pe_bltn (v := .ty "list") (by rfl) B.list (by decide +kernel) rfl) (pa_cons (pe_bltn (v := .ty "tuple") (by rfl) B.tuple (by decide +kernel) rfl) pa_nil))) pa_nil))))) (pss_one (ps_ret pe_bl)) pss_nil)
      (pss_cons (ps_if (pt_not (pt_val (pe_callB (cr_all rfl) (by rfl) B.all (by decide +kernel) (pa_cons (pe_lc (own := [("thing", 2)]) (g := gName 2) (te := tCallN 1 (["size"] : List Str).length (spIsCell K) (fun vs zs => vs ++ zs) E0 (tCons (tVar 2) tNil) (tCons (tVar 1) tNil)) rfl scAreC.nd (pi_list (pv 0)) (blkOk_by (own := [("thing", 2)]) (N := nCells) (sc := defScope sAreC) (by decide +kernel))
          (fun _ _ _ _ _ => pg_name (i := 2) scAreC.nd rfl (Or.inl rfl)) (fun _ _ _ _ _ => pts_nil) (fun _ _ _ _ _ => by exact pe_callN (n := 1) (ks := ["size"]) GD hr (by rfl) mD kD bD pass0 (pa_cons (pv 2) pa_nil) (pk_cons (pv 1) pk_nil))) pa_nil)))) (pss_one (ps_ret pe_bl)) pss_nil)
      (pss_one (ps_ret (pe_cmpR op_eq (pe_lenSetQ (by rfl) B.len (by rfl) B.set (pv 0)) (pe_callB call_len_seq (by rfl) B.len PySem.boot_len (pa_cons (pv 0) pa_nil)) (nomark _))))), ?_⟩
      obtain ⟨nm, ty, hn⟩ := id hno
      refine ⟨_, rfl, by decide, fun p hp => ?_⟩
      refine ⟨_, p, _, _, _, false, rfl, upd_same, .cons (.ty _) (.cons (.ty _) .nil), same_tyx (same_new hp) ty, kit_noseq hn, _, rfl, iteT ?_⟩
      exact bad (.inl rfl) _ (same_new hp)
    · refine ⟨_, pss_cons (ps_if (pt_not (pt_val (pe_callB call_isiT (by rfl) B.isinstance (by decide +kernel) (pa_cons (pv 0) (pa_cons (pe_tup (pa_cons (pe_bltn (v := .ty "list") (by rfl) B.list (by decide +kernel) rfl) (pa_cons (pe_bltn (v := .ty "tuple") (by rfl) B.tuple (by decide +kernel) rfl) pa_nil))) pa_nil))))) (pss_one (ps_ret pe_bl)) pss_nil)
      (pss_cons (ps_if (pt_not (pt_val (pe_callB (cr_all rfl) (by rfl) B.all (by decide +kernel) (pa_cons (pe_lc (own := [("thing", 2)]) (g := gName 2) (te := tCallN 1 (["size"] : List Str).length (spIsCell K) (fun vs zs => vs ++ zs) E0 (tCons (tVar 2) tNil) (tCons (tVar 1) tNil)) rfl scAreC.nd (pi_list (pv 0)) (blkOk_by (own := [("thing", 2)]) (N := nCells) (sc := defScope sAreC) (by decide +kernel))
          (fun _ _ _ _ _ => pg_name (i := 2) scAreC.nd rfl (Or.inl rfl)) (fun _ _ _ _ _ => pts_nil) (fun _ _ _ _ _ => by exact pe_callN (n := 1) (ks := ["size"]) GD hr (by rfl) mD kD bD pass0 (pa_cons (pv 2) pa_nil) (pk_cons (pv 1) pk_nil))) pa_nil)))) (pss_one (ps_ret pe_bl)) pss_nil)
      (pss_one (ps_ret (pe_cmpR op_eq (pe_lenSetQ (by rfl) B.len (by rfl) B.set (pv 0)) (pe_callB call_len_seq (by rfl) B.len PySem.boot_len (pa_cons (pv 0) pa_nil)) (nomark _))))), ?_⟩
      refine ⟨_, rfl, by decide, fun p hp => ?_⟩
      have s1 : Same H (upd H p (.tup [.ty "list", .ty "tuple"])) := same_new hp
      refine ⟨_, p, _, _, _, true, rfl, upd_same, .cons (.ty _) (.cons (.ty _) .nil), sq_ty (same_sq s1 hq), kit_seq (by simp), _, rfl, iteF ?_⟩
      refine ⟨_, rfl, a, rfl, ⟨_, same_sq s1 hq⟩, fun D hD => ?_⟩
      refine lc_list (K := K) (a := a) (xs := xs) (fun i H' => Same H H' ∧ H' D = some (.lst ((xs.take i).map fun x => .bl (isV x 0 (n - 1))))) ⟨s1.trans (same_new hD), upd_same⟩ (fun i H' _ h => same_sq h.1 hq) ?_ ?_
      · rintro i x H2 hx ⟨s2, hD2⟩
        have xm : x ∈ xs := List.mem_of_getElem? hx
        have xi : i < xs.length := by
          rcases Nat.lt_or_ge i xs.length with z | z
          · exact z
          · rw [List.getElem?_eq_none z] at hx
            cases hx
        refine ⟨rfl, yesT ?_⟩
        refine ⟨_, rfl, _, rfl, rfl, rfl, x, n, rfl, same_typed s2 (hty x xm), _, hD2, ?_, ?_, ?_⟩
        · rw [List.length_map, List.length_take]
          exact small1000 (by omega)
        · intro b o e
          have hDb : H D = none := s1.free hD
          rw [upd_ne (ne_of_none e hDb)]
          exact s2 b o e
        · rw [upd_same, List.take_succ, hx, List.map_append]
          rfl
      rintro H2 ⟨s2, hD2⟩
      rw [List.take_length] at hD2
      refine ⟨D, xs.map fun x => isV x 0 (n - 1), rfl, SqL.of (by rw [hD2, List.map_map]; rfl), _, rfl, ?_⟩
      have eall : (xs.map fun x => isV x 0 (n - 1)).all id = AllOf 0 n xs := by simp [AllOf]
      rw [eall]
      cases hall : AllOf 0 n xs with
      | false =>
        exact iteT (bad (.inr (.inl ⟨xs, rfl, hall⟩)) _ s2)
      | true =>
        obtain ⟨ns, rfl⟩ := of_ints hall
        have hlen : ns.length ≤ 500 := by rw [List.length_map] at hl; exact hl
        refine iteF ⟨_, rfl, a, ns, rfl, .inl (same_sq s2 hq), by omega, fun c hc hiff => ?_⟩
        refine ⟨_, rfl, a, _, rfl, .inl (same_sq s2 hq), ?_⟩
        rw [List.length_map]
        refine ⟨rfl, ?_⟩
        by_cases hnd : ns.Nodup
        · have ec : c = ns.length := hiff.mpr hnd
          subst ec
          rw [decide_eq_true rfl]
          exact good ns ⟨rfl, hall, hnd⟩ _ s2
        · have ec : ¬ (V.int (c : Nat) = V.int (ns.length : Nat)) := fun z => by
            have z2 : ((c : Nat) : Int) = ((ns.length : Nat) : Int) := by injection z
            exact hnd (hiff.mp (by omega))
          rw [decide_eq_false ec]
          exact bad (.inr (.inr ⟨ns, rfl, hall, hnd⟩)) _ s2
    · refine ⟨_, pss_cons (ps_if (pt_not (pt_val (pe_callB call_isiT (by rfl) B.isinstance (by decide +kernel) (pa_cons (pv 0) (pa_cons (pe_tup (pa_cons (pe_bltn (v := .ty "list") (by rfl) B.list (by decide +kernel) rfl) (pa_cons (pe_bltn (v := .ty "tuple") (by rfl) B.tuple (by decide +kernel) rfl) pa_nil))) pa_nil))))) (pss_one (ps_ret pe_bl)) pss_nil)
      (pss_cons (ps_if (pt_not (pt_val (pe_callB (cr_all rfl) (by rfl) B.all (by decide +kernel) (pa_cons (pe_lc (own := [("thing", 2)]) (g := gName 2) (te := tCallN 1 (["size"] : List Str).length (spIsCell K) (fun vs zs => vs ++ zs) E0 (tCons (tVar 2) tNil) (tCons (tVar 1) tNil)) rfl scAreC.nd (pi_tup (pv 0)) (blkOk_by (own := [("thing", 2)]) (N := nCells) (sc := defScope sAreC) (by decide +kernel))
          (fun _ _ _ _ _ => pg_name (i := 2) scAreC.nd rfl (Or.inl rfl)) (fun _ _ _ _ _ => pts_nil) (fun _ _ _ _ _ => by exact pe_callN (n := 1) (ks := ["size"]) GD hr (by rfl) mD kD bD pass0 (pa_cons (pv 2) pa_nil) (pk_cons (pv 1) pk_nil))) pa_nil)))) (pss_one (ps_ret pe_bl)) pss_nil)
      (pss_one (ps_ret (pe_cmpR op_eq (pe_lenSetQ (by rfl) B.len (by rfl) B.set (pv 0)) (pe_callB call_len_seq (by rfl) B.len PySem.boot_len (pa_cons (pv 0) pa_nil)) (nomark _))))), ?_⟩
      refine ⟨_, rfl, by decide, fun p hp => ?_⟩
      have s1 : Same H (upd H p (.tup [.ty "list", .ty "tuple"])) := same_new hp
      refine ⟨_, p, _, _, _, true, rfl, upd_same, .cons (.ty _) (.cons (.ty _) .nil), sqt_ty (same_sqt s1 hq), kit_seq (by simp), _, rfl, iteF ?_⟩
      refine ⟨_, rfl, a, rfl, ⟨_, same_sqt s1 hq⟩, fun D hD => ?_⟩
      refine lc_tup (K := K) (a := a) (xs := xs) (fun i H' => Same H H' ∧ H' D = some (.lst ((xs.take i).map fun x => .bl (isV x 0 (n - 1))))) ⟨s1.trans (same_new hD), upd_same⟩ (fun i H' _ h => same_sqt h.1 hq) ?_ ?_
      · rintro i x H2 hx ⟨s2, hD2⟩
        have xm : x ∈ xs := List.mem_of_getElem? hx
        have xi : i < xs.length := by
          rcases Nat.lt_or_ge i xs.length with z | z
          · exact z
          · rw [List.getElem?_eq_none z] at hx
            cases hx
        refine ⟨rfl, yesT ?_⟩
        refine ⟨_, rfl, _, rfl, rfl, rfl, x, n, rfl, same_typed s2 (hty x xm), _, hD2, ?_, ?_, ?_⟩
        · rw [List.length_map, List.length_take]
          exact small1000 (by omega)
        · intro b o e
          have hDb : H D = none := s1.free hD
          rw [upd_ne (ne_of_none e hDb)]
          exact s2 b o e
        · rw [upd_same, List.take_succ, hx, List.map_append]
          rfl
      rintro H2 ⟨s2, hD2⟩
      rw [List.take_length] at hD2
      refine ⟨D, xs.map fun x => isV x 0 (n - 1), rfl, SqL.of (by rw [hD2, List.map_map]; rfl), _, rfl, ?_⟩
      have eall : (xs.map fun x => isV x 0 (n - 1)).all id = AllOf 0 n xs := by simp [AllOf]
      rw [eall]
      cases hall : AllOf 0 n xs with
      | false =>
        exact iteT (bad (.inr (.inl ⟨xs, rfl, hall⟩)) _ s2)
      | true =>
        obtain ⟨ns, rfl⟩ := of_ints hall
        have hlen : ns.length ≤ 500 := by rw [List.length_map] at hl; exact hl
        refine iteF ⟨_, rfl, a, ns, rfl, .inr (same_sqt s2 hq), by omega, fun c hc hiff => ?_⟩
        refine ⟨_, rfl, a, _, rfl, .inr (same_sqt s2 hq), ?_⟩
        rw [List.length_map]
        refine ⟨rfl, ?_⟩
        by_cases hnd : ns.Nodup
        · have ec : c = ns.length := hiff.mpr hnd
          subst ec
          rw [decide_eq_true rfl]
          exact good ns ⟨rfl, hall, hnd⟩ _ s2
        · have ec : ¬ (V.int (c : Nat) = V.int (ns.length : Nat)) := fun z => by
            have z2 : ((c : Nat) : Int) = ((ns.length : Nat) : Int) := by injection z
            exact hnd (hiff.mp (by omega))
          rw [decide_eq_false ec]
          exact bad (.inr (.inr ⟨ns, rfl, hall, hnd⟩)) _ s2
def HasAreC (P : Program) (w : World) (K : PySem.W.Frag) (mg : Str → Option Value) (base : Heap) : Prop :=
  ∃ f fd, FnOk P w K mg base CX0 4 f fd ["things", "size"] (spAreC K) ∧ mg "are_cells" = some (.ref f) ∧ PySem.W.keepIn K (.ref f) = true ∧ Binds K fd ["things", "size"] []
theorem desc_fine {l m : Int} {o : Option (List V)} : (∃ ns, Fine l m o ns) ∨ Foul l m o := by
  cases o with
  | none => exact .inr (.inl rfl)
  | some xs =>
    cases hall : AllOf l m xs with
    | false => exact .inr (.inr (.inl ⟨xs, rfl, hall⟩))
    | true =>
      obtain ⟨ns, rfl⟩ := of_ints hall
      by_cases hnd : ns.Nodup
      · exact .inl ⟨ns, rfl, hall, hnd⟩
      · exact .inr (.inr (.inr ⟨ns, rfl, hall, hnd⟩))
theorem ok_cells {f C : Addr} {fd : FuncData} (F : FunD K "cell_tuple" "cell_tuple" (defArgs sCells) (defBody sCells) (defScope sCells) [] [("size", .int 40)] f fd) (B : Bl mg) (T : CellsC K mg C)
    (D : HasAreC P w K mg base) (I : HasIni P w K mg base C) : FnOk P w K mg base (L2.CX P w) 5 f fd ["things", "size"] (spCells K C) := by
  obtain ⟨fD, fdD, GD, mD, kD, bD⟩ := D
  obtain ⟨fI, fdI, GI, iI, tI, bI⟩ := I
  refine F.ok scCells (fun vs H Q E h => ?_) (fun cdv A outer s H vs Q E hr h => ?_)
  · obtain ⟨v, n, o, rfl, _⟩ := h
    rfl
  · obtain ⟨v, n, o, rfl, desc, good, bad⟩ := h
    have r2 : Room 3 _ := hr.mono (by decide)
    rcases desc_cases desc with ⟨rfl, hno⟩ | ⟨a, xs, rfl, rfl, hq | hq, hl, hty⟩
    · refine ⟨_, pss_cons (ps_if (pt_not (pt_val (pe_call GD hr (by rfl) mD kD bD .nil pass0 (pa_cons (pv 0) (pa_cons (pv 1) pa_nil))))) (pss_one (ps_raise rfl (takes_of rfl rfl rfl rfl) (pmk_oex T.ox iI tI GI r2 bI .nil pass0 (by rfl) T.gC (pa_cons (pv 0) pa_nil)))) pss_nil)
      (pss_one (ps_ret (pe_callTy call_tuple_of (by rfl) B.tuple (by decide +kernel) (pa_cons (pe_callB cr_sortedI (by rfl) B.sorted (by decide +kernel) (pa_cons (pv 0) pa_nil)) pa_nil)))), ?_⟩
      refine ⟨_, rfl, _, rfl, v, n, none, rfl, hno, (fun ns fi => nomatch fi.1), fun fo H2 s2 => ⟨_, rfl, iteT ?_⟩⟩
      refine ⟨_, rfl, (by show 1 ≤ 1000; decide), made_ini fun d H' hd sm e => ?_⟩
      exact bad fo d H' (s2.free hd) (s2.trans sm) e
    · refine ⟨_, pss_cons (ps_if (pt_not (pt_val (pe_call GD hr (by rfl) mD kD bD .nil pass0 (pa_cons (pv 0) (pa_cons (pv 1) pa_nil))))) (pss_one (ps_raise rfl (takes_of rfl rfl rfl rfl) (pmk_oex T.ox iI tI GI r2 bI .nil pass0 (by rfl) T.gC (pa_cons (pv 0) pa_nil)))) pss_nil)
      (pss_one (ps_ret (pe_callTy call_tuple_of (by rfl) B.tuple (by decide +kernel) (pa_cons (pe_callB cr_sortedI (by rfl) B.sorted (by decide +kernel) (pa_cons (pv 0) pa_nil)) pa_nil)))), ?_⟩
      refine ⟨_, rfl, _, rfl, .ref a, n, some xs, rfl, desc, fun ns fi H2 s2 => ⟨_, rfl, iteF ?_⟩, fun fo H2 s2 => ⟨_, rfl, iteT ?_⟩⟩
      · have ex : xs = ns.map V.int := Option.some.inj fi.1
        subst ex
        refine ⟨_, rfl, a, ns, rfl, same_sq s2 hq, fun ms p2 pm pw hp2 => ?_⟩
        refine ⟨p2, _, rfl, .inl ⟨SqL.of upd_same, fun l hl2 => ?_⟩⟩
        have hl3 : H l = none := s2.free ((same_new hp2).free hl2)
        exact good ns fi l ms _ hl3 ((s2.trans (same_new hp2)).trans (same_new hl2)) pm pw upd_same
      · refine ⟨_, rfl, (by show 1 ≤ 1000; decide), made_ini fun d H' hd sm e => ?_⟩
        exact bad fo d H' (s2.free hd) (s2.trans sm) e
    · refine ⟨_, pss_cons (ps_if (pt_not (pt_val (pe_call GD hr (by rfl) mD kD bD .nil pass0 (pa_cons (pv 0) (pa_cons (pv 1) pa_nil))))) (pss_one (ps_raise rfl (takes_of rfl rfl rfl rfl) (pmk_oex T.ox iI tI GI r2 bI .nil pass0 (by rfl) T.gC (pa_cons (pv 0) pa_nil)))) pss_nil)
      (pss_one (ps_ret (pe_callTy call_tuple_of (by rfl) B.tuple (by decide +kernel) (pa_cons (pe_callB cr_sortedTup (by rfl) B.sorted (by decide +kernel) (pa_cons (pv 0) pa_nil)) pa_nil)))), ?_⟩
      refine ⟨_, rfl, _, rfl, .ref a, n, some xs, rfl, desc, fun ns fi H2 s2 => ⟨_, rfl, iteF ?_⟩, fun fo H2 s2 => ⟨_, rfl, iteT ?_⟩⟩
      · have ex : xs = ns.map V.int := Option.some.inj fi.1
        subst ex
        refine ⟨_, rfl, a, ns, rfl, same_sqt s2 hq, fun ms p2 pm pw hp2 => ?_⟩
        refine ⟨p2, _, rfl, .inl ⟨SqL.of upd_same, fun l hl2 => ?_⟩⟩
        have hl3 : H l = none := s2.free ((same_new hp2).free hl2)
        exact good ns fi l ms _ hl3 ((s2.trans (same_new hp2)).trans (same_new hl2)) pm pw upd_same
      · refine ⟨_, rfl, (by show 1 ≤ 1000; decide), made_ini fun d H' hd sm e => ?_⟩
        exact bad fo d H' (s2.free hd) (s2.trans sm) e
end
end K14
namespace Par
open PySem PySem.Spec PyProof.Rows L2
/-! ### data stays data -/
theorem sqL_same {K : PySem.W.Frag} {H H' : Hp} {a : Addr} {xs : List V} (s : Same H H') (h : SqL K H a xs) : SqL K H' a xs := s.seq h
theorem sqT_same {K : PySem.W.Frag} {H H' : Hp} {a : Addr} {xs : List V} (s : Same H H') (h : SqT K H a xs) : SqT K H' a xs := by
  rcases h with (h | ⟨o, h⟩) | h
  · exact .inl (.inl (s _ _ h))
  · exact .inl (.inr ⟨o, s _ _ h⟩)
  · exact .inr h
mutual
theorem dp_same {K : PySem.W.Frag} {H H' : Hp} (s : Same H H') : ∀ (d : PyData) (v : V), Dp K H v d → Dp K H' v d
  | .none, _, h => by cases h; exact .non
  | .bool b, _, h => by cases h; exact .bl b
  | .int i, _, h => by cases h; exact .int i
  | .str x, _, h => by cases h; exact .str x
  | .list ds, _, h => by
    cases h with
    | lst q ha => exact .lst (sqL_same s q) (dps_same s ds _ ha)
  | .tuple ds, _, h => by
    cases h with
    | tup q ha => exact .tup (sqT_same s q) (dps_same s ds _ ha)
  | .dict _, _, h => by cases h
theorem dps_same {K : PySem.W.Frag} {H H' : Hp} (s : Same H H') : ∀ (ds : List PyData) (vs : List V), DpAll K H vs ds → DpAll K H' vs ds
  | [], _, h => by cases h; exact .nil
  | d :: ds, _, h => by
    cases h with
    | cons h1 h2 => exact .cons (dp_same s d _ h1) (dps_same s ds _ h2)
end
theorem fl_same {H H' : Hp} (s : Same H H') {v : V} {d : PyData} (h : Fl H v d) : Fl H' v d := by
  cases h with
  | non => exact .non
  | bl b => exact .bl b
  | int i => exact .int i
  | str x => exact .str x
  | dic0 e => exact .dic0 (s _ _ e)
  | dic1 e => exact .dic1 (s _ _ e)
/-- a thing that is handed in: flat, a dict, or a list or tuple of data -/
inductive Giv (K : PySem.W.Frag) (H : Hp) : V → PyData → Prop
  | fl {v : V} {d : PyData} : Fl H v d → Giv K H v d
  | lst {a : Addr} {xs : List V} {ds : List PyData} : H a = some (.lst xs) → DpAll K H xs ds → xs.length ≤ 200 → Giv K H (.ref a) (.list ds)
  | tup {a : Addr} {xs : List V} {ds : List PyData} : H a = some (.tup xs) → DpAll K H xs ds → xs.length ≤ 200 → Giv K H (.ref a) (.tuple ds)
theorem giv_same {K : PySem.W.Frag} {H H' : Hp} (s : Same H H') {v : V} {d : PyData} (h : Giv K H v d) : Giv K H' v d := by
  cases h with
  | fl f => exact .fl (fl_same s f)
  | lst e q l => exact .lst (s _ _ e) (dps_same s _ _ q) l
  | tup e q l => exact .tup (s _ _ e) (dps_same s _ _ q) l
theorem giv_dx {K : PySem.W.Frag} {H : Hp} {v : V} {d : PyData} (h : Giv K H v d) : Dx K H v d := by
  cases h with
  | fl f => exact .fl f
  | lst e q _ => exact .dp (.lst (SqL.of e) q)
  | tup e q _ => exact .dp (.tup (SqT.of e) q)
theorem dps_ints {K : PySem.W.Frag} {H : Hp} : ∀ ns : List Int, DpAll K H (ns.map V.int) (ns.map PyData.int)
  | [] => .nil
  | n :: ns => .cons (.int n) (dps_ints ns)
theorem dps_bools {K : PySem.W.Frag} {H : Hp} : ∀ bs : List Bool, DpAll K H (bs.map V.bl) (bs.map PyData.bool)
  | [] => .nil
  | n :: ns => .cons (.bl n) (dps_bools ns)
theorem dps_append {K : PySem.W.Frag} {H : Hp} : ∀ {xs ys : List V} {ds es : List PyData}, DpAll K H xs ds → DpAll K H ys es → DpAll K H (xs ++ ys) (ds ++ es)
  | _, _, _, _, .nil, h => h
  | _, _, _, _, .cons h1 h2, h => .cons h1 (dps_append h2 h)

/-! ### what is shown is short -/
def small (d : PyData) : Prop := d.showable = true ∧ d.depth ≤ 4 ∧ d.shown.length ≤ 200
def good (d : PyData) : Prop := d.showable = true ∧ d.depth ≤ 8 ∧ d.shown.length ≤ 200000
theorem log_lt {n k : Nat} (h : n < 2 ^ k) (hk : 0 < k) : n.log2 < k := by
  by_cases h0 : n = 0
  · subst h0
    exact hk
  · exact (Nat.log2_lt h0).mpr h
theorem small_int {i : Int} (h : i.natAbs < 2 ^ 100) : small (.int i) := by
  have h1 := log_lt h (by decide)
  refine ⟨?_, Nat.zero_le _, ?_⟩
  · show decide (i.natAbs.log2 < 1920) = true
    exact decide_eq_true (by omega)
  · show (Str.ofString (toString i)).length ≤ 200
    have h2 := int_text_length_le (a := i) (k := 100) (by decide) h1
    rw [PySem.ofString_length]
    omega
theorem small_bool (b : Bool) : small (.bool b) := by cases b <;> exact ⟨by decide, by decide, by decide +kernel⟩
theorem small_good {d : PyData} (h : small d) : good d := ⟨h.1, by have := h.2.1; omega, by have := h.2.2; omega⟩
theorem showAll {ds : List PyData} : (∀ d ∈ ds, d.showable = true) → PyData.showableAll ds = true := by
  induction ds with
  | nil => intro _; rfl
  | cons d ds ih =>
    intro h
    show (d.showable && PyData.showableAll ds) = true
    rw [h d (List.mem_cons_self ..), ih fun e he => h e (List.mem_cons_of_mem _ he)]
    rfl
theorem depthAll {ds : List PyData} {n : Nat} : (∀ d ∈ ds, d.depth ≤ n) → PyData.depthAll ds ≤ n := by
  induction ds with
  | nil => intro _; exact Nat.zero_le _
  | cons d ds ih =>
    intro h
    show max d.depth (PyData.depthAll ds) ≤ n
    have h1 := h d (List.mem_cons_self ..)
    have h2 := ih fun e he => h e (List.mem_cons_of_mem _ he)
    omega
theorem piledAll {ds : List PyData} {n : Nat} : (∀ d ∈ ds, d.shown.length ≤ n) → piled (PyData.shownAll ds) ≤ ds.length * (n + 2) := by
  induction ds with
  | nil => intro _; show 0 ≤ _; exact Nat.zero_le _
  | cons d ds ih =>
    intro h
    show piled (d.shown :: PyData.shownAll ds) ≤ _
    rw [piled_cons, List.length_cons, Nat.add_mul]
    have h1 := h d (List.mem_cons_self ..)
    have h2 := ih fun e he => h e (List.mem_cons_of_mem _ he)
    omega
theorem listText_le : ∀ ts : List Str, (listText ts).length ≤ piled ts + 2
  | [] => by
    rw [listText_nil]
    show Str.length (Str.ofString "[]") ≤ 2
    decide +kernel
  | t :: ts => by
    have h := textFrom_length_pos ts 1 (Str.ofString "[" ++ Str.ofString "" ++ t) (by decide)
    have e1 : (Str.ofString "[" ++ Str.ofString "" ++ t).length = 1 + t.length := by
      rw [strLen_append, strLen_append]
      rfl
    have e2 : (listText (t :: ts)).length = (textFrom 1 (Str.ofString "[" ++ Str.ofString "" ++ t) ts).length + 1 := strLen_append _ _
    rw [e2, h, e1, piled_cons]
    omega
theorem tupleText_le (ts : List Str) : (tupleText ts).length ≤ piled ts + 4 := by
  have e1 : (Str.ofString "(").length = 1 := by decide +kernel
  have e3 : (Str.ofString (if ts.length == 1 then ",)" else ")")).length ≤ 2 := by split <;> decide +kernel
  have e4 : (tupleText ts).length = (Str.ofString "(").length + (Str.join ", " ts).length + (Str.ofString (if ts.length == 1 then ",)" else ")")).length := by
    unfold tupleText
    rw [strLen_append, strLen_append]
  by_cases h : ts = []
  · subst h
    decide +kernel
  · have := join_length_add ts h
    omega
theorem good_list {ds : List PyData} (h : ∀ d ∈ ds, small d) (hl : ds.length ≤ 300) : good (.list ds) := by
  refine ⟨showAll fun d hd => (h d hd).1, ?_, ?_⟩
  · show PyData.depthAll ds + 1 ≤ 8
    have := depthAll (n := 4) fun d hd => (h d hd).2.1
    omega
  · show (listText (PyData.shownAll ds)).length ≤ 200000
    have h1 := listText_le (PyData.shownAll ds)
    have h2 := piledAll (n := 200) fun d hd => (h d hd).2.2
    have h3 : ds.length * (200 + 2) ≤ 300 * (200 + 2) := Nat.mul_le_mul_right _ hl
    omega
theorem good_tuple {ds : List PyData} (h : ∀ d ∈ ds, small d) (hl : ds.length ≤ 300) : good (.tuple ds) := by
  refine ⟨showAll fun d hd => (h d hd).1, ?_, ?_⟩
  · show PyData.depthAll ds + 1 ≤ 8
    have := depthAll (n := 4) fun d hd => (h d hd).2.1
    omega
  · show (tupleText (PyData.shownAll ds)).length ≤ 200000
    have h1 := tupleText_le (PyData.shownAll ds)
    have h2 := piledAll (n := 200) fun d hd => (h d hd).2.2
    have h3 : ds.length * (200 + 2) ≤ 300 * (200 + 2) := Nat.mul_le_mul_right _ hl
    omega
/-- a short list of good things can be shown -/
theorem shown_list {ds : List PyData} (h : ∀ d ∈ ds, good d) (hl : ds.length ≤ 8) : (PyData.list ds).showable = true ∧ (PyData.list ds).depth ≤ 40 ∧ (PyData.list ds).shown.length ≤ sizeLine := by
  refine ⟨showAll fun d hd => (h d hd).1, ?_, ?_⟩
  · show PyData.depthAll ds + 1 ≤ 40
    have := depthAll (n := 8) fun d hd => (h d hd).2.1
    omega
  · show (listText (PyData.shownAll ds)).length ≤ sizeLine
    have h1 := listText_le (PyData.shownAll ds)
    have h2 := piledAll (n := 200000) fun d hd => (h d hd).2.2
    have h3 : ds.length * (200000 + 2) ≤ 8 * (200000 + 2) := Nat.mul_le_mul_right _ hl
    rw [sizeLine_eq]
    omega
theorem shown_good {d : PyData} (h : good d) : d.showable = true ∧ d.depth ≤ 40 ∧ d.shown.length ≤ sizeLine := by
  obtain ⟨h1, h2, h3⟩ := h
  refine ⟨h1, by omega, ?_⟩
  rw [sizeLine_eq]
  omega
end Par
namespace K14
open PySem PySem.Spec PyProof.Rows L2 Par
/-- is the j-th none of those ahead of it -/
def fresh (ns : List Int) (j : Nat) : Bool := !(ns.take j).any fun y => y == ns.getD j 0
theorem fresh_all (ns : List Int) : ((List.range ns.length).map (fresh ns)).all id = decide ns.Nodup := by
  rw [Bool.eq_iff_iff, List.all_map, List.all_eq_true, decide_eq_true_eq]
  constructor
  · intro h
    show ns.Pairwise (· ≠ ·)
    rw [List.pairwise_iff_getElem]
    intro i j hi hj hij e
    have h1 : fresh ns j = true := h j (List.mem_range.mpr hj)
    unfold fresh at h1
    have h2 : ((ns.take j).any fun y => y == ns.getD j 0) = true := by
      rw [List.any_eq_true]
      refine ⟨ns[i], ?_, ?_⟩
      · rw [List.mem_take_iff_getElem]
        exact ⟨i, by omega, rfl⟩
      · rw [e, List.getD_eq_getElem?_getD, List.getElem?_eq_getElem hj]
        simp
    rw [h2] at h1
    cases h1
  · intro h j hj
    have hj2 := List.mem_range.mp hj
    have hp : ns.Pairwise (· ≠ ·) := h
    rw [List.pairwise_iff_getElem] at hp
    show fresh ns j = true
    unfold fresh
    rw [Bool.not_eq_true']
    rw [Bool.eq_false_iff]
    intro z
    obtain ⟨y, hy, e⟩ := List.any_eq_true.mp z
    obtain ⟨i, hi, e2⟩ := List.mem_take_iff_getElem.mp hy
    have e3 : y = ns[j] := by
      have q : y = ns.getD j 0 := by simpa using e
      rw [q, List.getD_eq_getElem?_getD, List.getElem?_eq_getElem hj2]
      rfl
    exact hp i j (by omega) hj2 (by omega) (by rw [e2, e3])
theorem in_ints (x : Int) (ns : List Int) : inV (.int x) (ns.map V.int) = ns.any fun y => y == x := by
  unfold inV
  rw [List.any_map]
  rfl
theorem flat_ints (ns : List Int) : (ns.map V.int).all flatV = true := by
  rw [List.all_map, List.all_eq_true]
  intro x _
  rfl
theorem notwhole (xs : List V) (i : Nat) (h : i < xs.length) : ¬ (HT.sIx xs.length 0 none = 0 ∧ HT.sIx xs.length xs.length (some (i : Int)) = xs.length) := by
  rintro ⟨_, z⟩
  rw [HT.sIx_nat] at z
  omega
theorem cut_take (xs : List V) (i : Nat) (h : i ≤ xs.length) : cutV xs none (some (i : Int)) = xs.take i := by
  unfold cutV
  rw [HT.sIx_none, HT.sIx_nat, Nat.min_eq_left h]
  rfl
section
variable {P : Program} {w : World} {K : PySem.W.Frag} {mg : Str → Option Value} {base : Heap}
/-- distinct whole numbers from l to m - 1, in a list or tuple -/
def spAre (K : PySem.W.Frag) : Sp := fun vs H Q _ => ∃ (v : V) (l m : Int) (o : Option (List V)), vs = [v, .int l, .int m] ∧ Desc K H v o ∧
  (∀ ns, Fine l m o ns → ∀ H', Same H H' → Q (.bl true) H') ∧ (Foul l m o → ∀ H', Same H H' → Q (.bl false) H')
abbrev nAre : List Str := ["_law_given", "_law_least", "_law_width_here", "_law_one", "_law_at"]
theorem scAre : FnScope nAre ["_law_given", "_law_least", "_law_width_here"] (defScope sAre) := ⟨rfl, rfl, rfl, by decide +kernel, rfl, by decide +kernel, by decide +kernel⟩
theorem ok_are {f : Addr} {fd : FuncData} (F : Fun K "_law_are_spots" "_law_are_spots" sAre f fd) (B : Bl mg) (D : Has P w K mg base "_law_is_int" 2 ["_law_item", "_law_low", "_law_high"] (spBetween K)) :
    FnOk P w K mg base CX0 3 f fd ["_law_given", "_law_least", "_law_width_here"] (spAre K) := by
  obtain ⟨fD, fdD, GD, mD, kD, bD⟩ := D
  refine F.ok scAre (fun vs H Q E h => ?_) (fun cdv A outer s H vs Q E hr h => ?_)
  · obtain ⟨v, l, m, o, rfl, _⟩ := h
    rfl
  · obtain ⟨v, l, m, o, rfl, desc, good, bad⟩ := h
    rcases desc_cases desc with ⟨rfl, hno⟩ | ⟨a, xs, rfl, rfl, hq | hq, hl, hty⟩
    · refine ⟨_, pss_cons (ps_if (PW.pt (pw_or (pt_not (pt_val (pe_callB call_isiT (by rfl) B.isinstance (by decide +kernel) (pa_cons (pv 0) (pa_cons (pe_tup (pa_cons (pe_bltn (v := .ty "list") (by rfl) B.list (by decide +kernel) rfl) (pa_cons (pe_bltn (v := .ty "tuple") (by rfl) B.tuple (by decide +kernel) rfl) pa_nil))) pa_nil)))))
        (pw_or1 (pt_not (pt_val (pe_callB (cr_all rfl) (by rfl) B.all (by decide +kernel) (pa_cons (pe_lc (own := [("_law_one", 3)]) (g := gName 3) (te := tCall (spBetween K) [] E0 (tCons (tVar 3) (tCons (tVar 1) (tCons (tOp (rI0 fun i j => .int (i - j)) (tVar 2) (tC (.int 1))) tNil)))) rfl scAre.nd (pi_list (pv 0)) (blkOk_by (own := [("_law_one", 3)]) (N := nAre) (sc := defScope sAre) (by decide +kernel))
          (fun _ _ _ _ _ => pg_name (i := 3) scAre.nd rfl (Or.inl rfl)) (fun _ _ _ _ _ => pts_nil) (fun _ _ _ _ _ => by exact pe_call GD hr (by rfl) mD kD bD .nil pass0 (pa_cons (pv 3) (pa_cons (pv 1) (pa_cons (pe_op op_sub (pv 2) pe_int) pa_nil))))) pa_nil))))))) (pss_one (ps_ret pe_bl)) pss_nil)
      (pss_one (ps_ret (pe_callB (cr_all rfl) (by rfl) B.all (by decide +kernel) (pa_cons (pe_lc (own := [("_law_at", 4), ("_law_one", 3)]) (g := gTup K 2 (gCons (gName 4) (gCons (gName 3) gNil))) (te := tOp (rIn K true) (tVar 3) (tSl (rSlL K) (tVar 0) tNoPart (tPart (tVar 4)))) rfl scAre.nd (pi_enum (by rfl) B.enumerate (pa_cons (pv 0) pa_nil)) (blkOk_by (own := [("_law_at", 4), ("_law_one", 3)]) (N := nAre) (sc := defScope sAre) (by decide +kernel))
          (fun _ _ _ _ _ => by exact pg_tup rfl (pgs_cons (pg_name (i := 4) scAre.nd rfl (Or.inl rfl)) (pgs_cons (pg_name (i := 3) scAre.nd rfl (Or.inl rfl)) pgs_nil))) (fun _ _ _ _ _ => pts_nil) (fun _ _ _ _ _ => by exact pe_cmpR op_notIn_seq (pv 3) (pe_slice sl_list (pv 0) po_none (po_some (pv 4))) (by rfl))) pa_nil)))), ?_⟩
      obtain ⟨nm, ty, hn⟩ := id hno
      refine ⟨_, rfl, by decide, fun p hp => ?_⟩
      refine ⟨_, p, _, _, _, false, rfl, upd_same, .cons (.ty _) (.cons (.ty _) .nil), same_tyx (same_new hp) ty, kit_noseq hn, _, rfl, iteT (iteT ?_)⟩
      exact bad (.inl rfl) _ (same_new hp)
    · refine ⟨_, pss_cons (ps_if (PW.pt (pw_or (pt_not (pt_val (pe_callB call_isiT (by rfl) B.isinstance (by decide +kernel) (pa_cons (pv 0) (pa_cons (pe_tup (pa_cons (pe_bltn (v := .ty "list") (by rfl) B.list (by decide +kernel) rfl) (pa_cons (pe_bltn (v := .ty "tuple") (by rfl) B.tuple (by decide +kernel) rfl) pa_nil))) pa_nil)))))
        (pw_or1 (pt_not (pt_val (pe_callB (cr_all rfl) (by rfl) B.all (by decide +kernel) (pa_cons (pe_lc (own := [("_law_one", 3)]) (g := gName 3) (te := tCall (spBetween K) [] E0 (tCons (tVar 3) (tCons (tVar 1) (tCons (tOp (rI0 fun i j => .int (i - j)) (tVar 2) (tC (.int 1))) tNil)))) rfl scAre.nd (pi_list (pv 0)) (blkOk_by (own := [("_law_one", 3)]) (N := nAre) (sc := defScope sAre) (by decide +kernel))
          (fun _ _ _ _ _ => pg_name (i := 3) scAre.nd rfl (Or.inl rfl)) (fun _ _ _ _ _ => pts_nil) (fun _ _ _ _ _ => by exact pe_call GD hr (by rfl) mD kD bD .nil pass0 (pa_cons (pv 3) (pa_cons (pv 1) (pa_cons (pe_op op_sub (pv 2) pe_int) pa_nil))))) pa_nil))))))) (pss_one (ps_ret pe_bl)) pss_nil)
      (pss_one (ps_ret (pe_callB (cr_all rfl) (by rfl) B.all (by decide +kernel) (pa_cons (pe_lc (own := [("_law_at", 4), ("_law_one", 3)]) (g := gTup K 2 (gCons (gName 4) (gCons (gName 3) gNil))) (te := tOp (rIn K true) (tVar 3) (tSl (rSlL K) (tVar 0) tNoPart (tPart (tVar 4)))) rfl scAre.nd (pi_enum (by rfl) B.enumerate (pa_cons (pv 0) pa_nil)) (blkOk_by (own := [("_law_at", 4), ("_law_one", 3)]) (N := nAre) (sc := defScope sAre) (by decide +kernel))
          (fun _ _ _ _ _ => by exact pg_tup rfl (pgs_cons (pg_name (i := 4) scAre.nd rfl (Or.inl rfl)) (pgs_cons (pg_name (i := 3) scAre.nd rfl (Or.inl rfl)) pgs_nil))) (fun _ _ _ _ _ => pts_nil) (fun _ _ _ _ _ => by exact pe_cmpR op_notIn_seq (pv 3) (pe_slice sl_list (pv 0) po_none (po_some (pv 4))) (by rfl))) pa_nil)))), ?_⟩
      refine ⟨_, rfl, by decide, fun p hp => ?_⟩
      have s1 : Same H (upd H p (.tup [.ty "list", .ty "tuple"])) := same_new hp
      refine ⟨_, p, _, _, _, true, rfl, upd_same, .cons (.ty _) (.cons (.ty _) .nil), sq_ty (same_sq s1 hq), kit_seq (by simp), _, rfl, iteF ?_⟩
      refine ⟨_, rfl, a, rfl, ⟨_, same_sq s1 hq⟩, fun D hD => ?_⟩
      refine lc_list (K := K) (a := a) (xs := xs) (fun i H' => Same H H' ∧ H' D = some (.lst ((xs.take i).map fun x => .bl (isV x l (m - 1))))) ⟨s1.trans (same_new hD), upd_same⟩ (fun i H' _ h => same_sq h.1 hq) ?_ ?_
      · rintro i x H2 hx ⟨s2, hD2⟩
        have xm : x ∈ xs := List.mem_of_getElem? hx
        have xi : i < xs.length := by
          rcases Nat.lt_or_ge i xs.length with z | z
          · exact z
          · rw [List.getElem?_eq_none z] at hx
            cases hx
        refine ⟨rfl, yesT ?_⟩
        refine ⟨_, rfl, _, rfl, _, rfl, m, 1, rfl, rfl, x, l, m - 1, rfl, same_typed s2 (hty x xm), _, hD2, ?_, ?_, ?_⟩
        · rw [List.length_map, List.length_take]
          exact small1000 (by omega)
        · intro b o e
          have hDb : H D = none := s1.free hD
          rw [upd_ne (ne_of_none e hDb)]
          exact s2 b o e
        · rw [upd_same, List.take_succ, hx, List.map_append]
          rfl
      rintro H2 ⟨s2, hD2⟩
      rw [List.take_length] at hD2
      refine ⟨D, xs.map fun x => isV x l (m - 1), rfl, SqL.of (by rw [hD2, List.map_map]; rfl), _, rfl, ?_⟩
      have eall : (xs.map fun x => isV x l (m - 1)).all id = AllOf l m xs := by simp [AllOf]
      rw [eall]
      cases hall : AllOf l m xs with
      | false =>
        refine iteT ?_
        exact bad (.inr (.inl ⟨xs, rfl, hall⟩)) _ s2
      | true =>
        obtain ⟨ns, rfl⟩ := of_ints hall
        have hlen : ns.length ≤ 500 := by rw [List.length_map] at hl; exact hl
        refine iteF ⟨_, rfl, a, _, rfl, same_sq s2 hq, fun D3 hD3 => ?_⟩
        have hD3H : H D3 = none := s2.free hD3
        refine lc_it walk_enum (fun i H' => Same H H' ∧ H' D3 = some (.lst ((List.range i).map fun j => .bl (fresh ns j)))) ⟨s2.trans (same_new hD3), upd_same⟩ (fun i H' _ h => same_sq h.1 hq) ?_ ?_
        · rintro i x H3 H4 hi ⟨s3, hD4⟩ ⟨T, x1, y1, rfl, hT, rfl, ex, ey⟩
          have hi2 : i < ns.length := by rw [List.length_map] at hi; exact hi
          have ey2 : y1 = .int ns[i] := by
            have ey' : (ns.map V.int)[i]? = some y1 := ey
            rw [List.getElem?_map, List.getElem?_eq_getElem hi2] at ey'
            exact (Option.some.inj ey').symm
          have ex2 : x1 = .int (i : Nat) := (Option.some.inj ex).symm
          subst ey2 ex2
          have s4 : Same H (upd H3 T (.tup [.int (i : Nat), .int ns[i]])) := s3.trans (same_new hT)
          refine ⟨T, _, rfl, SqT.of upd_same, rfl, _, _, rfl, _, _, rfl, rfl, rfl, yesT ?_⟩
          refine ⟨_, rfl, _, rfl, _, rfl, (i : Nat), rfl, a, _, rfl, same_sq s4 hq, fun q hqn => ?_⟩
          have ecut : cutV (ns.map V.int) none (some ((i : Nat) : Int)) = (ns.take i).map V.int := by
            rw [cut_take _ _ (by rw [List.length_map]; omega), List.map_take]
          rw [ecut]
          refine ⟨q, _, rfl, .inl (SqL.of upd_same), rfl, flat_ints _, ?_⟩
          have hD5 : (upd (upd H3 T (.tup [.int (i : Nat), .int ns[i]])) q (.lst ((ns.take i).map V.int))) D3 = some (.lst ((List.range i).map fun j => .bl (fresh ns j))) := (same_new hqn) _ _ ((same_new hT) _ _ hD4)
          refine ⟨_, hD5, (by rw [List.length_map, List.length_range]; exact small1000 (by omega)), ?_, ?_⟩
          · intro b o e
            rw [upd_ne (ne_of_none e hD3H)]
            exact (same_new hqn) _ _ (s4 b o e)
          · rw [upd_same, List.range_succ, List.map_append]
            have ef : fresh ns i = !inV (.int ns[i]) ((ns.take i).map V.int) := by
              rw [in_ints]
              unfold fresh
              rw [List.getD_eq_getElem?_getD, List.getElem?_eq_getElem hi2]
              rfl
            show some (HO.lst (_ ++ [V.bl (!inV (.int ns[i]) ((ns.take i).map V.int))])) = some (HO.lst (_ ++ [V.bl (fresh ns i)]))
            rw [ef]
        · rintro H3 ⟨s3, hD4⟩
          rw [List.length_map] at hD4
          refine ⟨D3, (List.range ns.length).map (fresh ns), rfl, SqL.of (by rw [hD4, List.map_map]; rfl), ?_⟩
          rw [fresh_all]
          by_cases hnd : ns.Nodup
          · rw [decide_eq_true hnd]
            exact good ns ⟨rfl, hall, hnd⟩ _ s3
          · rw [decide_eq_false hnd]
            exact bad (.inr (.inr ⟨ns, rfl, hall, hnd⟩)) _ s3
    · refine ⟨_, pss_cons (ps_if (PW.pt (pw_or (pt_not (pt_val (pe_callB call_isiT (by rfl) B.isinstance (by decide +kernel) (pa_cons (pv 0) (pa_cons (pe_tup (pa_cons (pe_bltn (v := .ty "list") (by rfl) B.list (by decide +kernel) rfl) (pa_cons (pe_bltn (v := .ty "tuple") (by rfl) B.tuple (by decide +kernel) rfl) pa_nil))) pa_nil)))))
        (pw_or1 (pt_not (pt_val (pe_callB (cr_all rfl) (by rfl) B.all (by decide +kernel) (pa_cons (pe_lc (own := [("_law_one", 3)]) (g := gName 3) (te := tCall (spBetween K) [] E0 (tCons (tVar 3) (tCons (tVar 1) (tCons (tOp (rI0 fun i j => .int (i - j)) (tVar 2) (tC (.int 1))) tNil)))) rfl scAre.nd (pi_tup (pv 0)) (blkOk_by (own := [("_law_one", 3)]) (N := nAre) (sc := defScope sAre) (by decide +kernel))
          (fun _ _ _ _ _ => pg_name (i := 3) scAre.nd rfl (Or.inl rfl)) (fun _ _ _ _ _ => pts_nil) (fun _ _ _ _ _ => by exact pe_call GD hr (by rfl) mD kD bD .nil pass0 (pa_cons (pv 3) (pa_cons (pv 1) (pa_cons (pe_op op_sub (pv 2) pe_int) pa_nil))))) pa_nil))))))) (pss_one (ps_ret pe_bl)) pss_nil)
      (pss_one (ps_ret (pe_callB (cr_all rfl) (by rfl) B.all (by decide +kernel) (pa_cons (pe_lc (own := [("_law_at", 4), ("_law_one", 3)]) (g := gTup K 2 (gCons (gName 4) (gCons (gName 3) gNil))) (te := tOp (rIn K true) (tVar 3) (tSl (rSlT K) (tVar 0) tNoPart (tPart (tVar 4)))) rfl scAre.nd (pi_enumT (by rfl) B.enumerate (pa_cons (pv 0) pa_nil)) (blkOk_by (own := [("_law_at", 4), ("_law_one", 3)]) (N := nAre) (sc := defScope sAre) (by decide +kernel))
          (fun _ _ _ _ _ => by exact pg_tup rfl (pgs_cons (pg_name (i := 4) scAre.nd rfl (Or.inl rfl)) (pgs_cons (pg_name (i := 3) scAre.nd rfl (Or.inl rfl)) pgs_nil))) (fun _ _ _ _ _ => pts_nil) (fun _ _ _ _ _ => by exact pe_cmpR op_notIn_seq (pv 3) (pe_slice sl_tup (pv 0) po_none (po_some (pv 4))) (by rfl))) pa_nil)))), ?_⟩
      refine ⟨_, rfl, by decide, fun p hp => ?_⟩
      have s1 : Same H (upd H p (.tup [.ty "list", .ty "tuple"])) := same_new hp
      refine ⟨_, p, _, _, _, true, rfl, upd_same, .cons (.ty _) (.cons (.ty _) .nil), sqt_ty (same_sqt s1 hq), kit_seq (by simp), _, rfl, iteF ?_⟩
      refine ⟨_, rfl, a, rfl, ⟨_, same_sqt s1 hq⟩, fun D hD => ?_⟩
      refine lc_tup (K := K) (a := a) (xs := xs) (fun i H' => Same H H' ∧ H' D = some (.lst ((xs.take i).map fun x => .bl (isV x l (m - 1))))) ⟨s1.trans (same_new hD), upd_same⟩ (fun i H' _ h => same_sqt h.1 hq) ?_ ?_
      · rintro i x H2 hx ⟨s2, hD2⟩
        have xm : x ∈ xs := List.mem_of_getElem? hx
        have xi : i < xs.length := by
          rcases Nat.lt_or_ge i xs.length with z | z
          · exact z
          · rw [List.getElem?_eq_none z] at hx
            cases hx
        refine ⟨rfl, yesT ?_⟩
        refine ⟨_, rfl, _, rfl, _, rfl, m, 1, rfl, rfl, x, l, m - 1, rfl, same_typed s2 (hty x xm), _, hD2, ?_, ?_, ?_⟩
        · rw [List.length_map, List.length_take]
          exact small1000 (by omega)
        · intro b o e
          have hDb : H D = none := s1.free hD
          rw [upd_ne (ne_of_none e hDb)]
          exact s2 b o e
        · rw [upd_same, List.take_succ, hx, List.map_append]
          rfl
      rintro H2 ⟨s2, hD2⟩
      rw [List.take_length] at hD2
      refine ⟨D, xs.map fun x => isV x l (m - 1), rfl, SqL.of (by rw [hD2, List.map_map]; rfl), _, rfl, ?_⟩
      have eall : (xs.map fun x => isV x l (m - 1)).all id = AllOf l m xs := by simp [AllOf]
      rw [eall]
      cases hall : AllOf l m xs with
      | false =>
        refine iteT ?_
        exact bad (.inr (.inl ⟨xs, rfl, hall⟩)) _ s2
      | true =>
        obtain ⟨ns, rfl⟩ := of_ints hall
        have hlen : ns.length ≤ 500 := by rw [List.length_map] at hl; exact hl
        refine iteF ⟨_, rfl, a, _, rfl, same_sqt s2 hq, fun D3 hD3 => ?_⟩
        have hD3H : H D3 = none := s2.free hD3
        refine lc_it walk_enumT (fun i H' => Same H H' ∧ H' D3 = some (.lst ((List.range i).map fun j => .bl (fresh ns j)))) ⟨s2.trans (same_new hD3), upd_same⟩ (fun i H' _ h => same_sqt h.1 hq) ?_ ?_
        · rintro i x H3 H4 hi ⟨s3, hD4⟩ ⟨T, x1, y1, rfl, hT, rfl, ex, ey⟩
          have hi2 : i < ns.length := by rw [List.length_map] at hi; exact hi
          have ey2 : y1 = .int ns[i] := by
            have ey' : (ns.map V.int)[i]? = some y1 := ey
            rw [List.getElem?_map, List.getElem?_eq_getElem hi2] at ey'
            exact (Option.some.inj ey').symm
          have ex2 : x1 = .int (i : Nat) := (Option.some.inj ex).symm
          subst ey2 ex2
          have s4 : Same H (upd H3 T (.tup [.int (i : Nat), .int ns[i]])) := s3.trans (same_new hT)
          refine ⟨T, _, rfl, SqT.of upd_same, rfl, _, _, rfl, _, _, rfl, rfl, rfl, yesT ?_⟩
          refine ⟨_, rfl, _, rfl, _, rfl, (i : Nat), rfl, a, _, rfl, same_sqt s4 hq, notwhole (ns.map V.int) i hi, fun q hqn => ?_⟩
          have ecut : cutV (ns.map V.int) none (some ((i : Nat) : Int)) = (ns.take i).map V.int := by
            rw [cut_take _ _ (by rw [List.length_map]; omega), List.map_take]
          rw [ecut]
          refine ⟨q, _, rfl, .inr (SqT.of upd_same), rfl, flat_ints _, ?_⟩
          have hD5 : (upd (upd H3 T (.tup [.int (i : Nat), .int ns[i]])) q (.tup ((ns.take i).map V.int))) D3 = some (.lst ((List.range i).map fun j => .bl (fresh ns j))) := (same_new hqn) _ _ ((same_new hT) _ _ hD4)
          refine ⟨_, hD5, (by rw [List.length_map, List.length_range]; exact small1000 (by omega)), ?_, ?_⟩
          · intro b o e
            rw [upd_ne (ne_of_none e hD3H)]
            exact (same_new hqn) _ _ (s4 b o e)
          · rw [upd_same, List.range_succ, List.map_append]
            have ef : fresh ns i = !inV (.int ns[i]) ((ns.take i).map V.int) := by
              rw [in_ints]
              unfold fresh
              rw [List.getD_eq_getElem?_getD, List.getElem?_eq_getElem hi2]
              rfl
            show some (HO.lst (_ ++ [V.bl (!inV (.int ns[i]) ((ns.take i).map V.int))])) = some (HO.lst (_ ++ [V.bl (fresh ns i)]))
            rw [ef]
        · rintro H3 ⟨s3, hD4⟩
          rw [List.length_map] at hD4
          refine ⟨D3, (List.range ns.length).map (fresh ns), rfl, SqL.of (by rw [hD4, List.map_map]; rfl), ?_⟩
          rw [fresh_all]
          by_cases hnd : ns.Nodup
          · rw [decide_eq_true hnd]
            exact good ns ⟨rfl, hall, hnd⟩ _ s3
          · rw [decide_eq_false hnd]
            exact bad (.inr (.inr ⟨ns, rfl, hall, hnd⟩)) _ s3
end
end K14
namespace K14
open PySem PySem.Spec PyProof.Rows L2 Par
theorem del_same' {H H' : Hp} {p : Addr} (h : But p H H') : Same (del H p) (del H' p) := fun b o e => by
  by_cases z : b = p
  · rw [z, del_same] at e
    cases e
  · rw [del_ne z] at e ⊢
    exact h b o z e
theorem del_sub (H : Hp) (p : Addr) : Same (del H p) H := fun b o e => by
  by_cases z : b = p
  · rw [z, del_same] at e
    cases e
  · rw [del_ne z] at e
    exact e
theorem del_at {H : Hp} {p b : Addr} {o : HO} (n : b ≠ p) (e : H b = some o) : del H p b = some o := by
  rw [del_ne n]
  exact e
def things (far : Int) (p1 p2 p3 p4 p5 p6 : Addr) : List V := [.non, .bl true, .bl false, .int (-1), .int 0, .int 1, .int 39, .int 40, .int 41, .int far, .int (-far), .str "", .str "1", .str "a", .str "ab",
  .ref p1, .ref p2, .ref p3, .ref p4, .ref p5, .ref p6]
theorem things_len (far : Int) (p1 p2 p3 p4 p5 p6 : Addr) : (things far p1 p2 p3 p4 p5 p6).length = 21 := rfl
theorem things_giv {K : PySem.W.Frag} {H : Hp} {far : Int} {p1 p2 p3 p4 p5 p6 : Addr} (hf : far.natAbs < 2 ^ 100) (h1 : H p1 = some (.tup [])) (h2 : H p2 = some (.lst [])) (h3 : H p3 = some (.dK []))
    (h4 : H p4 = some (.lst [.int 0])) (h5 : H p5 = some (.tup [.int 1])) (h6 : H p6 = some (.dK [(Sum.inl 1, .int 2)])) : ∀ v ∈ things far p1 p2 p3 p4 p5 p6, ∃ d, Giv K H v d ∧ good d := by
  have int : ∀ i : Int, i.natAbs < 2 ^ 100 → ∃ d, Giv K H (.int i) d ∧ good d := fun i hi => ⟨.int i, .fl (.int i), small_good (small_int hi)⟩
  intro v hv
  unfold things at hv
  simp only [List.mem_cons, List.not_mem_nil, or_false] at hv
  rcases hv with rfl | rfl | rfl | rfl | rfl | rfl | rfl | rfl | rfl | rfl | rfl | rfl | rfl | rfl | rfl | rfl | rfl | rfl | rfl | rfl | rfl
  · exact ⟨.none, .fl .non, ⟨by decide, by decide, by decide +kernel⟩⟩
  · exact ⟨_, .fl (.bl true), small_good (small_bool _)⟩
  · exact ⟨_, .fl (.bl false), small_good (small_bool _)⟩
  · exact int _ (by decide)
  · exact int _ (by decide)
  · exact int _ (by decide)
  · exact int _ (by decide)
  · exact int _ (by decide)
  · exact int _ (by decide)
  · exact int _ hf
  · exact int _ (by rw [Int.natAbs_neg]; exact hf)
  · exact ⟨_, .fl (.str _), ⟨by decide, by decide, by decide +kernel⟩⟩
  · exact ⟨_, .fl (.str _), ⟨by decide, by decide, by decide +kernel⟩⟩
  · exact ⟨_, .fl (.str _), ⟨by decide, by decide, by decide +kernel⟩⟩
  · exact ⟨_, .fl (.str _), ⟨by decide, by decide, by decide +kernel⟩⟩
  · exact ⟨_, .tup h1 .nil (by decide), good_tuple (fun d hd => by cases hd) (by decide)⟩
  · exact ⟨_, .lst h2 .nil (by decide), good_list (fun d hd => by cases hd) (by decide)⟩
  · exact ⟨_, .fl (.dic0 h3), ⟨by decide, by decide, by decide +kernel⟩⟩
  · exact ⟨_, .lst h4 (.cons (.int 0) .nil) (by decide), good_list (fun d hd => by rw [List.mem_singleton.mp hd]; exact small_int (by decide)) (by decide)⟩
  · exact ⟨_, .tup h5 (.cons (.int 1) .nil) (by decide), good_tuple (fun d hd => by rw [List.mem_singleton.mp hd]; exact small_int (by decide)) (by decide)⟩
  · exact ⟨_, .fl (.dic1 h6), ⟨by decide +kernel, by decide, by decide +kernel⟩⟩
section
variable {P : Program} {w : World} {K : PySem.W.Frag} {mg : Str → Option Value} {base : Heap}
def spAny (K : PySem.W.Frag) : Sp := fun vs H Q _ => ∃ p : Addr, vs = [.ref p] ∧ PotAt H p ∧
  ∀ v d H', But p H H' → PotAt H' p → Giv K (del H' p) v d → good d → Q v H'
theorem scAny : FnScope ["_law_pot_here", "_law_far", "_law_some"] ["_law_pot_here"] (defScope sAny) := ⟨rfl, rfl, rfl, by decide +kernel, rfl, by decide +kernel, by decide +kernel⟩
theorem pot_ne {H : Hp} {p q : Addr} (hp : PotAt H p) (hq : H q = none) : q ≠ p := fun z => by
  subst z
  obtain ⟨_, _, e, _⟩ := hp
  rw [hq] at e
  cases e
theorem ok_any {f : Addr} {fd : FuncData} (F : Fun K "_law_any_thing" "_law_any_thing" sAny f fd) (B : Bl mg) (D : Has P w K mg base "_law_draw" 2 ["_law_pot_here", "_law_many"] spDraw) :
    FnOk P w K mg base CX0 3 f fd ["_law_pot_here"] (spAny K) := by
  obtain ⟨fD, fdD, GD, mD, kD, bD⟩ := D
  refine F.ok scAny (fun vs H Q E h => ?_) (fun cdv A outer s H vs Q E hr h => ?_)
  · obtain ⟨p, rfl, _⟩ := h
    rfl
  · obtain ⟨p, rfl, hp, out⟩ := h
    refine ⟨_, pss_cons (ps_set (i := 1) scAny.nd rfl (Or.inl rfl) (pe_op op_add (pe_op op_pow pe_int pe_int) (pe_call GD hr (by rfl) mD kD bD .nil pass0 (pa_cons (pv 0) (pa_cons (pe_op op_pow pe_int pe_int) pa_nil)))))
      (pss_cons (ps_set (i := 2) scAny.nd rfl (Or.inl rfl) (pe_lst (pa_cons pe_non (pa_cons pe_bl (pa_cons pe_bl (pa_cons (pe_un un_neg pe_int) (pa_cons pe_int (pa_cons pe_int (pa_cons pe_int (pa_cons pe_int (pa_cons pe_int
        (pa_cons (pv 1) (pa_cons (pe_un un_neg (pv 1)) (pa_cons pe_str (pa_cons pe_str (pa_cons pe_str (pa_cons pe_str (pa_cons (pe_tup pa_nil) (pa_cons (pe_lst pa_nil) (pa_cons pe_dnewK (pa_cons (pe_lst (pa_cons pe_int pa_nil)) (pa_cons (pe_tup (pa_cons pe_int pa_nil))
        (pa_cons (pe_disp (pps_cons pe_int pe_int pps_nil) (by rfl) (by rfl) (fun z => by cases z) (by decide)) pa_nil)))))))))))))))))))))))
      (pss_one (ps_ret (pe_ix ix_list (pv 2) (pe_call GD hr (by rfl) mD kD bD .nil pass0 (pa_cons (pv 0) (pa_cons (pe_callB call_len_seq (by rfl) B.len PySem.boot_len (pa_cons (pv 2) pa_nil)) pa_nil))) (fun _ _ => rfl))))), ?_⟩
    refine ⟨10, 20, rfl, rfl, ⟨by decide, by decide, by decide⟩, _, rfl, 10, 9, rfl, rfl, ⟨by decide, by decide, by decide⟩, p, _, rfl, hp, by decide, by decide, ?_⟩
    intro d1 H1 d0 dl b1 hp1
    refine ⟨_, _, rfl, rfl, ?_⟩
    refine ⟨1, rfl, _, rfl, _, rfl, _, rfl, ?_⟩
    refine ⟨by decide, fun p1 h1 => ⟨by decide, fun p2 h2 p3 h3 => ⟨by decide, fun p4 h4 => ⟨by decide, fun p5 h5 p6 h6 => ?_⟩⟩⟩⟩
    refine ⟨upd_same, [(Sum.inl 1, .int 2)], rfl, by decide, (by show 21 ≤ sizeLine; decide), fun L hL => ?_⟩
    rw [upd_upd] at hL ⊢
    have s1 := same_new (o := .tup []) h1
    have s2 := same_new (o := .lst []) h2
    have s3 := same_new (o := .dK []) h3
    have s4 := same_new (o := .lst [.int 0]) h4
    have s5 := same_new (o := .tup [.int 1]) h5
    have s6 := same_new (o := .dK (mergeK [] [(Sum.inl 1, .int 2)])) h6
    have s7 := same_new (o := .lst (things (10 ^ 20 + d1) p1 p2 p3 p4 p5 p6)) hL
    have t6 := s6.trans s7
    have t5 := s5.trans t6
    have t4 := s4.trans t5
    have t3 := s3.trans t4
    have t2 := s2.trans t3
    have g1 := t2 _ _ (upd_same (H := H1) (a := p1) (o := .tup []))
    have g2 := t3 _ _ (upd_same (a := p2) (o := .lst []))
    have g3 := t4 _ _ (upd_same (a := p3) (o := .dK []))
    have g4 := t5 _ _ (upd_same (a := p4) (o := .lst [.int 0]))
    have g5 := t6 _ _ (upd_same (a := p5) (o := .tup [.int 1]))
    have g6 := s7 _ _ (upd_same (a := p6) (o := .dK (mergeK [] [(Sum.inl 1, .int 2)])))
    have sAll := s1.trans t2
    have hpG := hp1.same sAll
    have n1 : p1 ≠ p := pot_ne hp1 h1
    have n2 : p2 ≠ p := pot_ne (hp1.same s1) h2
    have n3 : p3 ≠ p := pot_ne (hp1.same (s1.trans s2)) h3
    have n4 : p4 ≠ p := pot_ne (hp1.same (s1.trans (s2.trans s3))) h4
    have n5 : p5 ≠ p := pot_ne (hp1.same (s1.trans (s2.trans (s3.trans s4)))) h5
    have n6 : p6 ≠ p := pot_ne (hp1.same (s1.trans (s2.trans (s3.trans (s4.trans s5))))) h6
    have nL : L ≠ p := pot_ne (hp1.same (s1.trans (s2.trans (s3.trans (s4.trans (s5.trans s6)))))) hL
    refine ⟨_, rfl, _, rfl, _, rfl, L, things (10 ^ 20 + d1) p1 p2 p3 p4 p5 p6, rfl, .inl (SqL.of upd_same), p, 21, rfl, hpG, by decide, by decide, ?_⟩
    intro d2 H9 e0 e1 b9 hp9
    have hk : d2.toNat < (things (10 ^ 20 + d1) p1 p2 p3 p4 p5 p6).length := by
      rw [things_len]
      omega
    have hx : (things (10 ^ 20 + d1) p1 p2 p3 p4 p5 p6)[d2.toNat]? = some (things (10 ^ 20 + d1) p1 p2 p3 p4 p5 p6)[d2.toNat] := by simp [hk]
    have hat : atI (things (10 ^ 20 + d1) p1 p2 p3 p4 p5 p6) d2 = some (things (10 ^ 20 + d1) p1 p2 p3 p4 p5 p6)[d2.toNat] := by
      have q := atI_nat hx
      rw [show ((d2.toNat : Nat) : Int) = d2 by omega] at q
      exact q
    refine ⟨L, _, d2, _, rfl, rfl, SqL.of (b9 L _ nL upd_same), hat, ?_⟩
    have hfar : ((10 : Int) ^ 20 + d1).natAbs < 2 ^ 100 := by
      have q : d1 < 1000000000 := dl
      have q2 : ((10 : Int) ^ 20) = 100000000000000000000 := by decide
      rw [q2, show (2 : Nat) ^ 100 = 1267650600228229401496703205376 by decide]
      omega
    obtain ⟨d, hd, hg⟩ := things_giv (K := K) (H := del H9 p) hfar (del_at n1 (b9 _ _ n1 g1)) (del_at n2 (b9 _ _ n2 g2)) (del_at n3 (b9 _ _ n3 g3)) (del_at n4 (b9 _ _ n4 g4)) (del_at n5 (b9 _ _ n5 g5)) (del_at n6 (b9 _ _ n6 g6)) _ (List.getElem_mem hk)
    exact out _ d H9 ((b1.trans (But.same sAll)).trans b9) hp9 hd hg
end
end K14
namespace K14
open PySem PySem.Spec PyProof.Rows L2 Par
theorem rising_len {ns : List Int} {l m : Int} (h : ns.Pairwise (· < ·)) (b : ∀ n ∈ ns, l ≤ n ∧ n < m) : ns.length ≤ (m - l).toNat := by
  have nd : ns.Nodup := h.imp (fun z => by omega)
  have := nodup_le (L := ns) (M := (List.range (m - l).toNat).map fun i => l + (i : Nat)) nd (fun k hk => by
    have := b k hk
    exact List.mem_map.mpr ⟨(k - l).toNat, List.mem_range.mpr (by omega), by omega⟩)
  rw [List.length_map, List.length_range] at this
  exact this
theorem lay_ints : ∀ ns : List Int, PyData.canLayAll0 (ns.map PyData.int) = true
  | [] => rfl
  | n :: ns => by
    show (PyData.canLay0 (.int n) && PyData.canLayAll0 (ns.map PyData.int)) = true
    rw [lay_ints ns]
    rfl
theorem depth_ints : ∀ ns : List Int, PyData.depthAll (ns.map PyData.int) = 0
  | [] => rfl
  | n :: ns => by
    show max 0 (PyData.depthAll (ns.map PyData.int)) = 0
    rw [depth_ints ns]
    rfl
theorem shaped_ints (ns : List Int) : SeqAt.shaped (.list (ns.map PyData.int)) = true := by
  show (PyData.canLayAll0 (ns.map PyData.int) && decide (PyData.depthAll (ns.map PyData.int) + 1 ≤ 64)) = true
  rw [lay_ints, depth_ints]
  rfl
def odds (m : Int) (p4 p5 : Addr) : List V := [.bl true, .bl false, .non, .str "1", .ref p4, .ref p5, .int (-1), .int m]
theorem odds_len (m : Int) (p4 p5 : Addr) : (odds m p4 p5).length = 8 := rfl
theorem odds_dp {K : PySem.W.Frag} {H : Hp} {m : Int} {p4 p5 : Addr} (hm : 0 ≤ m ∧ m < 1000) (h4 : H p4 = some (.lst [.int 1])) (h5 : H p5 = some (.tup [.int 0])) :
    ∀ v ∈ odds m p4 p5, ∃ d, Dp K H v d ∧ small d := by
  intro v hv
  unfold odds at hv
  simp only [List.mem_cons, List.not_mem_nil, or_false] at hv
  rcases hv with rfl | rfl | rfl | rfl | rfl | rfl | rfl | rfl
  · exact ⟨_, .bl _, small_bool _⟩
  · exact ⟨_, .bl _, small_bool _⟩
  · exact ⟨_, .non, ⟨by decide, by decide, by decide +kernel⟩⟩
  · exact ⟨_, .str _, ⟨by decide, by decide, by decide +kernel⟩⟩
  · exact ⟨_, .lst (SqL.of h4) (.cons (.int 1) .nil), ⟨by decide +kernel, by decide, by decide +kernel⟩⟩
  · exact ⟨_, .tup (SqT.of h5) (.cons (.int 0) .nil), ⟨by decide +kernel, by decide, by decide +kernel⟩⟩
  · exact ⟨_, .int _, small_int (by decide)⟩
  · refine ⟨_, .int _, small_int ?_⟩
    have e : (2 : Nat) ^ 100 = 1267650600228229401496703205376 := by decide
    rw [e]
    omega
section
variable {P : Program} {w : World} {K : PySem.W.Frag} {mg : Str → Option Value} {base : Heap}
def spOdd (K : PySem.W.Frag) : Sp := fun vs H Q _ => ∃ (p : Addr) (m : Int), vs = [.ref p, .int m] ∧ PotAt H p ∧ 1 ≤ m ∧ m ≤ 40 ∧
  ∀ v d H', But p H H' → PotAt H' p → Giv K (del H' p) v d → good d → Q v H'
abbrev nOdd : List Str := ["_law_pot_here", "_law_width_here", "_law_spots_here", "_law_way"]
theorem scOdd : FnScope nOdd ["_law_pot_here", "_law_width_here"] (defScope sOdd) := ⟨rfl, rfl, rfl, by decide +kernel, rfl, by decide +kernel, by decide +kernel⟩
theorem ne_false {a b : Int} (h : a ≠ b) : decide (V.int a = V.int b) = false := decide_eq_false (fun z => h (by injection z))
theorem dps_set {H : Hp} {ns : List Int} (hb : ∀ n ∈ ns, 0 ≤ n ∧ n < 1000) : ∀ d ∈ ns.map PyData.int, small d := fun d hd => by
  obtain ⟨n, hn, rfl⟩ := List.mem_map.mp hd
  have := hb n hn
  have e : (2 : Nat) ^ 100 = 1267650600228229401496703205376 := by decide
  exact small_int (by rw [e]; omega)
theorem dps_take {H : Hp} : ∀ {xs : List V} {ds : List PyData} (i : Nat), DpAll K H xs ds → DpAll K H (xs.take i) (ds.take i)
  | _, _, 0, _ => by
    rw [List.take_zero, List.take_zero]
    exact .nil
  | _, _, i + 1, .nil => .nil
  | _, _, i + 1, .cons h1 h2 => .cons h1 (dps_take i h2)
theorem dps_drop {H : Hp} : ∀ {xs : List V} {ds : List PyData} (i : Nat), DpAll K H xs ds → DpAll K H (xs.drop i) (ds.drop i)
  | _, _, 0, h => h
  | _, _, i + 1, .nil => .nil
  | _, _, i + 1, .cons _ h2 => dps_drop i h2
theorem ok_odd {f : Addr} {fd : FuncData} (F : Fun K "_law_odd_spots" "_law_odd_spots" sOdd f fd) (B : Bl mg) (D : Has P w K mg base "_law_draw" 2 ["_law_pot_here", "_law_many"] spDraw)
    (S : Has P w K mg base "_law_spots" 3 ["_law_pot_here", "_law_least", "_law_width_here"] spSpots) (M : Has P w K mg base "_law_mixed" 3 ["_law_pot_here", "_law_given"] (spMixed K))
    (N : Has P w K mg base "_law_any_thing" 3 ["_law_pot_here"] (spAny K)) : FnOk P w K mg base CX0 4 f fd ["_law_pot_here", "_law_width_here"] (spOdd K) := by
  obtain ⟨fD, fdD, GD, mD, kD, bD⟩ := D
  obtain ⟨fS, fdS, GS, mS, kS, bS⟩ := S
  obtain ⟨fM, fdM, GM, mM, kM, bM⟩ := M
  obtain ⟨fN, fdN, GN, mN, kN, bN⟩ := N
  refine F.ok scOdd (fun vs H Q E h => ?_) (fun cdv A outer s H vs Q E hr h => ?_)
  · obtain ⟨p, m, rfl, _⟩ := h
    rfl
  · obtain ⟨p, m, rfl, hp, m1, m2, out⟩ := h
    have hr1 : Room 2 (A.deeper (envOfC "_law_odd_spots" (defScope sOdd) s.heap.objs.size f cdv)) := hr.mono (by decide)
    refine ⟨_, pss_cons (ps_set (i := 2) scOdd.nd rfl (Or.inl rfl) (pe_call GM hr (by rfl) mM kM bM .nil pass0 (pa_cons (pv 0) (pa_cons (pe_call GS hr (by rfl) mS kS bS .nil pass0 (pa_cons (pv 0) (pa_cons pe_int (pa_cons (pv 1) pa_nil)))) pa_nil))))
      (pss_cons (ps_set (i := 3) scOdd.nd rfl (Or.inl rfl) (pe_call GD hr1 (by rfl) mD kD bD .nil pass0 (pa_cons (pv 0) (pa_cons pe_int pa_nil))))
      (pss_cons (ps_if (pt_cmpR op_eq (pv 3) pe_int (nomark _)) (pss_one (ps_ret (pe_call GN hr (by rfl) mN kN bN .nil pass0 (pa_cons (pv 0) pa_nil)))) pss_nil)
      (pss_cons (ps_if (PW.pt (pw_and (pt_cmpR op_eq (pv 3) pe_int (nomark _)) (pw_and1 (pt_cmpR (op_neD hr.units) (pv 2) (pe_lst pa_nil) (nomark _)))))
        (pss_one (ps_expr (pe_bm PySem.F.plainAttrs_list PySem.F.slot_list_append PySem.F.type_list_append mt_append (pv 2) (pa_cons (pe_ix ix_list (pv 2) (pe_call GD hr1 (by rfl) mD kD bD .nil pass0 (pa_cons (pv 0) (pa_cons (pe_callB call_len_seq (by rfl) B.len PySem.boot_len (pa_cons (pv 2) pa_nil)) pa_nil))) (fun _ _ => rfl)) pa_nil)))) pss_nil)
      (pss_cons (ps_if (pt_cmpR op_eq (pv 3) pe_int (nomark _))
        (pss_one (ps_expr (pe_bm PySem.F.plainAttrs_list PySem.F.slot_list_insert PySem.F.type_list_insert mt_insert (pv 2) (pa_cons (pe_call GD hr1 (by rfl) mD kD bD .nil pass0 (pa_cons (pv 0) (pa_cons (pe_op op_add (pe_callB call_len_seq (by rfl) B.len PySem.boot_len (pa_cons (pv 2) pa_nil)) pe_int) pa_nil)))
          (pa_cons (pe_ix ix_list (pe_lst (pa_cons pe_bl (pa_cons pe_bl (pa_cons pe_non (pa_cons pe_str (pa_cons (pe_lst (pa_cons pe_int pa_nil)) (pa_cons (pe_tup (pa_cons pe_int pa_nil)) (pa_cons (pe_un un_neg pe_int) (pa_cons (pv 1) pa_nil))))))))) (pe_call GD hr1 (by rfl) mD kD bD .nil pass0 (pa_cons (pv 0) (pa_cons pe_int pa_nil))) (fun _ _ => rfl)) pa_nil))))) pss_nil)
      (pss_cons (ps_if (pt_cmpR op_eq (pv 3) pe_int (nomark _)) (pss_one (ps_ret (pe_callTy call_tuple_of (by rfl) B.tuple (by decide +kernel) (pa_cons (pv 2) pa_nil)))) pss_nil)
      (pss_cons (ps_if (pt_cmpR op_eq (pv 3) pe_int (nomark _)) (pss_one (ps_expr (pe_bm PySem.F.plainAttrs_list PySem.F.slot_list_append PySem.F.type_list_append mt_append (pv 2) (pa_cons (pe_op op_add (pv 1) (pe_call GD hr1 (by rfl) mD kD bD .nil pass0 (pa_cons (pv 0) (pa_cons pe_int pa_nil)))) pa_nil)))) pss_nil)
      (pss_one (ps_ret (pv 2))))))))), ?_⟩
    refine ⟨_, rfl, _, rfl, _, rfl, p, 0, m, rfl, hp, by decide, by decide, by omega, by omega, ?_⟩
    intro g ns H1 hg0 pw bd b1 hp1 hg1
    have gp : g ≠ p := pot_ne hp hg0
    have nl : ns.length ≤ 40 := by
      have := rising_len pw bd
      omega
    refine ⟨p, g, ns, rfl, hp1, hg1, gp, by omega, ?_⟩
    intro q ms H2 hq1 pm b2 hp2 hq2
    have qp : q ≠ p := pot_ne hp1 hq1
    have hq0 : H q = none := b1.free hp hq1 hp1
    have ml : ms.length ≤ 40 := by rw [pm.length_eq]; exact nl
    have mb : ∀ n ∈ ms, 0 ≤ n ∧ n < 1000 := fun n hn => by
      have := bd n (pm.mem_iff.mp hn)
      omega
    refine ⟨_, rfl, p, 6, rfl, hp2, by decide, by decide, ?_⟩
    intro d H3 d0 d1 b3 hp3
    have b03 : But p H H3 := (b1.trans b2).trans b3
    have hq3 : H3 q = some (.lst (ms.map V.int)) := b3 q _ qp hq2
    -- a list at q of data
    have fin : ∀ H' (xs : List V) (ds : List PyData), But p H H' → PotAt H' p → H' q = some (.lst xs) → DpAll K (del H' p) xs ds → (∀ e ∈ ds, small e) → xs.length ≤ 100 → ds.length ≤ 100 → Q (.ref q) H' := by
      intro H' xs ds b hpp hq' hds sm l1 l2
      exact out _ _ H' b hpp (.lst (del_at qp hq') hds (by omega)) (good_list sm (by omega))
    have plain : ∀ H', But p H3 H' → PotAt H' p → Q (.ref q) H' := by
      intro H' b hpp
      exact fin H' _ _ (b03.trans b) hpp (b q _ qp hq3) (dps_ints ms) (dps_set (H := H) mb) (by rw [List.length_map]; omega) (by rw [List.length_map]; omega)
    have hd : d = 0 ∨ d = 1 ∨ d = 2 ∨ d = 3 ∨ d = 4 ∨ d = 5 := by omega
    rcases hd with rfl | rfl | rfl | rfl | rfl | rfl
    · -- any thing
      refine ⟨_, rfl, rfl, _, rfl, iteT ?_⟩
      refine ⟨_, rfl, p, rfl, hp3, ?_⟩
      intro v d H' b hpp hv hgd
      exact out v d H' (b03.trans b) hpp hv hgd
    · -- one twice
      refine ⟨_, rfl, rfl, _, rfl, iteF ?_⟩
      refine ⟨_, rfl, rfl, _, rfl, iteT ?_⟩
      refine ⟨_, rfl, by decide, fun e he => ?_⟩
      have s3 := same_new (o := .lst []) he
      have eq : e ≠ q := fun z => by rw [z, hq3] at he; cases he
      have hpe := hp3.same s3
      have hqe : (upd H3 e (.lst [])) q = some (.lst (ms.map V.int)) := s3 _ _ hq3
      refine ⟨_, _, .lst (SqL.of hqe) (dps_ints ms), .lst (SqL.of upd_same) .nil, ?_, by decide, _, rfl, ?_⟩
      · exact shaped_ints ms
      cases ms with
      | nil =>
        refine iteF ?_
        refine ⟨_, rfl, rfl, _, rfl, iteF ?_⟩
        refine ⟨_, rfl, rfl, _, rfl, iteF ?_⟩
        refine ⟨_, rfl, rfl, _, rfl, iteF ?_⟩
        exact ⟨_, rfl, plain _ (But.same s3) hpe⟩
      | cons m0 mr =>
        refine iteT ?_
        refine ⟨_, rfl, .inl ⟨rfl, _, SqL.of hqe⟩, ?_⟩
        refine ⟨_, rfl, _, rfl, _, rfl, q, _, rfl, .inl (SqL.of hqe), p, _, rfl, hpe, (by show (0 : Int) < ((((m0 :: mr).map V.int).length : Nat) : Int); rw [List.length_map, List.length_cons]; omega), (by rw [List.length_map]; omega), ?_⟩
        intro d2 H4 e0 e1 b4 hp4
        rw [List.length_map] at e1
        have hq4 : H4 q = some (.lst ((m0 :: mr).map V.int)) := b4 q _ qp hqe
        have dk : d2.toNat < (m0 :: mr).length := by omega
        have hx : ((m0 :: mr).map V.int)[d2.toNat]? = some (.int (m0 :: mr)[d2.toNat]) := by
          rw [List.getElem?_map, List.getElem?_eq_getElem dk]
          rfl
        have hat : atI ((m0 :: mr).map V.int) d2 = some (.int (m0 :: mr)[d2.toNat]) := by
          have z := atI_nat hx
          rw [show ((d2.toNat : Nat) : Int) = d2 by omega] at z
          exact z
        refine ⟨q, _, d2, _, rfl, rfl, SqL.of hq4, hat, ?_⟩
        refine ⟨q, _, _, rfl, rfl, hq4, (by rw [List.length_map]; exact small1000 (by omega)), ?_⟩
        have hmem := List.getElem_mem dk
        generalize (m0 :: mr)[d2.toNat] = x at hmem ⊢
        refine ⟨_, rfl, rfl, _, rfl, iteF ?_⟩
        refine ⟨_, rfl, rfl, _, rfl, iteF ?_⟩
        refine ⟨_, rfl, rfl, _, rfl, iteF ?_⟩
        refine ⟨_, rfl, fin _ (((m0 :: mr) ++ [x]).map V.int) (((m0 :: mr) ++ [x]).map PyData.int) ?_ ?_ ?_ (dps_ints _) (dps_set (H := H) ?_) ?_ ?_⟩
        · intro b o n z
          rw [upd_ne (ne_of_none z hq0)]
          exact b4 b o n (s3 b o (b03 b o n z))
        · obtain ⟨x1, y1, z, r⟩ := hp4
          exact ⟨x1, y1, by rw [upd_ne (Ne.symm qp)]; exact z, r⟩
        · rw [upd_same, List.map_append]
          rfl
        · intro n hn
          rcases List.mem_append.mp hn with hn | hn
          · exact mb n hn
          · rw [List.mem_singleton.mp hn]
            exact mb x hmem
        · rw [List.length_map, List.length_append]
          show (m0 :: mr).length + 1 ≤ 100
          omega
        · rw [List.length_map, List.length_append]
          show (m0 :: mr).length + 1 ≤ 100
          omega
    · -- one thing put in
      refine ⟨_, rfl, rfl, _, rfl, iteF ?_⟩
      refine ⟨_, rfl, rfl, _, rfl, iteF (iteF ?_)⟩
      refine ⟨_, rfl, rfl, _, rfl, iteT ?_⟩
      refine ⟨_, rfl, .inl ⟨rfl, _, SqL.of hq3⟩, ?_⟩
      refine ⟨_, rfl, _, rfl, q, _, rfl, .inl (SqL.of hq3), _, _, rfl, rfl, p, _, rfl, hp3, (by rw [List.length_map]; omega), (by rw [List.length_map]; omega), ?_⟩
      intro d2 H4 e0 e1 b4 hp4
      rw [List.length_map] at e1
      refine ⟨by decide, fun p4 h4 => ⟨by decide, fun p5 h5 => ?_⟩⟩
      refine ⟨1, rfl, _, rfl, (by show 8 ≤ sizeLine; decide), fun L hL => ?_⟩
      have s4 := same_new (o := .lst [.int 1]) h4
      have s5 := same_new (o := .tup [.int 0]) h5
      have s6 := same_new (o := .lst (odds m p4 p5)) hL
      have sA := s4.trans (s5.trans s6)
      have hpX := hp4.same sA
      have n4 : p4 ≠ p := pot_ne hp4 h4
      have n5 : p5 ≠ p := pot_ne (hp4.same s4) h5
      have nL : L ≠ p := pot_ne (hp4.same (s4.trans s5)) hL
      refine ⟨_, rfl, p, 8, rfl, hpX, by decide, by decide, ?_⟩
      intro d3 H6 f0 f1 b6 hp6
      have hk : d3.toNat < (odds m p4 p5).length := by
        rw [odds_len]
        omega
      have hx : (odds m p4 p5)[d3.toNat]? = some (odds m p4 p5)[d3.toNat] := by simp [hk]
      have hat : atI (odds m p4 p5) d3 = some (odds m p4 p5)[d3.toNat] := by
        have z := atI_nat hx
        rw [show ((d3.toNat : Nat) : Int) = d3 by omega] at z
        exact z
      have hmem := List.getElem_mem hk
      generalize (odds m p4 p5)[d3.toNat] = v at hmem hat
      have hq4 : H4 q = some (.lst (ms.map V.int)) := b4 q _ qp hq3
      have hq6 : H6 q = some (.lst (ms.map V.int)) := b6 q _ qp (sA _ _ hq4)
      have q4 : p4 ≠ q := fun z => by rw [z, hq4] at h4; cases h4
      have q5 : p5 ≠ q := fun z => by rw [z, s4 _ _ hq4] at h5; cases h5
      refine ⟨L, _, d3, v, rfl, rfl, SqL.of (b6 L _ nL upd_same), hat, ?_⟩
      refine ⟨q, _, d2, v, rfl, rfl, hq6, (by rw [List.length_map]; exact small1000 (by omega)), e0, by omega, ?_⟩
      refine ⟨_, rfl, rfl, _, rfl, iteF ?_⟩
      refine ⟨_, rfl, rfl, _, rfl, iteF ?_⟩
      have g4 : H6 p4 = some (.lst [.int 1]) := b6 p4 _ n4 ((s5.trans s6) _ _ upd_same)
      have g5 : H6 p5 = some (.tup [.int 0]) := b6 p5 _ n5 (s6 _ _ upd_same)
      obtain ⟨dv, hdv, hsm⟩ := odds_dp (K := K) (H := del (upd H6 q (.lst ((ms.map V.int).take d2.toNat ++ [v] ++ (ms.map V.int).drop d2.toNat))) p) (m := m) (p4 := p4) (p5 := p5) (by omega)
        (del_at n4 (by rw [upd_ne q4]; exact g4)) (del_at n5 (by rw [upd_ne q5]; exact g5)) v hmem
      refine ⟨_, rfl, fin _ _ ((ms.map PyData.int).take d2.toNat ++ [dv] ++ (ms.map PyData.int).drop d2.toNat) ?_ ?_ upd_same (dps_append (dps_append (dps_take _ (dps_ints ms)) (.cons hdv .nil)) (dps_drop _ (dps_ints ms))) ?_ ?_ ?_⟩
      · intro b o n z
        rw [upd_ne (ne_of_none z hq0)]
        exact b6 b o n (sA b o ((b03.trans b4) b o n z))
      · obtain ⟨x1, y1, z, r⟩ := hp6
        exact ⟨x1, y1, by rw [upd_ne (Ne.symm qp)]; exact z, r⟩
      · intro e he
        have hset := dps_set (H := H) mb
        rcases List.mem_append.mp he with he | he
        · rcases List.mem_append.mp he with he | he
          · exact hset e (List.mem_of_mem_take he)
          · rw [List.mem_singleton.mp he]
            exact hsm
        · exact hset e (List.mem_of_mem_drop he)
      · rw [List.length_append, List.length_append, List.length_take, List.length_drop, List.length_map]
        show min d2.toNat ms.length + 1 + (ms.length - d2.toNat) ≤ 100
        omega
      · rw [List.length_append, List.length_append, List.length_take, List.length_drop, List.length_map]
        show min d2.toNat ms.length + 1 + (ms.length - d2.toNat) ≤ 100
        omega
    · -- a tuple
      refine ⟨_, rfl, rfl, _, rfl, iteF ?_⟩
      refine ⟨_, rfl, rfl, _, rfl, iteF (iteF ?_)⟩
      refine ⟨_, rfl, rfl, _, rfl, iteF ?_⟩
      refine ⟨_, rfl, rfl, _, rfl, iteT ?_⟩
      refine ⟨_, rfl, q, _, rfl, .inl ⟨SqL.of hq3, fun t ht => ?_⟩⟩
      have s3 := same_new (o := .tup (ms.map V.int)) ht
      exact out _ _ _ (b03.trans (But.same s3)) (hp3.same s3) (.tup (del_at (pot_ne hp3 ht) upd_same) (dps_ints ms) (by rw [List.length_map]; omega)) (good_tuple (dps_set (H := H) mb) (by rw [List.length_map]; omega))
    · -- one beyond
      refine ⟨_, rfl, rfl, _, rfl, iteF ?_⟩
      refine ⟨_, rfl, rfl, _, rfl, iteF (iteF ?_)⟩
      refine ⟨_, rfl, rfl, _, rfl, iteF ?_⟩
      refine ⟨_, rfl, rfl, _, rfl, iteF ?_⟩
      refine ⟨_, rfl, rfl, _, rfl, iteT ?_⟩
      refine ⟨_, rfl, .inl ⟨rfl, _, SqL.of hq3⟩, ?_⟩
      refine ⟨_, rfl, _, rfl, p, 3, rfl, hp3, by decide, by decide, ?_⟩
      intro d2 H4 e0 e1 b4 hp4
      have hq4 : H4 q = some (.lst (ms.map V.int)) := b4 q _ qp hq3
      refine ⟨m, d2, rfl, rfl, q, _, _, rfl, rfl, hq4, (by rw [List.length_map]; exact small1000 (by omega)), ?_⟩
      refine ⟨_, rfl, fin _ ((ms ++ [m + d2]).map V.int) ((ms ++ [m + d2]).map PyData.int) ?_ ?_ ?_ (dps_ints _) (dps_set (H := H) ?_) ?_ ?_⟩
      · intro b o n z
        rw [upd_ne (ne_of_none z hq0)]
        exact (b03.trans b4) b o n z
      · obtain ⟨x1, y1, z, r⟩ := hp4
        exact ⟨x1, y1, by rw [upd_ne (Ne.symm qp)]; exact z, r⟩
      · rw [upd_same, List.map_append]
        rfl
      · intro n hn
        rcases List.mem_append.mp hn with hn | hn
        · exact mb n hn
        · rw [List.mem_singleton.mp hn]
          omega
      · rw [List.length_map, List.length_append]
        show ms.length + 1 ≤ 100
        omega
      · rw [List.length_map, List.length_append]
        show ms.length + 1 ≤ 100
        omega
    · -- as it is
      refine ⟨_, rfl, rfl, _, rfl, iteF ?_⟩
      refine ⟨_, rfl, rfl, _, rfl, iteF (iteF ?_)⟩
      refine ⟨_, rfl, rfl, _, rfl, iteF ?_⟩
      refine ⟨_, rfl, rfl, _, rfl, iteF ?_⟩
      refine ⟨_, rfl, rfl, _, rfl, iteF ?_⟩
      exact ⟨_, rfl, plain H3 (But.refl _ _) hp3⟩
end
end K14
namespace Par
open PySem PySem.Spec PyProof.Rows L2
/-- f(e, .., k = v, ..), what is raised wished for at the slots -/
def tCallNS (n m : Nat) (sp : Sp) (gV : List V → List V → List V) (E : L2.St → XK) (t tk : TA) : TE := fun σ H Q =>
  t σ H fun vs H1 => tk σ H1 fun zs H2 => vs.length = n ∧ zs.length = m ∧ sp (gV vs zs) H2 Q (E σ)
section
variable {X : Cx} {CX : CXT} {k n : Nat} {f : Addr} {fd : FuncData} {ps ks : List Str} {sp : Sp} {E : L2.St → XK} {x : Str} {p pos : Pos} {e : Expr} {es : List Expr} {kws : List Keyword} {t tk : TA}
  {g : List Value → List Value → List Value} {gV : List V → List V → List V}
theorem pe_callNS (F : FnOk X.prog X.w X.K X.mg X.base CX k f fd ps sp) (hr : Room k X.A) (hg : Gl X x) (hm : X.mg x = some (.ref f)) (hk : PySem.W.keepIn X.K (.ref f) = true)
    (hb : KBn X.K fd ps n ks g gV) (hx : ∀ σ, PassesAt CX X σ (E σ)) (ha : PA X (e :: es) t) (hkw : PK X kws tk)
    (hall : (backToKw pos (keywordEach kws X.env)).all (·.1.isSome) = true := by rfl)
    (hks : (backToKw pos (keywordEach kws X.env)).filterMap (·.1) = ks := by rfl)
    (hdb : (x == ("__debug__" : Str)) = false := by decide)
    (he : starEach (e :: es) X.env = (false, eval e X.env) :: starEach es X.env := by rfl)
    (hpl : ((backTo pos (starEach (e :: es) X.env)).any (·.1) || (backToKw pos (keywordEach kws X.env)).any (·.1.isNone)) = false := by rfl) :
    PE X (.Call (.Name x p) (e :: es) kws pos) (tCallNS n ks.length sp gV E t tk) := by
  constructor
  intro pins s σ H Q I h
  refine wpAny_Call_Name_kw (ld_glob I hg hm ?_ hdb)
  refine PySem.W.callWith_KW (h₀ := X.base) I.ok.mod.kin hk hall (thn (ha.run pos pins s σ H _ I h) ?_) hpl he
  rintro us s1 ⟨vs, H1, I1, r, q⟩
  refine thn (hkw.run pos pins s1 σ H1 _ I1 q) ?_
  rintro ws s2 ⟨zs, H2, I2, rz, l1, l2, q2⟩
  refine ⟨I2.kIn, ?_⟩
  rw [hks]
  refine wpAny_call (codeAny_mono (F.run X.A X.stack s2 H2 ⟨us, ks.zip ws⟩ (g us ws) (gV vs zs) Q (E σ) hr I2.env0
    (hb.to s2 us ws I2.kIn (r.length.symm.trans l1) (rz.length.symm.trans l2)) (hb.rel r rz) q2) ?_)
  intro res s3 hq
  cases res with
  | error er => exact hx σ pins H2 s2 er s3 I2 hq
  | ok fl =>
    cases fl with
    | ret u => exact I2.after hq
    | next => exact False.elim hq
    | brk => exact False.elim hq
    | cont => exact False.elim hq
end
section
variable {X : Cx} {a D : Addr} {oe : Obj} {cls : Value} {d : Option Addr} {pn : List (Addr × Obj)}
theorem held_inst {pins : List (Addr × Obj)} {σ : L2.St} {H : Hp} {s : Shared} {dd : Addr} {fs : List (Str × V)} (hz : Zc cls d oe) (hf : ∃ vs, oe.data = .fields vs)
    (I : L2.Inv (X.suite a ((a, oe) :: pn)) pins σ H s) (ec : cls = .ref D) (ed : d = some dd) (ea : H dd = some (.xd fs)) : ∃ od, PySem.W.InstAt s.heap a oe D (some od) := by
  subst ec ed
  have ha := (I.pin (a, oe) (List.mem_append_left _ List.mem_cons_self)).1
  obtain ⟨vs, hd⟩ := hf
  obtain ⟨mA, hns, hr⟩ := (show ObjOk X.prog X.w H s.heap dd (.xd fs) from I.hok dd _ ea)
  obtain ⟨od, ho, hl⟩ := lookIn_ns hns
  exact ⟨od, ha, hz.1, by unfold PySem.W.notCls; rw [hd] <;> rfl, by rw [hz.2]; exact ho⟩
theorem kit_held (C : ExcC X.K D) {od : Option Obj} : PySem.W.KitX X.K (.ref a) (.ref D) (fun h => PySem.W.InstAt h a oe D od) := by
  refine PySem.W.kitx_exc ?_ C.hg C.hk C.hs C.ha C.hn C.ht C.hm
  obtain ⟨cd, hc, _⟩ := PySem.W.any_some C.hd
  rw [hc]
  rfl
/-- isinstance(e, c), e the error that the suite holds, with its own dict -/
theorem call_isX (C : ExcC X.K D) (hz : Zc cls d oe) (hf : ∃ vs, oe.data = .fields vs) : CallR (X.suite a ((a, oe) :: pn)) (.builtin "isinstance")
    (fun xs H Q => ∃ (c : V) (u : Value) (b : Bool) (dd : Addr) (fs : List (Str × V)), xs = [.ref a, c] ∧ cls = .ref D ∧ d = some dd ∧ H dd = some (.xd fs) ∧ ClsV c u ∧ PySem.W.kitOne X.K (.ref D) u = some b ∧ Q (.bl b) H) := by
  intro pins s σ H xs us Q I r h
  obtain ⟨c, u, b, dd, fs, rfl, ec, ed, ea, k, e, q⟩ := h
  obtain ⟨u1, u2, rfl, r1, r2⟩ := vals2 r
  cases (show u1 = Value.ref a from r1)
  have e2 := k.eq r2
  subst e2
  obtain ⟨od, J⟩ := held_inst hz hf I ec ed ea
  exact PySem.W.kia_one (kit_held C) I.kIn J e (fun z => nomatch z) fun tk => ⟨.bl b, H, I.tok tk, rfl, q⟩
theorem call_isXT (C : ExcC X.K D) (hz : Zc cls d oe) (hf : ∃ vs, oe.data = .fields vs) : CallR (X.suite a ((a, oe) :: pn)) (.builtin "isinstance")
    (fun xs H Q => ∃ (tp : Addr) (cs : List V) (ws : List Value) (b : Bool) (dd : Addr) (fs : List (Str × V)), xs = [.ref a, .ref tp] ∧ H tp = some (.tup cs) ∧ Paired ClsV cs ws ∧ cls = .ref D ∧ d = some dd ∧ H dd = some (.xd fs) ∧
      PySem.W.kitAny X.K (.ref D) ws = some b ∧ Q (.bl b) H) := by
  intro pins s σ H xs us Q I r h
  obtain ⟨tp, cs, ws, b, dd, fs, rfl, hT, k, ec, ed, ea, e, q⟩ := h
  obtain ⟨u1, u2, rfl, r1, r2⟩ := vals2 r
  cases (show u1 = Value.ref a from r1)
  cases (show u2 = Value.ref tp from r2)
  obtain ⟨od, J⟩ := held_inst hz hf I ec ed ea
  obtain ⟨_, its, rv, o, h1, h2, n, h3⟩ := (show ObjOk X.prog X.w H s.heap tp (.tup cs) from I.hok tp _ hT)
  have e3 := ClsV.all k rv
  subst e3
  obtain ⟨oc, ood, dt, sl⟩ := o
  simp only at h2 h3
  subst h2 h3
  exact PySem.W.kia_tup (kit_held C) I.kIn J h1 e (fun z => nomatch z) fun tk => ⟨.bl b, H, I.tok tk, rfl, q⟩
end
end Par
namespace Par
open PySem PySem.Spec PyProof.Rows L2

/-! ### a loop that changes nothing -/
section
variable {M : Model} {A : Around} {E : Value → Shared → Prop} {s : Shared}
theorem wp_forSame {α β : Type} {b : β} {f : α → β → Sem (ForInStep β)} {Q : β → Shared → Prop} : ∀ (l : List α),
    (∀ a ∈ l, ∀ Q' : ForInStep β → Shared → Prop, Q' (.yield b) s → wpAny M A (f a b) Q' E s) → Q b s → wpAny M A (forIn l b f) Q E s
  | [], _, h => by
    rw [List.forIn_nil]
    exact wpAny_pure h
  | a :: l, hf, h => by
    rw [List.forIn_cons]
    refine wpAny_bind (hf a (List.mem_cons_self ..) _ ?_)
    exact wp_forSame l (fun x hx => hf x (List.mem_cons_of_mem _ hx)) h
end
section
variable {P : Program} {w : World} {A : Around} {E : Value → Shared → Prop} {s : Shared} {a f : Addr} {S Sf : Int → Bool} {n nf : Nat}
theorem quiet_sets {sets : List Addr} {Q : Bool → Shared → Prop} (hs : ∀ b ∈ sets, ∃ S n, SetR w s.heap b S n) (h : Q true s) :
    wpAny (model P w) A (setsQuiet sets) Q E s := by
  unfold setsQuiet
  refine wpAny_bind (wp_forSame sets (fun b hb Q' q => ?_) (wpAny_pure h))
  obtain ⟨S, n, o, es, ep, t, ho, hx, hd, g, _, _, _, hf, _⟩ := hs b hb
  refine wpAny_bind (wpAny_setEntries_of ho hd hf ?_)
  rw [← Array.forIn_toList]
  refine wpAny_bind (wp_forSame es.toList (fun e he Q2 q2 => ?_) (wpAny_pure q))
  obtain ⟨k, tk, h1, _⟩ := g e he
  obtain ⟨hh, x⟩ := e
  subst h1
  exact wpAny_pure q2
/-- what a walk that nobody sees gives -/
def Given (S : Int → Bool) (n : Nat) (l : Array (Int × Value)) : Prop :=
  (∀ e ∈ l.toList, GoodE e) ∧ (l.toList.map keyOf).Nodup ∧ (∀ k, S k = true ↔ k ∈ l.toList.map keyOf) ∧ l.size = n
theorem Given.perm {l l' : Array (Int × Value)} (g : Given S n l) (p : l'.toList.Perm l.toList) : Given S n l' :=
  ⟨fun e he => g.1 e (p.mem_iff.mp he), (p.map keyOf).nodup_iff.mpr g.2.1, fun k => (g.2.2.1 k).trans (p.map keyOf).mem_iff.symm, by
    rw [← Array.length_toList, p.length_eq, Array.length_toList]
    exact g.2.2.2⟩
theorem walk_unseen {others : List Addr} {Q : Array (Int × Value) → Shared → Prop} (R : SetR w s.heap a S n) (hs : ∀ b ∈ others, ∃ S n, SetR w s.heap b S n) (Rf : SetR w s.heap f Sf nf)
    (hQ : ∀ l h', Heap.SameBut f s.heap h' → SetR w h' f Sf nf → Given S n l → Q l { s with heap := h' }) :
    wpAny (model P w) A (setWalkUnseen a others (some f)) Q E s := by
  obtain ⟨o, es, ep, t, ho, hx, hd, g, nd, hm, hb, hf, hn, hr, hl⟩ := id R
  have gv : Given S n es := ⟨g, nd, hm, hn⟩
  have same : ∀ l, Given S n l → Q l s := fun l gl => hQ l s.heap (Heap.SameBut.refl f s.heap) Rf gl
  unfold setWalkUnseen
  refine wpAny_bind (wpAny_setState_of ho hd hf ?_)
  dsimp only
  refine wpAny_bind (wpAny_byText ?_)
  cases hbt : w.params.followText "set-order" with
  | true =>
    refine wp_if_pos (by simp) ?_
    unfold setWalk
    refine wpAny_bind (wpAny_setState_of ho hd hf ?_)
    dsimp only
    refine wpAny_bind (wpAny_byText ?_)
    refine wp_if_pos hbt ?_
    exact wpAny_bind (wpAny_askSetting (wpAny_pure (same _ (gv.perm (pick_perm _ es)))))
  | false =>
    have hled : t.led = true := hl.resolve_left (by rw [hbt]; exact Bool.false_ne_true)
    by_cases hc : (false || (t.led && t.plain) || decide (es.size ≤ 1)) = true
    · refine wp_if_pos hc ?_
      unfold setWalk
      refine wpAny_bind (wpAny_setState_of ho hd hf ?_)
      dsimp only
      refine wpAny_bind (wpAny_byText ?_)
      refine wp_if_neg (by rw [hbt]; exact Bool.false_ne_true) ?_
      try refine wpAny_bind (wpAny_pure ?_)
      refine wp_if_neg ?_ ?_
      · show ¬ ((!t.plain && decide (es.size > 1)) = true)
        intro z
        rw [Bool.and_eq_true, decide_eq_true_eq] at z
        rw [hled] at hc
        have hp : t.plain = false := by simpa using z.1
        rw [hp] at hc
        have : es.size ≤ 1 := by simpa using hc
        omega
      · try refine wpAny_bind (wpAny_pure ?_)
        refine wpAny_bind (wpAny_of_eq (a := ()) ?_ ?_)
        · show (if (!t.led && decide (es.size > 1)) = true then unsupported "set:maker-not-led" else pure ()) = pure ()
          rw [hled] <;> rfl
        · exact wpAny_pure (same es gv)
    · refine wp_if_neg hc ?_
      try refine wpAny_bind (wpAny_pure ?_)
      refine wpAny_bind (quiet_sets (fun b hb => ?_) ?_)
      · rcases List.mem_cons.mp hb with z | z
        · exact z ▸ ⟨S, n, R⟩
        · exact hs b z
      refine wp_if_neg (by simp) ?_
      try refine wpAny_bind (wpAny_pure ?_)
      refine wpAny_bind (wpAny_rule ?_)
      obtain ⟨o2, es2, ep2, t2, ho2, hx2, hd2, g2, nd2, hm2, hb2, hf2, hn2, hr2, hl2⟩ := id Rf
      refine wpAny_bind (wpAny_setState_of ho2 hd2 hf2 ?_)
      dsimp only
      split
      · refine wpAny_bind (wpAny_storeSet_of ho2 hd2 ?_ (fits_of_scanBound hb2))
        have ho3 := store_at (es' := es2) (t' := { t2 with led := t2.led && t.led, plain := t2.plain && t.plain }) ho2 hd2
        refine wpAny_pure (hQ es _ (Heap.SameBut.update s.heap f _) ?_ gv)
        exact ⟨_, es2, _, _, ho3, hx2, rfl, g2, nd2, hm2, hb2, hf2, hn2, hr2, hl2.imp id fun z => by show (t2.led && t.led) = true; rw [z, hled]; rfl⟩
      · exact wpAny_pure (same es gv)
end
end Par
namespace Par
open PySem PySem.Spec PyProof.Rows L2
section
variable {P : Program} {w : World} {A : Around} {E : Value → Shared → Prop} {s : Shared} {a : Addr} {S : Int → Bool} {n : Nat}
theorem eraseAt_list {α : Type} (xs : Array α) (i : Nat) : (SetTable.eraseAt xs i).toList = xs.toList.eraseIdx i := by
  unfold SetTable.eraseAt
  rw [Array.toList_append, Array.toList_extract, Array.toList_extract, List.eraseIdx_eq_take_drop_succ]
  simp [List.extract_eq_drop_take]
  rw [List.take_of_length_le (by simp)]
/-- where the member k lies -/
theorem find_at {k : Int} {tk : Tok} {o : Obj} {es : Array (Int × Value)} {ep : Nat} {t : SetTable} {Q : Option Nat → Shared → Prop} (ho : s.heap.get? a = some o) (hd : o.data = .set es ep t) (hf : t.fits es.size = true)
    (g : ∀ e ∈ es.toList, GoodE e) (hb : es.size < scanBound) (h : Q (es.toList.findIdx? fun e => (intKind P w).is k e.2) s) :
    wpAny (model P w) A (setFind a (.int k tk) ((intKind P w).hash k)) Q E s := by
  have hel : ElemsOf (intKind P w) es.toList := good_elems g
  unfold setFind setFindIn
  refine wpAny_bind (wpAny_setState_of ho hd hf ?_)
  dsimp only
  rw [byScan_of (x := .int k tk) rfl hb hel]
  simp only [↓reduceIte]
  refine wpAny_bind (wpAny_rule ?_)
  refine wpAny_bind (wpAny_setScan_of (intKind_is P w k tk) ho hd hf hel ?_)
  cases hr : List.findIdx? (fun e => (intKind P w).is k e.2) es.toList with
  | none =>
    dsimp only
    rw [hr] at h
    exact wpAny_pure h
  | some j =>
    dsimp only
    rw [hr] at h
    rw [Nat.zero_add]
    exact wpAny_pure h
theorem discard_hashed {k : Int} {tk : Tok} {Q : Bool → Shared → Prop} (R : SetR w s.heap a S n)
    (hQ : ∀ h' m, m ≤ n → Heap.SameBut a s.heap h' → SetR w h' a (fun j => S j && !decide (j = k)) m → Q (S k) { s with heap := h' }) :
    wpAny (model P w) A (setDiscardHashed a (.int k tk) ((intKind P w).hash k)) Q E s := by
  obtain ⟨o, es, ep, t, ho, hex, hd, g, nd, hm, hb, hf, hn, hr, hl⟩ := R
  unfold setDiscardHashed
  refine wpAny_bind (find_at ho hd hf g hb ?_)
  cases hwhere : List.findIdx? (fun e => (intKind P w).is k e.2) es.toList with
  | none =>
    dsimp only
    have hnot : k ∉ es.toList.map keyOf := fun z => by
      obtain ⟨e, he, q⟩ := (good_mem (P := P) (w := w) g k).1 z
      have c := List.findIdx?_eq_none_iff.mp hwhere e he
      rw [q] at c
      cases c
    have hyes : S k = false := by
      cases q : S k with
      | false => rfl
      | true => exact absurd ((hm k).1 q) hnot
    have q := hQ s.heap n (Nat.le_refl _) (Heap.SameBut.refl a s.heap) ⟨o, es, ep, t, ho, hex, hd, g, nd, fun i => by
      rw [← hm i, Bool.and_eq_true]
      constructor
      · exact fun z => z.1
      · intro z
        refine ⟨z, ?_⟩
        have : i ≠ k := fun e => by rw [e, hyes] at z; cases z
        simp [this], hb, hf, hn, hr, hl⟩
    rw [hyes] at q
    exact wpAny_pure q
  | some j =>
    dsimp only
    obtain ⟨hj, pj, _⟩ := List.findIdx?_eq_some_iff_getElem.mp hwhere
    have hyes : S k = true := (hm k).2 ((good_mem (P := P) (w := w) g k).2 ⟨es.toList[j], List.getElem_mem hj, pj⟩)
    have hkj : keyOf es.toList[j] = k := (good_is (P := P) (w := w) (g _ (List.getElem_mem hj)) k).1 pj
    have hjs : j < es.size := by rw [Array.length_toList] at hj; exact hj
    obtain ⟨f1, f2⟩ : t.place.size = es.size ∧ t.fill ≤ t.mask := by
      simpa [SetTable.fits] using hf
    have hpl : t.place[j]? = some (t.place[j]'(by omega)) := Array.getElem?_eq_getElem _
    have hdrop : t.drop j = { t with place := SetTable.eraseAt t.place j, dummies := SetTable.insertAt t.dummies (SetTable.below t.dummies (t.place[j]'(by omega))) (t.place[j]'(by omega)) } := by
      unfold SetTable.drop
      rw [hpl]
    have pe := erase_perm es.toList j _ (List.getElem?_eq_getElem hj)
    have pk : (k :: (es.toList.eraseIdx j).map keyOf).Perm (es.toList.map keyOf) := by
      have z := pe.map keyOf
      rw [List.map_cons, hkj] at z
      exact z
    have el : (SetTable.eraseAt es j).toList = es.toList.eraseIdx j := eraseAt_list es j
    have hsz : (SetTable.eraseAt es j).size + 1 = es.size := by
      rw [← Array.length_toList, el, List.length_eraseIdx_of_lt hj, Array.length_toList]
      omega
    have hb1 : (SetTable.eraseAt es j).size < scanBound := by omega
    refine wpAny_bind (wpAny_setState_of ho hd hf ?_)
    dsimp only
    refine wpAny_bind (wpAny_storeSet_of ho hd ?_ (fits_of_scanBound hb1))
    refine wpAny_bind (wpAny_point (wpAny_pure ?_))
    have ho1 := store_at (es' := SetTable.eraseAt es j) (t' := t.drop j) ho hd
    have ndk := pk.nodup_iff.mpr nd
    have q := hQ _ (SetTable.eraseAt es j).size (by omega) (Heap.SameBut.update s.heap a (Obj.putSet (SetTable.eraseAt es j) (t.drop j)))
      ⟨_, SetTable.eraseAt es j, _, t.drop j, ho1, hex, rfl, fun e he => by
        rw [el] at he
        exact g e ((List.eraseIdx_sublist _ _).subset he), by
        rw [el]
        exact (List.nodup_cons.mp ndk).2, fun i => by
        rw [el, Bool.and_eq_true, hm i, ← pk.mem_iff, List.mem_cons]
        constructor
        · rintro ⟨z | z, y⟩
          · simp [z] at y
          · exact z
        · intro z
          refine ⟨.inr z, ?_⟩
          have : i ≠ k := fun e => (List.nodup_cons.mp ndk).1 (e ▸ z)
          simp [this], hb1, by
        rw [hdrop]
        unfold SetTable.fits
        rw [Bool.and_eq_true]
        have h1 : (SetTable.eraseAt t.place j).size + 1 = t.place.size := by
          rw [← Array.length_toList, eraseAt_list, List.length_eraseIdx_of_lt (by rw [Array.length_toList]; omega), Array.length_toList]
          omega
        have h2 : (SetTable.insertAt t.dummies (SetTable.below t.dummies t.place[j]) t.place[j]).size = t.dummies.size + 1 := by
          rw [← Array.length_toList, SetTable.toList_insertAt]
          simp only [List.length_append, List.length_cons, List.length_take, List.length_drop, Array.length_toList]
          omega
        have h3 : t.place.size + t.dummies.size ≤ t.mask := f2
        refine ⟨beq_iff_eq.mpr ?_, decide_eq_true ?_⟩
        · show (SetTable.eraseAt t.place j).size = (SetTable.eraseAt es j).size
          omega
        · show (SetTable.eraseAt t.place j).size + (SetTable.insertAt t.dummies (SetTable.below t.dummies t.place[j]) t.place[j]).size ≤ t.mask
          rw [h2]
          omega, rfl, by
        rw [hdrop]
        show Ris (SetTable.eraseAt t.place j).toList
        rw [eraseAt_list]
        exact List.Pairwise.sublist (List.eraseIdx_sublist _ _) hr, hl.imp id fun z => by
        rw [hdrop]
        exact z⟩
    rw [hyes] at q
    exact q
end
end Par
namespace Par
open PySem PySem.Spec PyProof.Rows L2
/-! ### a clean table has room for few small ints -/
def way (mask : Nat) : Nat → Nat → Nat → List Nat
  | 0, _, _ => []
  | f + 1, i, p => i :: way mask f (SetTable.leap mask i p).1 (SetTable.leap mask i p).2
def marks : List Nat → Nat → Nat
  | [], b => b
  | i :: l, b => marks l (b ||| (1 <<< i))
theorem marks_mem : ∀ (l : List Nat) (b j : Nat), (marks l b).testBit j = true → b.testBit j = true ∨ j ∈ l
  | [], b, j, h => .inl h
  | i :: l, b, j, h => by
    rcases marks_mem l _ j h with z | z
    · rw [Nat.testBit_or, Bool.or_eq_true] at z
      rcases z with z | z
      · exact .inl z
      · right
        rw [Nat.testBit_shiftLeft, Bool.and_eq_true, decide_eq_true_eq] at z
        have : j = i := by
          have z2 : j - i = 0 := by
            cases hji : j - i with
            | zero => rfl
            | succ c =>
              rw [hji] at z
              have y := z.2
              simp [Nat.testBit_succ] at y
          omega
        rw [this]
        exact List.mem_cons_self ..
    · exact .inr (List.mem_cons_of_mem _ z)
def covers : Bool := [7, 15, 31, 63, 127].all fun m => (List.range 40).all fun h => marks (way m (m + 15) (h % (m + 1)) h) 0 == 2 ^ (m + 1) - 1
theorem covers_all : covers = true := by decide +kernel
theorem way_all {m h j : Nat} (hm : m ∈ [7, 15, 31, 63, 127]) (hh : h < 40) (hj : j ≤ m) : j ∈ way m (m + 15) (h % (m + 1)) h := by
  have h1 := List.all_eq_true.mp (List.all_eq_true.mp covers_all m hm) h (List.mem_range.mpr hh)
  have h2 : marks (way m (m + 15) (h % (m + 1)) h) 0 = 2 ^ (m + 1) - 1 := by simpa using h1
  rcases marks_mem (way m (m + 15) (h % (m + 1)) h) 0 j (by rw [h2, Nat.testBit_two_pow_sub_one, decide_eq_true_eq]; omega) with z | z
  · simp at z
  · exact z
theorem free_of {mask : Nat} {owner : Array (Option Nat)} {j : Nat} (hn : owner.getD j (some 0) = none) : ∀ (f i p : Nat), j ∈ way mask f i p →
    ∃ r, SetTable.layClean.free mask owner f i p = some r ∧ owner.getD r (some 0) = none
  | 0, i, p, h => by simp [way] at h
  | f + 1, i, p, h => by
    rw [SetTable.layClean.free]
    cases hf : (List.range (SetTable.runEnd mask i + 1 - i)).find? fun k => (owner.getD (i + k) (some 0)).isNone with
    | some k =>
      refine ⟨i + k, rfl, ?_⟩
      have z := List.find?_some hf
      simpa using z
    | none =>
      dsimp only
      have hrun : i ≤ SetTable.runEnd mask i := by
        unfold SetTable.runEnd
        split <;> omega
      rcases List.mem_cons.mp (show j ∈ i :: way mask f (SetTable.leap mask i p).1 (SetTable.leap mask i p).2 from h) with z | z
      · exfalso
        have := List.find?_eq_none.mp hf 0 (List.mem_range.mpr (by omega))
        rw [Nat.add_zero, ← z, hn] at this
        exact this rfl
      · exact free_of hn f _ _ z
theorem some_none {l : List (Option Nat)} (h : (l.filterMap id).length < l.length) : ∃ j : Nat, l[j]? = some none := by
  induction l with
  | nil => simp at h
  | cons a l ih =>
    cases a with
    | none => exact ⟨0, rfl⟩
    | some x =>
      obtain ⟨j, hj⟩ := ih (by simpa using h)
      exact ⟨j + 1, by simpa using hj⟩
theorem set_none : ∀ {l : List (Option Nat)} {j k : Nat}, l[j]? = some none → ((l.set j (some k)).filterMap id).Perm (k :: l.filterMap id)
  | [], j, k, h => by simp at h
  | a :: l, 0, k, h => by
    have e : a = none := by simpa using h
    subst e
    simp
  | a :: l, j + 1, k, h => by
    have z := set_none (l := l) (j := j) (k := k) (by simpa using h)
    cases a with
    | none => simpa using z
    | some x =>
      rw [List.set_cons_succ]
      simp only [List.filterMap_cons, id_eq]
      exact (z.cons x).trans (List.Perm.swap ..)
/-- one number more, laid into its own place -/
def layStep (mask : Nat) (acc : Option (Array (Option Nat) × Nat)) (h : Int) : Option (Array (Option Nat) × Nat) :=
  acc.bind fun q => (SetTable.layClean.free mask q.1 (mask + 15) (SetTable.bits h % (mask + 1)) (SetTable.bits h)).bind fun j => some (q.1.setIfInBounds j (some q.2), q.2 + 1)
theorem fold_ok {mask : Nat} (hm : mask ∈ [7, 15, 31, 63, 127]) : ∀ (hs : List Int) (owner : Array (Option Nat)) (k : Nat), (∀ h ∈ hs, SetTable.bits h < 40) → owner.size = mask + 1 →
    (owner.toList.filterMap id).Perm (List.range k) → k + hs.length ≤ mask →
    ∃ owner', hs.foldl (layStep mask) (some (owner, k)) = some (owner', k + hs.length) ∧ owner'.size = mask + 1 ∧ (owner'.toList.filterMap id).Perm (List.range (k + hs.length))
  | [], owner, k, _, hz, hp, _ => ⟨owner, rfl, hz, hp⟩
  | h :: hs, owner, k, hb, hz, hp, hk => by
    have hlt : (owner.toList.filterMap id).length < owner.toList.length := by
      rw [hp.length_eq, List.length_range, Array.length_toList, hz]
      simp only [List.length_cons] at hk
      omega
    obtain ⟨j, hj⟩ := some_none hlt
    have hjs : j < owner.size := by
      have := (List.getElem?_eq_some_iff.mp hj).1
      rw [Array.length_toList] at this
      exact this
    have hn : owner.getD j (some 0) = none := by
      rw [Array.getElem?_toList] at hj
      simp [Array.getD_eq_getD_getElem?, hj]
    obtain ⟨r, hr, hrn⟩ := free_of hn (mask + 15) _ _ (way_all (j := j) hm (hb h (List.mem_cons_self ..)) (by omega))
    have hrs : r < owner.size := by
      by_cases c : r < owner.size
      · exact c
      · simp [Array.getD_eq_getD_getElem?, Array.getElem?_eq_none (Nat.le_of_not_lt c)] at hrn
    have hrl : owner.toList[r]? = some none := by
      rw [Array.getElem?_toList, Array.getElem?_eq_getElem hrs]
      simp [Array.getD_eq_getD_getElem?, Array.getElem?_eq_getElem hrs] at hrn
      rw [hrn]
    have hstep : layStep mask (some (owner, k)) h = some (owner.setIfInBounds r (some k), k + 1) := by
      unfold layStep
      show (SetTable.layClean.free mask owner (mask + 15) _ _).bind _ = _
      rw [hr]
      rfl
    obtain ⟨o2, e1, e2, e3⟩ := fold_ok hm hs (owner.setIfInBounds r (some k)) (k + 1) (fun x hx => hb x (List.mem_cons_of_mem _ hx)) (by rw [Array.size_setIfInBounds]; exact hz) (by
      rw [Array.toList_setIfInBounds]
      refine (set_none hrl).trans ?_
      rw [List.range_succ]
      exact (hp.cons k).trans (List.perm_append_singleton _ _).symm) (by simp only [List.length_cons] at hk; omega)
    refine ⟨o2, ?_, e2, ?_⟩
    · rw [List.foldl_cons, hstep, e1, List.length_cons]
      congr 2
      omega
    · rw [List.length_cons]
      have : k + (hs.length + 1) = k + 1 + hs.length := by omega
      rw [this]
      exact e3
theorem owner_list {owner : Array (Option Nat)} {n : Nat} (h : owner.size = n) : (List.range n).filterMap (fun j => owner.getD j none) = owner.toList.filterMap id := by
  have e : (List.range n).map (fun j => owner.getD j none) = owner.toList := by
    refine List.ext_getElem (by simp [h]) (fun i h1 h2 => ?_)
    have hi : i < owner.size := by rw [Array.length_toList] at h2; exact h2
    simp [Array.getD_eq_getD_getElem?, Array.getElem?_eq_getElem hi]
  rw [← e, List.filterMap_map]
  rfl
theorem clean_ok {mask finger moves : Nat} {led plain : Bool} {hashes : Array Int} (hm : mask ∈ [7, 15, 31, 63, 127]) (hb : ∀ h ∈ hashes.toList, SetTable.bits h < 40) (hz : hashes.size ≤ mask) :
    ∃ t order, SetTable.laid mask finger moves led plain hashes = some (t, order) ∧ order.toList.Perm (List.range hashes.size) ∧ Ris t.place.toList ∧ t.led = led ∧ t.place.size = hashes.size ∧ t.dummies = #[] ∧ t.mask = mask := by
  obtain ⟨owner, e1, e2, e3⟩ := fold_ok hm hashes.toList (Array.replicate (mask + 1) none) 0 hb (by simp) (by simp) (by rw [Array.length_toList]; omega)
  have e : SetTable.layClean mask hashes = some owner := by
    unfold SetTable.layClean
    rw [← Array.foldl_toList]
    show Option.map _ (hashes.toList.foldl (layStep mask) (some (Array.replicate (mask + 1) none, 0))) = _
    rw [e1]
    rfl
  have p2 : (((List.range (mask + 1)).filterMap fun j => (owner.getD j none).map (j, ·)).map (·.2)).Perm (List.range hashes.size) := by
    have : ((List.range (mask + 1)).filterMap fun j => (owner.getD j none).map (j, ·)).map (·.2) = (List.range (mask + 1)).filterMap fun j => owner.getD j none := by
      rw [List.map_filterMap]
      congr 1
      funext j
      cases owner.getD j none <;> rfl
    rw [this, owner_list e2]
    rw [Nat.zero_add, Array.length_toList] at e3
    exact e3
  unfold SetTable.laid
  rw [e]
  refine ⟨_, _, rfl, p2, ?_, rfl, ?_, rfl, rfl⟩
  · exact (ris_live (fun j => owner.getD j none) (List.range (mask + 1)) (by unfold Ris; first | exact List.pairwise_lt_range | exact List.pairwise_lt_range _)).1
  · show (((List.range (mask + 1)).filterMap fun j => (owner.getD j none).map (j, ·)).map (·.1)).toArray.size = _
    have := p2.length_eq
    rw [List.length_map, List.length_range] at this
    rw [List.size_toArray, List.length_map]
    exact this
end Par
namespace Par
open PySem PySem.Spec PyProof.Rows L2
def Cell (k : Int) : Prop := 0 ≤ k ∧ k < 40
theorem cells_few {L : List Int} (hn : L.Nodup) (h : ∀ k ∈ L, Cell k) : L.length ≤ 40 := by
  have := nodup_le (M := (List.range 40).map Int.ofNat) hn (fun k hk => by
    obtain ⟨h1, h2⟩ := h k hk
    exact List.mem_map.mpr ⟨k.toNat, List.mem_range.mpr (by omega), by simp; omega⟩)
  simpa using this
theorem bits_small : ∀ k : Nat, k < 40 → SetTable.bits (hashInt (k : Int)) < 40 := by decide +kernel
theorem bits_cell {k : Int} (h : Cell k) : SetTable.bits (hashInt k) < 40 := by
  have := bits_small k.toNat (by have := h.1; have := h.2; omega)
  rwa [Int.toNat_of_nonneg h.1] at this
theorem wide_enough : ∀ n : Nat, n ≤ 40 → SetTable.sizeAbove (n * 2) - 1 ∈ [7, 15, 31, 63, 127] ∧ n ≤ SetTable.sizeAbove (n * 2) - 1 ∧ SetTable.sizeAbove (n * 2) ≤ 128 := by decide +kernel
section
variable {P : Program} {w : World} {A : Around} {E : Value → Shared → Prop} {s : Shared} {a : Addr} {S : Int → Bool} {n : Nat}
theorem SetR.few (R : SetR w s.heap a S n) (h : ∀ k, S k = true → Cell k) : n ≤ 40 := by
  obtain ⟨o, es, ep, t, ho, hx, hd, g, nd, hm, hb, hf, hn, hr, hl⟩ := R
  have := cells_few nd (fun k hk => h k ((hm k).2 hk))
  rw [List.length_map, Array.length_toList, hn] at this
  exact this
/-- a set that is still empty, its table -/
def NewSet (w : World) (h : Heap) (r : Addr) (n : Nat) : Prop := ∃ o ep t, h.get? r = some o ∧ o.ExactSet ∧ o.data = .set #[] ep t ∧ t.place = #[] ∧ t.dummies = #[] ∧ (w.params.followText "set-order" = true ∨ t.led = true) ∧
  t.mask ∈ [7, 15, 31, 63, 127] ∧ n ≤ t.mask
theorem room_new {r : Addr} {Q : Unit → Shared → Prop} (hn : n ≤ 40)
    (hr : s.heap.get? r = some { cls := .type "set", dict := none, data := .set #[] 0 (.fresh 0 0 (!w.params.followText "set-order")) })
    (hQ : ∀ h', Heap.SameBut r s.heap h' → NewSet w h' r n → Q () { s with heap := h' }) : wpAny (model P w) A (setRoomFor r n) Q E s := by
  have led : w.params.followText "set-order" = true ∨ (!w.params.followText "set-order") = true := by
    cases w.params.followText "set-order"
    · exact .inr rfl
    · exact .inl rfl
  unfold setRoomFor
  refine wpAny_bind (wpAny_setState_of hr rfl rfl ?_)
  dsimp only
  by_cases h5 : n * 5 ≥ 21
  · have e : (SetTable.fresh 0 0 (!w.params.followText "set-order")).roomFor n = some (n * 2) := by
      unfold SetTable.roomFor SetTable.fill SetTable.fresh
      simp [h5]
    rw [e]
    dsimp only
    unfold setRelay
    refine wpAny_bind (wpAny_setState_of hr rfl rfl ?_)
    dsimp only
    obtain ⟨w1, w2, w3⟩ := wide_enough n hn
    refine wp_if_neg (by rw [sizeLine_eq]; omega) ?_
    try refine wpAny_bind (wpAny_pure ?_)
    obtain ⟨t, order, e1, e2, e3, e4, e5, e6, e7⟩ := clean_ok (finger := 0) (moves := (SetTable.fresh 0 0 (!w.params.followText "set-order")).movedTo (SetTable.sizeAbove (n * 2) - 1)) (led := !w.params.followText "set-order") (plain := true) (hashes := #[]) w1 (by simp) (by simp)
    have e8 : (SetTable.fresh 0 0 (!w.params.followText "set-order")).relaid ((#[] : Array (Int × Value)).map (·.1)) (n * 2) = some (t, order) := by
      have q : ((#[] : Array (Int × Value)).map (·.1)) = #[] := by simp
      rw [q]
      exact e1
    rw [e8]
    have eo : order = #[] := by
      have : order.toList = [] := List.length_eq_zero_iff.mp (by rw [e2.length_eq]; simp)
      exact Array.toList_eq_nil_iff.mp this
    subst eo
    refine wpAny_bind (wpAny_pure ?_)
    refine wpAny_storeSet_of hr rfl ?_ (by simp)
    have ho1 := store_at (es' := #[]) (t' := t) hr rfl
    refine hQ _ (Heap.SameBut.update s.heap r _) ⟨_, _, t, ho1, ⟨rfl, rfl, rfl⟩, rfl, by simpa using e5, e6, by rw [e4]; exact led, by rw [e7]; exact w1, by rw [e7]; exact w2⟩
  · have e : (SetTable.fresh 0 0 (!w.params.followText "set-order")).roomFor n = none := by
      unfold SetTable.roomFor SetTable.fill SetTable.fresh
      simp [h5]
    rw [e]
    dsimp only
    exact wpAny_pure (hQ s.heap (Heap.SameBut.refl r s.heap) ⟨_, _, _, hr, ⟨rfl, rfl, rfl⟩, rfl, rfl, rfl, led, by simp [SetTable.fresh], by show n ≤ 7; omega⟩)
theorem merge_new {r o : Addr} {each : Sem Unit} {Q : Unit → Shared → Prop}
    (hr : s.heap.get? r = some { cls := .type "set", dict := none, data := .set #[] 0 (.fresh 0 0 (!w.params.followText "set-order")) })
    (R : SetR w s.heap o S n) (hne : r ≠ o) (hS : ∀ k, S k = true → Cell k)
    (hQ : ∀ h', Heap.SameBut r s.heap h' → SetR w h' r S n → Q () { s with heap := h' }) : wpAny (model P w) A (setMerge r o each) Q E s := by
  have hn40 := SetR.few R hS
  obtain ⟨oo, es, ep, t, ho, hx, hd, g, nd, hm, hb, hf, hn, hrs, hl⟩ := id R
  have led : w.params.followText "set-order" = true ∨ (!w.params.followText "set-order") = true := by
    cases w.params.followText "set-order"
    · exact .inr rfl
    · exact .inl rfl
  unfold setMerge
  refine wp_if_neg (by simpa using hne) ?_
  try refine wpAny_bind (wpAny_pure ?_)
  refine wpAny_bind (wpAny_setState_of ho hd hf ?_)
  dsimp only
  by_cases he : es.isEmpty = true
  · refine wp_if_pos he ?_
    have e0 : es = #[] := by simpa using he
    subst e0
    refine wpAny_pure (hQ s.heap (Heap.SameBut.refl r s.heap) ⟨_, #[], _, _, hr, ⟨rfl, rfl, rfl⟩, rfl, g, nd, hm, hb, rfl, hn, List.Pairwise.nil, led⟩)
  · refine wp_if_neg he ?_
    try refine wpAny_bind (wpAny_pure ?_)
    rw [hn]
    refine wpAny_bind (room_new hn40 hr fun h1 sb1 new => ?_)
    obtain ⟨o1, ep1, t1, ho1, hx1, hd1, hp1, hdm1, hl1, hm1, hk1⟩ := new
    have hf1 : t1.fits (#[] : Array (Int × Value)).size = true := by
      simp [SetTable.fits, SetTable.fill, hp1, hdm1]
    refine wpAny_bind (wpAny_setState_of (es := #[]) ho1 hd1 hf1 ?_)
    dsimp only
    have hfill : t1.fill = 0 := by simp [SetTable.fill, hp1, hdm1]
    cases hroad : t1.road t with
    | oneByOne =>
      exfalso
      unfold SetTable.road at hroad
      rw [hfill] at hroad
      simp at hroad
      split at hroad <;> simp at hroad
    | slotForSlot =>
      dsimp only
      refine wpAny_storeSet_of ho1 hd1 ?_ (fits_of_scanBound hb)
      have ho2 := store_at (es' := es) (t' := { t with finger := t1.finger, led := t1.led && t.led, moves := t1.moves, plain := t1.plain && t.plain }) ho1 hd1
      refine hQ _ (sb1.trans (Heap.SameBut.update h1 r _)) ⟨_, es, _, _, ho2, hx1, rfl, g, nd, hm, hb, hf, hn, hrs, ?_⟩
      rcases hl with z | z
      · exact .inl z
      · rcases hl1 with y | y
        · exact .inl y
        · exact .inr (by show (t1.led && t.led) = true; rw [z, y]; rfl)
    | clean =>
      dsimp only
      have hsm : (es.map (·.1)).size = es.size := Array.size_map ..
      obtain ⟨t2, order, e1, e2, e3, e4, e5, e6, e7⟩ := clean_ok (finger := t1.finger) (moves := t1.moves) (led := t1.led && t.led) (plain := t1.plain && t.plain) (hashes := es.map (·.1)) hm1 (fun h hh => by
        rw [Array.toList_map] at hh
        obtain ⟨e, he, rfl⟩ := List.mem_map.mp hh
        obtain ⟨k, tk, q1, q2⟩ := g e he
        rw [q2]
        refine bits_cell (hS k ((hm k).2 (List.mem_map.mpr ⟨e, he, ?_⟩)))
        unfold keyOf
        rw [q1]) (by rw [hsm]; omega)
      rw [e1]
      rw [hsm] at e2 e5
      have pm : (order.filterMap (es[·]?)).toList.Perm es.toList := by
        rw [Array.toList_filterMap]
        exact (e2.filterMap _).trans (by rw [filterMap_getElem?_range])
      have hsz : (order.filterMap (es[·]?)).size = es.size := by rw [← Array.length_toList, pm.length_eq, Array.length_toList]
      refine wpAny_bind (wpAny_of_eq (a := (order.filterMap (es[·]?), t2)) ?_ ?_)
      · show (do
          if ((order.filterMap (es[·]?)).size != es.size) = true then unsupported "internal:set-table-lost-an-element"
          pure (order.filterMap (es[·]?), t2)) = _
        rw [if_neg (by rw [hsz]; simp)]
        try rfl
      · dsimp only
        refine wpAny_storeSet_of ho1 hd1 ?_ (by rw [hsz]; exact fits_of_scanBound hb)
        have ho2 := store_at (es' := order.filterMap (es[·]?)) (t' := t2) ho1 hd1
        refine hQ _ (sb1.trans (Heap.SameBut.update h1 r _)) ⟨_, _, _, t2, ho2, hx1, rfl, fun e he => g e (pm.mem_iff.mp he), (pm.map keyOf).nodup_iff.mpr nd, fun k => (hm k).trans (pm.map keyOf).mem_iff.symm, by rw [hsz]; exact hb, ?_, by rw [hsz]; exact hn, e3, ?_⟩
        · rw [hsz]
          have : t2.place.size + t2.dummies.size ≤ t2.mask := by
            rw [e5, e6, e7]
            simp
            omega
          simp [SetTable.fits, SetTable.fill, e5, e6, e7]
          omega
        · rw [e4]
          rcases hl with z | z
          · exact .inl z
          · rcases hl1 with y | y
            · exact .inl y
            · exact .inr (by rw [z, y]; rfl)
end
end Par
namespace Par
open PySem PySem.Spec PyProof.Rows L2
theorem entry_set_xor : entryFor table "set.__xor__" = some Builtin.«frozenset.__xor__» :=
  entryFor_alias (id' := "frozenset.__xor__") (by kernel_rfl) rfl (by decide +kernel) (by kernel_rfl)
theorem entry_set_and : entryFor table "set.__and__" = some Builtin.«frozenset.__and__» :=
  entryFor_alias (id' := "frozenset.__and__") (by kernel_rfl) rfl (by decide +kernel) (by kernel_rfl)
section
variable {P : Program} {w : World} {A : Around} {E : Value → Shared → Prop} {s : Shared} {a : Addr} {S : Int → Bool} {n : Nat}
theorem set_typ (R : SetR w s.heap a S n) : s.TypeIs (.ref a) "set" := by
  obtain ⟨o, es, ep, t, ho, hx, _⟩ := R
  exact ⟨o, ho, hx.1⟩
theorem any_set {Q : Bool → Shared → Prop} (hT : s.TypeIs (.ref a) "set") (h : Q true s) : wpAny (model P w) A (Builtin.Frozenset.isAnySet (.ref a)) Q E s := by
  unfold Builtin.Frozenset.isAnySet
  refine wpAny_bind (wpAny_isInstance hT sub_set_self ?_)
  exact wpAny_pure h
theorem base_set {Q : Value → Shared → Prop} (hT : s.TypeIs (.ref a) "set") (h : Q (.type "set") s) : wpAny (model P w) A (Builtin.Frozenset.baseOf a) Q E s := by
  unfold Builtin.Frozenset.baseOf
  refine wpAny_bind (wpAny_isInstance hT sub_set_self ?_)
  exact wpAny_pure h
theorem new_set {Q : Value → Shared → Prop} (h : Q (.ref s.heap.objs.size) { s with heap := s.heap.push { cls := .type "set", dict := none, data := .set #[] 0 (.fresh 0 0 (!w.params.followText "set-order")) } }) :
    wpAny (model P w) A (newSet (.type "set")) Q E s := by
  unfold newSet
  refine wpAny_bind (wpAny_byText ?_)
  dsimp only
  simp only [newObj]
  refine wpAny_bind (wpAny_alloc (wpAny_pure ?_))
  exact h
theorem flip_one {k : Int} {tk : Tok} {Q : Unit → Shared → Prop} (R : SetR w s.heap a S n) (room : n + 1 < scanBound)
    (hQ : ∀ h' m, m ≤ n + 1 → Heap.SameBut a s.heap h' → SetR w h' a (fun j => xor (S j) (decide (j = k))) m → Q () { s with heap := h' }) :
    wpAny (model P w) A (holding [.int k tk] (do
      if !(← setDiscardHashed a (.int k tk) ((intKind P w).hash k)) then
        let _ ← setAddHashed a (.int k tk) ((intKind P w).hash k))) Q E s := by
  refine wpAny_holding (wpAny_bind (discard_hashed R fun h1 m hm sb1 R1 => ?_))
  cases hk : S k with
  | true =>
    refine wp_if_neg (by simp) ?_
    refine wpAny_pure (hQ h1 m (by omega) sb1 (R1.congr fun j => ?_))
    by_cases e : j = k
    · subst e
      rw [hk]
      simp
    · simp [e]
  | false =>
    refine wp_if_pos (by simp) ?_
    refine wpAny_bind (setR_add_hashed (s := { s with heap := h1 }) R1 (by omega) fun h2 sb2 R2 => ?_)
    refine wpAny_pure (hQ h2 _ (by split <;> omega) (sb1.trans sb2) (R2.congr fun j => ?_))
    by_cases e : j = k
    · subst e
      rw [hk]
      simp
    · simp [e]
theorem flip_all {body : Int × Value → PUnit → Sem (ForInStep PUnit)} {o : Addr} {oo : Obj} (hne : o ≠ a)
    (hb : ∀ (e : Int × Value) (s : Shared) (S : Int → Bool) (n : Nat) (Q : ForInStep PUnit → Shared → Prop), GoodE e → s.heap.get? o = some oo → SetR w s.heap a S n → n + 1 < scanBound →
      (∀ h' m, m ≤ n + 1 → Heap.SameBut a s.heap h' → SetR w h' a (fun j => xor (S j) (decide (j = keyOf e))) m → Q (.yield ⟨⟩) { s with heap := h' }) → wpAny (model P w) A (body e ⟨⟩) Q E s) :
    ∀ (l : List (Int × Value)) (s : Shared) (S : Int → Bool) (n : Nat) (Q : PUnit → Shared → Prop), (∀ e ∈ l, GoodE e) → (l.map keyOf).Nodup → s.heap.get? o = some oo → SetR w s.heap a S n → n + l.length + 1 < scanBound →
      (∀ h' m, Heap.SameBut a s.heap h' → SetR w h' a (fun j => xor (S j) (decide (j ∈ l.map keyOf))) m → Q ⟨⟩ { s with heap := h' }) → wpAny (model P w) A (forIn l ⟨⟩ body) Q E s
  | [], s, S, n, Q, _, _, _, R, _, hQ => by
    rw [List.forIn_nil]
    exact wpAny_pure (hQ s.heap n (Heap.SameBut.refl a s.heap) (R.congr fun j => by simp))
  | e :: l, s, S, n, Q, g, nd, Ro, R, room, hQ => by
    rw [List.forIn_cons]
    simp only [List.length_cons] at room
    refine wpAny_bind (hb e s S n _ (g e (List.mem_cons_self ..)) Ro R (by omega) fun h1 m hm sb1 R1 => ?_)
    have nd' := List.nodup_cons.mp (show (keyOf e :: l.map keyOf).Nodup from nd)
    refine flip_all hne hb l { s with heap := h1 } _ m Q (fun x hx => g x (List.mem_cons_of_mem _ hx)) nd'.2 ((sb1.2 o hne).trans Ro) R1 (by omega) fun h2 m2 sb2 R2 => ?_
    refine hQ h2 m2 (sb1.trans sb2) (R2.congr fun j => ?_)
    show xor (S j) (decide (j ∈ keyOf e :: l.map keyOf)) = xor (xor (S j) (decide (j = keyOf e))) (decide (j ∈ l.map keyOf))
    by_cases e1 : j = keyOf e
    · have : j ∉ l.map keyOf := fun z => nd'.1 (e1 ▸ z)
      have hin : j ∈ keyOf e :: l.map keyOf := by
        rw [e1]
        exact List.mem_cons_self ..
      rw [decide_eq_true hin, decide_eq_true e1, decide_eq_false this]
      simp
    · by_cases e2 : j ∈ l.map keyOf
      · rw [decide_eq_true (List.mem_cons_of_mem _ e2), decide_eq_true e2, decide_eq_false e1]
        simp
      · have hout : j ∉ keyOf e :: l.map keyOf := fun z => by
          rcases List.mem_cons.mp z with z | z
          · exact e1 z
          · exact e2 z
        rw [decide_eq_false hout, decide_eq_false e2, decide_eq_false e1]
        simp
def symOf (id : String) (l : Addr) (r : Value) : Sem Value := do
  let result ← Builtin.Frozenset.newFrom id (← Builtin.Frozenset.baseOf l) r
  holding [result] (Builtin.Frozenset.symmetricDifferenceUpdate id (← Builtin.Frozenset.addrOf result) (.ref l))
  return result
theorem call_xor {b : Addr} {T : Int → Bool} {m : Nat} {Q : Value → Shared → Prop} (Ra : SetR w s.heap a S n) (Rb : SetR w s.heap b T m) (hS : ∀ k, S k = true → Cell k) (hT : ∀ k, T k = true → Cell k)
    (hQ : ∀ h' c, (∀ x u, s.heap.get? x = some u → h'.get? x = some u) → SetR w h' s.heap.objs.size (fun k => xor (S k) (T k)) c → c ≤ 40 → Q (.ref s.heap.objs.size) { s with heap := h' }) :
    wpAny (model P w) A (call (.builtin "set.__xor__") [.ref a, .ref b]) Q E s := by
  have ta : s.TypeIs (.ref a) "set" := set_typ Ra
  have tb : s.TypeIs (.ref b) "set" := set_typ Rb
  have la := Ra.lt
  have lb := Rb.lt
  refine wpAny_call_entry F.slot_set_xor ta entry_set_xor ?_ (F.args_set_xor_2 _ _)
  unfold Builtin.«frozenset.__xor__»
  show wpAny _ _ (do
    let (self, other) ← Builtin.Frozenset.slot1 "__xor__" ⟨[.ref a, .ref b], []⟩
    let (l, r) := if false = true then (other, self) else (self, other)
    if !(← Builtin.Frozenset.isAnySet l <&&> Builtin.Frozenset.isAnySet r) then rule s!"frozenset.{"__xor__"}.declined"; return ← ret .notImplemented
    ret (← symOf s!"frozenset.{"__xor__"}" (← Builtin.Frozenset.addrOf l) r)) _ _ s
  refine wpAny_bind (wpAny_of_eq (a := (Value.ref a, Value.ref b)) (by rfl) ?_)
  dsimp only
  rw [if_neg Bool.false_ne_true]
  dsimp only
  refine wpAny_bind (wpAny_bind (any_set ta ?_))
  show wpAny _ _ (Builtin.Frozenset.isAnySet (.ref b)) _ _ s
  refine any_set tb ?_
  refine wp_if_neg (by simp) ?_
  refine wpAny_bind (m := Builtin.Frozenset.addrOf (.ref a)) (wpAny_pure ?_)
  refine wpAny_bind ?_
  unfold symOf
  refine wpAny_bind (base_set ta ?_)
  refine wpAny_bind ?_
  unfold Builtin.Frozenset.newFrom
  refine wpAny_bind (new_set ?_)
  generalize hr : s.heap.objs.size = r at *
  have hget : (s.heap.push { cls := .type "set", dict := none, data := .set #[] 0 (.fresh 0 0 (!w.params.followText "set-order")) }).get? s.heap.objs.size = some { cls := .type "set", dict := none, data := .set #[] 0 (.fresh 0 0 (!w.params.followText "set-order")) } := Heap.get?_push_size _ rfl
  generalize hg : s.heap.push { cls := .type "set", dict := none, data := .set #[] 0 (.fresh 0 0 (!w.params.followText "set-order")) } = g at *
  have keep : ∀ x u, s.heap.get? x = some u → g.get? x = some u := fun x u e => by
    rw [← hg]
    exact Heap.get?_push_of_some _ e
  have Ra1 : SetR w g a S n := Ra.at fun u e => keep a u e
  have Rb1 : SetR w g b T m := Rb.at fun u e => keep b u e
  refine wpAny_bind (m := Builtin.Frozenset.addrOf (.ref r)) (wpAny_pure ?_)
  refine wpAny_bind (wpAny_holding ?_)
  unfold Builtin.Frozenset.updateFrom
  refine wpAny_bind (any_set (s := { s with heap := g }) (set_typ Rb1) ?_)
  refine wp_if_pos rfl ?_
  refine wpAny_bind (m := Builtin.Frozenset.addrOf (.ref b)) (wpAny_pure ?_)
  unfold Builtin.Frozenset.merge
  obtain ⟨ob, esb, epb, tb2, hob, hxb, hdb, _, _, _, _, hfb, _⟩ := id Rb1
  refine wpAny_bind (wpAny_setEpoch_of hob hdb hfb ?_)
  rw [hr] at hget
  refine merge_new (s := { s with heap := g }) hget Rb1 (Nat.ne_of_gt lb) hT fun h1 sb1 R1 => ?_
  refine wpAny_pure ?_
  refine wpAny_bind (m := Builtin.Frozenset.addrOf (.ref r)) (wpAny_pure ?_)
  refine wpAny_bind (wpAny_holding ?_)
  have hra : a ≠ r := Nat.ne_of_lt la
  have Ra2 : SetR w h1 a S n := Ra1.at fun u e => (sb1.2 a hra).trans e
  unfold Builtin.Frozenset.symmetricDifferenceUpdate
  refine wp_if_neg (by simpa using hra) ?_
  try refine wpAny_bind (wpAny_pure ?_)
  dsimp only
  refine wpAny_bind (wpAny_typeOf (s := { s with heap := h1 }) (set_typ Ra2) ?_)
  refine wp_if_neg (by decide) ?_
  try refine wpAny_bind (wpAny_pure ?_)
  refine wpAny_bind (any_set (s := { s with heap := h1 }) (set_typ Ra2) ?_)
  refine wp_if_pos rfl ?_
  refine wpAny_bind (wpAny_pure ?_)
  refine wpAny_bind (m := Builtin.Frozenset.addrOf (.ref a)) (wpAny_pure ?_)
  obtain ⟨oa, esa, epa, ta2, hoa, hxa, hda, _, _, _, _, hfa, _⟩ := id Ra2
  refine wpAny_bind (wpAny_setEpoch_of hoa hda hfa ?_)
  refine wpAny_holding ?_
  refine wpAny_bind (walk_unseen (s := { s with heap := h1 }) (f := r) Ra2 (fun x hx => by rw [List.mem_singleton.mp hx]; exact ⟨T, m, R1⟩) R1 fun l h2 sb2 R2 gl => ?_)
  obtain ⟨gl1, gl2, gl3, gl4⟩ := gl
  have n40 : n ≤ 40 := SetR.few (s := { s with heap := h1 }) Ra2 hS
  have m40 : m ≤ 40 := SetR.few (s := { s with heap := h1 }) R1 hT
  rw [← Array.forIn_toList]
  refine wpAny_bind (flip_all (a := r) (o := a) (oo := oa) hra ?_ l.toList { s with heap := h2 } T m _ gl1 gl2 ((sb2.2 a hra).trans hoa) R2 (by rw [Array.length_toList, gl4]; unfold scanBound; omega) fun h3 c sb3 R3 => ?_)
  · intro e s0 S0 n0 Q0 ge ho0 R0 room q0
    obtain ⟨k, tk, e1, e2⟩ := ge
    obtain ⟨eh, ev⟩ := e
    dsimp only at e1 e2
    subst e1
    subst e2
    refine wpAny_bind (flip_one R0 room fun h' m' hm' sb' R' => ?_)
    refine wpAny_bind ?_
    unfold Builtin.Frozenset.unchanged
    refine wpAny_bind (wpAny_setEpoch_of ((sb'.2 a hra).trans ho0) hda hfa ?_)
    refine wp_if_neg (by simp) ?_
    exact wpAny_pure (wpAny_pure (q0 h' m' hm' sb' R'))
  refine wpAny_pure (wpAny_pure (wpAny_pure ⟨_, rfl, ?_⟩))
  have Rf : SetR w h3 r (fun k => xor (S k) (T k)) c := R3.congr fun k => by
    have : S k = decide (k ∈ l.toList.map keyOf) := by
      cases h : S k with
      | true => rw [decide_eq_true ((gl3 k).1 h)]
      | false =>
        have : k ∉ l.toList.map keyOf := fun z => by
          have := (gl3 k).2 z
          rw [h] at this
          cases this
        rw [decide_eq_false this]
    rw [this]
    exact Bool.xor_comm _ _
  refine hQ h3 c (fun x u e => ?_) Rf (SetR.few (s := { s with heap := h3 }) Rf fun k hk => ?_)
  · have hxr : x ≠ r := by
      rw [← hr]
      exact Nat.ne_of_lt (Heap.lt_size e)
    exact (sb3.2 x hxr).trans ((sb2.2 x hxr).trans ((sb1.2 x hxr).trans (keep x u e)))
  · cases h : S k with
    | true => exact hS k h
    | false =>
      rw [h] at hk
      exact hT k (by simpa using hk)
end
end Par
namespace Par
open PySem PySem.Spec PyProof.Rows L2
section
variable {X : Cx}
/-- set(t), t a tuple of ints -/
def rSetTup (K : PySem.W.Frag) (w : World) : List V → Hp → VK → Prop := fun xs H Q => ∃ (l : Addr) (ns : List Int), xs = [V.ref l] ∧ SqT K H l (ns.map V.int) ∧ ns.length ≤ 4000 ∧
  ∀ p c, H p = none → Q (.ref p) (upd H p (SetO w p (fun j => decide (j ∈ ns)) c))
theorem cr_setTup (hc : X.calm = true) : CallR X (.type "set") (rSetTup X.K X.w) := by
  intro pins s σ H xs us Q I r h
  obtain ⟨l, ns, rfl, hq, hl, q⟩ := h
  rw [Vals.ref1 r]
  obtain ⟨its, rv, tup, hz⟩ := I.tuple hq
  refine L2.call_set_tupI ns (I.ok.hd hc) tup (by simpa using numbers_of rv) (by unfold scanBound; omega) ?_
  intro h' tk c hS hcn hk
  exact ⟨.ref _, _, I.laid (t' := tk) hk (Nat.le_refl _) (setO_new hS), rfl, q _ c (I.hok.fresh (Nat.le_refl _))⟩
/-- one ^ other, sets of cells -/
def rXor (w : World) : V → V → Hp → VK → Prop := fun x y H Q => ∃ (a b : Addr) (S T : Int → Bool) (n m : Nat), x = V.ref a ∧ y = V.ref b ∧ H a = some (SetO w a S n) ∧ H b = some (SetO w b T m) ∧
  (∀ k, S k = true → Cell k) ∧ (∀ k, T k = true → Cell k) ∧ ∀ p c, H p = none → c ≤ 40 → Q (.ref p) (upd H p (SetO w p (fun k => xor (S k) (T k)) c))
theorem op_xorS : OpR X (binaryOp .BitXor) (rXor X.w) := by
  intro pins s σ H x y v u Q I rx ry h
  obtain ⟨a, b, S, T, n, m, rfl, rfl, ha, hb, hS, hT, q⟩ := h
  cases rx
  cases ry
  have Ra := setO_get I ha
  have Rb := setO_get I hb
  refine wpAny_binaryOp_same (op := .BitXor) (T := "set") (set_typ Ra) (set_typ Rb) F.fills_set_xor F.slot_set_xor ?_
  refine call_xor Ra Rb hS hT fun h' c k R c40 => ⟨by simp, ?_⟩
  exact ⟨.ref _, _, I.laid (t' := s.toks) k (Nat.le_refl _) (setO_new R), rfl, q _ c (I.hok.fresh (Nat.le_refl _)) c40⟩
end
end Par
namespace Par
open PySem PySem.Spec PyProof.Rows L2
section
variable {P : Program} {w : World} {A : Around} {E : Value → Shared → Prop} {s : Shared} {a : Addr} {S : Int → Bool} {n : Nat}
/-- how many members a set has -/
theorem SetR.count (R : SetR w s.heap a S n) {L : List Int} (hn : L.Nodup) (hm : ∀ k, k ∈ L ↔ S k = true) : n = L.length := by
  obtain ⟨o, es, ep, t, ho, hx, hd, g, nd, hs, hb, hf, hz, hr, hl⟩ := R
  have h1 := nodup_le nd (fun k hk => (hm k).mpr ((hs k).2 hk))
  have h2 := nodup_le hn (fun k hk => (hs k).1 ((hm k).mp hk))
  have h3 : (es.toList.map keyOf).length = n := by rw [List.length_map, Array.length_toList, hz]
  rw [h3] at h1 h2
  omega
theorem both_one {q : Addr} {T : Int → Bool} {nq : Nat} {k : Int} {tk : Tok} {Q : Unit → Shared → Prop} (Rq : SetR w s.heap q T nq) (R : SetR w s.heap a S n) (room : n + 1 < scanBound)
    (hQ : ∀ h' m, m ≤ n + 1 → Heap.SameBut a s.heap h' → SetR w h' a (fun j => S j || (T j && decide (j = k))) m → Q () { s with heap := h' }) :
    wpAny (model P w) A (holding [.int k tk] (do
      if (← setFind q (.int k tk) ((intKind P w).hash k)).isSome then
        let _ ← setAddHashed a (.int k tk) ((intKind P w).hash k))) Q E s := by
  refine wpAny_holding (wpAny_bind (wpAny_setFind_of (knd := intKind P w) (intKind_is P w k tk) rfl Rq.setOf fun r hr => ?_))
  cases hT : T k with
  | true =>
    rw [hT] at hr
    refine wp_if_pos hr ?_
    refine wpAny_bind (setR_add_hashed R room fun h2 sb2 R2 => ?_)
    refine wpAny_pure (hQ h2 _ (by split <;> omega) sb2 (R2.congr fun j => ?_))
    by_cases e : j = k
    · subst e
      rw [hT]
      simp
    · simp [e]
  | false =>
    rw [hT] at hr
    refine wp_if_neg (by rw [hr]; exact Bool.false_ne_true) ?_
    refine wpAny_pure (hQ s.heap n (by omega) (Heap.SameBut.refl a s.heap) (R.congr fun j => ?_))
    by_cases e : j = k
    · subst e
      rw [hT]
      simp
    · simp [e]
theorem both_all {body : Int × Value → PUnit → Sem (ForInStep PUnit)} {o q : Addr} {oo : Obj} {T : Int → Bool} {nq : Nat} (hne : o ≠ a) (hnq : q ≠ a)
    (hb : ∀ (e : Int × Value) (s : Shared) (S : Int → Bool) (n : Nat) (Q : ForInStep PUnit → Shared → Prop), GoodE e → s.heap.get? o = some oo → SetR w s.heap q T nq → SetR w s.heap a S n → n + 1 < scanBound →
      (∀ h' m, m ≤ n + 1 → Heap.SameBut a s.heap h' → SetR w h' a (fun j => S j || (T j && decide (j = keyOf e))) m → Q (.yield ⟨⟩) { s with heap := h' }) → wpAny (model P w) A (body e ⟨⟩) Q E s) :
    ∀ (l : List (Int × Value)) (s : Shared) (S : Int → Bool) (n : Nat) (Q : PUnit → Shared → Prop), (∀ e ∈ l, GoodE e) → s.heap.get? o = some oo → SetR w s.heap q T nq → SetR w s.heap a S n → n + l.length + 1 < scanBound →
      (∀ h' m, Heap.SameBut a s.heap h' → SetR w h' a (fun j => S j || (T j && decide (j ∈ l.map keyOf))) m → Q ⟨⟩ { s with heap := h' }) → wpAny (model P w) A (forIn l ⟨⟩ body) Q E s
  | [], s, S, n, Q, _, _, _, R, _, hQ => by
    rw [List.forIn_nil]
    exact wpAny_pure (hQ s.heap n (Heap.SameBut.refl a s.heap) (R.congr fun j => by simp))
  | e :: l, s, S, n, Q, g, Ro, Rq, R, room, hQ => by
    rw [List.forIn_cons]
    simp only [List.length_cons] at room
    refine wpAny_bind (hb e s S n _ (g e (List.mem_cons_self ..)) Ro Rq R (by omega) fun h1 m hm sb1 R1 => ?_)
    refine both_all hne hnq hb l { s with heap := h1 } _ m Q (fun x hx => g x (List.mem_cons_of_mem _ hx)) ((sb1.2 o hne).trans Ro) (Rq.at fun u e' => (sb1.2 q hnq).trans e') R1 (by omega) fun h2 m2 sb2 R2 => ?_
    refine hQ h2 m2 (sb1.trans sb2) (R2.congr fun j => ?_)
    show (S j || (T j && decide (j ∈ keyOf e :: l.map keyOf))) = ((S j || (T j && decide (j = keyOf e))) || (T j && decide (j ∈ l.map keyOf)))
    have hd : decide (j ∈ keyOf e :: l.map keyOf) = (decide (j = keyOf e) || decide (j ∈ l.map keyOf)) := by
      rw [Bool.eq_iff_iff]
      simp only [decide_eq_true_eq, Bool.or_eq_true, List.mem_cons]
    rw [hd]
    cases S j <;> cases T j <;> simp
theorem call_and {b : Addr} {T : Int → Bool} {m : Nat} {Q : Value → Shared → Prop} (Ra : SetR w s.heap a S n) (Rb : SetR w s.heap b T m) (nab : a ≠ b) (hS : ∀ k, S k = true → Cell k) (hT : ∀ k, T k = true → Cell k)
    (hQ : ∀ h' c, (∀ x u, s.heap.get? x = some u → h'.get? x = some u) → SetR w h' s.heap.objs.size (fun k => S k && T k) c → Q (.ref s.heap.objs.size) { s with heap := h' }) :
    wpAny (model P w) A (call (.builtin "set.__and__") [.ref a, .ref b]) Q E s := by
  have ta : s.TypeIs (.ref a) "set" := set_typ Ra
  have tb : s.TypeIs (.ref b) "set" := set_typ Rb
  have la := Ra.lt
  have lb := Rb.lt
  have n40 : n ≤ 40 := SetR.few Ra hS
  have m40 : m ≤ 40 := SetR.few Rb hT
  refine wpAny_call_entry F.slot_set_and ta entry_set_and ?_ (F.args_set_and_2 _ _)
  unfold Builtin.«frozenset.__and__»
  show wpAny _ _ (do
    let (self, other) ← Builtin.Frozenset.slot1 "__and__" ⟨[.ref a, .ref b], []⟩
    let (l, r) := if false = true then (other, self) else (self, other)
    if !(← Builtin.Frozenset.isAnySet l <&&> Builtin.Frozenset.isAnySet r) then rule s!"frozenset.{"__and__"}.declined"; return ← ret .notImplemented
    ret (← Builtin.Frozenset.intersection s!"frozenset.{"__and__"}" (← Builtin.Frozenset.addrOf l) r)) _ _ s
  refine wpAny_bind (wpAny_of_eq (a := (Value.ref a, Value.ref b)) (by rfl) ?_)
  dsimp only
  rw [if_neg Bool.false_ne_true]
  dsimp only
  refine wpAny_bind (wpAny_bind (any_set ta ?_))
  show wpAny _ _ (Builtin.Frozenset.isAnySet (.ref b)) _ _ s
  refine any_set tb ?_
  refine wp_if_neg (by simp) ?_
  refine wpAny_bind (m := Builtin.Frozenset.addrOf (.ref a)) (wpAny_pure ?_)
  refine wpAny_bind ?_
  unfold Builtin.Frozenset.intersection
  refine wp_if_neg (by simpa using Ne.symm nab) ?_
  try refine wpAny_bind (wpAny_pure ?_)
  refine wpAny_bind (base_set ta ?_)
  refine wpAny_bind (new_set ?_)
  have fr := setR_fresh (h := s.heap) w
  generalize hr : s.heap.objs.size = r at *
  generalize hg : s.heap.push { cls := .type "set", dict := none, data := .set #[] 0 (.fresh 0 0 (!w.params.followText "set-order")) } = g at *
  have keep : ∀ x u, s.heap.get? x = some u → g.get? x = some u := fun x u e => by
    rw [← hg]
    exact Heap.get?_push_of_some _ e
  have Ra1 : SetR w g a S n := Ra.at fun u e => keep a u e
  have Rb1 : SetR w g b T m := Rb.at fun u e => keep b u e
  have hra : a ≠ r := Nat.ne_of_lt la
  have hrb : b ≠ r := Nat.ne_of_lt lb
  refine wpAny_bind (m := Builtin.Frozenset.addrOf (.ref r)) (wpAny_pure ?_)
  refine wpAny_bind (wpAny_holding ?_)
  refine wpAny_bind (any_set (s := { s with heap := g }) (set_typ Rb1) ?_)
  refine wp_if_pos rfl ?_
  refine wpAny_bind (m := Builtin.Frozenset.addrOf (.ref b)) (wpAny_pure ?_)
  obtain ⟨oa, esa, epa, ta2, hoa, hxa, hda, _, _, _, _, hfa, hna, _⟩ := id Ra1
  obtain ⟨ob, esb, epb, tb2, hob, hxb, hdb, _, _, _, _, hfb, hnb, _⟩ := id Rb1
  refine wpAny_bind (m := Builtin.Frozenset.sizeOf b) ?_
  unfold Builtin.Frozenset.sizeOf
  refine wpAny_bind (wpAny_setEntries_of hob hdb hfb (wpAny_pure ?_))
  refine wpAny_bind (m := do return (← setEntries a).size) ?_
  refine wpAny_bind (wpAny_setEntries_of hoa hda hfa (wpAny_pure ?_))
  by_cases hc : esb.size > esa.size
  all_goals first | rw [if_pos hc] | rw [if_neg hc]
  · dsimp only
    refine wpAny_bind (wpAny_setEpoch_of hoa hda hfa ?_)
    refine wpAny_bind (walk_unseen (s := { s with heap := g }) (f := r) Ra1 (fun x hx => by
      rcases List.mem_cons.mp hx with z | z
      · rw [z]
        exact ⟨_, _, Rb1⟩
      · rw [List.mem_singleton.mp z]
        exact ⟨_, _, fr⟩) fr fun l h2 sb2 R2 gl => ?_)
    obtain ⟨gl1, gl2, gl3, gl4⟩ := gl
    rw [← Array.forIn_toList]
    refine wpAny_bind (both_all (a := r) (o := a) (q := b) (oo := oa) hra hrb ?_ l.toList { s with heap := h2 } (fun _ => false) 0 _ gl1 ((sb2.2 a hra).trans hoa) (Rb1.at fun u e => (sb2.2 b hrb).trans e) R2 (by rw [Array.length_toList, gl4]; unfold scanBound; omega) fun h3 c sb3 R3 => ?_)
    · intro e s0 S0 n0 Q0 ge ho0 Rq0 R0 room q0
      obtain ⟨k, tk, e1, e2⟩ := ge
      obtain ⟨eh, ev⟩ := e
      dsimp only at e1 e2
      subst e1
      subst e2
      refine wpAny_bind (both_one Rq0 R0 room fun h' m' hm' sb' R' => ?_)
      refine wpAny_bind ?_
      unfold Builtin.Frozenset.unchanged
      refine wpAny_bind (wpAny_setEpoch_of ((sb'.2 a hra).trans ho0) hda hfa ?_)
      refine wp_if_neg (by simp) ?_
      exact wpAny_pure (wpAny_pure (q0 h' m' hm' sb' R'))
    refine wpAny_pure (wpAny_pure (wpAny_pure ⟨_, rfl, ?_⟩))
    have Rf : SetR w h3 r (fun k => S k && T k) c := R3.congr fun k => by
      have : S k = decide (k ∈ l.toList.map keyOf) := by
        cases h : S k with
        | true => rw [decide_eq_true ((gl3 k).1 h)]
        | false =>
          have : k ∉ l.toList.map keyOf := fun z => by
            have := (gl3 k).2 z
            rw [h] at this
            cases this
          rw [decide_eq_false this]
      rw [this]
      show _ = (false || _)
      rw [Bool.false_or]
      exact Bool.and_comm _ _
    refine hQ h3 c (fun x u e => ?_) Rf
    have hxr : x ≠ r := by
      rw [← hr]
      exact Nat.ne_of_lt (Heap.lt_size e)
    exact (sb3.2 x hxr).trans ((sb2.2 x hxr).trans (keep x u e))
  · dsimp only
    refine wpAny_bind (wpAny_setEpoch_of hob hdb hfb ?_)
    refine wpAny_bind (walk_unseen (s := { s with heap := g }) (f := r) Rb1 (fun x hx => by
      rcases List.mem_cons.mp hx with z | z
      · rw [z]
        exact ⟨_, _, Ra1⟩
      · rw [List.mem_singleton.mp z]
        exact ⟨_, _, fr⟩) fr fun l h2 sb2 R2 gl => ?_)
    obtain ⟨gl1, gl2, gl3, gl4⟩ := gl
    rw [← Array.forIn_toList]
    refine wpAny_bind (both_all (a := r) (o := b) (q := a) (oo := ob) hrb hra ?_ l.toList { s with heap := h2 } (fun _ => false) 0 _ gl1 ((sb2.2 b hrb).trans hob) (Ra1.at fun u e => (sb2.2 a hra).trans e) R2 (by rw [Array.length_toList, gl4]; unfold scanBound; omega) fun h3 c sb3 R3 => ?_)
    · intro e s0 S0 n0 Q0 ge ho0 Rq0 R0 room q0
      obtain ⟨k, tk, e1, e2⟩ := ge
      obtain ⟨eh, ev⟩ := e
      dsimp only at e1 e2
      subst e1
      subst e2
      refine wpAny_bind (both_one Rq0 R0 room fun h' m' hm' sb' R' => ?_)
      refine wpAny_bind ?_
      unfold Builtin.Frozenset.unchanged
      refine wpAny_bind (wpAny_setEpoch_of ((sb'.2 b hrb).trans ho0) hdb hfb ?_)
      refine wp_if_neg (by simp) ?_
      exact wpAny_pure (wpAny_pure (q0 h' m' hm' sb' R'))
    refine wpAny_pure (wpAny_pure (wpAny_pure ⟨_, rfl, ?_⟩))
    have Rf : SetR w h3 r (fun k => S k && T k) c := R3.congr fun k => by
      have : T k = decide (k ∈ l.toList.map keyOf) := by
        cases h : T k with
        | true => rw [decide_eq_true ((gl3 k).1 h)]
        | false =>
          have : k ∉ l.toList.map keyOf := fun z => by
            have := (gl3 k).2 z
            rw [h] at this
            cases this
          rw [decide_eq_false this]
      rw [this]
      show _ = (false || _)
      rw [Bool.false_or]
      skip
    refine hQ h3 c (fun x u e => ?_) Rf
    have hxr : x ≠ r := by
      rw [← hr]
      exact Nat.ne_of_lt (Heap.lt_size e)
    exact (sb3.2 x hxr).trans ((sb2.2 x hxr).trans (keep x u e))
/-- len of a set -/
theorem cr_lenSet {X : Cx} : CallR X (.builtin "len") (fun vs H Q => ∃ (a : Addr) (S : Int → Bool) (n : Nat), vs = [.ref a] ∧ H a = some (SetO X.w a S n) ∧ n ≤ 4000 ∧ Q (.int (n : Nat)) H) := by
  intro pins s σ H vs us Q I r h
  obtain ⟨a, S, n, rfl, ha, hn, q⟩ := h
  rw [Vals.ref1 r]
  obtain ⟨o, es, ep, t, ho, hex, hd, _, _, _, _, hf, hz, _, _⟩ := setO_get I ha
  exact call_len_set ho hex hd hf (by rw [hz]; omega) ⟨.int (n : Nat), H, I.tok _, ⟨_, by rw [hz]⟩, q⟩
/-- one & other, sets of cells -/
def rAnd (w : World) : V → V → Hp → VK → Prop := fun x y H Q => ∃ (a b : Addr) (S T : Int → Bool) (n m : Nat), x = V.ref a ∧ y = V.ref b ∧ a ≠ b ∧ H a = some (SetO w a S n) ∧ H b = some (SetO w b T m) ∧
  (∀ k, S k = true → Cell k) ∧ (∀ k, T k = true → Cell k) ∧ ∀ p c, H p = none → (∀ L : List Int, L.Nodup → (∀ k, k ∈ L ↔ (S k && T k) = true) → c = L.length) → Q (.ref p) (upd H p (SetO w p (fun k => S k && T k) c))
theorem op_andS {X : Cx} : OpR X (binaryOp .BitAnd) (rAnd X.w) := by
  intro pins s σ H x y v u Q I rx ry h
  obtain ⟨a, b, S, T, n, m, rfl, rfl, nab, ha, hb, hS, hT, q⟩ := h
  cases rx
  cases ry
  have Ra := setO_get I ha
  have Rb := setO_get I hb
  refine wpAny_binaryOp_same (op := .BitAnd) (T := "set") (set_typ Ra) (set_typ Rb) F.fills_set_and F.slot_set_and ?_
  refine call_and Ra Rb nab hS hT fun h' c k R => ⟨by simp, ?_⟩
  exact ⟨.ref _, _, I.laid (t' := s.toks) k (Nat.le_refl _) (setO_new R), rfl, q _ c (I.hok.fresh (Nat.le_refl _)) fun L hn hm => SetR.count (s := { s with heap := h' }) R hn hm⟩
end
end Par
namespace Par
open PySem PySem.Spec PyProof.Rows L2
/-! ### max(t, default = d), t a tuple of ints -/
/-- M is the greatest of the first i numbers -/
def Top (val : Nat → Int) (i : Nat) (M : Int) : Prop := (∃ j, j < i ∧ val j = M) ∧ ∀ j, j < i → val j ≤ M
def Cur (val : Nat → Int) (i : Nat) : Option Value → Prop
  | none => i = 0
  | some v => ∃ M t, v = .int M t ∧ Top val i M
def pair2 : Option Value → Array Value
  | none => #[]
  | some v => #[v, v]
section
variable {prog : Program} {w : World} {A : Around} {E : Value → Shared → Prop} {R : Result → Shared → Prop} {I : Addr} {fp wr : List Addr} {n : Nat} {P : Nat → Value → Prop} {St : Nat → Heap → Prop}
theorem gt_two {a b : Int} {t u : Tok} {s : Shared} {Q : Value → Shared → Prop} (h : Q (.bool (decide (a > b))) s) : wpAny (model prog w) A (richCompare .Gt (.int a t) (.int b u)) Q E s :=
  (CmpOf.ints_gt (prog := prog) (w := w) (A := A) (P := fun i v => if i = 0 then v = .int a t else v = .int b u) (fun i => if i = 0 then a else b) (fun i v hv => by
    by_cases z : i = 0
    · rw [if_pos z] at hv ⊢
      exact ⟨t, hv⟩
    · rw [if_neg z] at hv ⊢
      exact ⟨u, hv⟩)) 0 1 _ _ s Q E rfl rfl h
theorem maxD_loop (W : Walks prog w A.in1 I fp wr n P St) (val : Nat → Int) (hval : ∀ i v, P i v → ∃ t, v = .int (val i) t) (S : Addr) (far : S ∉ fp) (d : Value) :
    ∀ (k i : Nat) (s : Shared) (cur : Option Value) (c : Nat), n - i = k → i ≤ n → St i s.heap → Cur val i cur →
    s.heap.get? S = some { cls := .type "list", dict := none, data := .seq (pair2 cur) c, slots := #[] } →
    (∀ v h' tk, (n = 0 → v = d) → (0 < n → ∃ M t, v = .int M t ∧ Top val n M) → (∀ b o, b ∉ wr → b ≠ S → s.heap.get? b = some o → h'.get? b = some o) → R (.ok (.ret v)) { s with heap := h', toks := tk }) →
    codeAny (model prog w) A (.builtin "max.loop" ⟨[.ref I, .none, .ref S], [("default", d)]⟩) R s := by
  have farw : S ∉ wr := fun h => far (W.sub _ h)
  have nm : (toString "max" ++ toString ".loop" : String) = "max.loop" := by decide
  intro k
  induction k with
  | zero =>
    intro i s cur c hk hi hst hc hS out
    have hin : i = n := by omega
    subst hin
    refine codeAny_builtin F.entry_max_loop ?_
    rw [Around.under_plainId F.plain_max_loop _]
    show wpAny _ A.in1 (seqItems? (.ref S) >>= _) _ _ s
    refine wpAny_bind (wpAny_seqItems hS rfl ?_)
    show wpAny _ A.in1 (tryCatch (pyNext (.ref I)) _ >>= _) _ _ s
    refine wpAny_bind (wpAny_tryCatch (W.done s _ _ hst fun h' tk kp => ?_))
    have hS2 := kp S _ farw hS
    cases cur with
    | none =>
      have h0 : i = 0 := hc
      refine wpAny_bind (wpAny_rule (wpAny_pure ?_))
      exact out d h' tk (fun _ => rfl) (fun z => absurd h0 (by omega)) fun b o hb _ e => kp b o hb e
    | some v =>
      obtain ⟨M, t, ev, top⟩ := hc
      show wpAny _ A.in1 (updateSeq S (fun _ => #[]) >>= _) _ _ _
      refine wpAny_bind ?_
      refine wpAny_updateSeq hS2 rfl (wpAny_bind (wpAny_letGo (wpAny_pure ?_))) (hz := by show 2 ≤ sizeLine; decide)
      have h0 : 0 < i := by
        obtain ⟨j, hj, _⟩ := top.1
        omega
      exact out v _ tk (fun z => absurd z (by omega)) (fun _ => ⟨M, t, ev, top⟩) fun b o hb nb e => (Heap.get?_update_other _ _ (Ne.symm nb)).trans (kp b o hb e)
  | succ k ih =>
    intro i s cur c hk hi hst hc hS out
    have hlt : i < n := by omega
    refine codeAny_builtin F.entry_max_loop ?_
    rw [Around.under_plainId F.plain_max_loop _]
    show wpAny _ A.in1 (seqItems? (.ref S) >>= _) _ _ s
    refine wpAny_bind (wpAny_seqItems hS rfl ?_)
    show wpAny _ A.in1 (tryCatch (pyNext (.ref I)) _ >>= _) _ _ s
    refine wpAny_bind (wpAny_tryCatch (W.item i s _ _ hlt hst fun v h' tk hP hst2 kp => ?_))
    have hS2 := kp S _ farw hS
    obtain ⟨u, rfl⟩ := hval i v hP
    have go : ∀ (nv : Value) (g : Heap) (c2 : Nat), g.get? S = some { cls := .type "list", dict := none, data := .seq #[nv, nv] c2, slots := #[] } → (∀ b o, b ≠ S → h'.get? b = some o → g.get? b = some o) →
        (∃ M t, nv = .int M t ∧ Top val (i + 1) M) → codeAny (model prog w) A (.builtin "max.loop" ⟨[.ref I, .none, .ref S], [("default", d)]⟩) R { s with heap := g, toks := tk } := by
      intro nv g c2 hg kg top
      refine ih (i + 1) { s with heap := g, toks := tk } (some nv) c2 (by omega) hlt (W.frame _ _ _ hst2 fun b hb o e => kg b o (fun z => far (z ▸ hb)) e) top hg fun v2 h2 tk2 z1 z2 k2 => ?_
      exact out v2 h2 tk2 z1 z2 fun b o hb nb e => k2 b o hb nb (kg b o nb (kp b o hb e))
    cases cur with
    | none =>
      have h0 : i = 0 := hc
      subst h0
      show wpAny _ A.in1 (updateSeq S (fun _ => #[Value.int (val 0) u, Value.int (val 0) u]) >>= _) _ _ _
      refine wpAny_bind ?_
      refine wpAny_updateSeq hS2 rfl ?_
      rw [nm]
      refine wpAny_pure ⟨plainId_quiet F.plain_max_loop _, go _ _ _ (Heap.get?_update_self _ hS2 rfl) (fun b o nb e => (Heap.get?_update_other _ _ (Ne.symm nb)).trans e) ⟨_, u, rfl, ⟨0, by omega, rfl⟩, fun j hj => ?_⟩⟩
      have : j = 0 := by omega
      rw [this]
      exact Int.le_refl _
    | some b0 =>
      obtain ⟨M, t, rfl, top⟩ := hc
      show wpAny _ A.in1 (tryCatch (holding [Value.int (val i) u, Value.int (val i) u] (richCompare .Gt (.int (val i) u) (.int M t) >>= _)) _ >>= _) _ _ _
      refine wpAny_bind (wpAny_tryCatch (wpAny_holding (wpAny_bind (gt_two ?_))))
      refine wpAny_bind (wpAny_holding (wpAny_truthy_bool ?_))
      refine wpAny_bind (wpAny_letGo (wpAny_pure ?_))
      by_cases hb : val i > M
      · rw [decide_eq_true hb]
        simp only [if_true]
        refine wpAny_bind ?_
        refine wpAny_updateSeq hS2 rfl (wpAny_bind (wpAny_letGo ?_)) (hz := by show 2 ≤ sizeLine; decide)
        rw [nm]
        refine wpAny_pure ⟨plainId_quiet F.plain_max_loop _, go _ _ _ (Heap.get?_update_self _ hS2 rfl) (fun b o nb e => (Heap.get?_update_other _ _ (Ne.symm nb)).trans e) ⟨_, u, rfl, ⟨i, by omega, rfl⟩, fun j hj => ?_⟩⟩
        rcases (show j < i ∨ j = i by omega) with z | z
        · have := top.2 j z
          omega
        · rw [z]
          exact Int.le_refl _
      · rw [decide_eq_false hb]
        simp only [Bool.false_eq_true, if_false]
        refine wpAny_bind (wpAny_letGo ?_)
        rw [nm]
        refine wpAny_pure ⟨plainId_quiet F.plain_max_loop _, go _ _ _ hS2 (fun b o nb e => e) ⟨M, t, rfl, ?_, fun j hj => ?_⟩⟩
        · obtain ⟨j, hj, e⟩ := top.1
          exact ⟨j, by omega, e⟩
        · rcases (show j < i ∨ j = i by omega) with z | z
          · exact top.2 j z
          · rw [z]
            omega
end
theorem args_maxD (a d : Value) : argsOk "max" ⟨[a], [("default", d)]⟩ := by
  unfold argsOk
  kernel_rfl
section
variable {prog : Program} {w : World} {A : Around} {E : Value → Shared → Prop} {s : Shared}
/-- a built-in function called with a keyword, its code going on in another one -/
theorem tree_kw {id : String} {b : Builtin} {us : List Value} {kw : List (Str × Value)} {Q : Value → Shared → Prop} (hk : builtinKind id = none) (hp : plainId id = true) (hb : entryFor table id = some b) (ok : argsOk id ⟨us, kw⟩)
    (run : wpAny (model prog w) A.in1 (b ⟨us, kw⟩) (fun fin s' => match fin with
      | .done f => (match (Except.ok f : Result) with | .ok (.ret v) => Q v s' | .ok _ => False | .error e => E e s')
      | .again c' => c'.quiet = true ∧ codeAny (model prog w) A c' (fun r s' => match r with | .ok (.ret v) => Q v s' | .ok _ => False | .error e => E e s') s') E s) :
    wpAny (model prog w) A (call (.builtin id) us kw) Q E s := by
  refine wpAny_call (codeAny_call_builtin hp hb ?_)
  simp only [checkBuiltinCall, hk]
  cases sg : Manifest.signature? id with
  | none => exact wpAny_pure run
  | some z =>
    simp only [argsOk, sg] at ok
    have ok2 : Bind.checkArgs id z ⟨us, kw⟩ = pure () := ok
    show wpAny _ A.in1 (Bind.checkArgs id z ⟨us, kw⟩) _ _ s
    rw [ok2]
    exact wpAny_pure run
theorem max_tupD {l : Addr} {its : List Value} {ns : List Int} {d : Value} {Q : Value → Shared → Prop} (hh : A.handled = none) (hl : s.heap.IsTuple l its.toArray) (hi : IntsAre its ns)
    (h : ∀ v h' tk, (ns = [] → v = d) → (ns ≠ [] → ∃ M t, v = .int M t ∧ M ∈ ns ∧ ∀ y ∈ ns, y ≤ M) → (∀ b o, s.heap.get? b = some o → h'.get? b = some o) → Q v { s with heap := h', toks := tk }) :
    wpAny (model prog w) A (call (.builtin "max") [.ref l] [("default", d)]) Q E s := by
  have nm : (toString "max" ++ toString ".loop" : String) = "max.loop" := by decide
  have len := IntsAre.length hi
  have lt : l < s.heap.objs.size := by
    obtain ⟨_, e, _⟩ := hl
    exact Heap.lt_size e
  refine tree_kw F.kind_max F.plain_max F.entry_max (args_maxD _ _) ?_
  show wpAny _ A.in1 (Builtin.Builtins.bindParams "max" ["key", "default"] 0 ⟨[], [("default", d)]⟩ >>= _) _ _ s
  refine wpAny_bind (wpAny_of_eq (show Builtin.Builtins.bindParams "max" ["key", "default"] 0 ⟨[], [("default", d)]⟩ = pure [none, some d] from rfl) ?_)
  refine wpAny_bind (wpAny_pure ?_)
  refine wpAny_bind (wpAny_pyIter_tuple hl ?_)
  refine wpAny_bind (wpAny_newObj_type ?_)
  rw [nm]
  have hne : l ≠ s.heap.objs.size := Nat.ne_of_lt lt
  have h1z : (s.heap.push { cls := .type "tuple_iterator", data := .fields #[.ref l, .int 0 0] }).objs.size = s.heap.objs.size + 1 := Heap.size_push ..
  have far : (s.heap.push { cls := .type "tuple_iterator", data := .fields #[.ref l, .int 0 0] }).objs.size ∉ [s.heap.objs.size, l] := by
    rw [h1z]
    intro z
    rcases List.mem_cons.mp z with z | z
    · exact absurd z (Nat.succ_ne_self _)
    · have z2 := List.mem_singleton.mp z
      rw [← z2] at lt
      exact Nat.lt_irrefl _ (Nat.lt_trans (Nat.lt_succ_self _) lt)
  refine wpAny_pure ⟨plainId_quiet F.plain_max_loop _, maxD_loop (W := Walks.tuple (A := A.in1) hh s.heap.objs.size l hne its.toArray) (fun i => ns.getD i 0) (fun i v hv => ?_) _ far d its.length 0 _ none 0 (by simp) (Nat.zero_le _) ⟨⟨_, Heap.get?_push_of_some _ (Heap.get?_push_size _ rfl), rfl, rfl⟩, (hl.push _).push _⟩ rfl (Heap.get?_push_size _ rfl) fun v h' tk z1 z2 kp => ?_⟩
  · obtain ⟨t, e⟩ := PyProof.Rows.IntsAre.int_at hi i v (by simpa using hv)
    exact ⟨t, e⟩
  · have esz : its.toArray.size = ns.length := by simpa using len
    rw [esz] at z1 z2
    refine h v h' tk (fun e => z1 (by rw [e]; rfl)) (fun ne => ?_) fun b o e => ?_
    · obtain ⟨M, t, ev, ⟨j, hj, ej⟩, up⟩ := z2 (List.length_pos_iff.mpr ne)
      refine ⟨M, t, ev, ?_, fun y hy => ?_⟩
      · have ej2 : ns.getD j 0 = M := ej
        rw [← ej2, List.getD_eq_getElem?_getD, List.getElem?_eq_getElem hj]
        exact List.getElem_mem hj
      · obtain ⟨k, hk, e⟩ := List.getElem_of_mem hy
        have : ns.getD k 0 ≤ M := up k hk
        rw [List.getD_eq_getElem?_getD, List.getElem?_eq_getElem hk] at this
        rw [← e]
        exact this
    · have lb := Heap.lt_size e
      refine kp b o (fun z => ?_) (fun z => ?_) (Heap.get?_push_of_some _ (Heap.get?_push_of_some _ e))
      · rw [List.mem_singleton.mp z] at lb
        exact Nat.lt_irrefl _ lb
      · rw [z, h1z] at lb
        exact Nat.lt_irrefl _ (Nat.lt_trans (Nat.lt_succ_self _) lb)
end
/-- max(t, default = d) -/
def rMaxD (K : PySem.W.Frag) : List V → List V → Hp → VK → Prop := fun xs zs H Q => ∃ (a : Addr) (ns : List Int) (d : Int), xs = [.ref a] ∧ zs = [.int d] ∧ SqT K H a (ns.map V.int) ∧
  ∀ M, (ns = [] → M = d) → (ns ≠ [] → M ∈ ns ∧ ∀ y ∈ ns, y ≤ M) → Q (.int M) H
theorem cr_maxD {X : Cx} (hc : X.calm = true) : CallRK X (.builtin "max") ["default"] (rMaxD X.K) := by
  intro pins s σ H xs zs us ws Q I r rz h
  obtain ⟨a, ns, d, rfl, rfl, hq, q⟩ := h
  obtain ⟨its, rv, tup, hz⟩ := I.tuple hq
  rw [Vals.ref1 r]
  cases rz with
  | cons r1 r2 =>
    cases r2
    obtain ⟨tk0, rfl⟩ := r1
    refine max_tupD (ns := ns) (d := .int d tk0) (I.ok.hd hc) tup (by simpa using numbers_of rv) fun v h' tk z1 z2 kp => ?_
    by_cases hn : ns = []
    · have ev := z1 hn
      subst ev
      exact ⟨.int d, H, I.kept kp, ⟨_, rfl⟩, q d (fun _ => rfl) (fun z => absurd hn z)⟩
    · obtain ⟨M, t, rfl, m1, m2⟩ := z2 hn
      exact ⟨.int M, H, I.kept kp, ⟨_, rfl⟩, q M (fun z => absurd z hn) (fun _ => ⟨m1, m2⟩)⟩
end Par
namespace Par
open PySem PySem.Spec PyProof.Rows L2
/-- one + other, any two tuples: some tuple of all items, one of the two or a new one -/
def rCatB (K : PySem.W.Frag) : R2 := fun x y H Q => ∃ a b xs ys, x = .ref a ∧ y = .ref b ∧ SqT K H a xs ∧ SqT K H b ys ∧ xs.length + ys.length ≤ sizeLine ∧
  ∀ c H', Same H H' → SqT K H' c (xs ++ ys) → Q (.ref c) H'
theorem op_catB {X : Cx} : OpR X (binaryOp .Add) (rCatB X.K) := by
  intro pins s σ H x y v u Q I rx ry h
  obtain ⟨a, b, xs, ys, rfl, rfl, ha, hb, hz, q⟩ := h
  by_cases hx : xs = []
  · subst hx
    cases rx
    cases ry
    obtain ⟨its, r1, p1, _⟩ := I.tuple ha
    obtain ⟨its2, r2, p2, _⟩ := I.tuple hb
    cases r1
    obtain ⟨⟨c1, d1, da1, sl1⟩, ho, hc, n, hd⟩ := id p1
    obtain ⟨⟨c2, d2, da2, sl2⟩, ho2, hc2, n2, hd2⟩ := id p2
    simp only at hc hd hc2 hd2
    subst hc hd hc2 hd2
    exact concat_meets ⟨_, ho, rfl⟩ ⟨_, ho2, rfl⟩ noFill_tuple_add seq_tuple_add PySem.F.slot_tuple_add PySem.F.entry_tuple_add (PySem.F.args_tuple_add_2 _ _)
      (tuple_addW0 a b _ its2.toArray n n2 d1 d2 sl1 sl2 rfl) ⟨ho, ho2, ⟨.ref b, H, I, rfl, q b H (fun _ _ e => e) hb⟩⟩
  · refine op_catT pins s σ H (.ref a) (.ref b) v u Q I rx ry ⟨a, b, xs, ys, rfl, rfl, ha, hb, hx, hz, fun e => ?_, fun e p hp => ?_⟩
    · subst e
      exact q a H (fun _ _ e => e) (by rw [List.append_nil]; exact ha)
    · exact q p _ (fun z o e2 => by rw [upd_ne (ne_of_none e2 hp)]; exact e2) (SqT.of upd_same)
end Par
namespace Par
open PySem PySem.Spec PyProof.Rows L2
/-! ### errors over any built-in base -/
/-- own classes, then the base's own line -/
def Over (tail l : List Value) : Prop := tail ≠ [] ∧ ∃ cs : List Addr, l = cs.map Value.ref ++ tail
theorem Over.cons {tail l : List Value} (h : Over tail l) (c : Addr) : Over tail (.ref c :: l) := by
  obtain ⟨h1, cs, e⟩ := h
  exact ⟨h1, c :: cs, by rw [e]; rfl⟩
theorem Over.nonempty {tail l : List Value} (h : Over tail l) : l.isEmpty = false := by
  obtain ⟨h1, cs, e⟩ := h
  subst e
  cases cs with
  | cons c cs => rfl
  | nil =>
    cases tail with
    | nil => exact absurd rfl h1
    | cons _ _ => rfl
theorem Over.has {tail l : List Value} (h : Over tail l) (T : String) : l.contains (.type T) = tail.contains (.type T) := by
  obtain ⟨_, cs, e⟩ := h
  subst e
  induction cs with
  | nil => rfl
  | cons c cs ih =>
    show ((Value.type T == Value.ref c) || _) = _
    rw [show (Value.type T == Value.ref c) = false from rfl, Bool.false_or]
    exact ih
theorem Over.lets {tail l : List Value} (h : Over tail l) (ok : ∀ self, refuseLoop self "__setattr__" tail = pure ()) (self : Value) : refuseLoop self "__setattr__" l = pure () := by
  obtain ⟨_, cs, e⟩ := h
  subst e
  induction cs with
  | nil => exact ok self
  | cons c cs ih =>
    show refuseLoop self "__setattr__" (Value.ref c :: (cs.map Value.ref ++ tail)) = pure ()
    rw [refuseLoop_ref]
    exact ih
section
variable {prog : Program} {w : World} {A : Around} {R : Result → Shared → Prop} {hp : Heap} {g : Array GenState} {d : Drawn} {t : Nat} {os : OsState}
open Builtin Builtin.ObjectAttr PySem.W PySem.HandSPX in
/-- the first field of an error -/
theorem first_field {K : PySem.W.Frag} {fld : Str} {tk : Tok} {v : Value} {x C : Addr} {fv : Array Value} {cd : ClassData} {tail : List Value} (X : K.In hp)
    (at_ : hp.get? x = some { cls := .ref C, data := .fields fv }) (isC : clsIn K C = some cd) (ov : Over tail cd.mro) (objd : tail.contains (.type "object") = true)
    (ok : ∀ self, refuseLoop self "__setattr__" tail = pure ()) (own : cd.hasDict = true) (no : findIn K (.ref C) fld = some none)
    (out : ∀ h' tk' dx, (∀ b o, b ≠ x → hp.get? b = some o → h'.get? b = some o) → hp.objs.size ≤ dx → dx ≠ x → h'.get? x = some { cls := .ref C, dict := some dx, data := .fields fv } →
      h'.Ns1 dx (fun y => if y = fld then some v else none) → R (.ok (.ret .none)) ⟨h', g, d, tk', os⟩) :
    codeAny (model prog w) A (.call (.builtin "object.__setattr__") ⟨[.ref x, .str fld tk, v], []⟩) R ⟨hp, g, d, t, os⟩ := by
  have inst : InstAt hp x { cls := .ref C, data := .fields fv } C none := ⟨at_, rfl, rfl, trivial⟩
  have st := F.store_object
  have hObj : cd.mro.contains (.type "object") = true := (ov.has "object").trans objd
  have far : x ≠ hp.objs.size := Nat.ne_of_lt (Heap.lt_size at_)
  have isObj : Looks (model prog w) hp (isInstance (.ref x) (.type "object")) true :=
    inst.type.andThen (looks_mroIn X (by unfold mroIn; rw [isC, Option.bind_some, if_neg (by rw [ov.nonempty]; decide), hObj]))
  refine codeAny_call_builtin st.slot.plain st.entry (@check_slot (model prog w) _ _ ⟨hp, g, d, t, os⟩ "object.__setattr__" "object" "__setattr__"
    (.ref x) [.str fld tk, v] [] _ st.kind st.split isObj (st.args (.ref x) (.str fld tk) v) ?_)
  have lm : Looks (model prog w) hp (mroOf (.ref C)) cd.mro := (looks_clsIn X isC).andThen .now
  have ln : Looks (model prog w) hp (storeTaker? none) none := .now
  have lc : Looks (model prog w) hp (classData C) cd := looks_clsIn X isC
  rw [osa_eq, refuse_eq]
  refine wpAny_bind (wpAny_bind (inst.type.at (wpAny_bind (lm.at ?_))))
  rw [ov.lets ok]
  refine wpAny_pure (wpAny_bind (inst.type.at (wpAny_bind ((looks_findIn X no).at (wpAny_bind (ln.at ?_))))))
  show wpAny _ _ (storeInOwnDict (.ref x) (.ref C) (.str fld tk) fld v false) _ _ _
  obtain ⟨nm, bs, mro, ns, qn, hd, sn, sb, ab, col, dl⟩ := cd
  dsimp only at own
  subst own
  unfold storeInOwnDict ownDictForStores
  repeat (first | with_reducible refine store_in_new ?_ ?_ | with_reducible refine wpAny_loadPart_at at_ ?_ | with_reducible refine lc.at ?_ | wp_step)
  · exact ⟨_, #[], _, (Heap.get?_update_ne _ _ _ _ far.symm).trans (Heap.get?_push_at rfl rfl), rfl, fun e z => absurd z (by simp), fun _ => rfl⟩
  · intro h' tk' made kept
    have old : (hp.push { cls := .type "dict", data := .dict #[] }).get? x = some { cls := .ref C, data := .fields fv } := Heap.get?_push_of_some _ at_
    refine out h' tk' hp.objs.size (fun b o nb e => ?_) (Nat.le_refl _) far.symm ?_ made
    · exact (kept.2 b (Nat.ne_of_lt (Heap.lt_size e))).trans ((Heap.get?_update_ne _ _ _ _ nb).trans (Heap.get?_push_of_some _ e))
    · exact (kept.2 x far).trans (Heap.get?_update_self _ old rfl)
open Builtin Builtin.ObjectAttr PySem.W PySem.HandSPX PySem.OEX in
/-- a further field of an error -/
theorem more_field {K : PySem.W.Frag} {fld : Str} {tk : Tok} {v : Value} {x C dx : Addr} {fv : Array Value} {cd : ClassData} {tail : List Value} {m0 : Str → Option Value} {nl : List Str} (X : K.In hp)
    (at_ : hp.get? x = some { cls := .ref C, dict := some dx, data := .fields fv }) (names : hp.Ns1 dx m0) (win : Within m0 nl) (few : nl.length ≤ 1000) (isC : clsIn K C = some cd) (ov : Over tail cd.mro)
    (objd : tail.contains (.type "object") = true) (ok : ∀ self, refuseLoop self "__setattr__" tail = pure ()) (own : cd.hasDict = true) (no : findIn K (.ref C) fld = some none)
    (out : ∀ h' tk', (∀ b o, b ≠ dx → hp.get? b = some o → h'.get? b = some o) → h'.Ns1 dx (fun y => if y = fld then some v else m0 y) → R (.ok (.ret .none)) ⟨h', g, d, tk', os⟩) :
    codeAny (model prog w) A (.call (.builtin "object.__setattr__") ⟨[.ref x, .str fld tk, v], []⟩) R ⟨hp, g, d, t, os⟩ := by
  obtain ⟨od, esd, epd, atD, dtD, _⟩ := names.count win
  have inst : InstAt hp x { cls := .ref C, dict := some dx, data := .fields fv } C (some od) := ⟨at_, rfl, rfl, atD⟩
  have st := F.store_object
  have hObj : cd.mro.contains (.type "object") = true := (ov.has "object").trans objd
  have isObj : Looks (model prog w) hp (isInstance (.ref x) (.type "object")) true :=
    inst.type.andThen (looks_mroIn X (by unfold mroIn; rw [isC, Option.bind_some, if_neg (by rw [ov.nonempty]; decide), hObj]))
  refine codeAny_call_builtin st.slot.plain st.entry (@check_slot (model prog w) _ _ ⟨hp, g, d, t, os⟩ "object.__setattr__" "object" "__setattr__"
    (.ref x) [.str fld tk, v] [] _ st.kind st.split isObj (st.args (.ref x) (.str fld tk) v) ?_)
  have lm : Looks (model prog w) hp (mroOf (.ref C)) cd.mro := (looks_clsIn X isC).andThen .now
  have ln : Looks (model prog w) hp (storeTaker? none) none := .now
  have lc : Looks (model prog w) hp (classData C) cd := looks_clsIn X isC
  rw [osa_eq, refuse_eq]
  refine wpAny_bind (wpAny_bind (inst.type.at (wpAny_bind (lm.at ?_))))
  rw [ov.lets ok]
  refine wpAny_pure (wpAny_bind (inst.type.at (wpAny_bind ((looks_findIn X no).at (wpAny_bind (ln.at ?_))))))
  show wpAny _ _ (storeInOwnDict (.ref x) (.ref C) (.str fld tk) fld v false) _ _ _
  obtain ⟨nm, bs, mro, ns, qn, hd, sn, sb, ab, col, dl⟩ := cd
  dsimp only at own
  subst own
  unfold storeInOwnDict ownDictForStores
  repeat (first | with_reducible refine store_in_old names win few ?_ | with_reducible refine wpAny_loadPart_at at_ ?_ | with_reducible refine lc.at ?_ | wp_step)
  intro h' tk' made kept
  exact out h' tk' (fun b o nb e => (kept.2 b nb).trans e) made
end
/-- what is known of a built-in base -/
structure Bas (newId : String) (tail : List Value) : Prop where
  base : ∃ B initId, ExcBaseFacts B newId initId tail
  full : tail ≠ []
  objd : tail.contains (.type "object") = true
  lets : ∀ self, refuseLoop self "__setattr__" tail = pure ()
theorem bas_value : Bas "ValueError.__new__" [.type "ValueError", .type "Exception", .type "BaseException", .type "object"] := ⟨⟨_, _, F.excBase_ValueError⟩, by simp, by decide +kernel, F.store_ValueError.passes⟩
theorem bas_lookup : Bas "LookupError.__new__" [.type "LookupError", .type "Exception", .type "BaseException", .type "object"] := ⟨⟨_, _, F.excBase_LookupError⟩, by simp, by decide +kernel, F.store_LookupError.passes⟩
theorem bas_runtime : Bas "RuntimeError.__new__" [.type "RuntimeError", .type "Exception", .type "BaseException", .type "object"] := ⟨⟨_, _, F.excBase_RuntimeError⟩, by simp, by decide +kernel, F.store_RuntimeError.passes⟩
theorem bas_arith : Bas "ArithmeticError.__new__" [.type "ArithmeticError", .type "Exception", .type "BaseException", .type "object"] := ⟨⟨_, _, F.excBase_ArithmeticError⟩, by simp, by decide +kernel, F.store_ArithmeticError.passes⟩
/-- an own class of errors over such a base -/
structure ErrC (K : PySem.W.Frag) (C : Addr) : Prop where
  is : ∃ newId tail nm q N bs bm sn sub ab col dd k0 k1 k2 k3 k5, Bas newId tail ∧ K.lookup C = some (excClassObj nm q C N bs bm true sn sub ab col dd k0 k1 k2 k3 k5 newId) ∧ ∃ cs : List Addr, bm = cs.map Value.ref ++ tail
  sets : PySem.W.findIn K (.ref C) "__setattr__" = some (some (.builtin "object.__setattr__"))
  exc : PySem.W.subIn K (.ref C) (.type "BaseException") = some true
  typ : PySem.W.typeIn K (.ref C) = some (.type "type")
  kept : PySem.W.keepIn K (.ref C) = true
section
variable {X : Cx} {pins : List (Addr × Obj)} {σ : L2.St} {H : Hp} {s : Shared} {a C dx : Addr} {f : Str} {y : V} {u : Value} {fs : List (Str × V)} {Q : Unit → Shared → Prop} {E : Value → Shared → Prop} {A : Around}
theorem err_first (T : ErrC X.K C) (I : L2.Inv X pins σ H s) (e : H a = some (exo a C none)) (no : PySem.W.findIn X.K (.ref C) f = some none) (ry : RelV y u)
    (out : ∀ dx s', H dx = none → dx ≠ a → L2.Inv X pins σ (upd (upd H dx (exd dx [(f, y)])) a (exo a C (some dx))) s' → Q () s') : wpAny (model X.prog X.w) A (setAttr (.ref a) f u) Q E s := by
  obtain ⟨newId, tail, nm, q, N, bs, bm, sn, sub, ab, col, dd, k0, k1, k2, k3, k5, bas, atC, cs, ebm⟩ := T.is
  have isC : PySem.W.clsIn X.K C = some { name := nm, bases := bs, mro := .ref C :: bm, ns := N, qualname := q, hasDict := true, slotNames := sn, subclasses := sub, abstract := ab, collection := col, hasDel := false } := by
    unfold PySem.W.clsIn
    rw [atC]
  have ov : Over tail (.ref C :: bm) := Over.cons ⟨bas.full, cs, ebm⟩ C
  obtain ⟨t1, ho⟩ := exo_at I.hok e
  obtain ⟨hp, g, d, t, os⟩ := s
  refine PySem.W.set_plain I.kIn (ox := { cls := .ref C, dict := none, data := .fields #[.ref t1, .none, .none, .none, .bool false, .none] }) (od := none) ⟨ho, rfl, rfl, trivial⟩ T.sets ?_
  refine first_field I.kIn ho isC ov bas.objd bas.lets rfl no fun h' tk' dx k dn dne hx hn => ?_
  have free : H dx = none := I.hok.fresh dn
  have apart : ∀ {b : Addr} {o : Obj}, hp.get? b = some o → b ≠ dx := fun {b o} z => Nat.ne_of_lt (Nat.lt_of_lt_of_le (Heap.lt_size z) dn)
  have else_ : ∀ {b : Addr}, H b = none → b ≠ a := fun {b} n z => by
    rw [z, e] at n
    cases n
  have un : Un X.fs [] H (upd (upd H dx (exd dx [(f, y)])) a (exo a C (some dx))) hp h' := {
    keep := fun b o z n _ _ => k b o (else_ n) z
    slot := fun b o z n _ _ => ⟨o.slots, k b o (else_ n) z⟩
    free := fun b o z n _ => by
      rw [upd_ne (else_ n), upd_ne (apart z)]
      exact n
    there := fun b o z _ => by
      by_cases hb : b = a
      · exact ⟨_, by rw [hb]; exact hx⟩
      · exact ⟨o, k b o hb z⟩
    tups := fun b xs z => by
      rw [upd_ne (at_ne e z exo_tup), upd_ne (ne_of_none z free)]
      exact z
    frzs := fun b o v z => by
      rw [upd_ne (at_ne e z exo_frz), upd_ne (ne_of_none z free)]
      exact z
    tbls := fun b ps z => ⟨#[], by
      rw [upd_ne (at_ne e z exo_tbl), upd_ne (ne_of_none z free), z]
      simp⟩ }
  refine out dx _ free dne (I.un (t' := tk') un fun b o z => ?_)
  by_cases hb : b = a
  · subst hb
    rw [upd_same] at z
    cases z
    exact exo_ok hx
  · rw [upd_ne hb] at z
    by_cases hd : b = dx
    · subst hd
      rw [upd_same] at z
      cases z
      exact exd_ok hn (relO_put (fs := []) ry fun g => True.intro)
    · rw [upd_ne hd] at z
      refine (I.hok b o z).stay (fun c v hc z2 => k c v ?_ z2) (fun c hc => ?_) (fun c xs hc => ?_)
      · rcases hc with hc | hc
        · rw [hc]
          exact hb
        · exact at_ne e hc exo_own
      · rw [upd_ne (at_ne e hc exo_own), upd_ne (ne_of_none hc free)]
        exact hc
      · rw [upd_ne (at_ne e hc exo_tup), upd_ne (ne_of_none hc free)]
        exact hc
theorem err_more (T : ErrC X.K C) (I : L2.Inv X pins σ H s) (e : H a = some (exo a C (some dx))) (ed : H dx = some (exd dx fs)) (few : fs.length ≤ 900) (no : PySem.W.findIn X.K (.ref C) f = some none) (ry : RelV y u)
    (out : ∀ s', L2.Inv X pins σ (upd H dx (exd dx ((f, y) :: fs))) s' → Q () s') : wpAny (model X.prog X.w) A (setAttr (.ref a) f u) Q E s := by
  obtain ⟨newId, tail, nm, q, N, bs, bm, sn, sub, ab, col, dd, k0, k1, k2, k3, k5, bas, atC, cs, ebm⟩ := T.is
  have isC : PySem.W.clsIn X.K C = some { name := nm, bases := bs, mro := .ref C :: bm, ns := N, qualname := q, hasDict := true, slotNames := sn, subclasses := sub, abstract := ab, collection := col, hasDel := false } := by
    unfold PySem.W.clsIn
    rw [atC]
  have ov : Over tail (.ref C :: bm) := Over.cons ⟨bas.full, cs, ebm⟩ C
  obtain ⟨t1, ho⟩ := exo_at I.hok e
  obtain ⟨mA, names, rel⟩ := exd_at I.hok ed
  have win := within_of rel
  obtain ⟨hp, g, d, t, os⟩ := s
  obtain ⟨oD, _, _, atD, _, _⟩ := names.count win
  refine PySem.W.set_plain I.kIn (ox := { cls := .ref C, dict := some dx, data := .fields #[.ref t1, .none, .none, .none, .bool false, .none] }) (od := some oD) ⟨ho, rfl, rfl, atD⟩ T.sets ?_
  refine more_field I.kIn ho names win (by rw [List.length_map]; omega) isC ov bas.objd bas.lets rfl no fun h' tk' k hn => ?_
  have stands : ∃ o, h'.get? dx = some o := by
    obtain ⟨o, _, _, z, _⟩ := hn
    exact ⟨o, z⟩
  exact out _ (I.write (t' := tk') (x := dx) (e := dx) (o := exd dx ((f, y) :: fs)) (by rw [ed]; exact True.intro) (.inl rfl) k stands (exd_ok hn (relO_put ry rel)))
end
/-- self.f = e in an error's __init__ -/
def tErrS (K : PySem.W.Frag) (f : Str) (to te : TE) : TS := fun D σ H => te σ H fun y H1 => to σ H1 fun x H2 => ∃ a C : Addr, x = .ref a ∧ ErrC K C ∧ PySem.W.findIn K (.ref C) f = some none ∧
  ((H2 a = some (exo a C none) ∧ ∀ dx, H2 dx = none → dx ≠ a → D.nx σ (upd (upd H2 dx (exd dx [(f, y)])) a (exo a C (some dx)))) ∨
    ∃ (dx : Addr) (fs : List (Str × V)), H2 a = some (exo a C (some dx)) ∧ H2 dx = some (exd dx fs) ∧ fs.length ≤ 900 ∧ D.nx σ (upd H2 dx (exd dx ((f, y) :: fs))))
section
variable {X : Cx} {o e : Expr} {es : List Expr} {to te : TE} {ta : TA} {f : Str} {p p' pos : Pos}
theorem ps_errS (ho : PE X o to) (he : PE X e te) (hs : swapsWith e (some (.Attribute o f p')) pos.line X.env = pure false := by rfl) : PS X (.Assign [.Attribute o f p'] e pos) (tErrS X.K f to te) := by
  refine ⟨fun pins s σ H D I h => ?_⟩
  refine plainObj_wpAny_Assign_Attribute (thn (he.run pins s σ H _ I h) ?_) hs
  rintro v s1 ⟨y, H1, I1, r1, q1⟩
  refine thn (ho.run pins s1 σ H1 _ I1 q1) ?_
  rintro u s2 ⟨x, H2, I2, r2, a, C, ex, T, no, q⟩
  subst ex
  obtain rfl : u = Value.ref a := r2
  rcases q with ⟨ea, q⟩ | ⟨dx, fs, ea, ed, few, q⟩
  · exact err_first T I2 ea no r1 fun dx s' n ne J => ⟨σ, _, J, q dx n ne⟩
  · exact err_more T I2 ea ed few no r1 fun s' J => ⟨σ, _, J, q⟩
/-- C(e, ..) of an error whose own __init__ keeps its promise -/
theorem pmk_err {CX : CXT} {x : Str} {C fI : Addr} {k : Nat} {fd : FuncData} {ps : List Str} {sp : Sp} {ds : List Value} {dvs : List V} (T : ErrC X.K C) (ini : PySem.W.findIn X.K (.ref C) "__init__" = some (some (.ref fI)))
    (isF : PySem.W.typeIn X.K (.ref fI) = some (.type "function")) (G : FnOk X.prog X.w X.K X.mg X.base CX k fI fd ps sp) (hr : Room (k + 1) X.A) (hb : Binds X.K fd ps ds) (hd : Vals dvs ds) (hx : Passes CX X (fun _ _ _ => False))
    (hg : Gl X x) (hm : X.mg x = some (.ref C)) (ha : PA X (e :: es) ta)
    (hdb : (x == ("__debug__" : Str)) = false := by decide) (he : starEach (e :: es) X.env = (false, eval e X.env) :: starEach es X.env := by rfl) (hpl : (backTo pos (starEach es X.env)).any (·.1) = false := by rfl) :
    PMk X (.Call (.Name x p) (e :: es) [] pos) (tMkO C sp dvs ta) := by
  intro pins s σ H Q I h
  obtain ⟨newId, tail, nm, q, N, bs, bm, sn, sub, ab, col, dd, k0, k1, k2, k3, k5, bas, atC, cs, ebm⟩ := T.is
  obtain ⟨B, initId, facts⟩ := bas.base
  have ov : Over tail bm := ⟨bas.full, cs, ebm⟩
  refine wpAny_Call_Name_kw (ld_glob I hg hm ?_ hdb)
  refine PySem.W.callWith_K (h₀ := X.base) I.ok.mod.kin T.kept (thn (ha.run pos pins s σ H _ I h) ?_) he hpl
  rintro us s1 ⟨vs, H1, I1, r1, few, q1⟩
  refine ⟨I1.kIn, ?_⟩
  show wpAny _ _ (call (.ref C) us) _ _ _
  obtain ⟨hp, g, dr, tk, os⟩ := s1
  have up : hp.objs.size ≤ hp.objs.size + 1 := Nat.le_succ _
  have want := q1 (hp.objs.size + 1) (I1.hok.fresh up)
  have old : ∀ b o, hp.get? b = some o → ((hp.push (PySem.W.kdv_tup us)).push (PySem.HandSPX.excO C hp.objs.size)).get? b = some o := fun b o z => Heap.get?_push_of_some _ (Heap.get?_push_of_some _ z)
  have made : ((hp.push (PySem.W.kdv_tup us)).push (PySem.HandSPX.excO C hp.objs.size)).get? (hp.objs.size + 1) = some (PySem.HandSPX.excO C hp.objs.size) := by heap_get
  have I2 : L2.Inv X pins σ (upd H1 (hp.objs.size + 1) (exo (hp.objs.size + 1) C none)) ⟨(hp.push (PySem.W.kdv_tup us)).push (PySem.HandSPX.excO C hp.objs.size), g, dr, tk, os⟩ :=
    I1.laid (t' := tk) (a := hp.objs.size + 1) (o := exo (hp.objs.size + 1) C none) (h' := (hp.push (PySem.W.kdv_tup us)).push (PySem.HandSPX.excO C hp.objs.size)) old up (exo_ok made)
  have rel : Vals (V.ref (hp.objs.size + 1) :: (vs ++ dvs)) (Value.ref (hp.objs.size + 1) :: (us ++ ds)) := .cons rfl (r1.append hd)
  have len : (Value.ref (hp.objs.size + 1) :: us ++ ds).length = ps.length := by
    have z := rel.length
    rw [G.len _ _ _ _ want] at z
    exact z.symm
  have short : us.length ≤ sizeLine := by
    rw [← Paired.length r1, sizeLine_eq]
    omega
  refine wpAny_call (PySem.HandSPX.call_own facts (fun Y => ov.has Y) (I1.kIn _ _ atC) (PySem.W.looks_findIn I1.kIn ini) (fun self => PySem.W.bind_fn I1.kIn self isF) short (codeAny_mono
    (G.run _ X.stack _ _ ⟨Value.ref (hp.objs.size + 1) :: us, []⟩ (Value.ref (hp.objs.size + 1) :: (us ++ ds)) _ _ (fun _ _ _ => False) (hr.make C us []) (I2.env0.make C us []) (hb _ (Value.ref (hp.objs.size + 1) :: us) I2.kIn len) rel want) ?_))
  intro r s' z
  cases r with
  | error er => exact hx pins σ _ _ er s' I2 z
  | ok fl =>
    cases fl with
    | next => exact False.elim z
    | brk => exact False.elim z
    | cont => exact False.elim z
    | ret u =>
      obtain ⟨v, H2, os2, bare2, un2, hok2, rv, ev, d, fs, ea, ed, hd1, q2⟩ := z
      subst ev
      obtain ⟨h2, g2, d2, t2, os'⟩ := s'
      exact ⟨rv, mk_end (raises_own T.exc T.typ) I1 up old un2 hok2 os2 bare2 ea ed hd1 q2⟩
end
end Par
namespace Par
open PySem PySem.Spec PyProof.Rows L2
/-- a statement that is never reached -/
theorem ps_off {X : Cx} {st : Stmt} : PS X st (fun _ _ _ => False) := ⟨fun _ _ _ _ _ _ h => h.elim⟩
/-- o.m(k = v, ..) -/
def tMethK (C : Addr) (m : Str) (n : Nat) (sp : Sp) (gV : List V → List V → List V) (E : XK) (ta : TE) (tk : TA) : TE := fun σ H Q => ta σ H fun x H1 => ∃ a dx fs, x = .ref a ∧ H1 a = some (.ins C dx fs) ∧ fs.lookup m = none ∧
  tk σ H1 fun zs H2 => zs.length = n ∧ sp (gV [x] zs) H2 Q E
section
variable {X : Cx} {CX : CXT} {k : Nat} {f C : Addr} {fd : FuncData} {ps ks : List Str} {sp : Sp} {E : XK} {x m : Str} {p pos apos : Pos} {e o : Expr} {es : List Expr} {kws : List Keyword} {ta : TE} {t tk : TA}
  {g : List Value → List Value → List Value} {gV : List V → List V → List V}
theorem pe_methK {pl : Sem Bool} (he : PE X o ta) (c : Cls X.K C) (hm : Meth X.K C m f) (F : FnOk X.prog X.w X.K X.mg X.base CX k f fd ps sp) (hr : Room k X.A) (hb : KBn X.K fd ps 1 ks g gV) (hx : Passes CX X E) (hkw : PK X kws tk)
    (hall : (backToKw pos (keywordEach kws X.env)).all (·.1.isSome) = true := by rfl) (hks : (backToKw pos (keywordEach kws X.env)).filterMap (·.1) = ks := by rfl)
    (hpl : ((backTo pos (starEach [] X.env)).any (·.1) || (backToKw pos (keywordEach kws X.env)).any (·.1.isNone)) = false := by rfl)
    (ht : eval (.Call (.Attribute o m apos) [] kws pos) X.env = (do
      let ov ← eval o X.env
      standAt apos.atName
      let (f, first) ← holding [ov] (getMethod ov m pl)
      callWith pos f first (backTo pos (starEach [] X.env)) (backToKw pos (keywordEach kws X.env))) := by rfl) :
    PE X (.Call (.Attribute o m apos) [] kws pos) (tMethK C m ks.length sp gV E ta tk) := by
  refine ⟨fun pins s σ H Q I h => ?_⟩
  refine PySem.W.methodCall_KW (pl := pl) (thn (he.run pins s σ H _ I h) ?_) ht
  rintro u s1 ⟨x, H1, I1, rx, a, dx, fs, ex, ea, l, q⟩
  subst ex
  obtain rfl : u = Value.ref a := rx
  refine getmeth_ok I1 ea c hm l ?_
  refine PySem.W.callWith_KW0 (first := [.ref a]) (h₀ := X.base) I.ok.mod.kin hm.kp hall ?_ hpl
  refine thn (hkw.run pos pins s1 σ H1 _ I1 q) ?_
  rintro ws s2 ⟨zs, H2, I2, rz, l2, q2⟩
  refine ⟨I2.kIn, ?_⟩
  rw [hks]
  have r1 : Vals [V.ref a] ([.ref a] ++ []) := .cons rfl .nil
  refine wpAny_call (codeAny_mono (F.run X.A X.stack s2 H2 ⟨[.ref a] ++ [], ks.zip ws⟩ (g [.ref a] ws) (gV [.ref a] zs) Q E hr I2.env0
    (hb.to s2 [.ref a] ws I2.kIn rfl (rz.length.symm.trans l2)) (hb.rel r1 rz) q2) ?_)
  intro res s3 hq
  cases res with
  | error er => exact hx pins σ H2 s2 er s3 I2 hq
  | ok fl =>
    cases fl with
    | ret u => exact I2.after hq
    | next => exact False.elim hq
    | brk => exact False.elim hq
    | cont => exact False.elim hq
/-- len(o), o an own instance whose class has __len__ -/
theorem cr_lenOwn (c : PySem.W.findIn X.K (.ref C) "__len__" = some (some (.ref f))) (hf : PySem.W.isFn X.K (.ref f) = true) (F : FnOk X.prog X.w X.K X.mg X.base CX k f fd ps sp) (hr : Room (k + 1) X.A) (hb : Binds X.K fd ps []) (hx : Passes CX X E) :
    CallR X (.builtin "len") (fun vs H Q => ∃ a dx fs, vs = [.ref a] ∧ H a = some (.ins C dx fs) ∧ sp [.ref a] H (fun v H2 => ∃ n : Int, v = .int n ∧ 0 ≤ n ∧ n < 2 ^ 63 ∧ Q (.int n) H2) E) := by
  intro pins s σ H vs us Q I r h
  obtain ⟨a, dx, fs, rfl, ha, q⟩ := h
  rw [Vals.ref1 r]
  obtain ⟨mA, O, _⟩ := ins_get I.hok ha
  obtain ⟨od, J, hl⟩ := O.look
  refine Calls.call_function_entry kind_len plain_len entry_len (args_len1 _) ?_
  unfold Builtin.«len»
  refine wpAny_bind (m := oneArg "len" _) (wpAny_pure ?_)
  refine wpAny_bind (m := callSpecial? (.ref a) (Str.ofString "__len__")) (PySem.W.special_fn I.kIn J c (beq_iff_eq.mp hf) ?_)
  have hlen : ([Value.ref a] ++ []).length = ps.length := F.len _ _ _ _ q
  refine wpAny_call (codeAny_mono (F.run X.A.in1 X.stack s H ⟨[.ref a], []⟩ [.ref a] [.ref a] _ E hr.in1 I.env0.in1 (hb s [.ref a] I.kIn hlen) (.cons rfl .nil) q) ?_)
  intro res s3 hq
  cases res with
  | error er => exact hx pins σ H s er s3 I hq
  | ok fl =>
    cases fl with
    | next => exact False.elim hq
    | brk => exact False.elim hq
    | cont => exact False.elim hq
    | ret u =>
      obtain ⟨v, H3, I3, rv, n, rfl, n0, n1, q3⟩ := I.after hq
      obtain ⟨tk, rfl⟩ := rv
      refine wpAny_bind (wpAny_holding (wpAny_pure ?_))
      refine wpAny_bind (wpAny_letGo ?_)
      show wpAny _ _ (if n < 0 then _ else _) _ _ _
      rw [if_neg (by omega)]
      show wpAny _ _ (if n ≥ 2 ^ 63 then _ else _) _ _ _
      rw [if_neg (by omega)]
      exact wpAny_bind (wpAny_mkInt (wpAny_pure ⟨_, rfl, .int n, H3, I3.tok _, ⟨_, rfl⟩, q3⟩))
end
end Par
namespace Par
open PySem PySem.Spec PyProof.Rows L2
/-- a class of the text's own with an own ==, no own != -/
structure EqC (K : PySem.W.Frag) (C f : Addr) : Prop where
  is : ∃ nm q N bs hd sn sub ab col dd k0 k1 k2 k3 k5 newId, K.lookup C = some (excClassObj nm q C N bs [.type "object"] hd sn sub ab col dd k0 k1 k2 k3 k5 newId) ∧ PySem.W.nsOkIn K N = true ∧ PySem.W.nsIn K N "__eq__" = some (some (.ref f)) ∧ PySem.W.nsIn K N "__ne__" = some none
  eq : PySem.W.findIn K (.ref C) "__eq__" = some (some (.ref f))
  fn : PySem.W.isFn K (.ref f) = true
theorem look_eq : typeLookup (.type "object") "__eq__" = pure (some (.builtin "object.__eq__")) := by
  rw [typeLookup_type, builtinLookup_eq_fast]
  kernel_rfl
theorem ns_some_of {K : PySem.W.Frag} {h : Heap} {N : Addr} {mg : Str → Option Value} {n : Str} {v : Value} (X : K.In h) (G : h.Ns N mg) (e : PySem.W.nsIn K N n = some (some v)) : mg n = some v := by
  obtain ⟨o, es, ep, ho, hd, _, hf⟩ := G
  unfold PySem.W.nsIn at e
  split at e
  · rename_i c d es' n' sl q
    have := X _ _ q
    rw [ho] at this
    cases this
    cases hd
    split at e
    · rename_i x he
      rw [← hf]
      unfold nsFind findBy
      rw [← Array.find?_toList, he]
      simpa using e
    · split at e <;> cases e
  · cases e
theorem fn_at {K : PySem.W.Frag} {h : Heap} {f : Addr} (X : K.In h) (e : PySem.W.isFn K (.ref f) = true) : ∃ o : Obj, h.get? f = some o ∧ o.cls = .type "function" := by
  unfold PySem.W.isFn PySem.W.typeIn at e
  cases q : K.lookup f with
  | none => simp [q] at e
  | some o =>
    simp [q] at e
    exact ⟨o, X _ _ q, e⟩
section
variable {X : Cx} {C f : Addr} {CX : CXT} {n : Nat} {fd : FuncData} {ps : List Str} {sp : Sp} {E : XK}
/-- the own ==, or !=, of two instances of the class -/
def rOwn (C : Addr) (sp : Sp) (E : XK) (neg : Bool) : R2 := fun x y H Q => ∃ a b dx dy fs gs, x = .ref a ∧ y = .ref b ∧ H a = some (.ins C dx fs) ∧ H b = some (.ins C dy gs) ∧
  sp [.ref a, .ref b] H (fun v H' => ∃ r : Bool, v = .bl r ∧ Q (.bl (xor neg r)) H') E
theorem own_call {pins : List (Addr × Obj)} {s : Shared} {σ : L2.St} {H : Hp} {a b : Addr} {A : Around} {Q : V → Hp → Prop} (I : Inv X pins σ H s) (F : FnOk X.prog X.w X.K X.mg X.base CX n f fd ps sp) (hr : Room n A) (hA : A.frames = X.A.frames) (hb : Binds X.K fd ps []) (hx : Passes CX X E)
    (h : sp [.ref a, .ref b] H Q E) : wpAny (model X.prog X.w) A (call (.ref f) [.ref a, .ref b]) (fun v s' => ∃ u H', Inv X pins σ H' s' ∧ RelV u v ∧ Q u H') X.xe s := by
  have e0 : Env0 X.prog X.w X.K X.mg X.base A X.stack s H := by
    have e := I.env0
    exact ⟨by rw [hA]; exact e.frames, e.mod, e.bs, e.bsz, e.funs, e.frf, e.hok, e.bare⟩
  have hl := F.len _ _ _ _ h
  have r2 : Vals [V.ref a, V.ref b] [Value.ref a, Value.ref b] := .cons rfl (.cons rfl .nil)
  refine wpAny_call (codeAny_mono (F.run A X.stack s H ⟨[.ref a, .ref b], []⟩ [.ref a, .ref b] [.ref a, .ref b] Q E hr e0 (by
    have := hb s [.ref a, .ref b] I.kIn (by simpa using hl)
    simpa using this) r2 h) fun r s' hq => ?_)
  cases r with
  | error e => exact hx pins σ H s e s' I hq
  | ok fl =>
    cases fl with
    | ret w =>
      obtain ⟨z, H', I', rz, q⟩ := I.after hq
      exact ⟨z, H', I', rz, q⟩
    | next => exact False.elim hq
    | brk => exact False.elim hq
    | cont => exact False.elim hq
theorem op_ownNe (T : EqC X.K C f) (F : FnOk X.prog X.w X.K X.mg X.base CX n f fd ps sp) (hr : Room (n + 1) X.A) (hb : Binds X.K fd ps []) (hx : Passes CX X E) : OpR X (compareOp .NotEq) (rOwn C sp E true) := by
  intro pins s σ H x y v u Q I rx ry h
  obtain ⟨a, b, dx, dy, fs, gs, rfl, rfl, ha, hb', h⟩ := h
  cases rx
  cases ry
  obtain ⟨mA, J, _⟩ := ins_get I.hok ha
  obtain ⟨mB, J', _⟩ := ins_get I.hok hb'
  obtain ⟨oda, Ja, _⟩ := J.look
  obtain ⟨odb, Jb, _⟩ := J'.look
  obtain ⟨nm, q, N, bs, hd, sn, sub, ab, col, dd, k0, k1, k2, k3, k5, newId, hC, hN, hE, hNe⟩ := T.is
  obtain ⟨of, h1, h2⟩ := fn_at I.kIn T.fn
  have G : s.heap.Ns N (s.heap.nsMap N) := .of_isNs (PySem.W.isNs_of_in I.kIn hN)
  have O : s.heap.OwnEqNoNe a C f "object" [.type "object"] := ⟨_, of, nm, q, N, bs, hd, sn, sub, ab, col, dd, k0, k1, k2, k3, k5, newId, _, _, Ja.at_, Ja.cls, I.kIn _ _ hC, G, ns_some_of I.kIn G hE, h1, h2, PySem.F.cmp_object.mro, look_eq, PySem.W.ns_none_of I.kIn G hNe⟩
  refine compareOp_ne_ownEq PySem.F.cmp_object O Jb.at_ Jb.cls (by have := hr.units; omega) ?_
  refine wpAny_mono (own_call I F hr.in1 rfl hb hx h) (fun v s' hv => ?_) fun _ _ e => e
  obtain ⟨z, H', I', rz, r, rfl, q⟩ := hv
  cases rz
  exact ⟨r, rfl, .bl (!r), H', I', rfl, by simpa using q⟩
theorem op_ownEq (T : EqC X.K C f) (F : FnOk X.prog X.w X.K X.mg X.base CX n f fd ps sp) (hr : Room n X.A) (hb : Binds X.K fd ps []) (hx : Passes CX X E) : OpR X (compareOp .Eq) (rOwn C sp E false) := by
  intro pins s σ H x y v u Q I rx ry h
  obtain ⟨a, b, dx, dy, fs, gs, rfl, rfl, ha, hb', h⟩ := h
  cases rx
  cases ry
  obtain ⟨mA, J, _⟩ := ins_get I.hok ha
  obtain ⟨mB, J', _⟩ := ins_get I.hok hb'
  obtain ⟨oda, Ja, _⟩ := J.look
  obtain ⟨odb, Jb, _⟩ := J'.look
  obtain ⟨m, hF⟩ := I.fr
  show wpAny (model X.prog X.w) X.A (richCompare .Eq (.ref a) (.ref b)) (EP X pins σ Q) X.xe s
  refine PySem.W.cmp_K (op := .Eq) (tb := .ref C) hr.units0 hF I.ok.mod.kin Ja Jb.type (by simp [PySem.W.notFirst]) T.eq T.fn ?_
  refine wpAny_mono (own_call I F hr rfl hb hx h) (fun v s' hv => ?_) fun _ _ e => e
  obtain ⟨z, H', I', rz, r, rfl, q⟩ := hv
  cases rz
  exact ⟨.bl r, H', I', rfl, by simpa using q⟩
end
end Par
namespace K14
open PySem PySem.Spec PyProof.Rows L2 Par
theorem in_intsD (x : Int) (ns : List Int) : inV (.int x) (ns.map V.int) = decide (x ∈ ns) := by
  unfold inV
  rw [List.any_map]
  rw [Bool.eq_iff_iff, List.any_eq_true, decide_eq_true_eq]
  constructor
  · rintro ⟨y, hy, e⟩
    have e2 : (y == x) = true := e
    have e3 : y = x := by simpa using e2
    exact e3 ▸ hy
  · intro h
    refine ⟨x, h, ?_⟩
    show (x == x) = true
    simp
theorem nodup_lt_ {l : List Int} (h : l.Pairwise (· < ·)) : l.Nodup := h.imp (fun a e => by omega)
section
variable {P : Program} {w : World} {K : PySem.W.Frag} {mg : Str → Option Value} {base : Heap}
/-- a method that is called by places -/
def HasM (P : Program) (w : World) (K : PySem.W.Frag) (mg : Str → Option Value) (base : Heap) (C : Addr) (m : Str) (lv : Nat) (ps : List Str) (sp : Sp) : Prop :=
  ∃ f fd, FnOk P w K mg base CX0 lv f fd ps sp ∧ Meth K C m f ∧ Binds K fd ps []
/-- a width from 1 to most -/
def spWidth : Sp := fun vs H Q _ => ∃ (p : Addr) (m : Int), vs = [.ref p, .int m] ∧ PotAt H p ∧ 4 ≤ m ∧ m ≤ 1000 ∧ ∀ (n : Nat) H', 1 ≤ n → (n : Int) ≤ m → But p H H' → PotAt H' p → Q (.int (n : Nat)) H'
theorem scWidth : FnScope ["_law_pot_here", "_law_most"] ["_law_pot_here", "_law_most"] (defScope sWidth) := ⟨rfl, rfl, rfl, by decide +kernel, rfl, by decide +kernel, by decide +kernel⟩
theorem ok_width {f : Addr} {fd : FuncData} (F : Fun K "_law_width" "_law_width" sWidth f fd) (B : Bl mg) (D : Has P w K mg base "_law_draw" 2 ["_law_pot_here", "_law_many"] spDraw) : FnOk P w K mg base CX0 3 f fd ["_law_pot_here", "_law_most"] spWidth := by
  obtain ⟨fD, fdD, GD, mD, kD, bD⟩ := D
  refine F.ok scWidth (fun vs H Q E h => ?_) (fun cdv A outer s H vs Q E hr h => ?_)
  · obtain ⟨p, m, rfl, _⟩ := h
    rfl
  · obtain ⟨p, m, rfl, hp, m1, m2, out⟩ := h
    refine ⟨_, pss_one (ps_ret (pe_ix ix_list (pe_lst (pa_cons (pe_callB (call_min2 rfl) (by rfl) B.min (by decide +kernel) (pa_cons pe_int (pa_cons (pv 1) pa_nil))) (pa_cons (pe_callB (call_min2 rfl) (by rfl) B.min (by decide +kernel) (pa_cons pe_int (pa_cons (pv 1) pa_nil)))
      (pa_cons (pe_op op_add pe_int (pe_call GD hr (by rfl) mD kD bD .nil pass0 (pa_cons (pv 0) (pa_cons (pv 1) pa_nil)))) pa_nil)))) (pe_call GD hr (by rfl) mD kD bD .nil pass0 (pa_cons (pv 0) (pa_cons pe_int pa_nil))) (fun _ _ => rfl))), ?_⟩
    refine ⟨_, rfl, 2, m, rfl, ?_⟩
    refine ⟨_, rfl, 4, m, rfl, ?_⟩
    refine ⟨_, rfl, _, rfl, p, m, rfl, hp, by omega, by omega, ?_⟩
    intro d H1 d0 d1 b1 hp1
    refine ⟨1, d, rfl, rfl, (by show 3 ≤ sizeLine; decide), fun q hq => ?_⟩
    have hp2 := hp1.same (same_new (o := .lst [.int (if m < 2 then m else 2), .int (if m < 4 then m else 4), .int (1 + d)]) hq)
    refine ⟨_, rfl, p, 3, rfl, hp2, by decide, by decide, ?_⟩
    intro e H2 e0 e1 b2 hp3
    have nq : q ≠ p := fun z => by
      obtain ⟨_, _, y, _⟩ := hp1
      rw [← z, hq] at y
      cases y
    have hq2 := b2 q _ nq upd_same
    have bb : But p H H2 := (b1.trans (But.new hq)).trans b2
    rcases (show e = 0 ∨ e = 1 ∨ e = 2 by omega) with rfl | rfl | rfl
    · refine ⟨q, _, 0, _, rfl, rfl, SqL.of hq2, rfl, ?_⟩
      rw [if_neg (by omega)]
      exact out 2 H2 (by decide) (by omega) bb hp3
    · refine ⟨q, _, 1, _, rfl, rfl, SqL.of hq2, rfl, ?_⟩
      rw [if_neg (by omega)]
      exact out 4 H2 (by decide) (by omega) bb hp3
    · refine ⟨q, _, 2, _, rfl, rfl, SqL.of hq2, rfl, ?_⟩
      have z := out (1 + d).toNat H2 (by omega) (by omega) bb hp3
      have y : (((1 + d).toNat : Nat) : Int) = 1 + d := by omega
      rw [y] at z
      exact z
end
/-- how many of the first stand in the second, too -/
def comm (ns ms : List Int) : List Int := ns.filter fun k => decide (k ∈ ms)
theorem mem_comm {ns ms : List Int} (k : Int) : k ∈ comm ns ms ↔ (decide (k ∈ ns) && decide (k ∈ ms)) = true := by
  unfold comm
  rw [List.mem_filter, Bool.and_eq_true, decide_eq_true_eq, decide_eq_true_eq]
theorem comm_perm {ns ns' ms ms' : List Int} (h1 : ns'.Perm ns) (h2 : ms'.Perm ms) : (comm ns' ms').length = (comm ns ms).length := by
  have e : (fun k => decide (k ∈ ms')) = (fun k => decide (k ∈ ms)) := funext fun k => by
    by_cases z : k ∈ ms
    · rw [decide_eq_true z, decide_eq_true (h2.mem_iff.mpr z)]
    · rw [decide_eq_false z, decide_eq_false (fun q => z (h2.mem_iff.mp q))]
  unfold comm
  rw [e]
  exact (h1.filter _).length_eq
section
variable {P : Program} {w : World} {K : PySem.W.Frag} {mg : Str → Option Value} {base : Heap}
/-- share_odd of two tuples of cells -/
def spShare (K : PySem.W.Frag) : Sp := fun vs H Q _ => ∃ (a b : Addr) (ns ms : List Int), vs = [.ref a, .ref b] ∧ SqT K H a (ns.map V.int) ∧ SqT K H b (ms.map V.int) ∧ ns.length ≤ 500 ∧ ms.length ≤ 500 ∧ (∀ k ∈ ns, Cell k) ∧ (∀ k ∈ ms, Cell k) ∧ ns.Nodup ∧
  ∀ H', Same H H' → Q (.bl (decide ((comm ns ms).length % 2 = 1))) H'
theorem scShare : FnScope ["one", "other"] ["one", "other"] (defScope sShare) := ⟨rfl, rfl, rfl, by decide +kernel, rfl, by decide +kernel, by decide +kernel⟩
theorem ok_share {f : Addr} {fd : FuncData} (F : Fun K "share_odd" "share_odd" sShare f fd) (B : Bl mg) : FnOk P w K mg base CX0 2 f fd ["one", "other"] (spShare K) := by
  refine F.ok scShare (fun vs H Q E h => ?_) (fun cdv A outer s H vs Q E hr h => ?_)
  · obtain ⟨a, b, ns, ms, rfl, _⟩ := h
    rfl
  · obtain ⟨a, b, ns, ms, rfl, ha, hb, l1, l2, c1, c2, nd, out⟩ := h
    refine ⟨_, pss_one (ps_ret (pe_cmpR op_eq (pe_op op_mod (pe_callB cr_lenSet (by rfl) B.len PySem.boot_len (pa_cons (pe_op op_andS (pe_callTy (cr_setTup rfl) (by rfl) B.set (by decide +kernel) (pa_cons (pv 0) pa_nil)) (pe_callTy (cr_setTup rfl) (by rfl) B.set (by decide +kernel) (pa_cons (pv 1) pa_nil))) pa_nil)) pe_int) pe_int (nomark _))), ?_⟩
    refine ⟨_, rfl, a, ns, rfl, ha, by omega, fun p1 n1 hp1 => ?_⟩
    have s1 := same_new (o := SetO w p1 (fun j => decide (j ∈ ns)) n1) hp1
    refine ⟨_, rfl, b, ms, rfl, same_sqt s1 hb, by omega, fun p2 n2 hp2 => ?_⟩
    have s2 := same_new (o := SetO w p2 (fun j => decide (j ∈ ms)) n2) hp2
    have ne : p1 ≠ p2 := fun z => by
      rw [← z, upd_same] at hp2
      cases hp2
    refine ⟨p1, p2, _, _, n1, n2, rfl, rfl, ne, s2 _ _ upd_same, upd_same, fun k hk => c1 k (of_decide_eq_true hk), fun k hk => c2 k (of_decide_eq_true hk), fun p3 c hp3 hc => ?_⟩
    have s3 := same_new (o := SetO w p3 (fun k => decide (k ∈ ns) && decide (k ∈ ms)) c) hp3
    have ec : c = (comm ns ms).length := hc _ (nd.sublist List.filter_sublist) mem_comm
    have lc : (comm ns ms).length ≤ ns.length := List.length_filter_le ..
    subst ec
    refine ⟨p3, _, _, rfl, upd_same, by omega, _, _, rfl, rfl, (by show (0 : Int) < 2; decide), rfl, ?_⟩
    have := out _ ((s1.trans s2).trans s3)
    have e : decide ((comm ns ms).length % 2 = 1) = decide (V.int ((((comm ns ms).length : Nat) : Int) % 2) = V.int 1) := by
      by_cases z : (comm ns ms).length % 2 = 1
      · rw [decide_eq_true z, decide_eq_true (by congr 1; omega)]
      · rw [decide_eq_false z, decide_eq_false (fun q => z (by injection q with q; omega))]
    rw [e] at this
    exact this
/-- a flip at f, with these cells -/
def Fp (C : Addr) (H : Hp) (f : Addr) (ts hs : List Int) : Prop := ∃ dx t1 t2, H f = some (.ins C dx [("tested_cells", .ref t1), ("toggled_cells", .ref t2)]) ∧ H t1 = some (.tup (ts.map V.int)) ∧ H t2 = some (.tup (hs.map V.int))
theorem Fp.same {C : Addr} {H H' : Hp} {f : Addr} {ts hs : List Int} (s : Same H H') (h : Fp C H f ts hs) : Fp C H' f ts hs := by
  obtain ⟨dx, t1, t2, h1, h2, h3⟩ := h
  exact ⟨dx, t1, t2, s _ _ h1, s _ _ h2, s _ _ h3⟩
structure FC (K : PySem.W.Frag) (mg : Str → Option Value) (C : Addr) : Prop where
  cl : Cls K C
  nT : NoAttr K C "tested_cells"
  nG : NoAttr K C "toggled_cells"
  mgC : mg "Flip" = some (.ref C)
theorem fld1 {v u : V} : ([("tested_cells", v), ("toggled_cells", u)] : List (Str × V)).lookup ("tested_cells" : Str) = some v := by
  simp [List.lookup]
theorem fld2 {v u : V} : ([("tested_cells", v), ("toggled_cells", u)] : List (Str × V)).lookup ("toggled_cells" : Str) = some u := by
  have e : (("toggled_cells" : Str) == ("tested_cells" : Str)) = false := by decide +kernel
  simp [List.lookup, e]
theorem no2 {m : Str} {v u : V} (h : (m == ("tested_cells" : Str)) = false) (h2 : (m == ("toggled_cells" : Str)) = false) : ([("tested_cells", v), ("toggled_cells", u)] : List (Str × V)).lookup m = none := by
  simp [List.lookup, h, h2]
theorem put2 {v u : V} : putF "toggled_cells" u ([("tested_cells", v)] : List (Str × V)) = ([("tested_cells", v), ("toggled_cells", u)] : List (Str × V)) := by
  have e : ¬ (("tested_cells" : Str) = "toggled_cells") := by decide +kernel
  show (if ("tested_cells" : Str) = "toggled_cells" then _ else (("tested_cells" : Str), v) :: putF "toggled_cells" u []) = _
  rw [if_neg e]
  rfl
def spTested (C : Addr) : Sp := fun vs H Q _ => ∃ (f : Addr) (ts hs : List Int), vs = [.ref f] ∧ Fp C H f ts hs ∧ ∀ t, H t = some (.tup (ts.map V.int)) → Q (.ref t) H
def spToggled (C : Addr) : Sp := fun vs H Q _ => ∃ (f : Addr) (ts hs : List Int), vs = [.ref f] ∧ Fp C H f ts hs ∧ ∀ t, H t = some (.tup (hs.map V.int)) → Q (.ref t) H
theorem scTested : FnScope ["self"] ["self"] (defScope gTested) := ⟨rfl, rfl, rfl, by decide +kernel, rfl, by decide +kernel, by decide +kernel⟩
theorem scToggled : FnScope ["self"] ["self"] (defScope gToggled) := ⟨rfl, rfl, rfl, by decide +kernel, rfl, by decide +kernel, by decide +kernel⟩
theorem ok_tested {f C : Addr} {fd : FuncData} (F : Fun K "tested" "Flip.tested" gTested f fd) (T : FC K mg C) : FnOk P w K mg base CX0 2 f fd ["self"] (spTested C) := by
  refine F.ok scTested (fun vs H Q E h => ?_) (fun cdv A outer s H vs Q E hr h => ?_)
  · obtain ⟨b, ts, hs, rfl, _⟩ := h
    rfl
  · obtain ⟨b, ts, hs, rfl, ⟨dx, t1, t2, h1, h2, h3⟩, out⟩ := h
    refine ⟨_, pss_one (ps_ret (pe_fld (pv 0) rfl)), ?_⟩
    exact ⟨_, rfl, b, C, dx, _, _, rfl, h1, T.cl, T.nT, fld1, out t1 h2⟩
theorem ok_toggled {f C : Addr} {fd : FuncData} (F : Fun K "toggled" "Flip.toggled" gToggled f fd) (T : FC K mg C) : FnOk P w K mg base CX0 2 f fd ["self"] (spToggled C) := by
  refine F.ok scToggled (fun vs H Q E h => ?_) (fun cdv A outer s H vs Q E hr h => ?_)
  · obtain ⟨b, ts, hs, rfl, _⟩ := h
    rfl
  · obtain ⟨b, ts, hs, rfl, ⟨dx, t1, t2, h1, h2, h3⟩, out⟩ := h
    refine ⟨_, pss_one (ps_ret (pe_fld (pv 0) rfl)), ?_⟩
    exact ⟨_, rfl, b, C, dx, _, _, rfl, h1, T.cl, T.nG, fld2, out t2 h3⟩
/-- cell_tuple, called with its default size -/
def HasD (P : Program) (w : World) (K : PySem.W.Frag) (mg : Str → Option Value) (base : Heap) (x : Str) (lv : Nat) (y : Str) (sp : Sp) : Prop :=
  ∃ f fd ds, FnOk P w K mg base CX0 lv f fd [y, "size"] sp ∧ mg x = some (.ref f) ∧ PySem.W.keepIn K (.ref f) = true ∧ Vals [V.int 40] ds ∧ Binds K fd [y, "size"] ds
theorem Sq.updI {C b dx v : Addr} {H : Hp} {fs : List (Str × V)} {xs : List V} {o : HO} (hb : H b = some (.ins C dx fs)) (h : Sq K H v xs) : Sq K (upd H b o) v xs := by
  have ne : ∀ {u : HO}, H v = some u → (∀ C dx fs, u ≠ .ins C dx fs) → v ≠ b := fun {u} e n z => by
    rw [z, hb] at e
    exact n _ _ _ (Option.some.inj e).symm
  rcases h with (h | ⟨o2, h⟩) | (h | ⟨o2, h⟩)
  · rcases (show H v = some (.lst xs) ∨ ∃ o', H v = some (.frz o' (.lst xs)) from by first | exact .inl h | exact h) with h | ⟨o', h⟩
    · exact .inl (.inl (.inl (by rw [upd_ne (ne h (fun _ _ _ z => by cases z))]; exact h)))
    · exact .inl (.inl (.inr ⟨o', by rw [upd_ne (ne h (fun _ _ _ z => by cases z))]; exact h⟩))
  · exact .inl (.inr ⟨o2, h⟩)
  · rcases (show H v = some (.tup xs) ∨ ∃ o', H v = some (.frz o' (.tup xs)) from by first | exact .inl h | exact h) with h | ⟨o', h⟩
    · exact .inr (.inl (.inl (by rw [upd_ne (ne h (fun _ _ _ z => by cases z))]; exact h)))
    · exact .inr (.inl (.inr ⟨o', by rw [upd_ne (ne h (fun _ _ _ z => by cases z))]; exact h⟩))
  · exact .inr (.inr ⟨o2, h⟩)
end
/-- cells that a flip may have -/
def OkF (ts hs : List Int) : Prop := (∀ k ∈ ts, 0 ≤ k ∧ k < 40) ∧ (∀ k ∈ hs, 1 ≤ k ∧ k < 40) ∧ ts.Nodup ∧ hs.Nodup ∧ ts.length ≤ 40 ∧ hs.length ≤ 40
section
variable {P : Program} {w : World} {K : PySem.W.Frag} {mg : Str → Option Value} {base : Heap}
/-- the least size that these cells fit -/
def Fits (ts hs : List Int) (M : Int) : Prop := (∀ k, k ∈ ts ∨ k ∈ hs → k < M) ∧ 1 ≤ M ∧ (M = 1 ∨ (M - 1) ∈ ts ∨ (M - 1) ∈ hs)
theorem Fits.one {ts hs : List Int} {M N : Int} (h1 : Fits ts hs M) (h2 : Fits ts hs N) : M = N := by
  have le : ∀ {M N : Int}, Fits ts hs M → Fits ts hs N → M ≤ N := fun {M N} a b => by
    rcases a.2.2 with z | z
    · have := b.2.1
      omega
    · have := b.1 _ z
      omega
  exact Int.le_antisymm (le h1 h2) (le h2 h1)
def spFWidth (C : Addr) : Sp := fun vs H Q _ => ∃ (f : Addr) (ts hs : List Int), vs = [.ref f] ∧ Fp C H f ts hs ∧ ts.length ≤ 500 ∧ hs.length ≤ 500 ∧ (∀ k ∈ ts, 0 ≤ k) ∧ (∀ k ∈ hs, 0 ≤ k) ∧ ∀ M H', Same H H' → Fits ts hs M → Q (.int M) H'
theorem scFWidth : FnScope ["self"] ["self"] (defScope gWidth) := ⟨rfl, rfl, rfl, by decide +kernel, rfl, by decide +kernel, by decide +kernel⟩
theorem ok_fwidth {f C : Addr} {fd : FuncData} (F : Fun K "width" "Flip.width" gWidth f fd) (B : Bl mg) (T : FC K mg C) : FnOk P w K mg base CX0 2 f fd ["self"] (spFWidth C) := by
  refine F.ok scFWidth (fun vs H Q E h => ?_) (fun cdv A outer s H vs Q E hr h => ?_)
  · obtain ⟨b, ts, hs, rfl, _⟩ := h
    rfl
  · obtain ⟨b, ts, hs, rfl, ⟨dx, t1, t2, h1, h2, h3⟩, l1, l2, p1, p2, out⟩ := h
    refine ⟨_, pss_one (ps_ret (pe_op op_add (pe_callBK (ks := ["default"]) (cr_maxD rfl) (by rfl) B.max (by decide +kernel) (pa_cons (pe_op op_catB (pe_fld (pv 0) rfl) (pe_fld (pv 0) rfl)) pa_nil) (pk_cons pe_int pk_nil)) pe_int)), ?_⟩
    refine ⟨_, rfl, b, C, dx, _, _, rfl, h1, T.cl, T.nT, fld1, _, rfl, b, C, dx, _, _, rfl, h1, T.cl, T.nG, fld2, t1, t2, _, _, rfl, rfl, SqT.of h2, SqT.of h3, (by rw [List.length_map, List.length_map, sizeLine_eq]; omega), fun c H1 s1 hc => ?_⟩
    rw [← List.map_append] at hc
    refine ⟨c, ts ++ hs, 0, rfl, rfl, hc, fun M m1 m2 => ⟨M, 1, rfl, rfl, out (M + 1) H1 s1 ?_⟩⟩
    by_cases hn : ts ++ hs = []
    · have e := m1 hn
      subst e
      refine ⟨fun k hk => ?_, by omega, .inl (by omega)⟩
      have : k ∈ ts ++ hs := List.mem_append.mpr hk
      rw [hn] at this
      cases this
    · obtain ⟨mm, up⟩ := m2 hn
      have m0 : 0 ≤ M := by
        rcases List.mem_append.mp mm with z | z
        · exact p1 M z
        · exact p2 M z
      refine ⟨fun k hk => ?_, by omega, .inr ?_⟩
      · have := up k (List.mem_append.mpr hk)
        omega
      · rw [show M + 1 - 1 = M by omega]
        exact List.mem_append.mp mm
end
section
variable {P : Program} {w : World} {K : PySem.W.Frag} {mg : Str → Option Value} {base : Heap}
/-- two lists of cells that make a flip, in a tuple -/
def Pr (K : PySem.W.Frag) (H : Hp) (p : Addr) (ts hs : List Int) : Prop := ∃ t h, SqT K H p [.ref t, .ref h] ∧ H t = some (.lst (ts.map V.int)) ∧ H h = some (.lst (hs.map V.int))
theorem Pr.same {H H' : Hp} {p : Addr} {ts hs : List Int} (s : Same H H') (h : Pr K H p ts hs) : Pr K H' p ts hs := by
  obtain ⟨t, g, h1, h2, h3⟩ := h
  exact ⟨t, g, same_sqt s h1, s _ _ h2, s _ _ h3⟩
end
theorem filter_one {l : List Int} {g : Int} (hn : l.Nodup) (hg : g ∈ l) : (l.filter fun k => decide (¬ k = g)).length + 1 = l.length := by
  induction l with
  | nil => cases hg
  | cons a l ih =>
    obtain ⟨h1, h2⟩ := List.nodup_cons.mp hn
    by_cases e : a = g
    · subst e
      have same : (l.filter fun k => decide (¬ k = a)) = l := List.filter_eq_self.mpr fun k hk => decide_eq_true fun z => h1 (z ▸ hk)
      rw [List.filter_cons_of_neg (by simp), same, List.length_cons]
    · have hg2 : g ∈ l := by
        rcases List.mem_cons.mp hg with z | z
        · exact absurd z.symm e
        · exact z
      rw [List.filter_cons_of_pos (by simp [e]), List.length_cons, List.length_cons, ih h2 hg2]
theorem comm_left {ts hs : List Int} (g : Int) : comm (ts.filter fun k => decide (¬ k = g)) hs = (comm ts hs).filter fun k => decide (¬ k = g) := by
  unfold comm
  rw [List.filter_filter, List.filter_filter]
  congr 1
  funext k
  exact Bool.and_comm _ _
theorem comm_right {ts hs : List Int} (g : Int) : comm ts (hs.filter fun k => decide (¬ k = g)) = (comm ts hs).filter fun k => decide (¬ k = g) := by
  unfold comm
  rw [List.filter_filter]
  congr 1
  funext k
  by_cases z : k = g
  · subst z
    simp
  · simp [List.mem_filter, z]
theorem filt_step {l : List Int} {f : Int → Bool} {i : Nat} {k : Int} (h : l[i]? = some k) : (l.take (i + 1)).filter f = (l.take i).filter f ++ (if f k = true then [k] else []) := by
  rw [List.take_succ, h, List.filter_append]
  congr 1
  by_cases z : f k = true
  · simp [z]
  · simp [z]
section
variable {P : Program} {w : World} {K : PySem.W.Frag} {mg : Str → Option Value} {base : Heap}
/-- a tuple of two lists, none of them at p -/
def PrP (p : Addr) (H : Hp) (q : Addr) (ts hs : List Int) : Prop := ∃ t h, t ≠ p ∧ h ≠ p ∧ H q = some (.tup [.ref t, .ref h]) ∧ H t = some (.lst (ts.map V.int)) ∧ H h = some (.lst (hs.map V.int))
theorem PrP.pr {p q : Addr} {H : Hp} {ts hs : List Int} (h : PrP p H q ts hs) : Pr K H q ts hs := by
  obtain ⟨t, g, _, _, h1, h2, h3⟩ := h
  exact ⟨t, g, SqT.of h1, h2, h3⟩
theorem PrP.same {p q : Addr} {H H' : Hp} {ts hs : List Int} (s : Same H H') (h : PrP p H q ts hs) : PrP p H' q ts hs := by
  obtain ⟨t, g, n1, n2, h1, h2, h3⟩ := h
  exact ⟨t, g, n1, n2, s _ _ h1, s _ _ h2, s _ _ h3⟩
theorem PrP.but {p q : Addr} {H H' : Hp} {ts hs : List Int} (hp : PotAt H p) (s : But p H H') (h : PrP p H q ts hs) : PrP p H' q ts hs := by
  obtain ⟨t, g, n1, n2, h1, h2, h3⟩ := h
  have nq : q ≠ p := fun z => by
    obtain ⟨_, _, e, _⟩ := hp
    rw [z, e] at h1
    cases h1
  exact ⟨t, g, n1, n2, s _ _ nq h1, s _ _ n1 h2, s _ _ n2 h3⟩
/-- two lists that make a flip of this width -/
def spPairL : Sp := fun vs H Q _ => ∃ (p : Addr) (m : Nat), vs = [.ref p, .int (m : Nat)] ∧ PotAt H p ∧ 1 ≤ m ∧ m ≤ 40 ∧
  ∀ q (ts hs : List Int) H', H q = none → But p H H' → PotAt H' p → PrP p H' q ts hs → OkF ts hs → (∀ k ∈ ts, k < m) → (∀ k ∈ hs, k < m) → (comm ts hs).length % 2 = 0 → Q (.ref q) H'
abbrev nPair : List Str := ["_law_pot_here", "_law_width_here", "_law_tests", "_law_hits", "_law_both", "_law_gone", "_law_spot"]
theorem scPair : FnScope nPair ["_law_pot_here", "_law_width_here"] (defScope sPair) := ⟨rfl, rfl, rfl, by decide +kernel, rfl, by decide +kernel, by decide +kernel⟩
theorem ok_pair {f : Addr} {fd : FuncData} (F : Fun K "_law_pair" "_law_pair" sPair f fd) (B : Bl mg) (DD : Has P w K mg base "_law_draw" 2 ["_law_pot_here", "_law_many"] spDraw) (DS : Has P w K mg base "_law_spots" 3 ["_law_pot_here", "_law_least", "_law_width_here"] spSpots) :
    FnOk P w K mg base CX0 4 f fd ["_law_pot_here", "_law_width_here"] spPairL := by
  obtain ⟨fD, fdD, GD, mD, kD, bD⟩ := DD
  obtain ⟨fS, fdS, GS, mS, kS, bS⟩ := DS
  refine F.ok scPair (fun vs H Q E h => ?_) (fun cdv A outer s H vs Q E hr h => ?_)
  · obtain ⟨p, m, rfl, _⟩ := h
    rfl
  · obtain ⟨p, m, rfl, hp, m1, m2, out⟩ := h
    have r1 : Room 2 _ := hr.mono (by decide)
    refine ⟨_, pss_cons (ps_asg (pe_tup (pa_cons (pe_call GS hr (by rfl) mS kS bS .nil pass0 (pa_cons (pv 0) (pa_cons pe_int (pa_cons (pv 1) pa_nil)))) (pa_cons (pe_call GS hr (by rfl) mS kS bS .nil pass0 (pa_cons (pv 0) (pa_cons pe_int (pa_cons (pv 1) pa_nil)))) pa_nil))) (pg_tup rfl (pgs_cons (pg_name (i := 2) scPair.nd rfl (Or.inl rfl)) (pgs_cons (pg_name (i := 3) scPair.nd rfl (Or.inr rfl)) pgs_nil))))
      (pss_cons (ps_setLc (i := 4) (own := [("_law_spot", 6)]) (g := gName 6) (tt := tTest (tOp (rIn K false) (tVar 6) (tVar 3))) rfl scPair.nd rfl rfl (sw_true rfl rfl rfl (by decide +kernel)) (pi_list (pv 2)) (blkOk_by (own := [("_law_spot", 6)]) (N := nPair) (sc := defScope sPair) (by decide +kernel))
          (fun _ _ _ _ _ => pg_name (i := 6) scPair.nd rfl (Or.inl rfl)) (fun _ _ _ _ _ => by exact pts_one (pt_cmpR op_in_seq (pv 6) (pv 3) (by rfl))) (fun _ _ _ _ _ => pv 6))
      (pss_cons (ps_if (pt_cmpR op_eq (pe_op op_mod (pe_callB call_len_seq (by rfl) B.len PySem.boot_len (pa_cons (pv 4) pa_nil)) pe_int) pe_int (nomark _))
        (pss_cons (ps_set (i := 5) scPair.nd rfl (Or.inr rfl) (pe_ix ix_list (pv 4) (pe_call GD r1 (by rfl) mD kD bD .nil pass0 (pa_cons (pv 0) (pa_cons (pe_callB call_len_seq (by rfl) B.len PySem.boot_len (pa_cons (pv 4) pa_nil)) pa_nil))) (fun _ _ => rfl)))
        (pss_one (ps_if (pt_cmpR op_eq (pe_call GD r1 (by rfl) mD kD bD .nil pass0 (pa_cons (pv 0) (pa_cons pe_int pa_nil))) pe_int (nomark _))
          (pss_one (ps_setLc (i := 2) (own := [("_law_spot", 6)]) (g := gName 6) rfl scPair.nd rfl rfl (sw_true rfl rfl rfl (by decide +kernel)) (pi_list (pv 2)) (blkOk_by (own := [("_law_spot", 6)]) (N := nPair) (sc := defScope sPair) (by decide +kernel))
            (fun _ _ _ _ _ => pg_name (i := 6) scPair.nd rfl (Or.inl rfl)) (fun _ _ _ _ _ => pts_one (pt_cmpR op_ne (pv 6) (pv 5) (nomark _))) (fun _ _ _ _ _ => pv 6)))
          (pss_one (ps_set (i := 3) scPair.nd rfl (Or.inr rfl) (pe_lc (own := [("_law_spot", 6)]) (g := gName 6) rfl scPair.nd (pi_list (pv 3)) (blkOk_by (own := [("_law_spot", 6)]) (N := nPair) (sc := defScope sPair) (by decide +kernel))
            (fun _ _ _ _ _ => pg_name (i := 6) scPair.nd rfl (Or.inl rfl)) (fun _ _ _ _ _ => pts_one (pt_cmpR op_ne (pv 6) (pv 5) (nomark _))) (fun _ _ _ _ _ => pv 6))))))) pss_nil)
      (pss_one (ps_ret (pe_tup (pa_cons (pv 2) (pa_cons (pv 3) pa_nil))))))), ?_⟩
    refine ⟨_, rfl, _, rfl, p, 0, (m : Nat), rfl, hp, by decide, by decide, by omega, by omega, fun a1 ts H1 ha1 w1 i1 b1 pot1 e1 => ?_⟩
    refine ⟨_, rfl, _, rfl, p, 1, (m : Nat), rfl, pot1, by decide, by decide, by omega, by omega, fun a2 hs H2 ha2 w2 i2 b2 pot2 e2 => ?_⟩
    have na1 := pot_ne hp ha1
    have na2 := pot_ne pot1 ha2
    have nd1 := nodup_lt_ w1
    have nd2 := nodup_lt_ w2
    have len1 : ts.length ≤ 40 := cells_few nd1 fun k hk => by
      have := i1 k hk
      exact ⟨by omega, by omega⟩
    have len2 : hs.length ≤ 40 := cells_few nd2 fun k hk => by
      have := i2 k hk
      exact ⟨by omega, by omega⟩
    have b02 : But p H H2 := b1.trans b2
    have e12 : H2 a1 = some (.lst (ts.map V.int)) := b2 a1 _ na1 e1
    refine ⟨(by show 2 ≤ sizeLine; decide), fun T hT => ⟨T, _, rfl, SqT.of upd_same, rfl, _, _, rfl, _, _, rfl, rfl, ?_⟩⟩
    have s3 := same_new (o := .tup [.ref a1, .ref a2]) hT
    -- both
    refine ⟨_, rfl, a1, rfl, ⟨_, SqL.of (s3 _ _ e12)⟩, fun D hD => ?_⟩
    have hDH2 : H2 D = none := s3.free hD
    refine lc_list (K := K) (a := a1) (xs := ts.map V.int) (fun i H' => Same (upd H2 T (.tup [.ref a1, .ref a2])) H' ∧ H' D = some (.lst (((ts.take i).filter fun k => decide (k ∈ hs)).map V.int))) ⟨same_new hD, upd_same⟩ (fun i H' _ h => SqL.of (h.1 _ _ (s3 _ _ e12))) ?_ ?_
    · rintro i x H4 hx ⟨s4, hD4⟩
      rw [List.getElem?_map] at hx
      obtain ⟨k, hk, rfl⟩ : ∃ k, ts[i]? = some k ∧ x = V.int k := by
        cases e : ts[i]? with
        | none => rw [e] at hx; cases hx
        | some k => rw [e] at hx; exact ⟨k, rfl, (Option.some.inj hx).symm⟩
      have st := filt_step (f := fun k => decide (k ∈ hs)) hk
      refine ⟨rfl, ?_⟩
      refine ⟨_, rfl, _, rfl, a2, _, rfl, .inl (SqL.of (s4 _ _ (s3 _ _ e2))), rfl, flat_ints _, _, rfl, ?_⟩
      show if inV (V.int k) (hs.map V.int) = true then _ else _
      rw [in_intsD]
      by_cases hm : k ∈ hs
      · rw [decide_eq_true hm] at st ⊢
        refine iteT ⟨_, rfl, _, hD4, ?_, ?_, ?_⟩
        · have := List.length_filter_le (fun k => decide (k ∈ hs)) (ts.take i)
          rw [List.length_take] at this
          rw [List.length_map]
          exact small1000 (by omega)
        · intro y o e
          rw [upd_ne (ne_of_none e hD)]
          exact s4 y o e
        · rw [upd_same, st, if_pos rfl, List.map_append]
          rfl
      · rw [decide_eq_false hm] at st ⊢
        refine iteF ⟨s4, ?_⟩
        rw [st, if_neg Bool.false_ne_true, List.append_nil]
        exact hD4
    rintro H4 ⟨s4, hD4⟩
    rw [List.length_map, List.take_length] at hD4
    have hD4' : H4 D = some (.lst ((comm ts hs).map V.int)) := hD4
    have s24 : Same H2 H4 := s3.trans s4
    have nD := pot_ne pot2 hDH2
    have pot4 := pot2.same s24
    have c1 : H4 a1 = some (.lst (ts.map V.int)) := s24 _ _ e12
    have c2 : H4 a2 = some (.lst (hs.map V.int)) := s24 _ _ e2
    have ndc : (comm ts hs).Nodup := nd1.sublist List.filter_sublist
    have lenc : (comm ts hs).length ≤ ts.length := List.length_filter_le ..
    -- what is returned
    have fin : ∀ (ts' hs' : List Int) (x1 x2 : Addr) (H6 : Hp), But p H H6 → PotAt H6 p → x1 ≠ p → x2 ≠ p → H6 x1 = some (.lst (ts'.map V.int)) → H6 x2 = some (.lst (hs'.map V.int)) → (∀ k ∈ ts', k ∈ ts) → (∀ k ∈ hs', k ∈ hs) →
        ts'.Nodup → hs'.Nodup → ts'.length ≤ 40 → hs'.length ≤ 40 → (comm ts' hs').length % 2 = 0 → ∀ q, H6 q = none → Q (.ref q) (upd H6 q (.tup [.ref x1, .ref x2])) := by
      intro ts' hs' x1 x2 H6 b6 pot6 n1 n2 g1 g2 m1' m2' d1 d2 l1 l2 ev q hq
      have sq := same_new (o := .tup [.ref x1, .ref x2]) hq
      refine out q ts' hs' _ (b6.free hp hq pot6) (b6.trans (But.same sq)) (pot6.same sq) ⟨x1, x2, n1, n2, upd_same, sq _ _ g1, sq _ _ g2⟩ ⟨fun k hk => ?_, fun k hk => ?_, d1, d2, l1, l2⟩ (fun k hk => ?_) (fun k hk => ?_) ev
      · have := i1 k (m1' k hk)
        omega
      · have := i2 k (m2' k hk)
        omega
      · exact (i1 k (m1' k hk)).2
      · exact (i2 k (m2' k hk)).2
    have b04 : But p H H4 := b02.trans (But.same s24)
    refine ⟨_, rfl, D, _, rfl, .inl (SqL.of hD4'), _, _, rfl, rfl, (by show (0 : Int) < 2; decide), rfl, _, rfl, ite2 (fun hodd => ?_) (fun heven => ?_)⟩
    · have od : (comm ts hs).length % 2 = 1 := by
        have z := of_decide_eq_true hodd
        rw [List.length_map] at z
        have z2 : (((comm ts hs).length : Nat) : Int) % 2 = 1 := by injection z
        omega
      refine ⟨_, rfl, _, rfl, _, rfl, D, _, rfl, .inl (SqL.of hD4'), p, _, rfl, pot4, ?_, ?_, fun d H5 d0 d1 b5 pot5 => ?_⟩
      · rw [List.length_map]
        omega
      · rw [List.length_map]
        omega
      rw [List.length_map] at d1
      have dl : d.toNat < (comm ts hs).length := by omega
      obtain ⟨gone, eg⟩ : ∃ gone, (comm ts hs)[d.toNat]? = some gone := ⟨_, List.getElem?_eq_getElem dl⟩
      have gm : gone ∈ comm ts hs := List.mem_of_getElem? eg
      have hat : atI ((comm ts hs).map V.int) d = some (.int gone) := by
        have z : atI ((comm ts hs).map V.int) ((d.toNat : Nat) : Int) = some (.int gone) := atI_nat (by rw [List.getElem?_map, eg]; rfl)
        rwa [Int.toNat_of_nonneg d0] at z
      refine ⟨D, _, d, .int gone, rfl, rfl, SqL.of (b5 D _ nD hD4'), hat, ?_⟩
      refine ⟨_, rfl, p, 2, rfl, pot5, by decide, by decide, fun c H6 c0 c1' b6 pot6 => ⟨rfl, _, rfl, ?_⟩⟩
      have b46 : But p H4 H6 := b5.trans b6
      have g1 : H6 a1 = some (.lst (ts.map V.int)) := b46 a1 _ na1 c1
      have g2 : H6 a2 = some (.lst (hs.map V.int)) := b46 a2 _ na2 c2
      have b06 : But p H H6 := b04.trans b46
      have one := filter_one ndc gm
      refine ite2 (fun _ => ?_) (fun _ => ?_)
      · skip
        refine ⟨_, rfl, a1, rfl, ⟨_, SqL.of g1⟩, fun D2 hD2 => ?_⟩
        have hD2H : H6 D2 = none := hD2
        have nD2 := pot_ne pot6 hD2
        refine lc_list (K := K) (a := a1) (xs := ts.map V.int) (fun i H' => Same H6 H' ∧ H' D2 = some (.lst (((ts.take i).filter fun k => decide (¬ k = gone)).map V.int))) ⟨same_new hD2, upd_same⟩ (fun i H' _ h => SqL.of (h.1 _ _ g1)) ?_ ?_
        · rintro i x H7 hx ⟨s7, hD7⟩
          rw [List.getElem?_map] at hx
          obtain ⟨k, hk, rfl⟩ : ∃ k, ts[i]? = some k ∧ x = V.int k := by
            cases e : ts[i]? with
            | none => rw [e] at hx; cases hx
            | some k => rw [e] at hx; exact ⟨k, rfl, (Option.some.inj hx).symm⟩
          have st := filt_step (f := fun k => decide (¬ k = gone)) hk
          refine ⟨rfl, ?_⟩
          refine ⟨_, rfl, _, rfl, rfl, _, rfl, ?_⟩
          by_cases hm : k = gone
          · subst hm
            refine iteNS rfl ⟨s7, ?_⟩
            rw [st, if_neg (by simp), List.append_nil]
            exact hD7
          · have hv : ¬ V.int k = V.int gone := fun z => hm (by injection z)
            rw [decide_eq_false hv]
            refine iteT ⟨_, rfl, _, hD7, ?_, ?_, ?_⟩
            · have := List.length_filter_le (fun k => decide (¬ k = gone)) (ts.take i)
              rw [List.length_take] at this
              rw [List.length_map]
              exact small1000 (by omega)
            · intro y o e
              rw [upd_ne (ne_of_none e hD2)]
              exact s7 y o e
            · rw [upd_same, st, if_pos (by simp [hm]), List.map_append]
              rfl
        rintro H7 ⟨s7, hD7⟩
        rw [List.length_map, List.take_length] at hD7
        refine ⟨_, rfl, _, rfl, (by show 2 ≤ sizeLine; decide), fin (ts.filter fun k => decide (¬ k = gone)) hs D2 a2 H7 (b06.trans (But.same s7)) (pot6.same s7) nD2 na2 hD7 (s7 _ _ g2) (fun k hk => (List.mem_filter.mp hk).1) (fun _ h => h) (nd1.sublist List.filter_sublist) nd2 (Nat.le_trans (List.length_filter_le ..) len1) len2 ?_⟩
        rw [comm_left]
        omega
      · skip
        refine ⟨_, rfl, a2, rfl, ⟨_, SqL.of g2⟩, fun D2 hD2 => ?_⟩
        have hD2H : H6 D2 = none := hD2
        have nD2 := pot_ne pot6 hD2
        refine lc_list (K := K) (a := a2) (xs := hs.map V.int) (fun i H' => Same H6 H' ∧ H' D2 = some (.lst (((hs.take i).filter fun k => decide (¬ k = gone)).map V.int))) ⟨same_new hD2, upd_same⟩ (fun i H' _ h => SqL.of (h.1 _ _ g2)) ?_ ?_
        · rintro i x H7 hx ⟨s7, hD7⟩
          rw [List.getElem?_map] at hx
          obtain ⟨k, hk, rfl⟩ : ∃ k, hs[i]? = some k ∧ x = V.int k := by
            cases e : hs[i]? with
            | none => rw [e] at hx; cases hx
            | some k => rw [e] at hx; exact ⟨k, rfl, (Option.some.inj hx).symm⟩
          have st := filt_step (f := fun k => decide (¬ k = gone)) hk
          refine ⟨rfl, ?_⟩
          refine ⟨_, rfl, _, rfl, rfl, _, rfl, ?_⟩
          by_cases hm : k = gone
          · subst hm
            refine iteNS rfl ⟨s7, ?_⟩
            rw [st, if_neg (by simp), List.append_nil]
            exact hD7
          · have hv : ¬ V.int k = V.int gone := fun z => hm (by injection z)
            rw [decide_eq_false hv]
            refine iteT ⟨_, rfl, _, hD7, ?_, ?_, ?_⟩
            · have := List.length_filter_le (fun k => decide (¬ k = gone)) (hs.take i)
              rw [List.length_take] at this
              rw [List.length_map]
              exact small1000 (by omega)
            · intro y o e
              rw [upd_ne (ne_of_none e hD2)]
              exact s7 y o e
            · rw [upd_same, st, if_pos (by simp [hm]), List.map_append]
              rfl
        rintro H7 ⟨s7, hD7⟩
        rw [List.length_map, List.take_length] at hD7
        refine ⟨_, rfl, _, rfl, (by show 2 ≤ sizeLine; decide), fin ts (hs.filter fun k => decide (¬ k = gone)) a1 D2 H7 (b06.trans (But.same s7)) (pot6.same s7) na1 nD2 (s7 _ _ g1) hD7 (fun _ h => h) (fun k hk => (List.mem_filter.mp hk).1) nd1 (nd2.sublist List.filter_sublist) len1 (Nat.le_trans (List.length_filter_le ..) len2) ?_⟩
        rw [comm_right]
        omega
    · have ev : (comm ts hs).length % 2 = 0 := by
        have z : ¬ (V.int (((((comm ts hs).map V.int).length : Nat) : Int) % 2) = V.int 1) := fun q => heven (decide_eq_true q)
        rw [List.length_map] at z
        have z2 : ¬ (((comm ts hs).length : Nat) : Int) % 2 = 1 := fun q => z (by rw [q])
        omega
      refine ⟨_, rfl, _, rfl, (by show 2 ≤ sizeLine; decide), fin ts hs a1 a2 H4 b04 pot4 na1 na2 c1 c2 (fun _ h => h) (fun _ h => h) nd1 nd2 len1 len2 ev⟩
end
end K14
namespace Par
open PySem PySem.Spec PyProof.Rows L2
/-- C(e, ..), what __init__ raises wished for at the slots -/
def tMakeS (C : Addr) (sp : Sp) (E : L2.St → XK) (t : TA) : TE := fun σ H Q => t σ H fun vs H1 =>
  ∀ y dy, H1 y = none → H1 dy = none → dy ≠ y → sp (.ref y :: vs) (upd (upd H1 dy (.own y)) y (.ins C dy [])) (fun v H2 => v = .non ∧ Q (.ref y) H2) (E σ)
section
variable {X : Cx} {CX : CXT} {k : Nat} {f C : Addr} {fd : FuncData} {ps : List Str} {sp : Sp} {E : L2.St → XK} {x : Str} {p pos : Pos} {e : Expr} {es : List Expr} {t : TA}
theorem run_makeS {pins : List (Addr × Obj)} {τ : L2.St} {G : Hp} {s0 : Shared} {Z : VK} {as : List Value} {xs : List V} (M : Mk X.K C f) (F : FnOk X.prog X.w X.K X.mg X.base CX k f fd ps sp)
    (hr : Room (k + 1) X.A) (hb : Binds X.K fd ps []) (hx : PassesAt CX X τ (E τ)) (J : L2.Inv X pins τ G s0) (rr : Vals xs as)
    (h : ∀ y dy, G y = none → G dy = none → dy ≠ y → sp (.ref y :: xs) (upd (upd G dy (.own y)) y (.ins C dy [])) (fun v H2 => v = .non ∧ Z (.ref y) H2) (E τ)) :
    wpAny (model X.prog X.w) X.A (call (.ref C) as) (EP X pins τ Z) X.xe s0 := by
  have here := h (s0.heap.objs.size + 1) s0.heap.objs.size (J.hok.fresh (by omega)) (J.hok.fresh (by omega)) (show s0.heap.objs.size ≠ s0.heap.objs.size + 1 by omega)
  have J2 := Inv.made (C := C) J
  have all : Vals (V.ref (s0.heap.objs.size + 1) :: xs) (Value.ref (s0.heap.objs.size + 1) :: as) := .cons rfl rr
  have len : (Value.ref (s0.heap.objs.size + 1) :: as).length = ps.length := by rw [← all.length]; exact F.len _ _ _ _ here
  have bd := hb _ (Value.ref (s0.heap.objs.size + 1) :: as) J2.kIn (by rw [List.append_nil]; exact len)
  rw [List.append_nil] at bd
  have ran := F.run _ X.stack _ _ ⟨Value.ref (s0.heap.objs.size + 1) :: as, []⟩ (Value.ref (s0.heap.objs.size + 1) :: as) _ _ (E τ) (hr.make C as []) (J2.env0.make C as []) bd all here
  refine wpAny_call (make_map (f := f) J.kIn M.makes M.init (beq_iff_eq.mp M.fn) (codeAny_mono ran ?_))
  intro res s1 got
  cases res with
  | error er => exact hx pins _ _ er s1 J2 got
  | ok fl =>
    cases fl with
    | ret u =>
      obtain ⟨v, G1, J3, rv, ev, z3⟩ := J2.after got
      subst ev
      exact ⟨rv, V.ref (s0.heap.objs.size + 1), G1, J3, rfl, z3⟩
    | next => exact got.elim
    | brk => exact got.elim
    | cont => exact got.elim
theorem pe_makeS (M : Mk X.K C f) (F : FnOk X.prog X.w X.K X.mg X.base CX k f fd ps sp) (hr : Room (k + 1) X.A) (hg : Gl X x) (hm : X.mg x = some (.ref C)) (hb : Binds X.K fd ps [])
    (hx : ∀ σ, PassesAt CX X σ (E σ)) (ha : PA X (e :: es) t) (hdb : (x == ("__debug__" : Str)) = false := by decide)
    (he : starEach (e :: es) X.env = (false, eval e X.env) :: starEach es X.env := by rfl) (hpl : (backTo pos (starEach es X.env)).any (·.1) = false := by rfl) :
    PE X (.Call (.Name x p) (e :: es) [] pos) (tMakeS C sp E t) := by
  constructor
  intro pins s σ H Q I h
  refine wpAny_Call_Name_kw (ld_glob I hg hm ?_ hdb)
  refine PySem.W.callWith_K (h₀ := X.base) I.ok.mod.kin M.kp (thn (ha.run pos pins s σ H _ I h) ?_) he hpl
  rintro us s1 ⟨vs, H1, I1, r, q⟩
  exact ⟨I1.kIn, run_makeS M F hr hb (hx σ) I1 r q⟩
end
/-- what the clauses 'except c as n', slot i being n's, wish of an error of the body, one after the other -/
def wSeq (K : PySem.W.Frag) (i : Nat) (Wout : WX) (D : Ends) : List (Value × (Addr → Value → Option Addr → TS)) → WX
  | [] => Wout
  | (c, ts) :: r => wAs K c i ts (wSeq K i Wout D r) D
inductive HdsAs (X : Cx) (n : Str) : List ExceptHandler → List (Value × (Addr → Value → Option Addr → TS)) → Prop
  | nil : HdsAs X n [] []
  | cons {x : Str} {c : Value} {ts : Addr → Value → Option Addr → TS} {st : Stmt} {sts : List Stmt} {np cp : Pos} {more : List ExceptHandler} {l : List (Value × (Addr → Value → Option Addr → TS))} (hc : Names X x c)
      (hsu : ∀ (a : Addr) (oe : Obj) (cls : Value) (d : Option Addr) (pn : List (Addr × Obj)), Zc cls d oe → (∃ vs, oe.data = .fields vs) → PSs (X.suite a ((a, oe) :: pn)) (st :: sts) (ts a cls d))
      (r : HdsAs X n more l) : HdsAs X n (.ExceptHandler (some (.Name x np)) (some n) (st :: sts) cp :: more) ((c, ts) :: l)
section
variable {X : Cx} {body : List Stmt} {g : ExceptHandler} {gs : List ExceptHandler} {l : List (Value × (Addr → Value → Option Addr → TS))} {pos : Pos} {tb : WX → TS} {Wout : WX} {n : Str} {i : Nat}
theorem ps_try_ases (hs : X.stack = X.env :: X.outer) (hf : X.env.frame = some X.env.locals) (hN : X.N.Nodup) (hi : X.N[i]? = some n) (hln : X.env.kindOf n = some .local) (tk : L2.Takes X Wout)
    (hb : ∀ (W : WX) (pn : List (Addr × Obj)) (xe : Value → Shared → Prop), L2.Takes (X.tr pn xe) W → PassesOwn (model X.prog X.w) X.A X.env xe → PSs (X.tr pn xe) body (tb W))
    (hh : HdsAs X n (g :: gs) l) : PS X (.Try body (g :: gs) [] [] pos) (fun D σ H => tb (wSeq X.K i Wout D l) D σ H) := by
  constructor
  intro pins s σ H D I h
  have okX := I.ok
  have frm : X.A.frames = some (X.env :: X.outer) := hs ▸ okX.frames
  have isLoc : Loc X.env.scope n := Or.inl hln
  refine wpAny_Try_except ?_
  let back : Value → Shared → Prop := fun e t1 => wpAny (model X.prog X.w) X.A (noteFrame e X.env) (fun _ t2 =>
    wpAny (model X.prog X.w) X.A (setFlight e none) (fun _ t3 => wpAny (model X.prog X.w) X.A (handleBy e X.env (g :: gs)) (SP X pins D) X.xe t3) X.xe t2) X.xe t1
  have caught : L2.Takes (X.tr (X.pn ++ pins) back) (wSeq X.K i Wout D l) := by
    intro u s' xx
    obtain ⟨a, B, t0, pins', τ, G, cls, d, rfl, J', nb, up, sky, na, os, ag, w⟩ := xx
    have J : L2.Inv X pins τ G t0 := J'.ofTry okX
    rw [show (X.tr (X.pn ++ pins) back).stack = X.env :: X.outer from hs] at sky
    refine Sky.land Zc.steady frm hf sky fun k3 fl3 up3 => ?_
    have J3 : L2.Inv X pins τ G { s' with heap := k3 } := J.landed nb fl3.1 (up.trans up3) os ag
    obtain ⟨oe3, vs3, he3, hz3, hd3⟩ := fl3.there
    have far : a ∉ frs (X.env :: X.outer) := by
      intro hm
      obtain ⟨_, o', e', hnf⟩ := fl3.2.2.1.mem hm
      rw [he3] at e'
      cases e'
      exact hnf _ hd3
    have nLoc : a ≠ X.env.locals := by
      intro z
      exact far (List.mem_filterMap.mpr ⟨X.env, List.mem_cons_self, by rw [hf, z]⟩)
    have nFs : a ∉ X.fs := by
      intro hm
      obtain ⟨e, he, q⟩ := List.mem_filterMap.mp hm
      exact far (List.mem_filterMap.mpr ⟨e, List.mem_cons_of_mem _ he, q⟩)
    have S3 := J3.suite he3 hd3 na nLoc nFs
    have go : ∀ {cs : List ExceptHandler} {m : List (Value × (Addr → Value → Option Addr → TS))}, HdsAs X n cs m → wSeq X.K i Wout D m cls d τ G →
        wpAny (model X.prog X.w) X.A (handleBy (.ref a) X.env cs) (SP X pins D) X.xe { s' with heap := k3 } := by
      intro cs m hk
      induction hk with
      | nil =>
        intro w
        refine wpAny_handleBy_nil ?_
        obtain ⟨_, _, _, oe, vs, T, oT, ts', he, hz, hd, h1, hr⟩ := id fl3
        unfold PySem.passOn
        refine wpAny_bind (wpAny_field he hd h1 ?_)
        have nn : ¬ ((Value.ref T == Value.none) = true) := by simp
        rw [if_neg nn]
        have on : wpAny (model X.prog X.w) X.A (setFlight (.ref a) X.env.frame) (fun _ t4 => wpAny (model X.prog X.w) X.A (throw (.ref a) : Sem Flow) (SP X pins D) X.xe t4) X.xe { s' with heap := k3 } := by
          rw [hf]
          refine HandSPX.setFlight_upZ fl3 fun k4 hh4 up4 => wpAny_throw (tk _ _ ?_)
          refine ⟨a, B, t0, pins, τ, G, cls, d, rfl, J, nb, (up.trans up3).trans up4, .inr (.inr ?_), na, os, ag, w⟩
          rw [hs]
          exact hh4
        first
          | exact wpAny_bind (wpAny_pure (wpAny_bind on))
          | exact wpAny_bind on
      | @cons x c ts st sts np cp more l2 hc hsu r ih =>
        intro w
        obtain ⟨b, hb1, hyes, hno⟩ := w
        refine wpAny_handleBy_cons (codeAny_handlers_test ?_) (by intro q; cases q)
        have LT : PySem.W.Looks (model X.prog X.w) k3 (typeOf (.ref a)) cls := by
          intro A Q E t kk q
          exact wpAny_typeOf_ref (kk _ _ he3) (by rw [hz3.1]; exact q)
        have LM := PySem.W.exm_one (M := model X.prog X.w) J3.kIn LT hb1
        have asks : ∀ {Q E : Value → Shared → Prop}, Q c { s' with heap := k3 } → wpAny (model X.prog X.w) (X.A.mark (some (.ref a))) (eval (.Name x np) X.env) Q E { s' with heap := k3 } := by
          intro Q E q
          obtain ⟨hg, hdbg, hm | ⟨hm, hv, hnn⟩⟩ := hc
          · exact ld_glob (X := X.suite a ((a, oe3) :: (X.pn ++ pins))) S3 hg hm q hdbg
          · exact ld_blt (X := X.suite a ((a, oe3) :: (X.pn ++ pins))) S3 hg hm hv q hnn hdbg
        refine asks (LM.here ?_)
        cases b with
        | true =>
          refine codeAny_handlers_suite_as ?_
          refine HandSPX.lands_againZ fl3 fun k4 fl4 up4 => ?_
          have J4 : L2.Inv X pins τ G { s' with heap := k4 } := J.landed nb fl4.1 ((up.trans up3).trans up4) os ag
          obtain ⟨oe4, vs4, he4, hz4, hd4⟩ := fl4.there
          have S4 := J4.suite he4 hd4 na nLoc nFs
          refine store_ok (X := X.suite a ((a, oe4) :: (X.pn ++ pins))) (v := .ref a) S4 hN hi isLoc rfl ?_ (.inr hln)
          intro s5 S5
          refine wpAny_mono ((hsu a oe4 cls d (X.pn ++ pins) hz4 ⟨_, hd4⟩).run [] s5 _ G _ S5 (hyes rfl a na)) ?_ (fun _ _ z => z.elim)
          intro fl s6 hsp
          have off : ∀ {σ6 : L2.St} {H6 : Hp} {Q : Shared → Prop}, L2.Inv (X.suite a ((a, oe4) :: (X.pn ++ pins))) [] σ6 H6 s6 → (∀ s7, L2.Inv X pins (σ6.set i none) H6 s7 → Q s7) →
              wpAny (model X.prog X.w) X.A (do bindName X.env n .none; unbindBehindTheSuite X.env n cp) (fun _ s7 => Q s7) X.xe s6 := by
            intro σ6 H6 Q S6 hq
            exact gone_ok (S6.unsuite okX) hN hi hln hq
          cases fl with
          | next =>
            obtain ⟨_, _, S6, q6⟩ := hsp
            exact off S6 fun _ J7 => ⟨_, _, J7, q6⟩
          | brk =>
            obtain ⟨_, _, S6, q6⟩ := hsp
            exact off S6 fun _ J7 => ⟨_, _, J7, q6⟩
          | cont =>
            obtain ⟨_, _, S6, q6⟩ := hsp
            exact off S6 fun _ J7 => ⟨_, _, J7, q6⟩
          | ret u =>
            obtain ⟨_, _, _, S6, r6, q6⟩ := hsp
            exact off S6 fun _ J7 => ⟨_, _, _, J7, r6, q6⟩
        | false =>
          show wpAny _ X.A (handleBy (.ref a) X.env more) _ _ _
          exact ih (hno rfl)
    exact go hh w
  refine wpAny_mono ((hb (wSeq X.K i Wout D l) (X.pn ++ pins) back caught PassesOwn.looking).run [] s σ H D (I.toTry _) h) ?_ (fun _ _ he => he)
  intro fl s1 hsp
  cases fl with
  | next =>
    obtain ⟨_, _, J', q⟩ := hsp
    exact wpAny_execs_nil ⟨_, _, J'.ofTry okX, q⟩
  | brk =>
    obtain ⟨_, _, J', q⟩ := hsp
    exact ⟨_, _, J'.ofTry okX, q⟩
  | cont =>
    obtain ⟨_, _, J', q⟩ := hsp
    exact ⟨_, _, J'.ofTry okX, q⟩
  | ret u =>
    obtain ⟨_, _, _, J', r, q⟩ := hsp
    exact ⟨_, _, _, J'.ofTry okX, r, q⟩
end
end Par
namespace Par
open PySem PySem.Spec PyProof.Rows L2
/-! ### repr of a list of things, each of which can be shown by itself -/
inductive DxAll (K : PySem.W.Frag) (H : Hp) : List V → List PyData → Prop
  | nil : DxAll K H [] []
  | cons {v : V} {vs : List V} {d : PyData} {ds : List PyData} : Dx K H v d → DxAll K H vs ds → DxAll K H (v :: vs) (d :: ds)
/-- each item can be read by itself -/
inductive Each (h : Heap) : List Value → List PyData → Prop
  | nil : Each h [] []
  | cons {v : Value} {vs : List Value} {d : PyData} {ds : List PyData} {as : List Addr} : Reads h v d as → (d.hasDict = true → sysModules ∉ as) → Each h vs ds → Each h (v :: vs) (d :: ds)
theorem each_of {X : Cx} {pins : List (Addr × Obj)} {σ : L2.St} {H : Hp} {s : Shared} (I : L2.Inv X pins σ H s) : ∀ {vs : List V} {ds : List PyData} {us : List Value}, DxAll X.K H vs ds → Vals vs us → Each s.heap us ds
  | _, _, _, .nil, .nil => .nil
  | _, _, _, .cons h1 h2, .cons r1 r2 => by
    obtain ⟨as, q, n⟩ := dx_reads I h1 r1
    exact .cons q n (each_of I h2 r2)
theorem each_reads {h : Heap} : ∀ {vs : List Value} {ds : List PyData}, Each h vs ds → ∃ as, ReadsAll h vs ds as
  | _, _, .nil => ⟨_, ReadsAll.nil⟩
  | _, _, .cons q _ r => by
    obtain ⟨as, q2⟩ := each_reads r
    exact ⟨_, ReadsAll.cons q q2⟩
theorem each_shown {prog : Program} {w : World} {h : Heap} : ∀ {vs : List Value} {ds : List PyData}, Each h vs ds → PyData.showableAll ds = true → (∀ t ∈ PyData.shownAll ds, t.length ≤ sizeLine) →
    ∃ bs, ReadAtMost h (PyData.depthAll ds) bs ∧ ReprAllK prog w bs h (PyData.depthAll ds) vs (PyData.shownAll ds)
  | _, _, .nil, _, _ => ⟨[], (fun _ z => nomatch z), .nil⟩
  | _, _, .cons (d := d) (ds := ds) q n r, sh, hz => by
    have both : d.showable = true ∧ PyData.showableAll ds = true := by simpa [PyData.showableAll] using sh
    obtain ⟨b1, m1, k1⟩ := ReprK.of_reads (prog := prog) (w := w) q both.1 n (hz _ (by simp only [PyData.shownAll]; exact List.mem_cons_self ..))
    obtain ⟨b2, m2, k2⟩ := each_shown (prog := prog) (w := w) r both.2 fun t ht => hz t (by simp only [PyData.shownAll]; exact List.mem_cons_of_mem _ ht)
    have l1 : d.depth ≤ PyData.depthAll (d :: ds) := by simp only [PyData.depthAll]; omega
    have l2 : PyData.depthAll ds ≤ PyData.depthAll (d :: ds) := by simp only [PyData.depthAll]; omega
    refine ⟨b1 ++ b2, (m1.mono l1).append (m2.mono l2), ?_⟩
    simp only [PyData.shownAll]
    exact .cons ((k1.more fun b hb => List.mem_append_left _ hb).level_le l1) (k2.more_le (fun b hb => List.mem_append_right _ hb) l2)
section
variable {X : Cx}
/-- repr([..]), each item a thing that can be shown -/
def rReprL (K : PySem.W.Frag) : List V → Hp → VK → Prop := fun xs H Q => ∃ (a : Addr) (vs : List V) (ds : List PyData), xs = [.ref a] ∧ H a = some (.lst vs) ∧ DxAll K H vs ds ∧ vs ≠ [] ∧
  (PyData.list ds).showable = true ∧ (PyData.list ds).depth ≤ 40 ∧ (PyData.list ds).shown.length ≤ sizeLine ∧ Q (.str (PyData.list ds).shown) H
theorem cr_reprL (gs : X.A.guards = some []) (hu : X.A.units + 64 < cLine) : CallR X (.builtin "repr") (rReprL X.K) := by
  intro pins s σ H xs us Q I r h
  obtain ⟨a, vs, ds, rfl, e, hd, ne, sh, dep, len, q⟩ := h
  cases r with
  | @cons _ u _ _ r1 r2 =>
    cases r2
    cases r1
    obtain ⟨its, rv, ⟨o, n, ho, hc, _, hdt⟩, _⟩ := I.list (a := a) (xs := vs) (SqL.of e)
    have each := each_of I hd rv
    obtain ⟨as, all⟩ := each_reads each
    have len' : (listText (PyData.shownAll ds)).length ≤ sizeLine := by simpa only [PyData.shown] using len
    obtain ⟨bs, most, shows⟩ := each_shown (prog := X.prog) (w := X.w) each (by simpa [PyData.showable] using sh) fun t ht => Nat.le_trans (listText_mem_le ht) len'
    have out : a ∉ bs := not_mem_of_deeper (.list ho hc hdt all) (by simp only [PyData.depth]; omega) most
    simp only [PyData.depth] at dep
    have fin : ∀ (h' : Heap) (tk u' : Nat), (∀ b o, s.heap.get? b = some o → h'.get? b = some o) → EP X pins σ Q (.str (PyData.list ds).shown u') { s with heap := h', toks := tk } :=
      fun h' tk u' k => ⟨.str (PyData.list ds).shown, H, I.un (t' := tk) (Un.kept k) (I.hok.kept k), ⟨_, rfl⟩, q⟩
    cases its with
    | nil =>
      cases rv
      exact absurd rfl ne
    | cons x l =>
      refine call_repr_slot (by omega) ⟨o, ho, hc⟩ F.slot_list_repr.toG ?_
      refine call_list_reprK ho hc hdt out (by simpa using shows.length_eq) (fun i y ey => shows.item i y (by simpa using ey)) gs (fun b _ => Clear.nil b) (by show X.A.units + 1 + _ < cLine; omega) (fun _ _ z => z) ?_ len'
      intro h' u tk k
      exact ⟨_, _, rfl, by simpa only [PyData.shown] using fin h' tk u k⟩
end
/-- list != list: unlike lengths -/
def rNeLen : R2 := fun x y H Q => ∃ a b xs ys, x = .ref a ∧ y = .ref b ∧ H a = some (.lst xs) ∧ H b = some (.lst ys) ∧ xs.length ≠ ys.length ∧ Q (.bl true) H
theorem op_neLen {X : Cx} (hu : X.A.units < cLine) : OpR X (compareOp .NotEq) rNeLen := by
  intro pins s σ H x y v u Q I rx ry h
  obtain ⟨a, b, xs, ys, rfl, rfl, ha, hb, ne, q⟩ := h
  cases rx
  cases ry
  obtain ⟨its, rv, p1, _⟩ := I.list (a := a) (xs := xs) (SqL.of ha)
  obtain ⟨its2, rv2, p2, _⟩ := I.list (a := b) (xs := ys) (SqL.of hb)
  refine SeqAt.RcNeAt.lists_lengths p1.isList p2.isList ?_ hu X.prog X.w X.xe _ ⟨.bl true, H, I, rfl, q⟩
  have l1 := rv.length
  have l2 := rv2.length
  simp only [List.size_toArray, bne_iff_ne]
  omega
theorem opR_or {X : Cx} {f : Value → Value → Sem Value} {r1 r2 : R2} (h1 : OpR X f r1) (h2 : OpR X f r2) : OpR X f (fun x y H Q => r1 x y H Q ∨ r2 x y H Q) := by
  intro pins s σ H x y v u Q I rx ry h
  rcases h with h | h
  · exact h1 pins s σ H x y v u Q I rx ry h
  · exact h2 pins s σ H x y v u Q I rx ry h
end Par
namespace K14
open PySem PySem.Spec PyProof.Rows L2 Par
/-- what the module says of NoFlip -/
structure NfC (K : PySem.W.Frag) (mg : Str → Option Value) (C : Addr) : Prop where
  gC : mg "NoFlip" = some (.ref C)
  ox : OexC K C
  no : PySem.W.findIn K (.ref C) "why" = some none
section
variable {P : Program} {w : World} {K : PySem.W.Frag} {mg : Str → Option Value} {base : Heap}
def spNf (C : Addr) : Sp := fun vs H Q _ => ∃ (a : Addr) (v : V), vs = [.ref a, v] ∧ H a = some (exo a C none) ∧
  ∀ dx, H dx = none → dx ≠ a → Q .non (upd (upd H dx (exd dx [("why", v)])) a (exo a C (some dx)))
theorem scNf : FnScope ["self", "why"] ["self", "why"] (defScope sFIni) := ⟨rfl, rfl, rfl, by decide +kernel, rfl, by decide +kernel, by decide +kernel⟩
theorem ok_nf {f C : Addr} {fd : FuncData} (F : Fun K "__init__" "NoFlip.__init__" sFIni f fd) (T : NfC K mg C) : FnOk P w K mg base CX0 2 f fd ["self", "why"] (spNf C) := by
  refine F.ok scNf (fun vs H Q E h => ?_) (fun cdv A outer s H vs Q E hr h => ?_)
  · obtain ⟨a, v, rfl, _⟩ := h
    rfl
  · obtain ⟨a, v, rfl, ha, out⟩ := h
    refine ⟨_, pss_one (ps_ost (pv 0) (pv 1)), ?_⟩
    exact ⟨_, rfl, _, rfl, a, C, rfl, T.ox, T.no, .inl ⟨ha, out⟩⟩
def HasNf (P : Program) (w : World) (K : PySem.W.Frag) (mg : Str → Option Value) (base : Heap) (C : Addr) : Prop :=
  ∃ f fd, FnOk P w K mg base CX0 2 f fd ["self", "why"] (spNf C) ∧ PySem.W.findIn K (.ref C) "__init__" = some (some (.ref f)) ∧ PySem.W.typeIn K (.ref f) = some (.type "function") ∧ Binds K fd ["self", "why"] []
/-- what raise NoFlip(v) leads to -/
theorem made_nf {C : Addr} {H : Hp} {v : V} {W : Value → Option Addr → Hp → Prop} (h : ∀ d H', H d = none → Same H H' → H' d = some (.xd [("why", v)]) → W (.ref C) (some d) H') :
    ∀ a, H a = none → spNf C (.ref a :: ([v] ++ [])) (upd H a (exo a C none)) (fun u H2 => u = .non ∧ ∃ (d : Addr) (fs : List (Str × V)), H2 a = some (exo a C (some d)) ∧ H2 d = some (exd d fs) ∧ H d = none ∧
      W (.ref C) (some d) (upd (del H2 a) d (.xd fs))) (fun _ _ _ => False) := by
  intro a ha
  refine ⟨a, v, rfl, upd_same, fun dx hd ne => ?_⟩
  rw [upd_ne ne] at hd
  refine ⟨rfl, dx, [("why", v)], upd_same, by rw [upd_ne ne, upd_same], hd, ?_⟩
  refine h dx _ hd (fun b o e => ?_) upd_same
  have n1 := ne_of_none e hd
  have n2 := ne_of_none e ha
  rw [upd_ne n1, del_ne n2, upd_ne n2, upd_ne n1, upd_ne n2]
  exact e
/-! ### an instance gets a field: what else is known stays -/
theorem tyx_updI {C b dx : Addr} {fs gs : List (Str × V)} {H : Hp} {v : V} {n : String} (hb : H b = some (.ins C dx fs)) (h : TyX K H v (.type n)) : TyX K (upd H b (.ins C dx gs)) v (.type n) := by
  have keep : ∀ {a : Addr} {o : HO}, H a = some o → (∀ C dx fs, o ≠ .ins C dx fs) → upd H b (.ins C dx gs) a = some o := by
    intro a o e ne
    have nab : a ≠ b := by
      intro z
      rw [z, hb] at e
      exact ne _ _ _ (Option.some.inj e).symm
    rw [upd_ne nab]
    exact e
  cases h with
  | base k =>
    refine .base ?_
    cases k with
    | non => exact .non
    | bl y => exact .bl y
    | int i => exact .int i
    | str y => exact .str y
    | flt y => exact .flt y
    | lst e => exact .lst (keep e (fun _ _ _ z => nomatch z))
    | frz e => exact .frz (keep e (fun _ _ _ z => nomatch z))
    | tup e => exact .tup (keep e (fun _ _ _ z => nomatch z))
    | dK e => exact .dK (keep e (fun _ _ _ z => nomatch z))
    | dT e => exact .dT (keep e (fun _ _ _ z => nomatch z))
  | byt y => exact .byt y
  | set e => exact .set (keep e (fun _ _ _ z => nomatch z))
  | kList e c => exact .kList e c
  | kTuple e c => exact .kTuple e c
  | kDict e c => exact .kDict e c
  | fTuple e => exact .fTuple (keep e (fun _ _ _ z => nomatch z))
  | fDict e => exact .fDict (keep e (fun _ _ _ z => nomatch z))
theorem typed_updI {C b dx : Addr} {fs gs : List (Str × V)} {H : Hp} {v : V} (hb : H b = some (.ins C dx fs)) (h : Typed K H v) : Typed K (upd H b (.ins C dx gs)) v := by
  rcases h with h | h | ⟨n, ty, r⟩
  · exact .inl h
  · exact .inr (.inl h)
  · exact .inr (.inr ⟨n, tyx_updI hb ty, r⟩)
theorem desc_updI {C b dx : Addr} {fs gs : List (Str × V)} {H : Hp} {v : V} : ∀ {o : Option (List V)}, H b = some (.ins C dx fs) → Desc K H v o → Desc K (upd H b (.ins C dx gs)) v o
  | none, hb, ⟨n, ty, hn⟩ => ⟨n, tyx_updI hb ty, hn⟩
  | some xs, hb, ⟨a, e, hq, hl, hty⟩ => ⟨a, e, Sq.updI hb hq, hl, fun x hx => typed_updI hb (hty x hx)⟩
theorem desc_same {H H' : Hp} {v : V} {o : Option (List V)} (s : Same H H') (h : Desc K H v o) : Desc K H' v o := by
  cases o with
  | none =>
    obtain ⟨nm, ty, hn⟩ := h
    exact ⟨nm, same_tyx s ty, hn⟩
  | some xs =>
    obtain ⟨a, e, hq, hl, hty⟩ := h
    exact ⟨a, e, hq.imp (same_sq s) (same_sqt s), hl, fun x hx => same_typed s (hty x hx)⟩
/-! ### Flip.__init__ of any values -/
/-- cell_tuple with its default -/
def HasCl (P : Program) (w : World) (K : PySem.W.Frag) (mg : Str → Option Value) (base : Heap) (N : Addr) : Prop :=
  ∃ f fd ds, FnOk P w K mg base (L2.CX P w) 5 f fd ["things", "size"] (spCells K N) ∧ mg "cell_tuple" = some (.ref f) ∧ PySem.W.keepIn K (.ref f) = true ∧ Vals [V.int 40] ds ∧ Binds K fd ["things", "size"] ds
def spFX (K : PySem.W.Frag) (C N M : Addr) : Sp := fun vs H Q E => ∃ (b dx : Addr) (u v : V) (o1 o2 : Option (List V)), vs = [.ref b, u, v] ∧ H b = some (.ins C dx []) ∧ Desc K H u o1 ∧ Desc K H v o2 ∧
  (Foul 0 40 o1 → ∀ d H', H d = none → Same H H' → H' d = some (.xd [("cells", u)]) → E (.ref N) (some d) H') ∧
  (∀ ns, Fine 0 40 o1 ns → Foul 0 40 o2 → ∀ d H', H d = none → But b H H' → H' d = some (.xd [("cells", v)]) → E (.ref N) (some d) H') ∧
  (∀ ns ms, Fine 0 40 o1 ns → Fine 0 40 o2 ms → (0 : Int) ∈ ms → ∀ d H', H d = none → But b H H' → H' d = some (.xd [("why", .str "fixed")]) → E (.ref M) (some d) H') ∧
  (∀ ns ms, Fine 0 40 o1 ns → Fine 0 40 o2 ms → ¬ (0 : Int) ∈ ms → (comm ns ms).length % 2 = 1 → ∀ d H', H d = none → But b H H' → H' d = some (.xd [("why", .str "odd")]) → E (.ref M) (some d) H') ∧
  (∀ ns ms, Fine 0 40 o1 ns → Fine 0 40 o2 ms → ¬ (0 : Int) ∈ ms → ¬ (comm ns ms).length % 2 = 1 → ∀ (ts hs : List Int) H', But b H H' → ts.Perm ns → ts.Pairwise (· ≤ ·) → hs.Perm ms → hs.Pairwise (· ≤ ·) → Fp C H' b ts hs → Q .non H')
theorem fine_cells {o : Option (List V)} {ns : List Int} (h : Fine 0 40 o ns) : ∀ k ∈ ns, 0 ≤ k ∧ k < 40 := fun n hn => by
  have h2 := h.2.1
  unfold AllOf at h2
  have h3 := List.all_eq_true.mp h2 (V.int n) (List.mem_map.mpr ⟨n, hn, rfl⟩)
  have h4 : (decide ((0 : Int) ≤ n) && decide (n ≤ 40 - 1)) = true := h3
  rw [Bool.and_eq_true, decide_eq_true_eq, decide_eq_true_eq] at h4
  omega
theorem scFX : FnScope ["self", "tested", "toggled"] ["self", "tested", "toggled"] (defScope gInit) := ⟨rfl, rfl, rfl, by decide +kernel, rfl, by decide +kernel, by decide +kernel⟩
theorem ok_fx {f C N M : Addr} {fd : FuncData} (F : Fun K "__init__" "Flip.__init__" gInit f fd) (B : Bl mg) (T : FC K mg C) (TN : NfC K mg M) (DC : HasCl P w K mg base N) (DO : Has P w K mg base "share_odd" 2 ["one", "other"] (spShare K)) (DI : HasNf P w K mg base M) :
    FnOk P w K mg base (L2.CX P w) 6 f fd ["self", "tested", "toggled"] (spFX K C N M) := by
  obtain ⟨fD, fdD, dsD, GD, mD, kD, hdD, bD⟩ := DC
  obtain ⟨fO, fdO, GO, mO, kO, bO⟩ := DO
  obtain ⟨fI, fdI, GI, iI, tI, bI⟩ := DI
  refine F.okX scFX (fun vs H Q E h => ?_) (fun cdv A outer s H vs Q E hr h => ?_)
  · obtain ⟨b, dx, u, v, o1, o2, rfl, _⟩ := h
    rfl
  · obtain ⟨b, dx, u, v, o1, o2, rfl, hb, du, dv, w1, w2, w3, w4, w5⟩ := h
    have r2 : Room 2 _ := hr.mono (by decide)
    have r3 : Room 3 _ := hr.mono (by decide)
    refine ⟨_, pss_cons (ps_fld (pv 0) (pe_callSD GD hr (by rfl) mD kD bD hdD (fun σ => passAt (takes_of rfl rfl rfl rfl) σ) (pa_cons (pv 1) pa_nil)) rfl)
      (pss_cons (ps_fld (pv 0) (pe_callSD GD hr (by rfl) mD kD bD hdD (fun σ => passAt (takes_of rfl rfl rfl rfl) σ) (pa_cons (pv 2) pa_nil)) rfl)
      (pss_cons (ps_if (pt_cmpR op_in_seq pe_int (pe_fld (pv 0) rfl) (by rfl)) (pss_one (ps_raise rfl (takes_of rfl rfl rfl rfl) (pmk_oex TN.ox iI tI GI r3 bI .nil pass0 (by rfl) TN.gC (pa_cons pe_str pa_nil)))) pss_nil)
      (pss_one (ps_if (pt_val (pe_call GO r2 (by rfl) mO kO bO .nil pass0 (pa_cons (pe_fld (pv 0) rfl) (pa_cons (pe_fld (pv 0) rfl) pa_nil)))) (pss_one (ps_raise rfl (takes_of rfl rfl rfl rfl) (pmk_oex TN.ox iI tI GI r3 bI .nil pass0 (by rfl) TN.gC (pa_cons pe_str pa_nil)))) pss_nil)))), ?_⟩
    refine ⟨_, rfl, u, 40, o1, rfl, du, fun ns f1 t1 ts H1 ht1 s1 p1 q1 e1 => ?_, fun bad d H' hd sm ed => w1 bad d H' hd sm ed⟩
    have nb1 : t1 ≠ b := fun z => by rw [z, hb] at ht1; cases ht1
    refine ⟨_, rfl, b, C, dx, [], rfl, s1 _ _ hb, T.cl, T.nT, (by show 0 < 1000; decide), ?_⟩
    have k2 : But b H (upd H1 b (.ins C dx [("tested_cells", .ref t1)])) := fun x o nx e => by
      rw [upd_ne nx]
      exact s1 _ _ e
    have dv2 : Desc K (upd H1 b (.ins C dx [("tested_cells", .ref t1)])) v o2 := desc_updI (s1 _ _ hb) (desc_same s1 dv)
    have back : ∀ {d : Addr}, upd H1 b (.ins C dx [("tested_cells", .ref t1)]) d = none → H d = none := fun {d} hd => by
      have nd : d ≠ b := fun z => by rw [z, upd_same] at hd; cases hd
      rw [upd_ne nd] at hd
      exact s1.free hd
    refine ⟨_, rfl, v, 40, o2, rfl, dv2, fun ms f2 t2 hs H3 ht2 s3 p2 q2 e2 => ?_, fun bad d H' hd sm ed => w2 ns f1 bad d H' (back hd) (k2.trans (But.same sm)) ed⟩
    have nb2 : t2 ≠ b := fun z => by rw [z, upd_same] at ht2; cases ht2
    have e13 : H3 t1 = some (.tup (ts.map V.int)) := s3 _ _ (by rw [upd_ne nb1]; exact e1)
    refine ⟨_, rfl, b, C, dx, _, rfl, s3 _ _ upd_same, T.cl, T.nG, (by show 1 < 1000; decide), ?_⟩
    rw [show putF "toggled_cells" (V.ref t2) (putF "tested_cells" (V.ref t1) []) = ([("tested_cells", V.ref t1), ("toggled_cells", V.ref t2)] : List (Str × V)) from put2]
    have g1 : (upd H3 b (.ins C dx [("tested_cells", .ref t1), ("toggled_cells", .ref t2)])) t1 = some (.tup (ts.map V.int)) := by
      rw [upd_ne nb1]
      exact e13
    have g2 : (upd H3 b (.ins C dx [("tested_cells", .ref t1), ("toggled_cells", .ref t2)])) t2 = some (.tup (hs.map V.int)) := by
      rw [upd_ne nb2]
      exact e2
    have k4 : But b H (upd H3 b (.ins C dx [("tested_cells", .ref t1), ("toggled_cells", .ref t2)])) := (k2.trans (But.same s3)).trans (But.upd _)
    have back4 : ∀ {d : Addr}, upd H3 b (.ins C dx [("tested_cells", .ref t1), ("toggled_cells", .ref t2)]) d = none → H d = none := fun {d} hd => by
      have nd : d ≠ b := fun z => by rw [z, upd_same] at hd; cases hd
      rw [upd_ne nd] at hd
      exact back (s3.free hd)
    refine ⟨_, rfl, b, C, dx, _, _, rfl, upd_same, T.cl, T.nG, fld2, t2, _, rfl, .inr (SqT.of g2), rfl, flat_ints _, _, rfl, ?_⟩
    show if inV (V.int 0) (hs.map V.int) = true then _ else _
    rw [in_intsD]
    refine ite2 (fun z => ?_) (fun z => ?_)
    · have z0 : (0 : Int) ∈ ms := p2.mem_iff.mp (of_decide_eq_true z)
      refine ⟨(by show 1 ≤ 1000; decide), made_nf fun d H' hd sm ed => ?_⟩
      exact w3 ns ms f1 f2 z0 d H' (back4 hd) (k4.trans (But.same sm)) ed
    · have z0 : ¬ (0 : Int) ∈ ms := fun y => z (decide_eq_true (p2.mem_iff.mpr y))
      have a1 := fine_cells f1
      have a2 := fine_cells f2
      have n1 : ts.Nodup := p1.nodup_iff.mpr f1.2.2
      have n2 : hs.Nodup := p2.nodup_iff.mpr f2.2.2
      have cl1 : ∀ k ∈ ts, Cell k := fun k hk => by have := a1 k (p1.mem_iff.mp hk); exact ⟨by omega, by omega⟩
      have cl2 : ∀ k ∈ hs, Cell k := fun k hk => by have := a2 k (p2.mem_iff.mp hk); exact ⟨by omega, by omega⟩
      have l1 := cells_few n1 cl1
      have l2 := cells_few n2 cl2
      refine ⟨_, rfl, b, C, dx, _, _, rfl, upd_same, T.cl, T.nT, fld1, _, rfl, b, C, dx, _, _, rfl, upd_same, T.cl, T.nG, fld2, t1, t2, ts, hs, rfl, SqT.of g1, SqT.of g2, by omega, by omega, cl1, cl2, n1, fun H5 s5 => ⟨_, rfl, ?_⟩⟩
      rw [comm_perm p1 p2]
      have k5 := k4.trans (But.same s5)
      refine ite2 (fun y => ?_) (fun y => ?_)
      · refine ⟨(by show 1 ≤ 1000; decide), made_nf fun d H' hd sm ed => ?_⟩
        exact w4 ns ms f1 f2 z0 (of_decide_eq_true y) d H' (back4 (s5.free hd)) (k5.trans (But.same sm)) ed
      · exact w5 ns ms f1 f2 z0 (fun x => y (decide_eq_true x)) ts hs H5 k5 p1 q1 p2 q2 ⟨dx, t1, t2, s5 _ _ upd_same, s5 _ _ g1, s5 _ _ g2⟩
end
end K14
namespace K14
open PySem PySem.Spec PyProof.Rows L2 Par
/-- the classes of errors, and what isinstance and except say of a NoCells, at N, and of a NoFlip, at M -/
structure ErrT (K : PySem.W.Frag) (mg : Str → Option Value) (N M c1 c4 : Addr) : Prop where
  cell : mg "NoCell" = some (.ref c1)
  base : mg "CellError" = some (.ref c4)
  nOther : PySem.W.kitAny K (.ref N) [.ref M, .ref c1] = some false
  nBase : PySem.W.kitOne K (.ref N) (.ref c4) = some true
  mOther : PySem.W.kitAny K (.ref M) [.ref N, .ref c1] = some false
  mBase : PySem.W.kitOne K (.ref M) (.ref c4) = some true
  nX : ExcC K N
  nF : XfC K N
  mX : ExcC K M
  mF : XfC K M
  nn : PySem.W.exmOne K (.ref N) (.ref N) = some true
  mn : PySem.W.exmOne K (.ref M) (.ref N) = some false
  mm : PySem.W.exmOne K (.ref M) (.ref M) = some true
section
variable {P : Program} {w : World} {K : PySem.W.Frag} {mg : Str → Option Value} {base : Heap}
def HasFX (P : Program) (w : World) (K : PySem.W.Frag) (mg : Str → Option Value) (base : Heap) (C N M : Addr) : Prop :=
  ∃ f fd, FnOk P w K mg base (L2.CX P w) 6 f fd ["self", "tested", "toggled"] (spFX K C N M) ∧ Mk K C f ∧ Binds K fd ["self", "tested", "toggled"] []
def spMet (K : PySem.W.Frag) (C : Addr) : Sp := fun vs H Q _ => ∃ (u v : V) (o1 o2 : Option (List V)), vs = [u, v] ∧ Desc K H u o1 ∧ Desc K H v o2 ∧
  (Foul 0 40 o1 → ∀ L H', H L = none → Same H H' → H' L = some (.lst [.str "cells", u, .bl true]) → Q (.ref L) H') ∧
  (∀ ns, Fine 0 40 o1 ns → Foul 0 40 o2 → ∀ L H', H L = none → Same H H' → H' L = some (.lst [.str "cells", v, .bl true]) → Q (.ref L) H') ∧
  (∀ ns ms, Fine 0 40 o1 ns → Fine 0 40 o2 ms → (0 : Int) ∈ ms → ∀ L H', H L = none → Same H H' → H' L = some (.lst [.str "fixed", .bl true]) → Q (.ref L) H') ∧
  (∀ ns ms, Fine 0 40 o1 ns → Fine 0 40 o2 ms → ¬ (0 : Int) ∈ ms → (comm ns ms).length % 2 = 1 → ∀ L H', H L = none → Same H H' → H' L = some (.lst [.str "odd", .bl true]) → Q (.ref L) H') ∧
  (∀ ns ms, Fine 0 40 o1 ns → Fine 0 40 o2 ms → ¬ (0 : Int) ∈ ms → ¬ (comm ns ms).length % 2 = 1 → ∀ (ts hs : List Int) L g H', H L = none → Same H H' → ts.Perm ns → ts.Pairwise (· ≤ ·) → hs.Perm ms → hs.Pairwise (· ≤ ·) → Fp C H' g ts hs → H' L = some (.lst [.str "flip", .ref g]) → Q (.ref L) H')
abbrev nMet : List Str := ["_law_tests", "_law_hits", "_law_told", "e"]
theorem scMet : FnScope nMet ["_law_tests", "_law_hits"] (defScope sMet) := ⟨rfl, rfl, rfl, by decide +kernel, rfl, by decide +kernel, by decide +kernel⟩
theorem ok_met {f C N M c1 c4 : Addr} {fd : FuncData} (F : Fun K "_law_met" "_law_met" sMet f fd) (B : Bl mg) (T : FC K mg C) (TN : CellsC K mg N) (TM : NfC K mg M) (R : ErrT K mg N M c1 c4) (D : HasFX P w K mg base C N M) :
    FnOk P w K mg base CX0 8 f fd ["_law_tests", "_law_hits"] (spMet K C) := by
  obtain ⟨fD, fdD, GD, MD, bD⟩ := D
  refine F.ok scMet (fun vs H Q E h => ?_) (fun cdv A outer s H vs Q E hr h => ?_)
  · obtain ⟨u, v, o1, o2, rfl, _⟩ := h
    rfl
  · obtain ⟨u, v, o1, o2, rfl, du, dv, w1, w2, w3, w4, w5⟩ := h
    refine ⟨_, pss_cons (ps_set (i := 2) scMet.nd rfl (Or.inl rfl) (pe_lst (pa_cons pe_str pa_nil)))
      (pss_cons (ps_try_ases (i := 3) rfl rfl scMet.nd rfl rfl takes0
        (fun W pn xe tk _ => pss_one (ps_set (i := 2) scMet.nd rfl (Or.inl rfl) (pe_lst (pa_cons pe_str (pa_cons (pe_makeS MD GD hr (by rfl) T.mgC bD (fun σ => passAt tk σ) (pa_cons (pv 0) (pa_cons (pv 1) pa_nil))) pa_nil)))))
        (.cons ⟨rfl, by decide, .inl TN.gC⟩
          (fun a oe cls d pn hz hf => pss_one (ps_set (i := 2) scMet.nd rfl (Or.inl rfl) (pe_lst (pa_cons pe_str (pa_cons (pe_xf R.nF TN.no hz hf (pv 3)) (pa_cons
            (pe_and (pe_callB (call_isX R.nX hz hf) (by rfl) B.isinstance (by decide +kernel) (pa_cons (pv 3) (pa_cons (pe_glob (v := .ref c4) (by rfl) R.base rfl) pa_nil)))
            (pe_one (pe_not (pe_callB (call_isXT R.nX hz hf) (by rfl) B.isinstance (by decide +kernel) (pa_cons (pv 3) (pa_cons (pe_tup (pa_cons (pe_glob (v := .ref M) (by rfl) TM.gC rfl) (pa_cons (pe_glob (v := .ref c1) (by rfl) R.cell rfl) pa_nil))) pa_nil)))))) pa_nil))))))
        (.cons ⟨rfl, by decide, .inl TM.gC⟩
          (fun a oe cls d pn hz hf => pss_one (ps_set (i := 2) scMet.nd rfl (Or.inl rfl) (pe_lst (pa_cons (pe_xf R.mF TM.no hz hf (pv 3)) (pa_cons
            (pe_and (pe_callB (call_isX R.mX hz hf) (by rfl) B.isinstance (by decide +kernel) (pa_cons (pv 3) (pa_cons (pe_glob (v := .ref c4) (by rfl) R.base rfl) pa_nil)))
            (pe_one (pe_not (pe_callB (call_isXT R.mX hz hf) (by rfl) B.isinstance (by decide +kernel) (pa_cons (pv 3) (pa_cons (pe_tup (pa_cons (pe_glob (v := .ref N) (by rfl) TN.gC rfl) (pa_cons (pe_glob (v := .ref c1) (by rfl) R.cell rfl) pa_nil))) pa_nil)))))) pa_nil)))))
        .nil)))
      (pss_one (ps_ret (pv 2)))), ?_⟩
    refine ⟨(by show 1 ≤ sizeLine; decide), fun L0 hL0 => ?_⟩
    have s0 := same_new (o := .lst [.str "other"]) hL0
    refine ⟨_, rfl, _, rfl, fun x dx hx hdx ne => ?_⟩
    have s1 : Same H (upd (upd (upd H L0 (.lst [.str "other"])) dx (.own x)) x (.ins C dx [])) := fun b o e => by
      have e0 := s0 b o e
      rw [upd_ne (ne_of_none e0 hx), upd_ne (ne_of_none e0 hdx)]
      exact e0
    have hxH : H x = none := s0.free hx
    have but : ∀ {H' : Hp}, But x (upd (upd (upd H L0 (.lst [.str "other"])) dx (.own x)) x (.ins C dx [])) H' → Same H H' := fun {H'} bt b o e => bt b o (ne_of_none e hxH) (s1 b o e)
    refine ⟨x, dx, u, v, o1, o2, rfl, upd_same, desc_same s1 du, desc_same s1 dv, ?_, ?_, ?_, ?_, ?_⟩
    · intro bad d H1 hd sm ed
      have sA := s1.trans sm
      refine ⟨true, R.nn, fun _ a ha => ?_, fun q => Bool.noConfusion q⟩
      refine ⟨_, rfl, rfl, rfl, d, _, u, rfl, ed, rfl, ?_⟩
      refine ⟨_, rfl, _, _, true, d, _, rfl, rfl, rfl, ed, .own _, R.nBase, _, rfl, iteT ?_⟩
      refine ⟨_, rfl, (by show 2 ≤ sizeLine; decide), fun t ht => ?_⟩
      have st := same_new (o := .tup [.ref M, .ref c1]) ht
      refine ⟨t, _, _, false, d, _, rfl, upd_same, .cons (.own _) (.cons (.own _) .nil), rfl, rfl, st _ _ ed, R.nOther, _, rfl, ?_⟩
      refine ⟨(by show 3 ≤ sizeLine; decide), fun L hL => ?_⟩
      refine ⟨_, rfl, ?_⟩
      have sL := same_new (o := .lst [.str "cells", u, .bl true]) hL
      exact w1 bad L _ (sA.free (st.free hL)) (sA.trans (st.trans sL)) upd_same
    · intro ns f1 bad d H1 hd bt ed
      have sA := but bt
      refine ⟨true, R.nn, fun _ a ha => ?_, fun q => Bool.noConfusion q⟩
      refine ⟨_, rfl, rfl, rfl, d, _, v, rfl, ed, rfl, ?_⟩
      refine ⟨_, rfl, _, _, true, d, _, rfl, rfl, rfl, ed, .own _, R.nBase, _, rfl, iteT ?_⟩
      refine ⟨_, rfl, (by show 2 ≤ sizeLine; decide), fun t ht => ?_⟩
      have st := same_new (o := .tup [.ref M, .ref c1]) ht
      refine ⟨t, _, _, false, d, _, rfl, upd_same, .cons (.own _) (.cons (.own _) .nil), rfl, rfl, st _ _ ed, R.nOther, _, rfl, ?_⟩
      refine ⟨(by show 3 ≤ sizeLine; decide), fun L hL => ?_⟩
      refine ⟨_, rfl, ?_⟩
      have sL := same_new (o := .lst [.str "cells", v, .bl true]) hL
      exact w2 ns f1 bad L _ (sA.free (st.free hL)) (sA.trans (st.trans sL)) upd_same
    · intro ns ms f1 f2 z d H1 hd bt ed
      have sA := but bt
      refine ⟨false, R.mn, fun q => Bool.noConfusion q, fun _ => ⟨true, R.mm, fun _ a ha => ?_, fun q => Bool.noConfusion q⟩⟩
      refine ⟨_, rfl, rfl, rfl, d, _, .str "fixed", rfl, ed, rfl, ?_⟩
      refine ⟨_, rfl, _, _, true, d, _, rfl, rfl, rfl, ed, .own _, R.mBase, _, rfl, iteT ?_⟩
      refine ⟨_, rfl, (by show 2 ≤ sizeLine; decide), fun t ht => ?_⟩
      have st := same_new (o := .tup [.ref N, .ref c1]) ht
      refine ⟨t, _, _, false, d, _, rfl, upd_same, .cons (.own _) (.cons (.own _) .nil), rfl, rfl, st _ _ ed, R.mOther, _, rfl, ?_⟩
      refine ⟨(by show 2 ≤ sizeLine; decide), fun L hL => ?_⟩
      refine ⟨_, rfl, ?_⟩
      have sL := same_new (o := .lst [.str "fixed", .bl true]) hL
      exact w3 ns ms f1 f2 z L _ (sA.free (st.free hL)) (sA.trans (st.trans sL)) upd_same
    · intro ns ms f1 f2 z od d H1 hd bt ed
      have sA := but bt
      refine ⟨false, R.mn, fun q => Bool.noConfusion q, fun _ => ⟨true, R.mm, fun _ a ha => ?_, fun q => Bool.noConfusion q⟩⟩
      refine ⟨_, rfl, rfl, rfl, d, _, .str "odd", rfl, ed, rfl, ?_⟩
      refine ⟨_, rfl, _, _, true, d, _, rfl, rfl, rfl, ed, .own _, R.mBase, _, rfl, iteT ?_⟩
      refine ⟨_, rfl, (by show 2 ≤ sizeLine; decide), fun t ht => ?_⟩
      have st := same_new (o := .tup [.ref N, .ref c1]) ht
      refine ⟨t, _, _, false, d, _, rfl, upd_same, .cons (.own _) (.cons (.own _) .nil), rfl, rfl, st _ _ ed, R.mOther, _, rfl, ?_⟩
      refine ⟨(by show 2 ≤ sizeLine; decide), fun L hL => ?_⟩
      refine ⟨_, rfl, ?_⟩
      have sL := same_new (o := .lst [.str "odd", .bl true]) hL
      exact w4 ns ms f1 f2 z od L _ (sA.free (st.free hL)) (sA.trans (st.trans sL)) upd_same
    · intro ns ms f1 f2 z od ts hs H1 bt p1 q1 p2 q2 fp
      have sA := but bt
      refine ⟨rfl, (by show 2 ≤ sizeLine; decide), fun L hL => ?_⟩
      refine ⟨_, rfl, ?_⟩
      have sL := same_new (o := .lst [.str "flip", .ref x]) hL
      exact w5 ns ms f1 f2 z od ts hs L x _ (sA.free hL) (sA.trans sL) p1 q1 p2 q2 (fp.same sL) upd_same
end
end K14
namespace Par
open PySem PySem.Spec PyProof.Rows L2
section
variable {X : Cx} {C f : Addr} {CX : CXT} {n : Nat} {fd : FuncData} {ps : List Str} {sp : Sp} {E : XK}
/-- str(o), repr(o): by the own method -/
def rTxtOwn (C : Addr) (sp : Sp) (E : XK) : List V → Hp → VK → Prop := fun xs H Q => ∃ a dx fs, xs = [.ref a] ∧ H a = some (.ins C dx fs) ∧ sp [.ref a] H (fun v H' => ∃ t : Str, v = .str t ∧ Q (.str t) H') E
theorem one_call {pins : List (Addr × Obj)} {s : Shared} {σ : L2.St} {H : Hp} {a : Addr} {A : Around} {Q : V → Hp → Prop} (I : Inv X pins σ H s) (F : FnOk X.prog X.w X.K X.mg X.base CX n f fd ps sp) (hr : Room n A) (hA : A.frames = X.A.frames) (hb : Binds X.K fd ps []) (hx : Passes CX X E)
    (h : sp [.ref a] H Q E) : wpAny (model X.prog X.w) A (call (.ref f) [.ref a]) (fun v s' => ∃ u H', Inv X pins σ H' s' ∧ RelV u v ∧ Q u H') X.xe s := by
  have e0 : Env0 X.prog X.w X.K X.mg X.base A X.stack s H := by
    have e := I.env0
    exact ⟨by rw [hA]; exact e.frames, e.mod, e.bs, e.bsz, e.funs, e.frf, e.hok, e.bare⟩
  have hl := F.len _ _ _ _ h
  refine wpAny_call (codeAny_mono (F.run A X.stack s H ⟨[.ref a], []⟩ [.ref a] [.ref a] Q E hr e0 (by
    have := hb s [.ref a] I.kIn (by simpa using hl)
    simpa using this) (.cons rfl .nil) h) fun r s' hq => ?_)
  cases r with
  | error e => exact hx pins σ H s e s' I hq
  | ok fl =>
    cases fl with
    | ret w =>
      obtain ⟨z, H', I', rz, q⟩ := I.after hq
      exact ⟨z, H', I', rz, q⟩
    | next => exact False.elim hq
    | brk => exact False.elim hq
    | cont => exact False.elim hq
theorem one_callG {pins : List (Addr × Obj)} {s : Shared} {σ : L2.St} {H : Hp} {a : Addr} {A : Around} {Q : V → Hp → Prop} (I : Inv X pins σ H s) (F : FnG X.prog X.w X.K X.mg X.base CX n f fd ps sp) (gs : A.guards = some []) (hr : Room n A) (hA : A.frames = X.A.frames) (hb : Binds X.K fd ps []) (hx : Passes CX X E)
    (h : sp [.ref a] H Q E) : wpAny (model X.prog X.w) A (call (.ref f) [.ref a]) (fun v s' => ∃ u H', Inv X pins σ H' s' ∧ RelV u v ∧ Q u H') X.xe s := by
  have e0 : Env0 X.prog X.w X.K X.mg X.base A X.stack s H := by
    have e := I.env0
    exact ⟨by rw [hA]; exact e.frames, e.mod, e.bs, e.bsz, e.funs, e.frf, e.hok, e.bare⟩
  have hl := F.arity _ _ _ _ h
  refine wpAny_call (codeAny_mono (F.go A X.stack s H ⟨[.ref a], []⟩ [.ref a] [.ref a] Q E gs hr e0 (by
    have := hb s [.ref a] I.kIn (by simpa using hl)
    simpa using this) (.cons rfl .nil) h) fun r s' hq => ?_)
  cases r with
  | error e => exact hx pins σ H s e s' I hq
  | ok fl =>
    cases fl with
    | ret w =>
      obtain ⟨z, H', I', rz, q⟩ := I.after hq
      exact ⟨z, H', I', rz, q⟩
    | next => exact False.elim hq
    | brk => exact False.elim hq
    | cont => exact False.elim hq
theorem cr_reprOwn (c : PySem.W.findIn X.K (.ref C) "__repr__" = some (some (.ref f))) (hf : PySem.W.isFn X.K (.ref f) = true) (F : FnG X.prog X.w X.K X.mg X.base CX n f fd ps sp) (gs : X.A.guards = some []) (hr : Room (n + 1) X.A) (hb : Binds X.K fd ps []) (hx : Passes CX X E) :
    CallR X (.builtin "repr") (rTxtOwn C sp E) := by
  intro pins s σ H xs us Q I r h
  obtain ⟨a, dx, fs, rfl, ha, h⟩ := h
  cases r with
  | @cons _ u _ _ r1 r2 =>
    cases r2
    cases r1
    obtain ⟨mA, J, _⟩ := ins_get I.hok ha
    obtain ⟨oda, Ja, _⟩ := J.look
    obtain ⟨m, hF⟩ := I.fr
    refine PySem.W.repr_K (hr.in1).units0 hF I.ok.mod.kin Ja c hf ?_
    refine wpAny_mono (one_callG I F gs hr.in1 rfl hb hx h) (fun v s' hv => ?_) fun _ _ e => e
    obtain ⟨z, H', I', rz, t, rfl, q⟩ := hv
    obtain ⟨tk, rfl⟩ := rz
    exact ⟨.str t, H', I', ⟨_, rfl⟩, q⟩
theorem cr_strOwn (c : PySem.W.findIn X.K (.ref C) "__str__" = some (some (.ref f))) (hf : PySem.W.isFn X.K (.ref f) = true) (F : FnOk X.prog X.w X.K X.mg X.base CX n f fd ps sp) (hr : Room (n + 2) X.A) (hb : Binds X.K fd ps []) (hx : Passes CX X E) :
    CallR X (.type "str") (rTxtOwn C sp E) := by
  intro pins s σ H xs us Q I r h
  obtain ⟨a, dx, fs, rfl, ha, h⟩ := h
  cases r with
  | @cons _ u _ _ r1 r2 =>
    cases r2
    cases r1
    obtain ⟨mA, J, _⟩ := ins_get I.hok ha
    obtain ⟨oda, Ja, _⟩ := J.look
    refine PySem.W.kso_call (hr.in1.in1).units0 I.kIn Ja c hf ?_
    refine wpAny_mono (one_call I F hr.in1.in1 rfl hb hx h) (fun v s' hv => ?_) fun _ _ e => e
    obtain ⟨z, H', I', rz, t, rfl, q⟩ := hv
    obtain ⟨tk, rfl⟩ := rz
    exact ⟨.str t, H', I', ⟨_, rfl⟩, q⟩
/-- {x!r}, x a list or tuple of data, where the guards are none -/
def tFmtD (K : PySem.W.Frag) (te : TE) : TE := fun σ H Q => te σ H fun x H1 => ∃ (a : Addr) (d : PyData), x = .ref a ∧ Dp K H1 x d ∧ d.showable = true ∧ d.depth ≤ 40 ∧ d.shown.length ≤ sizeLine ∧ Q (.str d.shown) H1
theorem pe_fmtD {e : Expr} {te : TE} {pos : Pos} (gs : X.A.guards = some []) (hu : X.A.units + 64 < cLine) (he : PE X e te) : PE X (.FormattedValue e 114 none pos) (tFmtD X.K te) := by
  refine ⟨fun pins s σ H Q I h => ?_⟩
  refine wpAny_FormattedValue_repr (thn (he.run pins s σ H _ I h) fun w1 t1 got => ?_)
  obtain ⟨x, H1, I1, r1, a, d, rfl, hd, sh, dep, len, q⟩ := got
  cases r1
  obtain ⟨as, rd⟩ := Dp.reads I1 d _ _ hd rfl
  refine pyReprObj_of_reads rd sh (fun z => by rw [dp_nodict d _ hd] at z; cases z) gs (by omega) (fun _ _ z => z) ?_ len
  intro h' tk u k
  exact wpAny_formatField_str ⟨.str d.shown, H1, I1.un (Un.kept k) (I1.hok.kept k), ⟨_, rfl⟩, q⟩ ⟨.str d.shown, H1, I1.un (Un.kept k) (I1.hok.kept k), ⟨_, rfl⟩, q⟩ len
end
end Par
namespace Par
open PySem PySem.Spec PyProof.Rows L2
section
variable {X : Cx}
/-- x != y of data without dicts, whatever the texts in it -/
def rNeP (K : PySem.W.Frag) : R2 := fun x y H Q => ∃ d e, Dp K H x d ∧ Dp K H y e ∧ d.plain = true ∧ e.plain = true ∧ min d.depth e.depth ≤ 64 ∧ Q (.bl (!PyData.eqv d e)) H
theorem op_neP (hu : X.A.units + 64 < cLine) : OpR X (compareOp .NotEq) (rNeP X.K) := by
  intro pins s σ H x y v u Q I rx ry h
  obtain ⟨d, e, hd, he, sd, se, hm, q⟩ := h
  obtain ⟨as, r1⟩ := Dp.reads I d x v hd rx
  obtain ⟨bs, r2⟩ := Dp.reads I e y u he ry
  exact SeqAt.ne_plain r1 r2 sd se (by omega) ⟨.bl _, H, I, rfl, q⟩
end
end Par
namespace K14
open PySem PySem.Spec PyProof.Rows L2 Par
theorem callR_or {X : Cx} {f : Value} {r1 r2 : List V → Hp → VK → Prop} (h1 : CallR X f r1) (h2 : CallR X f r2) : CallR X f (fun vs H Q => r1 vs H Q ∨ r2 vs H Q) := by
  intro pins s σ H xs us Q I r h
  rcases h with h | h
  · exact h1 pins s σ H xs us Q I r h
  · exact h2 pins s σ H xs us Q I r h
theorem sorted_or {K : PySem.W.Frag} {H : Hp} {a : Addr} {ns : List Int} {Q : VK} (hq : Sq K H a (ns.map V.int))
    (h : ∀ (ms : List Int) (p : Addr), ms.Perm ns → ms.Pairwise (· ≤ ·) → H p = none → Q (.ref p) (upd H p (.lst (ms.map V.int)))) :
    rSortedI K [V.ref a] H Q ∨ ∃ (b : Addr) (ks : List Int), [V.ref a] = [V.ref b] ∧ SqT K H b (ks.map V.int) ∧
      ∀ (ms : List Int) (p : Addr), ms.Perm ks → ms.Pairwise (· ≤ ·) → H p = none → Q (.ref p) (upd H p (.lst (ms.map V.int))) := by
  rcases hq with hq | hq
  · exact .inl ⟨a, ns, rfl, hq, h⟩
  · exact .inr ⟨a, ns, rfl, hq, h⟩
theorem sorted_one {ns ms ms2 : List Int} (h1 : ms.Perm ns) (h2 : ms2.Perm ns) (s1 : ms.Pairwise (· ≤ ·)) (s2 : ms2.Pairwise (· ≤ ·)) : ms = ms2 :=
  List.Perm.eq_of_pairwise (fun a b _ _ h1 h2 => Int.le_antisymm h1 h2) s1 s2 (h1.trans h2.symm)
theorem len0_v (ns : List Int) : decide (V.int (((ns.map V.int).length : Nat) : Int) = V.int 0) = ns.isEmpty := by
  cases ns with
  | nil => rfl
  | cons a l =>
    rw [decide_eq_false fun q => by
      injection q with q
      rw [List.length_map, List.length_cons] at q
      omega]
    rfl
theorem emp_v (ns : List Int) : (!(!(ns.map V.int).isEmpty)) = ns.isEmpty := by
  cases ns <;> rfl
theorem emp_perm {ns ms : List Int} (h : ns.Perm ms) : ns.isEmpty = ms.isEmpty := by
  have := h.length_eq
  cases ns <;> cases ms <;> first | rfl | (simp at this)
section
variable {P : Program} {w : World} {K : PySem.W.Frag} {mg : Str → Option Value} {base : Heap}
theorem Sq.same {H H' : Hp} {a : Addr} {xs : List V} (s : Same H H') (h : Sq K H a xs) : Sq K H' a xs := h.imp (same_sq s) (same_sqt s)
def spIdle (C : Addr) : Sp := fun vs H Q _ => ∃ (f : Addr) (ts hs : List Int), vs = [.ref f] ∧ Fp C H f ts hs ∧ Q (.bl (ts.isEmpty || hs.isEmpty)) H
theorem scIdle : FnScope ["self"] ["self"] (defScope gIdle) := ⟨rfl, rfl, rfl, by decide +kernel, rfl, by decide +kernel, by decide +kernel⟩
theorem ok_idle {f C : Addr} {fd : FuncData} (F : Fun K "is_idle" "Flip.is_idle" gIdle f fd) (T : FC K mg C) : FnOk P w K mg base CX0 2 f fd ["self"] (spIdle C) := by
  refine F.ok scIdle (fun vs H Q E h => ?_) (fun cdv A outer s H vs Q E hr h => ?_)
  · obtain ⟨f, ts, hs, rfl, _⟩ := h
    rfl
  · obtain ⟨f, ts, hs, rfl, ⟨dx, t1, t2, f1, f2, f3⟩, out⟩ := h
    refine ⟨_, pss_one (ps_ret (pe_or (pe_notT (pe_fld (pv 0) rfl)) (pe_one (pe_notT (pe_fld (pv 0) rfl))))), ?_⟩
    refine ⟨_, rfl, f, C, dx, _, _, rfl, f1, T.cl, T.nT, fld1, !(ts.map V.int).isEmpty, .inr (.inl ⟨_, SqT.of f2, rfl⟩), _, rfl, ?_⟩
    rw [emp_v]
    refine ite2 (fun z => ?_) (fun z => ?_)
    · rw [z, Bool.true_or] at out
      exact out
    · refine ⟨_, rfl, f, C, dx, _, _, rfl, f1, T.cl, T.nG, fld2, !(hs.map V.int).isEmpty, .inr (.inl ⟨_, SqT.of f3, rfl⟩), ?_⟩
      rw [emp_v]
      have zf : ts.isEmpty = false := by simpa using z
      rw [zf, Bool.false_or] at out
      exact out
/-- what is to come of these two values, by the law's own words -/
def spDue (K : PySem.W.Frag) : Sp := fun vs H Q _ => ∃ (u v : V) (o1 o2 : Option (List V)), vs = [u, v] ∧ Desc K H u o1 ∧ Desc K H v o2 ∧
  (Foul 0 40 o1 → ∀ L H', H L = none → Same H H' → H' L = some (.lst [.str "cells", u, .bl true]) → Q (.ref L) H') ∧
  (∀ ns, Fine 0 40 o1 ns → Foul 0 40 o2 → ∀ L H', H L = none → Same H H' → H' L = some (.lst [.str "cells", v, .bl true]) → Q (.ref L) H') ∧
  (∀ ns ms, Fine 0 40 o1 ns → Fine 0 40 o2 ms → (0 : Int) ∈ ms → ∀ L H', H L = none → Same H H' → H' L = some (.lst [.str "fixed", .bl true]) → Q (.ref L) H') ∧
  (∀ ns ms, Fine 0 40 o1 ns → Fine 0 40 o2 ms → ¬ (0 : Int) ∈ ms → (comm ns ms).length % 2 = 1 → ∀ L H', H L = none → Same H H' → H' L = some (.lst [.str "odd", .bl true]) → Q (.ref L) H') ∧
  (∀ ns ms, Fine 0 40 o1 ns → Fine 0 40 o2 ms → ¬ (0 : Int) ∈ ms → ¬ (comm ns ms).length % 2 = 1 → ∀ L H', H L = none → Same H H' → H' L = some (.lst [.str "flip"]) → Q (.ref L) H')
abbrev nDue : List Str := ["_law_tests", "_law_hits", "_law_spot"]
theorem scDue : FnScope nDue ["_law_tests", "_law_hits"] (defScope sDue) := ⟨rfl, rfl, rfl, by decide +kernel, rfl, by decide +kernel, by decide +kernel⟩
theorem fine_seq {H : Hp} {v : V} {o : Option (List V)} {ns : List Int} (d : Desc K H v o) (h : Fine 0 40 o ns) : ∃ a, v = .ref a ∧ Sq K H a (ns.map V.int) := by
  have e := h.1
  subst e
  obtain ⟨a, e, hq, _⟩ := d
  exact ⟨a, e, hq⟩
theorem fine_few {o : Option (List V)} {ns : List Int} (h : Fine 0 40 o ns) : ns.length ≤ 40 := cells_few h.2.2 fun k hk => by
  have := fine_cells h k hk
  exact ⟨by omega, by omega⟩
theorem ok_due {f : Addr} {fd : FuncData} (F : Fun K "_law_due" "_law_due" sDue f fd) (B : Bl mg) (R : Has P w K mg base "_law_are_spots" 3 ["_law_given", "_law_least", "_law_width_here"] (spAre K)) :
    FnOk P w K mg base CX0 4 f fd ["_law_tests", "_law_hits"] (spDue K) := by
  obtain ⟨fR, fdR, GR, mR, kR, bR⟩ := R
  refine F.ok scDue (fun vs H Q E h => ?_) (fun cdv A outer s H vs Q E hr h => ?_)
  · obtain ⟨u, v, o1, o2, rfl, _⟩ := h
    rfl
  · obtain ⟨u, v, o1, o2, rfl, du, dv, w1, w2, w3, w4, w5⟩ := h
    -- one step of the walk
    have step : ∀ (ns ms : List Int) (b D : Addr) (H2 H4 : Hp) (i : Nat) (x : V), ns.length ≤ 40 → Sq K H2 b (ms.map V.int) → H2 D = none → (ns.map V.int)[i]? = some x → Same H2 H4 → H4 D = some (.lst (((ns.take i).filter fun k => decide (k ∈ ms)).map V.int)) →
        ∃ k, x = V.int k ∧ Sq K H4 b (ms.map V.int) ∧ (k ∈ ms → ∃ acc, H4 D = some (.lst acc) ∧ acc.length < sizeLine ∧ Same H2 (upd H4 D (.lst (acc ++ [V.int k]))) ∧ upd H4 D (.lst (acc ++ [V.int k])) D = some (.lst (((ns.take (i + 1)).filter fun k => decide (k ∈ ms)).map V.int))) ∧
          (¬ k ∈ ms → H4 D = some (.lst (((ns.take (i + 1)).filter fun k => decide (k ∈ ms)).map V.int))) := by
      intro ns ms b D H2 H4 i x hl hq hD hx s4 hD4
      rw [List.getElem?_map] at hx
      obtain ⟨k, hk, rfl⟩ : ∃ k, ns[i]? = some k ∧ x = V.int k := by
        cases e : ns[i]? with
        | none => rw [e] at hx; cases hx
        | some k => rw [e] at hx; exact ⟨k, rfl, (Option.some.inj hx).symm⟩
      have st := filt_step (f := fun k => decide (k ∈ ms)) hk
      refine ⟨k, rfl, Sq.same s4 hq, fun hm => ?_, fun hm => ?_⟩
      · rw [decide_eq_true hm, if_pos rfl] at st
        refine ⟨_, hD4, ?_, ?_, ?_⟩
        · have := List.length_filter_le (fun k => decide (k ∈ ms)) (ns.take i)
          rw [List.length_take] at this
          rw [List.length_map]
          exact small1000 (by omega)
        · intro y o e
          rw [upd_ne (ne_of_none e hD)]
          exact s4 y o e
        · rw [upd_same, st, List.map_append]
          rfl
      · rw [decide_eq_false hm, if_neg Bool.false_ne_true, List.append_nil] at st
        rw [st]
        exact hD4
    have fin : ∀ (ns ms : List Int), Fine 0 40 o1 ns → Fine 0 40 o2 ms → ¬ (0 : Int) ∈ ms → ∀ (H4 : Hp), Same H H4 → ∀ b : Bool, b = decide ((comm ns ms).length % 2 = 1) →
        (if b = true then 2 ≤ sizeLine ∧ ∀ p, H4 p = none → Q (.ref p) (upd H4 p (.lst [.str "odd", .bl true])) else 1 ≤ sizeLine ∧ ∀ p, H4 p = none → Q (.ref p) (upd H4 p (.lst [.str "flip"]))) := by
      intro ns ms f1 f2 z H4 s4 b hb
      subst hb
      refine ite2 (fun y => ?_) (fun y => ?_)
      · exact ⟨by decide, fun L hL => w4 ns ms f1 f2 z (of_decide_eq_true y) L _ (s4.free hL) (s4.trans (same_new hL)) upd_same⟩
      · exact ⟨by decide, fun L hL => w5 ns ms f1 f2 z (fun q => y (decide_eq_true q)) L _ (s4.free hL) (s4.trans (same_new hL)) upd_same⟩
    have mod2 : ∀ (ns ms : List Int), decide (V.int ((((comm ns ms).map V.int).length : Nat) % 2 : Int) = V.int 1) = decide ((comm ns ms).length % 2 = 1) := by
      intro ns ms
      rw [List.length_map]
      by_cases z : (comm ns ms).length % 2 = 1
      · rw [decide_eq_true z, decide_eq_true (by congr 1; omega)]
      · rw [decide_eq_false z, decide_eq_false (fun q => z (by injection q with q; omega))]
    rcases desc_cases du with ⟨rfl, hno⟩ | ⟨a, xs, rfl, rfl, hq | hq, hl, hty⟩
    · refine ⟨_, pss_cons (ps_if (pt_not (pt_val (pe_call GR hr (by rfl) mR kR bR .nil pass0 (pa_cons (pv 0) (pa_cons pe_int (pa_cons pe_int pa_nil)))))) (pss_one (ps_ret (pe_lst (pa_cons pe_str (pa_cons (pv 0) (pa_cons pe_bl pa_nil)))))) pss_nil) (pss_cons ps_off (pss_cons ps_off (pss_one ps_off))), ?_⟩
      refine ⟨_, rfl, u, 0, 40, none, rfl, du, (fun ns fi => nomatch fi.1), fun fo H1 s1 => ⟨_, rfl, iteT ?_⟩⟩
      exact ⟨_, rfl, (by show 3 ≤ sizeLine; decide), fun L hL => w1 fo L _ (s1.free hL) (s1.trans (same_new hL)) upd_same⟩
    · refine ⟨_, pss_cons (ps_if (pt_not (pt_val (pe_call GR hr (by rfl) mR kR bR .nil pass0 (pa_cons (pv 0) (pa_cons pe_int (pa_cons pe_int pa_nil)))))) (pss_one (ps_ret (pe_lst (pa_cons pe_str (pa_cons (pv 0) (pa_cons pe_bl pa_nil)))))) pss_nil)
        (pss_cons (ps_if (pt_not (pt_val (pe_call GR hr (by rfl) mR kR bR .nil pass0 (pa_cons (pv 1) (pa_cons pe_int (pa_cons pe_int pa_nil)))))) (pss_one (ps_ret (pe_lst (pa_cons pe_str (pa_cons (pv 1) (pa_cons pe_bl pa_nil)))))) pss_nil)
        (pss_cons (ps_if (pt_cmpR op_in_seq pe_int (pv 1) (by rfl)) (pss_one (ps_ret (pe_lst (pa_cons pe_str (pa_cons pe_bl pa_nil))))) pss_nil)
        (pss_one (ps_ret (pe_ifExp (pt_cmpR op_eq (pe_op op_mod (pe_callB call_len_seq (by rfl) B.len PySem.boot_len (pa_cons (pe_lc (own := [("_law_spot", 2)]) (g := gName 2) (tt := tTest (tOp (rIn K false) (tVar 2) (tVar 1))) rfl scDue.nd (pi_list (pv 0)) (blkOk_by (own := [("_law_spot", 2)]) (N := nDue) (sc := defScope sDue) (by decide +kernel))
          (fun _ _ _ _ _ => pg_name (i := 2) scDue.nd rfl (Or.inl rfl)) (fun _ _ _ _ _ => by exact pts_one (pt_cmpR op_in_seq (pv 2) (pv 1) (by rfl))) (fun _ _ _ _ _ => pv 2)) pa_nil)) pe_int) pe_int (nomark _)) (pe_lst (pa_cons pe_str (pa_cons pe_bl pa_nil))) (pe_lst (pa_cons pe_str pa_nil))))))), ?_⟩
      refine ⟨_, rfl, .ref a, 0, 40, some xs, rfl, du, fun ns f1 H1 s1 => ⟨_, rfl, iteF ?_⟩, fun fo H1 s1 => ⟨_, rfl, iteT ?_⟩⟩
      · refine ⟨_, rfl, v, 0, 40, o2, rfl, desc_same s1 dv, fun ms f2 H2 s2 => ⟨_, rfl, iteF ?_⟩, fun fo H2 s2 => ⟨_, rfl, iteT ?_⟩⟩
        · have s12 := s1.trans s2
          obtain ⟨b, rfl, hb⟩ := fine_seq (desc_same s12 dv) f2
          have ex : xs = ns.map V.int := Option.some.inj f1.1
          subst ex
          refine ⟨_, rfl, b, _, rfl, hb, rfl, flat_ints _, _, rfl, ?_⟩
          show if inV (V.int 0) (ms.map V.int) = true then _ else _
          rw [in_intsD]
          refine ite2 (fun z => ?_) (fun z => ?_)
          · exact ⟨(by show 2 ≤ sizeLine; decide), fun L hL => w3 ns ms f1 f2 (of_decide_eq_true z) L _ (s12.free hL) (s12.trans (same_new hL)) upd_same⟩
          · have z0 : ¬ (0 : Int) ∈ ms := fun y => z (decide_eq_true y)
            refine ⟨_, rfl, a, rfl, ⟨_, same_sq s12 hq⟩, fun D hD => ?_⟩
            refine lc_list (K := K) (a := a) (xs := ns.map V.int) (fun i H' => Same H2 H' ∧ H' D = some (.lst (((ns.take i).filter fun k => decide (k ∈ ms)).map V.int))) ⟨same_new hD, upd_same⟩ (fun i H' _ h => same_sq h.1 (same_sq s12 hq)) ?_ ?_
            · rintro i x H4 hx ⟨s4, hD4⟩
              obtain ⟨k, rfl, hb4, yes, no⟩ := step ns ms b D H2 H4 i x (fine_few f1) hb hD hx s4 hD4
              refine ⟨rfl, ?_⟩
              refine ⟨_, rfl, _, rfl, b, _, rfl, hb4, rfl, flat_ints _, _, rfl, ?_⟩
              show if inV (V.int k) (ms.map V.int) = true then _ else _
              rw [in_intsD]
              refine ite2 (fun y => ?_) (fun y => ?_)
              · exact ⟨_, rfl, yes (of_decide_eq_true y)⟩
              · exact ⟨s4, no fun q => y (decide_eq_true q)⟩
            rintro H4 ⟨s4, hD4⟩
            rw [List.length_map, List.take_length] at hD4
            have e4 : H4 D = some (.lst ((comm ns ms).map V.int)) := hD4
            refine ⟨D, _, rfl, .inl (SqL.of e4), _, _, rfl, rfl, (by show (0 : Int) < 2; decide), rfl, _, rfl, ?_⟩
            exact fin ns ms f1 f2 z0 H4 (s12.trans s4) _ (mod2 ns ms)
        · exact ⟨_, rfl, (by show 3 ≤ sizeLine; decide), fun L hL => w2 ns f1 fo L _ ((s1.trans s2).free hL) ((s1.trans s2).trans (same_new hL)) upd_same⟩
      · exact ⟨_, rfl, (by show 3 ≤ sizeLine; decide), fun L hL => w1 fo L _ (s1.free hL) (s1.trans (same_new hL)) upd_same⟩
    · refine ⟨_, pss_cons (ps_if (pt_not (pt_val (pe_call GR hr (by rfl) mR kR bR .nil pass0 (pa_cons (pv 0) (pa_cons pe_int (pa_cons pe_int pa_nil)))))) (pss_one (ps_ret (pe_lst (pa_cons pe_str (pa_cons (pv 0) (pa_cons pe_bl pa_nil)))))) pss_nil)
        (pss_cons (ps_if (pt_not (pt_val (pe_call GR hr (by rfl) mR kR bR .nil pass0 (pa_cons (pv 1) (pa_cons pe_int (pa_cons pe_int pa_nil)))))) (pss_one (ps_ret (pe_lst (pa_cons pe_str (pa_cons (pv 1) (pa_cons pe_bl pa_nil)))))) pss_nil)
        (pss_cons (ps_if (pt_cmpR op_in_seq pe_int (pv 1) (by rfl)) (pss_one (ps_ret (pe_lst (pa_cons pe_str (pa_cons pe_bl pa_nil))))) pss_nil)
        (pss_one (ps_ret (pe_ifExp (pt_cmpR op_eq (pe_op op_mod (pe_callB call_len_seq (by rfl) B.len PySem.boot_len (pa_cons (pe_lc (own := [("_law_spot", 2)]) (g := gName 2) (tt := tTest (tOp (rIn K false) (tVar 2) (tVar 1))) rfl scDue.nd (pi_tup (pv 0)) (blkOk_by (own := [("_law_spot", 2)]) (N := nDue) (sc := defScope sDue) (by decide +kernel))
          (fun _ _ _ _ _ => pg_name (i := 2) scDue.nd rfl (Or.inl rfl)) (fun _ _ _ _ _ => by exact pts_one (pt_cmpR op_in_seq (pv 2) (pv 1) (by rfl))) (fun _ _ _ _ _ => pv 2)) pa_nil)) pe_int) pe_int (nomark _)) (pe_lst (pa_cons pe_str (pa_cons pe_bl pa_nil))) (pe_lst (pa_cons pe_str pa_nil))))))), ?_⟩
      refine ⟨_, rfl, .ref a, 0, 40, some xs, rfl, du, fun ns f1 H1 s1 => ⟨_, rfl, iteF ?_⟩, fun fo H1 s1 => ⟨_, rfl, iteT ?_⟩⟩
      · refine ⟨_, rfl, v, 0, 40, o2, rfl, desc_same s1 dv, fun ms f2 H2 s2 => ⟨_, rfl, iteF ?_⟩, fun fo H2 s2 => ⟨_, rfl, iteT ?_⟩⟩
        · have s12 := s1.trans s2
          obtain ⟨b, rfl, hb⟩ := fine_seq (desc_same s12 dv) f2
          have ex : xs = ns.map V.int := Option.some.inj f1.1
          subst ex
          refine ⟨_, rfl, b, _, rfl, hb, rfl, flat_ints _, _, rfl, ?_⟩
          show if inV (V.int 0) (ms.map V.int) = true then _ else _
          rw [in_intsD]
          refine ite2 (fun z => ?_) (fun z => ?_)
          · exact ⟨(by show 2 ≤ sizeLine; decide), fun L hL => w3 ns ms f1 f2 (of_decide_eq_true z) L _ (s12.free hL) (s12.trans (same_new hL)) upd_same⟩
          · have z0 : ¬ (0 : Int) ∈ ms := fun y => z (decide_eq_true y)
            refine ⟨_, rfl, a, rfl, ⟨_, same_sqt s12 hq⟩, fun D hD => ?_⟩
            refine lc_tup (K := K) (a := a) (xs := ns.map V.int) (fun i H' => Same H2 H' ∧ H' D = some (.lst (((ns.take i).filter fun k => decide (k ∈ ms)).map V.int))) ⟨same_new hD, upd_same⟩ (fun i H' _ h => same_sqt h.1 (same_sqt s12 hq)) ?_ ?_
            · rintro i x H4 hx ⟨s4, hD4⟩
              obtain ⟨k, rfl, hb4, yes, no⟩ := step ns ms b D H2 H4 i x (fine_few f1) hb hD hx s4 hD4
              refine ⟨rfl, ?_⟩
              refine ⟨_, rfl, _, rfl, b, _, rfl, hb4, rfl, flat_ints _, _, rfl, ?_⟩
              show if inV (V.int k) (ms.map V.int) = true then _ else _
              rw [in_intsD]
              refine ite2 (fun y => ?_) (fun y => ?_)
              · exact ⟨_, rfl, yes (of_decide_eq_true y)⟩
              · exact ⟨s4, no fun q => y (decide_eq_true q)⟩
            rintro H4 ⟨s4, hD4⟩
            rw [List.length_map, List.take_length] at hD4
            have e4 : H4 D = some (.lst ((comm ns ms).map V.int)) := hD4
            refine ⟨D, _, rfl, .inl (SqL.of e4), _, _, rfl, rfl, (by show (0 : Int) < 2; decide), rfl, _, rfl, ?_⟩
            exact fin ns ms f1 f2 z0 H4 (s12.trans s4) _ (mod2 ns ms)
        · exact ⟨_, rfl, (by show 3 ≤ sizeLine; decide), fun L hL => w2 ns f1 fo L _ ((s1.trans s2).free hL) ((s1.trans s2).trans (same_new hL)) upd_same⟩
      · exact ⟨_, rfl, (by show 3 ≤ sizeLine; decide), fun L hL => w1 fo L _ (s1.free hL) (s1.trans (same_new hL)) upd_same⟩
end
end K14
namespace K14
open PySem PySem.Spec PyProof.Rows L2 Par
theorem seq_outE {te : TE} {g : TG} {rest : TS} {D : Ends} {σ : L2.St} {H : Hp} (R : V → Hp → Prop) (out : ∀ v H', R v H' → tSeq (tAsg (tC v) g) rest D σ H') (h : ∀ Q' : VK, (∀ v H', R v H' → Q' v H') → te σ H Q') : tSeq (tAsg te g) rest D σ H := h _ out
theorem seq_list {K : PySem.W.Frag} {H : Hp} {a : Addr} {xs : List V} (h : Sq K H a xs) : SqL K H a xs ∨ SqT K H a xs := h
theorem good_ints {ns : List Int} (h : ∀ k ∈ ns, 0 ≤ k ∧ k < 40) (hl : ns.length ≤ 40) : good (.tuple (ns.map PyData.int)) :=
  good_tuple (dps_set (H := fun _ => none) fun k hk => by have := h k hk; omega) (by rw [List.length_map]; omega)
section
variable {P : Program} {w : World} {K : PySem.W.Frag} {mg : Str → Option Value} {base : Heap}
def HasG (P : Program) (w : World) (K : PySem.W.Frag) (mg : Str → Option Value) (base : Heap) (x : Str) (lv : Nat) (ps : List Str) (sp : Sp) : Prop :=
  ∃ f fd, FnG P w K mg base CX0 lv f fd ps sp ∧ mg x = some (.ref f) ∧ PySem.W.keepIn K (.ref f) = true ∧ Binds K fd ps []
def spFlipR (K : PySem.W.Frag) (C : Addr) : Sp := fun vs H Q _ => ∃ (g a b : Addr) (ts hs ns ms : List Int), vs = [.ref g, .ref a, .ref b] ∧ Fp C H g ts hs ∧ Sq K H a (ns.map V.int) ∧ Sq K H b (ms.map V.int) ∧
  ts.Perm ns ∧ ts.Pairwise (· ≤ ·) ∧ hs.Perm ms ∧ hs.Pairwise (· ≤ ·) ∧ (∀ k ∈ ns, 0 ≤ k ∧ k < 40) ∧ (∀ k ∈ ms, 0 ≤ k ∧ k < 40) ∧ ns.length ≤ 40 ∧ ms.length ≤ 40 ∧ ∀ H', Same H H' → Q (.bl true) H'
abbrev nFlipR : List Str := ["_law_flip", "_law_tests", "_law_hits", "_law_due_here"]
theorem scFlipR : FnScope nFlipR ["_law_flip", "_law_tests", "_law_hits"] (defScope sFlipR) := ⟨rfl, rfl, rfl, by decide +kernel, rfl, by decide +kernel, by decide +kernel⟩
theorem ok_flipR {f C : Addr} {fd : FuncData} (F : Fun K "_law_flip_right" "_law_flip_right" sFlipR f fd) (B : Bl mg) (T : FC K mg C) (DT : HasM P w K mg base C "tested" 2 ["self"] (spTested C)) (DG : HasM P w K mg base C "toggled" 2 ["self"] (spToggled C))
    (DW : HasM P w K mg base C "width" 2 ["self"] (spFWidth C)) (DI : HasM P w K mg base C "is_idle" 2 ["self"] (spIdle C)) : FnG P w K mg base CX0 3 f fd ["_law_flip", "_law_tests", "_law_hits"] (spFlipR K C) := by
  obtain ⟨fT, fdT, GT, mT, bT⟩ := DT
  obtain ⟨fG, fdG, GG, mG, bG⟩ := DG
  obtain ⟨fW, fdW, GW, mW, bW⟩ := DW
  obtain ⟨fI, fdI, GI, mI, bI⟩ := DI
  refine fnG_of F scFlipR (fun vs H Q E h => ?_) (fun cdv A outer s H vs Q E gs hr h => ?_)
  · obtain ⟨g, a, b, ts, hs, ns, ms, rfl, _⟩ := h
    rfl
  · obtain ⟨g, a, b, ts, hs, ns, ms, rfl, hF, ha, hb, p1, q1, p2, q2, c1, c2, l1, l2, out⟩ := h
    obtain ⟨dx, t1, t2, f1, f2, f3⟩ := id hF
    have hu := hr.units
    refine ⟨_, pss_cons (ps_if (PW.pt (pw_or (pt_cmpR op_ne (pe_callB (cr_repr gs hu) (by rfl) B.repr (by decide +kernel) (pa_cons (pe_meth0 (pv 0) T.cl mT GT hr bT .nil pass0) pa_nil)) (pe_callB (cr_repr gs hu) (by rfl) B.repr (by decide +kernel) (pa_cons (pe_callTy call_tuple_of (by rfl) B.tuple (by decide +kernel) (pa_cons (pe_callB (callR_or cr_sortedI cr_sortedTup) (by rfl) B.sorted (by decide +kernel) (pa_cons (pv 1) pa_nil)) pa_nil)) pa_nil)) (nomark _))
        (pw_or1 (pt_cmpR op_ne (pe_callB (cr_repr gs hu) (by rfl) B.repr (by decide +kernel) (pa_cons (pe_meth0 (pv 0) T.cl mG GG hr bG .nil pass0) pa_nil)) (pe_callB (cr_repr gs hu) (by rfl) B.repr (by decide +kernel) (pa_cons (pe_callTy call_tuple_of (by rfl) B.tuple (by decide +kernel) (pa_cons (pe_callB (callR_or cr_sortedI cr_sortedTup) (by rfl) B.sorted (by decide +kernel) (pa_cons (pv 2) pa_nil)) pa_nil)) pa_nil)) (nomark _))))) (pss_one (ps_ret pe_bl)) pss_nil)
      (pss_cons (ps_set (i := 3) scFlipR.nd rfl (Or.inl rfl) (pe_lst (pa_cons (pe_or (pe_cmpR op_eq (pe_callB call_len_seq (by rfl) B.len PySem.boot_len (pa_cons (pv 1) pa_nil)) pe_int (nomark _)) (pe_one (pe_cmpR op_eq (pe_callB call_len_seq (by rfl) B.len PySem.boot_len (pa_cons (pv 2) pa_nil)) pe_int (nomark _))))
          (pa_cons (pe_op op_add pe_int (pe_callB (cr_max rfl) (by rfl) B.max (by decide +kernel) (pa_cons (pe_op op_cat (pe_op op_cat (pe_lst (pa_cons pe_int pa_nil)) (pe_callTy call_list_of (by rfl) B.list (by decide +kernel) (pa_cons (pv 1) pa_nil))) (pe_callTy call_list_of (by rfl) B.list (by decide +kernel) (pa_cons (pv 2) pa_nil))) pa_nil))) pa_nil))))
      (pss_one (ps_ret (pe_cmpR op_eq (pe_callB (cr_repr gs hu) (by rfl) B.repr (by decide +kernel) (pa_cons (pe_lst (pa_cons (pe_meth0 (pv 0) T.cl mI GI hr bI .nil pass0) (pa_cons (pe_meth0 (pv 0) T.cl mW GW hr bW .nil pass0) pa_nil))) pa_nil)) (pe_callB (cr_repr gs hu) (by rfl) B.repr (by decide +kernel) (pa_cons (pv 3) pa_nil)) (nomark _))))), ?_⟩
    have d1 : ∀ k ∈ ts, 0 ≤ k ∧ k < 40 := fun k hk => c1 k (p1.mem_iff.mp hk)
    have d2 : ∀ k ∈ hs, 0 ≤ k ∧ k < 40 := fun k hk => c2 k (p2.mem_iff.mp hk)
    have m1 : ts.length ≤ 40 := by rw [p1.length_eq]; exact l1
    have m2 : hs.length ≤ 40 := by rw [p2.length_eq]; exact l2
    obtain ⟨sh1, dep1, len1⟩ := shown_good (good_ints d1 m1)
    obtain ⟨sh2, dep2, len2⟩ := shown_good (good_ints d2 m2)
    -- the tested cells
    refine ⟨_, rfl, g, dx, _, rfl, f1, no2 (by decide +kernel) (by decide +kernel), g, ts, hs, rfl, hF, fun x hx => ?_⟩
    refine ⟨_, _, rfl, .dp (.tup (SqT.of hx) (dps_ints ts)), sh1, dep1, len1, ?_⟩
    refine ⟨_, rfl, sorted_or ha fun ks S pm pw hS => ?_⟩
    have es := sorted_one p1 pm q1 pw
    subst es
    have s1 := same_new (o := .lst (ts.map V.int)) hS
    refine ⟨S, _, rfl, .inl ⟨SqL.of upd_same, fun U hU => ?_⟩⟩
    have s2 := same_new (o := .tup (ts.map V.int)) hU
    refine ⟨_, _, rfl, .dp (.tup (SqT.of upd_same) (dps_ints ts)), sh1, dep1, len1, rfl, _, rfl, iteNS rfl ?_⟩
    have s02 := s1.trans s2
    -- the toggled cells
    refine ⟨_, rfl, g, dx, _, rfl, s02 _ _ f1, no2 (by decide +kernel) (by decide +kernel), g, ts, hs, rfl, hF.same s02, fun y hy => ?_⟩
    refine ⟨_, _, rfl, .dp (.tup (SqT.of hy) (dps_ints hs)), sh2, dep2, len2, ?_⟩
    refine ⟨_, rfl, sorted_or (Sq.same s02 hb) fun ks S2 pm pw hS2 => ?_⟩
    have es := sorted_one p2 pm q2 pw
    subst es
    have s3 := same_new (o := .lst (hs.map V.int)) hS2
    refine ⟨S2, _, rfl, .inl ⟨SqL.of upd_same, fun U2 hU2 => ?_⟩⟩
    have s4 := same_new (o := .tup (hs.map V.int)) hU2
    refine ⟨_, _, rfl, .dp (.tup (SqT.of upd_same) (dps_ints hs)), sh2, dep2, len2, rfl, _, rfl, iteNS rfl ?_⟩
    have s04 := s02.trans (s3.trans s4)
    generalize upd (upd (upd (upd H S (.lst (ts.map V.int))) U (.tup (ts.map V.int))) S2 (.lst (hs.map V.int))) U2 (.tup (hs.map V.int)) = H4 at *
    have ha4 := Sq.same s04 ha
    have hb4 := Sq.same s04 hb
    have n1 : ts.isEmpty = ns.isEmpty := emp_perm p1
    have n2 : hs.isEmpty = ms.isEmpty := emp_perm p2
    unfold tNext
    dsimp only []
    refine seq_outE (fun v H' => ∃ (L : Addr) (M : Int), v = .ref L ∧ Same H4 H' ∧ H' L = some (.lst [.bl (ts.isEmpty || hs.isEmpty), .int M]) ∧ Fits ts hs M) ?_ ?_
    rotate_left
    · intro Q' q
      refine ⟨_, rfl, a, _, rfl, ha4, rfl, _, rfl, ?_⟩
      rw [len0_v]
      refine ite2 (fun z => ?_) (fun z => ?_)
      rotate_left
      · refine ⟨_, rfl, b, _, rfl, hb4, rfl, ?_⟩
        rw [len0_v]
        have he : ms.isEmpty = (ts.isEmpty || hs.isEmpty) := by
          rw [n1, n2, show ns.isEmpty = false by simpa using z]
          rfl
        refine ⟨(by show 1 ≤ sizeLine; decide), fun Z hZ => ?_⟩
        have z1 := same_new (o := .lst [.int 0]) hZ
        refine ⟨_, rfl, a, _, rfl, Sq.same z1 ha4, fun Y1 hY1 => ?_⟩
        have z2 := same_new (o := .lst (ns.map V.int)) hY1
        refine ⟨Z, Y1, _, _, rfl, rfl, z2 _ _ upd_same, upd_same, (by rw [List.length_map, sizeLine_eq]; show 1 + _ ≤ _; omega), fun Z2 hZ2 => ?_⟩
        have z3 := same_new (o := .lst ([.int 0] ++ ns.map V.int)) hZ2
        have z13 := (z1.trans z2).trans z3
        refine ⟨_, rfl, b, _, rfl, Sq.same z13 hb4, fun Y2 hY2 => ?_⟩
        have z4 := same_new (o := .lst (ms.map V.int)) hY2
        refine ⟨Z2, Y2, _, _, rfl, rfl, z4 _ _ upd_same, upd_same, (by rw [List.length_append, List.length_map, List.length_map, sizeLine_eq]; show 1 + _ + _ ≤ _; omega), fun Z3 hZ3 => ?_⟩
        have z5 := same_new (o := .lst ([.int 0] ++ ns.map V.int ++ ms.map V.int)) hZ3
        have el : [V.int 0] ++ ns.map V.int ++ ms.map V.int = ((0 :: (ns ++ ms)).map V.int) := by
          rw [List.map_cons, List.map_append]
          rfl
        refine ⟨Z3, 0 :: (ns ++ ms), rfl, SqL.of (by rw [upd_same, el]), by simp, fun M2 m2 up2 => ⟨1, M2, rfl, rfl, (by show 2 ≤ sizeLine; decide), fun L hL => ?_⟩⟩
        have z6 := same_new (o := .lst [.bl (ts.isEmpty || hs.isEmpty), .int (1 + M2)]) hL
        rw [he]
        refine q _ _ ⟨L, 1 + M2, rfl, (z13.trans (z4.trans z5)).trans z6, upd_same, fun k hk => ?_, ?_, ?_⟩
        · have := up2 k (List.mem_cons_of_mem _ (List.mem_append.mpr (hk.imp (fun y => p1.mem_iff.mp y) (fun y => p2.mem_iff.mp y))))
          omega
        · have := up2 0 (List.mem_cons_self ..)
          omega
        · rcases List.mem_cons.mp m2 with z | z
          · left
            omega
          · right
            rw [show 1 + M2 - 1 = M2 by omega]
            exact (List.mem_append.mp z).imp (fun y => p1.mem_iff.mpr y) (fun y => p2.mem_iff.mpr y)
      · have he : true = (ts.isEmpty || hs.isEmpty) := by
          rw [n1, z]
          rfl
        refine ⟨(by show 1 ≤ sizeLine; decide), fun Z hZ => ?_⟩
        have z1 := same_new (o := .lst [.int 0]) hZ
        refine ⟨_, rfl, a, _, rfl, Sq.same z1 ha4, fun Y1 hY1 => ?_⟩
        have z2 := same_new (o := .lst (ns.map V.int)) hY1
        refine ⟨Z, Y1, _, _, rfl, rfl, z2 _ _ upd_same, upd_same, (by rw [List.length_map, sizeLine_eq]; show 1 + _ ≤ _; omega), fun Z2 hZ2 => ?_⟩
        have z3 := same_new (o := .lst ([.int 0] ++ ns.map V.int)) hZ2
        have z13 := (z1.trans z2).trans z3
        refine ⟨_, rfl, b, _, rfl, Sq.same z13 hb4, fun Y2 hY2 => ?_⟩
        have z4 := same_new (o := .lst (ms.map V.int)) hY2
        refine ⟨Z2, Y2, _, _, rfl, rfl, z4 _ _ upd_same, upd_same, (by rw [List.length_append, List.length_map, List.length_map, sizeLine_eq]; show 1 + _ + _ ≤ _; omega), fun Z3 hZ3 => ?_⟩
        have z5 := same_new (o := .lst ([.int 0] ++ ns.map V.int ++ ms.map V.int)) hZ3
        have el : [V.int 0] ++ ns.map V.int ++ ms.map V.int = ((0 :: (ns ++ ms)).map V.int) := by
          rw [List.map_cons, List.map_append]
          rfl
        refine ⟨Z3, 0 :: (ns ++ ms), rfl, SqL.of (by rw [upd_same, el]), by simp, fun M2 m2 up2 => ⟨1, M2, rfl, rfl, (by show 2 ≤ sizeLine; decide), fun L hL => ?_⟩⟩
        have z6 := same_new (o := .lst [.bl (ts.isEmpty || hs.isEmpty), .int (1 + M2)]) hL
        rw [he]
        refine q _ _ ⟨L, 1 + M2, rfl, (z13.trans (z4.trans z5)).trans z6, upd_same, fun k hk => ?_, ?_, ?_⟩
        · have := up2 k (List.mem_cons_of_mem _ (List.mem_append.mpr (hk.imp (fun y => p1.mem_iff.mp y) (fun y => p2.mem_iff.mp y))))
          omega
        · have := up2 0 (List.mem_cons_self ..)
          omega
        · rcases List.mem_cons.mp m2 with z | z
          · left
            omega
          · right
            rw [show 1 + M2 - 1 = M2 by omega]
            exact (List.mem_append.mp z).imp (fun y => p1.mem_iff.mpr y) (fun y => p2.mem_iff.mpr y)
    · rintro v H6 ⟨L, M, rfl, s6, eL, fit⟩
      have s06 := s04.trans s6
      refine ⟨_, rfl, g, dx, _, rfl, s06 _ _ f1, no2 (by decide +kernel) (by decide +kernel), g, ts, hs, rfl, hF.same s06, ?_⟩
      refine ⟨_, rfl, g, dx, _, rfl, s06 _ _ f1, no2 (by decide +kernel) (by decide +kernel), g, ts, hs, rfl, hF.same s06, by omega, by omega, fun k hk => (d1 k hk).1, fun k hk => (d2 k hk).1, fun M2 H7 s7 fit2 => ?_⟩
      have eM := fit.one fit2
      subst eM
      have Mb : M.natAbs < 2 ^ 100 := by
        have e1 : (2 : Nat) ^ 100 = 1267650600228229401496703205376 := by decide
        have b1 := fit.2.1
        have b2 : M ≤ 40 := by
          rcases fit.2.2 with z | z | z
          · omega
          · have := d1 _ z
            omega
          · have := d2 _ z
            omega
        rw [e1]
        omega
      obtain ⟨sh, dep, len⟩ := shown_list (ds := [.bool (ts.isEmpty || hs.isEmpty), .int M]) (fun d hd => by
        simp only [List.mem_cons, List.not_mem_nil, or_false] at hd
        rcases hd with rfl | rfl
        · exact small_good (small_bool _)
        · exact small_good (small_int Mb)) (by show 2 ≤ 8; decide)
      refine ⟨(by show 2 ≤ sizeLine; decide), fun N hN => ?_⟩
      have s8 := same_new (o := .lst [.bl (ts.isEmpty || hs.isEmpty), .int M]) hN
      refine ⟨_, _, rfl, .dp (.lst (SqL.of upd_same) (.cons (.bl _) (.cons (.int M) .nil))), sh, dep, len, ?_⟩
      refine ⟨_, rfl, _, _, rfl, .dp (.lst (SqL.of (s8 _ _ (s7 _ _ eL))) (.cons (.bl _) (.cons (.int M) .nil))), sh, dep, len, rfl, ?_⟩
      rw [decide_eq_true rfl]
      exact out _ ((s06.trans s7).trans s8)
end
end K14
namespace K14
open PySem PySem.Spec PyProof.Rows L2 Par
theorem typed_all {K : PySem.W.Frag} {H : Hp} : ∀ {xs : List V} {ds : List PyData}, DpAll K H xs ds → ∀ x ∈ xs, Typed K H x
  | _, _, .nil, x, hx => by cases hx
  | _, _, .cons h1 h2, x, hx => by
    rcases List.mem_cons.mp hx with rfl | hx
    · exact typed_dp h1
    · exact typed_all h2 x hx
theorem desc_giv {K : PySem.W.Frag} {H : Hp} {v : V} {d : PyData} (h : Giv K H v d) : ∃ o, Desc K H v o := by
  cases h with
  | fl f =>
    refine ⟨none, ?_⟩
    cases f with
    | non => exact ⟨_, .base .non, by simp⟩
    | bl b => exact ⟨_, .base (.bl b), by simp⟩
    | int i => exact ⟨_, .base (.int i), by simp⟩
    | str x => exact ⟨_, .base (.str x), by simp⟩
    | dic0 e => exact ⟨_, .base (.dK e), by simp⟩
    | dic1 e => exact ⟨_, .base (.dK e), by simp⟩
  | @lst a xs ds e q l => exact ⟨some xs, a, rfl, .inl (SqL.of e), by omega, typed_all q⟩
  | @tup a xs ds e q l => exact ⟨some xs, a, rfl, .inr (SqT.of e), by omega, typed_all q⟩
theorem map_int_inj : ∀ {ns ms : List Int}, ns.map V.int = ms.map V.int → ns = ms
  | [], [], _ => rfl
  | [], _ :: _, h => by cases h
  | _ :: _, [], h => by cases h
  | n :: ns, m :: ms, h => by
    rw [List.map_cons, List.map_cons] at h
    injection h with h1 h2
    injection h1 with h3
    rw [h3, map_int_inj h2]
theorem fine_foul {l m : Int} {o : Option (List V)} {ns : List Int} (h : Fine l m o ns) (g : Foul l m o) : False := by
  obtain ⟨rfl, hall, hnd⟩ := h
  rcases g with g | ⟨xs, e, hf⟩ | ⟨ms, e, _, hd⟩
  · cases g
  · have e2 := Option.some.inj e
    subst e2
    rw [hall] at hf
    cases hf
  · have e2 := map_int_inj (Option.some.inj e)
    subst e2
    exact hd hnd
theorem fine_one {l m : Int} {o : Option (List V)} {ns ms : List Int} (h : Fine l m o ns) (g : Fine l m o ms) : ns = ms := map_int_inj (Option.some.inj (h.1.symm.trans g.1))
theorem good_txt {x : Str} (h : (reprText x).length ≤ 200) : good (.str x) := small_good ⟨rfl, Nat.zero_le _, h⟩
section
variable {P : Program} {w : World} {K : PySem.W.Frag} {mg : Str → Option Value} {base : Heap}
/-- Flip, called by its places and by its names -/
def HasFY (P : Program) (w : World) (K : PySem.W.Frag) (mg : Str → Option Value) (base : Heap) (C N M : Addr) : Prop :=
  ∃ f fd, FnOk P w K mg base (L2.CX P w) 6 f fd ["self", "tested", "toggled"] (spFX K C N M) ∧ Mk K C f ∧
    ∃ g, KBn K fd ["self", "tested", "toggled"] 1 ["toggled", "tested"] g (fun vs zs => vs ++ zs.reverse)
def spRight (K : PySem.W.Frag) : Sp := fun vs H Q _ => ∃ (u v : V) (d1 d2 : PyData), vs = [u, v] ∧ Giv K H u d1 ∧ good d1 ∧ Giv K H v d2 ∧ good d2 ∧ ∀ H', Same H H' → Q (.bl true) H'
abbrev nRight : List Str := ["_law_tests", "_law_hits", "_law_shown", "_law_due_here", "_law_found", "_law_one", "_law_two", "_law_flip"]
theorem scRight : FnScope nRight ["_law_tests", "_law_hits"] (defScope sRight) := ⟨rfl, rfl, rfl, by decide +kernel, rfl, by decide +kernel, by decide +kernel⟩
theorem ok_right {f C N M : Addr} {fd : FuncData} (F : Fun K "_law_right" "_law_right" sRight f fd) (B : Bl mg) (T : FC K mg C) (Du : Has P w K mg base "_law_due" 4 ["_law_tests", "_law_hits"] (spDue K)) (Me : Has P w K mg base "_law_met" 8 ["_law_tests", "_law_hits"] (spMet K C))
    (Fr : HasG P w K mg base "_law_flip_right" 3 ["_law_flip", "_law_tests", "_law_hits"] (spFlipR K C)) (DI : HasFY P w K mg base C N M) : FnG P w K mg base CX0 9 f fd ["_law_tests", "_law_hits"] (spRight K) := by
  obtain ⟨fD, fdD, GD, mD, kD, bD⟩ := Du
  obtain ⟨fM, fdM, GM, mM, kM, bM⟩ := Me
  obtain ⟨fF, fdF, GF, mF, kF, bF⟩ := Fr
  obtain ⟨fI, fdI, GI, MI, gI, bI⟩ := DI
  refine fnG_of F scRight (fun vs H Q E h => ?_) (fun cdv A outer s H vs Q E gs hr h => ?_)
  · obtain ⟨u, v, d1, d2, rfl, _⟩ := h
    rfl
  · obtain ⟨u, v, d1, d2, rfl, g1, gd1, g2, gd2, out⟩ := h
    have hu := hr.units
    have hu0 : (A.deeper (envOfC "_law_right" (defScope sRight) s.heap.objs.size f cdv)).units < cLine := by omega
    have r4 : Room 4 (A.deeper (envOfC "_law_right" (defScope sRight) s.heap.objs.size f cdv)) := hr.mono (by decide)
    have r3 : Room 3 (A.deeper (envOfC "_law_right" (defScope sRight) s.heap.objs.size f cdv)) := hr.mono (by decide)
    have r7 : Room 7 (A.deeper (envOfC "_law_right" (defScope sRight) s.heap.objs.size f cdv)) := hr.mono (by decide)
    obtain ⟨o1, du⟩ := desc_giv g1
    obtain ⟨o2, dv⟩ := desc_giv g2
    refine ⟨_, pss_cons (ps_par (by rfl) scRight.nd (i := 2) (j := 3) rfl rfl (by decide) rfl rfl (pa_cons (pe_callB (cr_reprL gs hu) (by rfl) B.repr (by decide +kernel) (pa_cons (pe_lst (pa_cons (pv 0) (pa_cons (pv 1) pa_nil))) pa_nil)) (pa_cons (pe_call GD r4 (by rfl) mD kD bD .nil pass0 (pa_cons (pv 0) (pa_cons (pv 1) pa_nil))) pa_nil)) (by rfl))
      (pss_cons (ps_set (i := 4) scRight.nd rfl (Or.inl rfl) (pe_call GM hr (by rfl) mM kM bM .nil pass0 (pa_cons (pv 0) (pa_cons (pv 1) pa_nil))))
      (pss_cons (ps_if (pt_cmpR (opR_or (op_neLen hu0) (op_neP hu)) (pv 3) (pe_lst (pa_cons pe_str pa_nil)) (nomark _))
        (pss_one (ps_ret (pe_and (pe_cmpR op_eq (pe_callB (cr_reprL gs hu) (by rfl) B.repr (by decide +kernel) (pa_cons (pv 4) pa_nil)) (pe_callB (cr_reprL gs hu) (by rfl) B.repr (by decide +kernel) (pa_cons (pv 3) pa_nil)) (nomark _))
          (pe_one (pe_cmpR op_eq (pe_callB (cr_reprL gs hu) (by rfl) B.repr (by decide +kernel) (pa_cons (pe_lst (pa_cons (pv 0) (pa_cons (pv 1) pa_nil))) pa_nil)) (pv 2) (nomark _)))))) pss_nil)
      (pss_cons (ps_if (PW.pt (pw_or (pt_cmpR op_ne (pe_ix ix_list (pv 4) pe_int (fun _ _ => rfl)) pe_str (nomark _)) (pw_or1 (pt_cmpR op_ne (pe_callB (cr_reprL gs hu) (by rfl) B.repr (by decide +kernel) (pa_cons (pe_lst (pa_cons (pv 0) (pa_cons (pv 1) pa_nil))) pa_nil)) (pv 2) (nomark _))))) (pss_one (ps_ret pe_bl)) pss_nil)
      (pss_cons (ps_par (by rfl) scRight.nd (i := 5) (j := 6) rfl rfl (by decide) rfl rfl (pa_cons (pe_callTy call_list_of (by rfl) B.list (by decide +kernel) (pa_cons (pv 0) pa_nil)) (pa_cons (pe_callTy call_list_of (by rfl) B.list (by decide +kernel) (pa_cons (pv 1) pa_nil)) pa_nil)) (by rfl))
      (pss_cons (ps_set (i := 7) scRight.nd rfl (Or.inl rfl) (pe_makeK0 (E := E0) (ks := ["toggled", "tested"]) MI GI r7 (by rfl) T.mgC bI passL (pk_cons (pv 6) (pk_cons (pv 5) pk_nil))))
      (pss_cons (ps_expr (pe_bm PySem.F.plainAttrs_list PySem.F.slot_list_append PySem.F.type_list_append mt_append (pv 5) (pa_cons pe_int pa_nil)))
      (pss_cons (ps_expr (pe_bm0 PySem.F.plainAttrs_list PySem.F.slot_list_clear PySem.F.type_list_clear mt_clear (pv 6)))
      (pss_one (ps_ret (pe_and (pe_callG GF gs r3 (by rfl) mF kF bF pass0 (pa_cons (pv 7) (pa_cons (pv 0) (pa_cons (pv 1) pa_nil)))) (pe_one (pe_callG GF gs r3 (by rfl) mF kF bF pass0 (pa_cons (pe_ix ix_list (pv 4) pe_int (fun _ _ => rfl)) (pa_cons (pv 0) (pa_cons (pv 1) pa_nil))))))))))))))), ?_⟩
    have both := shown_list (ds := [d1, d2]) (fun d hd => by
      simp only [List.mem_cons, List.not_mem_nil, or_false] at hd
      rcases hd with rfl | rfl
      · exact gd1
      · exact gd2) (by show 2 ≤ 8; decide)
    have pair : ∀ {H' : Hp}, Same H H' → DxAll K H' [u, v] [d1, d2] := fun {H'} s' => .cons (giv_dx (giv_same s' g1)) (.cons (giv_dx (giv_same s' g2)) .nil)
    -- what is shown at first
    refine ⟨_, rfl, _, rfl, (by show 2 ≤ sizeLine; decide), fun L0 hL0 => ?_⟩
    have s0 := same_new (o := .lst [u, v]) hL0
    refine ⟨L0, _, _, rfl, upd_same, pair s0, by simp, both.1, both.2.1, both.2.2, ?_⟩
    have sR := s0
    refine ⟨_, rfl, _, rfl, u, v, o1, o2, rfl, desc_same s0 du, desc_same s0 dv, ?_, ?_, ?_, ?_, ?_⟩
    · intro fo L1 H1 hL1 s1 e1
      have sA := s0.trans s1
      refine ⟨_, _, rfl, ?_⟩
      refine ⟨_, rfl, _, rfl, u, v, o1, o2, rfl, desc_same sA du, desc_same sA dv, ?_, fun ns f1 => (fine_foul f1 fo).elim, fun ns ms f1 => (fine_foul f1 fo).elim, fun ns ms f1 => (fine_foul f1 fo).elim, fun ns ms f1 => (fine_foul f1 fo).elim⟩
      · intro _ L2 H2 hL2 s2 e2
        have s3 := sA.trans s2
        have e13 := s2 _ _ e1
        refine ⟨_, rfl, (by show 1 ≤ sizeLine; decide), fun L3 hL3 => .inl ⟨L1, L3, _, _, rfl, rfl, (same_new hL3) _ _ e13, upd_same, by simp, _, rfl, iteT ?_⟩⟩
        have s4 := s3.trans (same_new (o := .lst [.str "flip"]) hL3)
        have sh := shown_list (ds := [.str "cells", d1, .bool true]) (fun d hd => by
          simp only [List.mem_cons, List.not_mem_nil, or_false] at hd
          rcases hd with rfl | rfl | rfl
          · exact good_txt (by decide +kernel)
          · exact gd1
          · exact small_good (small_bool _)) (by simp)
        refine ⟨_, rfl, L2, _, _, rfl, (same_new hL3) _ _ e2, .cons (.dp (.str _)) (.cons (giv_dx (giv_same s4 g1)) (.cons (.dp (.bl _)) .nil)), by simp, sh.1, sh.2.1, sh.2.2, ?_⟩
        refine ⟨_, rfl, L1, _, _, rfl, (same_new hL3) _ _ e13, .cons (.dp (.str _)) (.cons (giv_dx (giv_same s4 g1)) (.cons (.dp (.bl _)) .nil)), by simp, sh.1, sh.2.1, sh.2.2, rfl, _, rfl, ?_⟩
        rw [decide_eq_true rfl]
        refine iteT ⟨_, rfl, _, rfl, (by show 2 ≤ sizeLine; decide), fun L4 hL4 => ?_⟩
        have s5 := s4.trans (same_new (o := .lst [u, v]) hL4)
        refine ⟨L4, _, _, rfl, upd_same, pair s5, by simp, both.1, both.2.1, both.2.2, _, rfl, rfl, ?_⟩
        rw [decide_eq_true rfl]
        exact out _ s5
    · intro ns f1 fo L1 H1 hL1 s1 e1
      have sA := s0.trans s1
      refine ⟨_, _, rfl, ?_⟩
      refine ⟨_, rfl, _, rfl, u, v, o1, o2, rfl, desc_same sA du, desc_same sA dv, fun q => (fine_foul f1 q).elim, ?_, fun _ ms _ f2 => (fine_foul f2 fo).elim, fun _ ms _ f2 => (fine_foul f2 fo).elim, fun _ ms _ f2 => (fine_foul f2 fo).elim⟩
      · intro _ _ _ L2 H2 hL2 s2 e2
        have s3 := sA.trans s2
        have e13 := s2 _ _ e1
        refine ⟨_, rfl, (by show 1 ≤ sizeLine; decide), fun L3 hL3 => .inl ⟨L1, L3, _, _, rfl, rfl, (same_new hL3) _ _ e13, upd_same, by simp, _, rfl, iteT ?_⟩⟩
        have s4 := s3.trans (same_new (o := .lst [.str "flip"]) hL3)
        have sh := shown_list (ds := [.str "cells", d2, .bool true]) (fun d hd => by
          simp only [List.mem_cons, List.not_mem_nil, or_false] at hd
          rcases hd with rfl | rfl | rfl
          · exact good_txt (by decide +kernel)
          · exact gd2
          · exact small_good (small_bool _)) (by simp)
        refine ⟨_, rfl, L2, _, _, rfl, (same_new hL3) _ _ e2, .cons (.dp (.str _)) (.cons (giv_dx (giv_same s4 g2)) (.cons (.dp (.bl _)) .nil)), by simp, sh.1, sh.2.1, sh.2.2, ?_⟩
        refine ⟨_, rfl, L1, _, _, rfl, (same_new hL3) _ _ e13, .cons (.dp (.str _)) (.cons (giv_dx (giv_same s4 g2)) (.cons (.dp (.bl _)) .nil)), by simp, sh.1, sh.2.1, sh.2.2, rfl, _, rfl, ?_⟩
        rw [decide_eq_true rfl]
        refine iteT ⟨_, rfl, _, rfl, (by show 2 ≤ sizeLine; decide), fun L4 hL4 => ?_⟩
        have s5 := s4.trans (same_new (o := .lst [u, v]) hL4)
        refine ⟨L4, _, _, rfl, upd_same, pair s5, by simp, both.1, both.2.1, both.2.2, _, rfl, rfl, ?_⟩
        rw [decide_eq_true rfl]
        exact out _ s5
    · intro ns ms f1 f2 z L1 H1 hL1 s1 e1
      have sA := s0.trans s1
      refine ⟨_, _, rfl, ?_⟩
      refine ⟨_, rfl, _, rfl, u, v, o1, o2, rfl, desc_same sA du, desc_same sA dv, fun q => (fine_foul f1 q).elim, fun _ _ q => (fine_foul f2 q).elim, ?_, fun _ ms' _ f2' z' => (z' (fine_one f2 f2' ▸ z)).elim, fun _ ms' _ f2' z' => (z' (fine_one f2 f2' ▸ z)).elim⟩
      · intro _ _ _ _ _ L2 H2 hL2 s2 e2
        have s3 := sA.trans s2
        have e13 := s2 _ _ e1
        refine ⟨_, rfl, (by show 1 ≤ sizeLine; decide), fun L3 hL3 => .inl ⟨L1, L3, _, _, rfl, rfl, (same_new hL3) _ _ e13, upd_same, by simp, _, rfl, iteT ?_⟩⟩
        have s4 := s3.trans (same_new (o := .lst [.str "flip"]) hL3)
        have sh := shown_list (ds := [.str "fixed", .bool true]) (fun d hd => by
          simp only [List.mem_cons, List.not_mem_nil, or_false] at hd
          rcases hd with rfl | rfl
          · exact good_txt (by decide +kernel)
          · exact small_good (small_bool _)) (by simp)
        refine ⟨_, rfl, L2, _, _, rfl, (same_new hL3) _ _ e2, .cons (.dp (.str _)) (.cons (.dp (.bl _)) .nil), by simp, sh.1, sh.2.1, sh.2.2, ?_⟩
        refine ⟨_, rfl, L1, _, _, rfl, (same_new hL3) _ _ e13, .cons (.dp (.str _)) (.cons (.dp (.bl _)) .nil), by simp, sh.1, sh.2.1, sh.2.2, rfl, _, rfl, ?_⟩
        rw [decide_eq_true rfl]
        refine iteT ⟨_, rfl, _, rfl, (by show 2 ≤ sizeLine; decide), fun L4 hL4 => ?_⟩
        have s5 := s4.trans (same_new (o := .lst [u, v]) hL4)
        refine ⟨L4, _, _, rfl, upd_same, pair s5, by simp, both.1, both.2.1, both.2.2, _, rfl, rfl, ?_⟩
        rw [decide_eq_true rfl]
        exact out _ s5
    · intro ns ms f1 f2 z od L1 H1 hL1 s1 e1
      have sA := s0.trans s1
      refine ⟨_, _, rfl, ?_⟩
      refine ⟨_, rfl, _, rfl, u, v, o1, o2, rfl, desc_same sA du, desc_same sA dv, fun q => (fine_foul f1 q).elim, fun _ _ q => (fine_foul f2 q).elim, fun _ ms' _ f2' z' => (z (fine_one f2' f2 ▸ z')).elim, ?_, fun ns' ms' f1' f2' z' od' => ?_⟩
      · intro _ _ _ _ _ _ L2 H2 hL2 s2 e2
        have s3 := sA.trans s2
        have e13 := s2 _ _ e1
        refine ⟨_, rfl, (by show 1 ≤ sizeLine; decide), fun L3 hL3 => .inl ⟨L1, L3, _, _, rfl, rfl, (same_new hL3) _ _ e13, upd_same, by simp, _, rfl, iteT ?_⟩⟩
        have s4 := s3.trans (same_new (o := .lst [.str "flip"]) hL3)
        have sh := shown_list (ds := [.str "odd", .bool true]) (fun d hd => by
          simp only [List.mem_cons, List.not_mem_nil, or_false] at hd
          rcases hd with rfl | rfl
          · exact good_txt (by decide +kernel)
          · exact small_good (small_bool _)) (by simp)
        refine ⟨_, rfl, L2, _, _, rfl, (same_new hL3) _ _ e2, .cons (.dp (.str _)) (.cons (.dp (.bl _)) .nil), by simp, sh.1, sh.2.1, sh.2.2, ?_⟩
        refine ⟨_, rfl, L1, _, _, rfl, (same_new hL3) _ _ e13, .cons (.dp (.str _)) (.cons (.dp (.bl _)) .nil), by simp, sh.1, sh.2.1, sh.2.2, rfl, _, rfl, ?_⟩
        rw [decide_eq_true rfl]
        refine iteT ⟨_, rfl, _, rfl, (by show 2 ≤ sizeLine; decide), fun L4 hL4 => ?_⟩
        have s5 := s4.trans (same_new (o := .lst [u, v]) hL4)
        refine ⟨L4, _, _, rfl, upd_same, pair s5, by simp, both.1, both.2.1, both.2.2, _, rfl, rfl, ?_⟩
        rw [decide_eq_true rfl]
        exact out _ s5
      · have e1 := fine_one f1 f1'
        have e2 := fine_one f2 f2'
        subst e1 e2
        exact (od' od).elim
    · intro ns ms f1 f2 z od L1 H1 hL1 s1 e1
      have sA := s0.trans s1
      refine ⟨_, _, rfl, ?_⟩
      refine ⟨_, rfl, _, rfl, u, v, o1, o2, rfl, desc_same sA du, desc_same sA dv, fun q => (fine_foul f1 q).elim, fun _ _ q => (fine_foul f2 q).elim, fun _ ms' _ f2' z' => (z (fine_one f2' f2 ▸ z')).elim, fun ns' ms' f1' f2' z' od' => ?_, ?_⟩
      · have e1 := fine_one f1 f1'
        have e2 := fine_one f2 f2'
        subst e1 e2
        exact (od od').elim
      · intro ns' ms' f1' f2' _ _ ts hs L2 gf H2 hL2 s2 p1 q1 p2 q2 fp e2
        have en := fine_one f1 f1'
        have em := fine_one f2 f2'
        subst en em
        have s3 := sA.trans s2
        have e13 := s2 _ _ e1
        refine ⟨_, rfl, (by show 1 ≤ sizeLine; decide), fun L3 hL3 => .inr ?_⟩
        have n3 := same_new (o := .lst [.str "flip"]) hL3
        refine ⟨.list [.str "flip"], .list [.str "flip"], .lst (SqL.of (n3 _ _ e13)) (.cons (.str _) .nil), .lst (SqL.of upd_same) (.cons (.str _) .nil), rfl, rfl, by decide, _, rfl, ?_⟩
        rw [show (!PyData.eqv (.list [.str "flip"]) (.list [.str "flip"])) = false by decide +kernel]
        refine iteF ?_
        have s4 := s3.trans n3
        refine ⟨_, rfl, L2, _, 0, .str "flip", rfl, rfl, SqL.of (n3 _ _ e2), rfl, rfl, _, rfl, iteNS rfl ?_⟩
        refine ⟨_, rfl, _, rfl, (by show 2 ≤ sizeLine; decide), fun L4 hL4 => ?_⟩
        have n4 := same_new (o := .lst [u, v]) hL4
        have s5 := s4.trans n4
        refine ⟨L4, _, _, rfl, upd_same, pair s5, by simp, both.1, both.2.1, both.2.2, _, rfl, rfl, _, rfl, iteNS rfl ?_⟩
        obtain ⟨a, rfl, qa⟩ := fine_seq du f1
        obtain ⟨b, rfl, qb⟩ := fine_seq dv f2
        have c1 := fine_cells f1
        have c2 := fine_cells f2
        have l1 := fine_few f1
        have l2 := fine_few f2
        refine ⟨_, rfl, a, _, rfl, Sq.same s5 qa, fun O hO => ?_⟩
        have n5 := same_new (o := .lst (ns.map V.int)) hO
        refine ⟨_, rfl, b, _, rfl, Sq.same (s5.trans n5) qb, fun W hW => ⟨_, _, rfl, ?_⟩⟩
        have n6 := same_new (o := .lst (ms.map V.int)) hW
        have s7 := s5.trans (n5.trans n6)
        have ne : O ≠ W := ne_of_none (upd_same (H := _) (a := O) (o := .lst (ns.map V.int))) hW
        have eO := n6 _ _ (upd_same (a := O) (o := .lst (ns.map V.int)))
        have eW := upd_same (H := upd (upd (upd H2 L3 (.lst [.str "flip"])) L4 (.lst [.ref a, .ref b])) O (.lst (ns.map V.int))) (a := W) (o := .lst (ms.map V.int))
        have hOH : H O = none := s5.free hO
        have hWH : H W = none := s5.free (n5.free hW)
        have fp7 : Fp C _ gf ts hs := ((fp.same n3).same n4).same (n5.trans n6)
        have e27 := (n5.trans n6) _ _ (n4 _ _ (n3 _ _ e2))
        generalize upd (upd (upd (upd H2 L3 (.lst [.str "flip"])) L4 (.lst [.ref a, .ref b])) O (.lst (ns.map V.int))) W (.lst (ms.map V.int)) = H7 at *
        refine ⟨_, rfl, _, rfl, rfl, rfl, fun x dx hx hdx nx => ?_⟩
        have s8 : Same H7 (upd (upd H7 dx (.own x)) x (.ins C dx [])) := fun y o e => by
          rw [upd_ne (ne_of_none e hx), upd_ne (ne_of_none e hdx)]
          exact e
        have desc : ∀ (ks : List Int) (Z : Addr), H7 Z = some (.lst (ks.map V.int)) → ks.length ≤ 40 → Desc K (upd (upd H7 dx (.own x)) x (.ins C dx [])) (.ref Z) (some (ks.map V.int)) := fun ks Z e l => ⟨Z, rfl, .inl (SqL.of (s8 _ _ e)), by rw [List.length_map]; omega, typed_all (dps_ints ks)⟩
        have F1 : Fine 0 40 (some (ns.map V.int)) ns := ⟨rfl, f1.2.1, f1.2.2⟩
        have F2 : Fine 0 40 (some (ms.map V.int)) ms := ⟨rfl, f2.2.1, f2.2.2⟩
        refine ⟨x, dx, .ref O, .ref W, _, _, rfl, upd_same, desc ns O eO l1, desc ms W eW l2, fun q => (fine_foul F1 q).elim, fun _ _ q => (fine_foul F2 q).elim, fun _ ms' _ f z' => (z (fine_one f F2 ▸ z')).elim, fun ns' ms' f f' z' od' => ?_, fun ns' ms' f f' _ _ ts2 hs2 H9 bt P1 Q1 P2 Q2 fp9 => ?_⟩
        · have en := fine_one F1 f
          have em := fine_one F2 f'
          subst en em
          exact (od od').elim
        · have en := fine_one F1 f
          have em := fine_one F2 f'
          subst en em
          have s79 : Same H7 H9 := fun y o e => bt y o (ne_of_none e hx) (s8 y o e)
          have eO9 := s79 _ _ eO
          have eW9 := s79 _ _ eW
          refine ⟨rfl, ?_⟩
          refine ⟨_, rfl, .inl ⟨rfl, _, SqL.of eO9⟩, O, _, _, rfl, rfl, eO9, (by rw [List.length_map, sizeLine_eq]; omega), ?_⟩
          have eW10 : (upd H9 O (.lst (ns.map V.int ++ [.int 0]))) W = some (.lst (ms.map V.int)) := by
            rw [upd_ne (Ne.symm ne)]
            exact eW9
          refine ⟨_, rfl, .inl ⟨rfl, _, SqL.of eW10⟩, W, _, rfl, rfl, eW10, ?_⟩
          have k11 : ∀ {y : Addr} {o : HO}, H9 y = some o → (∀ l, o ≠ .lst l) → (upd (upd H9 O (.lst (ns.map V.int ++ [.int 0]))) W (.lst [])) y = some o := by
            intro y o e nl
            have y1 : y ≠ O := fun z => by rw [z, eO9] at e; exact nl _ (Option.some.inj e).symm
            have y2 : y ≠ W := fun z => by rw [z, eW9] at e; exact nl _ (Option.some.inj e).symm
            rw [upd_ne y2, upd_ne y1]
            exact e
          have s011 : Same H (upd (upd H9 O (.lst (ns.map V.int ++ [.int 0]))) W (.lst [])) := fun y o e => by
            rw [upd_ne (ne_of_none e hWH), upd_ne (ne_of_none e hOH)]
            exact s79 _ _ (s7 _ _ e)
          have fpK : ∀ {q : Addr} {as bs : List Int}, Fp C H9 q as bs → Fp C (upd (upd H9 O (.lst (ns.map V.int ++ [.int 0]))) W (.lst [])) q as bs := fun {q as bs} h => by
            obtain ⟨dq, y1, y2, h1, h2, h3⟩ := h
            exact ⟨dq, y1, y2, k11 h1 (fun _ z => nomatch z), k11 h2 (fun _ z => nomatch z), k11 h3 (fun _ z => nomatch z)⟩
          have nL2 : L2 ≠ O ∧ L2 ≠ W := by
            have hO7 : L2 ≠ O := fun z => by
              rw [z, eO] at e27
              exact absurd (Option.some.inj e27) (by cases ns <;> simp)
            have hW7 : L2 ≠ W := fun z => by
              rw [z, eW] at e27
              exact absurd (Option.some.inj e27) (by cases ms <;> simp)
            exact ⟨hO7, hW7⟩
          have e211 : (upd (upd H9 O (.lst (ns.map V.int ++ [.int 0]))) W (.lst [])) L2 = some (.lst [.str "flip", .ref gf]) := by
            rw [upd_ne nL2.2, upd_ne nL2.1]
            exact s79 _ _ e27
          have fpG := fpK (fp7.same s79)
          have fpX := fpK fp9
          generalize upd (upd H9 O (.lst (ns.map V.int ++ [.int 0]))) W (.lst []) = H11 at *
          refine ⟨_, rfl, _, rfl, _, rfl, x, a, b, ts2, hs2, ns, ms, rfl, fpX, Sq.same s011 qa, Sq.same s011 qb, P1, Q1, P2, Q2, c1, c2, l1, l2, fun H12 s12 => ⟨_, rfl, iteT ?_⟩⟩
          refine ⟨_, rfl, L2, _, 1, .ref gf, rfl, rfl, SqL.of (s12 _ _ e211), rfl, _, rfl, _, rfl, gf, a, b, ts, hs, ns, ms, rfl, fpG.same s12, Sq.same (s011.trans s12) qa, Sq.same (s011.trans s12) qb, p1, q1, p2, q2, c1, c2, l1, l2, fun H13 s13 => ?_⟩
          exact out _ ((s011.trans s12).trans s13)
end
end K14
namespace K14
open PySem PySem.Spec PyProof.Rows L2 Par
section
variable {P : Program} {w : World} {K : PySem.W.Frag} {mg : Str → Option Value} {base : Heap}
theorem giv_ints {H : Hp} {q : Addr} {ns : List Int} (e : H q = some (.lst (ns.map V.int))) (h : ∀ k ∈ ns, 0 ≤ k ∧ k < 40) (l : ns.length ≤ 40) : Giv K H (.ref q) (.list (ns.map PyData.int)) ∧ good (.list (ns.map PyData.int)) :=
  ⟨.lst e (dps_ints ns) (by rw [List.length_map]; omega), good_list (dps_set (H := H) fun k hk => by have := h k hk; omega) (by rw [List.length_map]; omega)⟩
def spEither (K : PySem.W.Frag) : Sp := fun vs H Q _ => ∃ (p : Addr) (m : Nat), vs = [.ref p, .int (m : Nat)] ∧ PotAt H p ∧ 1 ≤ m ∧ m ≤ 40 ∧ ∀ v d H', But p H H' → PotAt H' p → Giv K (del H' p) v d → good d → Q v H'
theorem scEither : FnScope ["_law_pot_here", "_law_width_here"] ["_law_pot_here", "_law_width_here"] (defScope sEither) := ⟨rfl, rfl, rfl, by decide +kernel, rfl, by decide +kernel, by decide +kernel⟩
theorem ok_either {f : Addr} {fd : FuncData} (F : Fun K "_law_either" "_law_either" sEither f fd) (D : Has P w K mg base "_law_draw" 2 ["_law_pot_here", "_law_many"] spDraw) (O : Has P w K mg base "_law_odd_spots" 4 ["_law_pot_here", "_law_width_here"] (spOdd K))
    (S : Has P w K mg base "_law_spots" 3 ["_law_pot_here", "_law_least", "_law_width_here"] spSpots) (X : Has P w K mg base "_law_mixed" 3 ["_law_pot_here", "_law_given"] (spMixed K)) : FnOk P w K mg base CX0 5 f fd ["_law_pot_here", "_law_width_here"] (spEither K) := by
  obtain ⟨fD, fdD, GD, mD, kD, bD⟩ := D
  obtain ⟨fO, fdO, GO, mO, kO, bO⟩ := O
  obtain ⟨fS, fdS, GS, mS, kS, bS⟩ := S
  obtain ⟨fX, fdX, GX, mX, kX, bX⟩ := X
  refine F.ok scEither (fun vs H Q E h => ?_) (fun cdv A outer s H vs Q E hr h => ?_)
  · obtain ⟨p, m, rfl, _⟩ := h
    rfl
  · obtain ⟨p, m, rfl, hp, m1, m2, out⟩ := h
    have r2 : Room 2 _ := hr.mono (by decide)
    have r3 : Room 3 _ := hr.mono (by decide)
    refine ⟨_, pss_cons (ps_if (pt_cmpR op_eq (pe_call GD r2 (by rfl) mD kD bD .nil pass0 (pa_cons (pv 0) (pa_cons pe_int pa_nil))) pe_int (nomark _)) (pss_one (ps_ret (pe_call GO hr (by rfl) mO kO bO .nil pass0 (pa_cons (pv 0) (pa_cons pe_int pa_nil))))) pss_nil)
      (pss_one (ps_ret (pe_call GX r3 (by rfl) mX kX bX .nil pass0 (pa_cons (pv 0) (pa_cons (pe_call GS r3 (by rfl) mS kS bS .nil pass0 (pa_cons (pv 0) (pa_cons pe_int (pa_cons (pv 1) pa_nil)))) pa_nil))))), ?_⟩
    refine ⟨_, rfl, p, 3, rfl, hp, by decide, by decide, fun c H1 c0 c1 b1 hp1 => ⟨rfl, _, rfl, ite2 (fun _ => ?_) (fun _ => ?_)⟩⟩
    · exact ⟨_, rfl, p, 40, rfl, hp1, by decide, by decide, fun v d H2 b2 hp2 g gd => out v d H2 (b1.trans b2) hp2 g gd⟩
    · refine ⟨_, rfl, _, rfl, _, rfl, p, 0, (m : Nat), rfl, hp1, by decide, by decide, by omega, by omega, fun a ns H2 ha w2 i2 b2 hp2 e2 => ?_⟩
      have na := pot_ne hp1 ha
      have nd := nodup_lt_ w2
      have l2 : ns.length ≤ 40 := cells_few nd fun k hk => by
        have := i2 k hk
        exact ⟨by omega, by omega⟩
      refine ⟨p, a, ns, rfl, hp2, e2, na, by omega, fun q ms H3 hq pm b3 hp3 e3 => ?_⟩
      obtain ⟨g, gd⟩ := giv_ints (K := K) (del_at (pot_ne hp2 hq) e3) (fun k hk => by
        have := i2 k (pm.mem_iff.mp hk)
        omega) (by rw [pm.length_eq]; exact l2)
      exact out _ _ H3 ((b1.trans b2).trans b3) hp3 g gd
def spLaw (K : PySem.W.Frag) : Sp := fun vs H Q _ => ∃ (a : Addr) (ns : List Int), vs = [.ref a] ∧ SqL K H a (ns.map V.int) ∧ ns.length ≤ 63 ∧ ∀ H', Q (.bl true) H'
abbrev nLaw : List Str := ["_law_script", "_law_k", "_law_pot_here", "_law_turn", "_law_width_here", "_law_pair_here"]
theorem scLaw : FnScope nLaw ["_law_script"] (defScope sLaw) := ⟨rfl, rfl, rfl, by decide +kernel, rfl, by decide +kernel, by decide +kernel⟩
theorem same_but {H0 H H' : Hp} {p : Addr} (h0 : H0 p = none) (s : Same H0 H) (b : But p H H') : Same H0 H' := fun c o e => b c o (ne_of_none e h0) (s c o e)
theorem ok_law {f : Addr} {fd : FuncData} (F : Fun K "law" "law" sLaw f fd) (B : Bl mg)
    (Pt : Has P w K mg base "_law_pot" 2 ["_law_script", "_law_k"] (spPot K)) (Wd : Has P w K mg base "_law_width" 3 ["_law_pot_here", "_law_most"] spWidth) (Pa : Has P w K mg base "_law_pair" 4 ["_law_pot_here", "_law_width_here"] spPairL)
    (X : Has P w K mg base "_law_mixed" 3 ["_law_pot_here", "_law_given"] (spMixed K)) (Ei : Has P w K mg base "_law_either" 5 ["_law_pot_here", "_law_width_here"] (spEither K)) (R : HasG P w K mg base "_law_right" 9 ["_law_tests", "_law_hits"] (spRight K)) :
    FnG P w K mg base CX0 10 f fd ["_law_script"] (spLaw K) := by
  obtain ⟨fP, fdP, GP, mP, kP, bP⟩ := Pt
  obtain ⟨fW, fdW, GW, mW, kW, bW⟩ := Wd
  obtain ⟨fA, fdA, GA, mA, kA, bA⟩ := Pa
  obtain ⟨fX, fdX, GX, mX, kX, bX⟩ := X
  obtain ⟨fE, fdE, GE, mE, kE, bE⟩ := Ei
  obtain ⟨fR, fdR, GR, mR, kR, bR⟩ := R
  refine fnG_of F scLaw (fun vs H Q E h => ?_) (fun cdv A outer s H vs Q E gs hr h => ?_)
  · obtain ⟨a, ns, rfl, _⟩ := h
    rfl
  · obtain ⟨a, ns, rfl, hS, hlen, out⟩ := h
    have r2 : Room 2 (A.deeper (envOfC "law" (defScope sLaw) s.heap.objs.size f cdv)) := hr.mono (by decide)
    have r3 : Room 3 (A.deeper (envOfC "law" (defScope sLaw) s.heap.objs.size f cdv)) := hr.mono (by decide)
    have r4 : Room 4 (A.deeper (envOfC "law" (defScope sLaw) s.heap.objs.size f cdv)) := hr.mono (by decide)
    have r5 : Room 5 (A.deeper (envOfC "law" (defScope sLaw) s.heap.objs.size f cdv)) := hr.mono (by decide)
    refine ⟨_, pss_cons (ps_for PassesOwn.never rfl (pi_range1 (by rfl) B.range (pa_cons (pe_callB (call_max2 rfl) (by rfl) B.max (by decide +kernel) (pa_cons pe_int (pa_cons (pe_callB (call_min2 rfl) (by rfl) B.min (by decide +kernel) (pa_cons pe_int (pa_cons (pe_callB call_len_seq (by rfl) B.len PySem.boot_len (pa_cons (pv 0) pa_nil)) pa_nil))) pa_nil))) pa_nil)) (pg_name (i := 1) scLaw.nd rfl (Or.inl rfl))
        (pss_cons (ps_set (i := 2) scLaw.nd rfl (Or.inl rfl) (pe_call GP r2 (by rfl) mP kP bP .nil pass0 (pa_cons (pv 0) (pa_cons (pv 1) pa_nil))))
        (pss_one (ps_for PassesOwn.never rfl (pi_range1 (by rfl) B.range (pa_cons pe_int pa_nil)) (pg_name (i := 3) scLaw.nd rfl (Or.inl rfl))
          (pss_cons (ps_set (i := 4) scLaw.nd rfl (Or.inl rfl) (pe_call GW r3 (by rfl) mW kW bW .nil pass0 (pa_cons (pv 2) (pa_cons pe_int pa_nil))))
          (pss_cons (ps_set (i := 5) scLaw.nd rfl (Or.inl rfl) (pe_call GA r4 (by rfl) mA kA bA .nil pass0 (pa_cons (pv 2) (pa_cons (pv 4) pa_nil))))
          (pss_cons (ps_if (pt_not (pt_val (pe_callG GR gs hr (by rfl) mR kR bR pass0 (pa_cons (pe_call GX r3 (by rfl) mX kX bX .nil pass0 (pa_cons (pv 2) (pa_cons (pe_ix ix_tup (pv 5) pe_int (fun _ _ => rfl)) pa_nil))) (pa_cons (pe_call GX r3 (by rfl) mX kX bX .nil pass0 (pa_cons (pv 2) (pa_cons (pe_ix ix_tup (pv 5) pe_int (fun _ _ => rfl)) pa_nil))) pa_nil))))) (pss_one (ps_ret pe_bl)) pss_nil)
          (pss_one (ps_if (pt_not (pt_val (pe_callG GR gs hr (by rfl) mR kR bR pass0 (pa_cons (pe_call GE r5 (by rfl) mE kE bE .nil pass0 (pa_cons (pv 2) (pa_cons (pv 4) pa_nil))) (pa_cons (pe_call GE r5 (by rfl) mE kE bE .nil pass0 (pa_cons (pv 2) (pa_cons (pv 4) pa_nil))) pa_nil))))) (pss_one (ps_ret pe_bl)) pss_nil)))))))))
      (pss_one (ps_ret pe_bl)), ?_⟩
    refine ⟨_, rfl, a, _, rfl, .inl hS, _, _, rfl, _, _, rfl, _, rfl, ?_, ?_, ?_⟩
    · rw [List.length_map]
      split <;> split <;> omega
    · rw [List.length_map]
      split <;> split <;> omega
    refine for_range (lo := 0) (fun i σ H' => Same H H' ∧ ∃ (kv pv tv wv qv : Option V), σ = [some (.ref a), kv, pv, tv, wv, qv]) ⟨Same.refl _, none, none, none, none, none, rfl⟩ ?_ ?_
    · rintro i σ H1 hi ⟨s1, kv, pv0, tv, wv, qv, rfl⟩
      have hi8 : i < 9 := by
        rw [List.length_map] at hi
        revert hi
        split <;> split <;> omega
      refine ⟨_, rfl, _, rfl, a, ns, i, (by rw [Int.zero_add]; rfl), s1.seq hS, by omega, fun p H2 hp s2 pot2 => ?_⟩
      have hpH : H p = none := s1.free hp
      refine ⟨6, rfl, by decide, by decide, ?_⟩
      refine for_range (lo := 0) (n := 6) (fun j σ H' => But p H2 H' ∧ PotAt H' p ∧ ∃ (tv wv qv : Option V), σ = [some (.ref a), some (.int (0 + (i : Int))), some (.ref p), tv, wv, qv]) ⟨But.refl p H2, pot2, _, _, _, rfl⟩ ?_ ?_
      · rintro j σ H3 hj ⟨b3, pot3, tv, wv, qv, rfl⟩
        refine ⟨_, rfl, p, 40, rfl, pot3, by decide, by decide, fun n H4 n1 n2 b4 pot4 => ?_⟩
        refine ⟨_, rfl, _, rfl, p, n, rfl, pot4, n1, by omega, fun q ts hs H5 hq b5 pot5 pr5 hK t1 t2 ev => ?_⟩
        obtain ⟨x, y, nx, ny, eq5, ex, ey⟩ := pr5
        obtain ⟨k1, k2, k3, k4, k5, k6⟩ := hK
        have nq : q ≠ p := pot_ne pot4 hq
        refine ⟨_, rfl, _, rfl, q, _, 0, .ref x, rfl, rfl, SqT.of eq5, rfl, p, x, ts, rfl, pot5, ex, nx, by omega, fun z1 ks H6 hz1 pm1 b6 pot6 e6 => ?_⟩
        refine ⟨_, rfl, _, rfl, q, _, 1, .ref y, rfl, rfl, SqT.of (b6 _ _ nq eq5), rfl, p, y, hs, rfl, pot6, b6 _ _ ny ey, ny, by omega, fun z2 js H7 hz2 pm2 b7 pot7 e7 => ?_⟩
        have nz1 := pot_ne pot5 hz1
        have nz2 := pot_ne pot6 hz2
        obtain ⟨g1, gd1⟩ := giv_ints (K := K) (b7 _ _ nz1 e6) (fun k hk => k1 k (pm1.mem_iff.mp hk)) (by rw [pm1.length_eq]; exact k5)
        obtain ⟨g2, gd2⟩ := giv_ints (K := K) e7 (fun k hk => by
          have := k2 k (pm2.mem_iff.mp hk)
          omega) (by rw [pm2.length_eq]; exact k6)
        refine ⟨.ref z1, .ref z2, _, _, rfl, g1, gd1, g2, gd2, fun H8 s8 => ⟨_, rfl, iteF ?_⟩⟩
        have pot8 := pot7.same s8
        refine ⟨_, rfl, _, rfl, p, n, rfl, pot8, n1, by omega, fun u d3 H9 b9 pot9 g3 gd3 => ?_⟩
        refine ⟨_, rfl, _, rfl, p, n, rfl, pot9, n1, by omega, fun v d4 H10 b10 pot10 g4 gd4 => ?_⟩
        refine ⟨u, v, _, _, rfl, giv_same (del_sub H10 p) (giv_same (del_same' b10) g3), gd3, giv_same (del_sub H10 p) g4, gd4, fun H11 s11 => ⟨_, rfl, iteF ?_⟩⟩
        exact ⟨(((b3.trans b4).trans (b5.trans b6)).trans (b7.trans (But.same s8))).trans ((b9.trans b10).trans (But.same s11)), pot10.same s11, _, _, _, rfl⟩
      · rintro σ H3 ⟨b3, pot3, tv, wv, qv, rfl⟩
        exact ⟨same_but hpH (s1.trans s2) b3, _, _, _, _, _, rfl⟩
    · rintro σ H1 _
      exact out H1
end
end K14
namespace K14
open PySem PySem.Spec PyProof.Rows L2 Par
theorem kb_size {K : PySem.W.Frag} {x : Str} {st : Stmt} {f : Addr} {fd : FuncData} {y : Str} (F : FunD K x x (defArgs st) (defBody st) (defScope st) [] [("size", .int 40)] f fd)
    (h : ∀ (D : Addr) (doc pm : Value) (an : Option Addr) (cdv ct u v : Value), bindArgs (PySem.W.fnOf x x (defArgs st) (defBody st) (defScope st) .none (.ref D) doc pm an cdv ct) ⟨[u], [("size", v)]⟩ = pure [(y, u), ("size", v)]) :
    KBn K fd [y, "size"] 1 ["size"] (fun us ws => us ++ ws) (fun vs zs => vs ++ zs) := by
  obtain ⟨oc, od, dV, kV, doc, pm, an, cdv, ct, osl, rfl, lk, hcd, hD, hK⟩ := F.ex
  rcases hD with ⟨_, rfl⟩ | ⟨e, _⟩
  · rcases hK with e | ⟨D, rfl, hq⟩
    · cases e
    · refine ⟨fun s us ws X l1 l2 => ?_, fun r1 r2 => r1.append r2⟩
      match us, ws, l1, l2 with
      | [u], [v], _, _ => exact .of_eq (h D doc pm an cdv ct u v)
  · exact absurd rfl e
theorem kit_own {K : PySem.W.Frag} {D C : Addr} {b : Bool} (ne : D ≠ C) (hd : PySem.W.hasDictIn K C = true) (ty : PySem.W.typeIn K (.ref C) = some (.type "type")) (sub : PySem.W.subIn K (.ref D) (.ref C) = some b) :
    PySem.W.kitOne K (.ref D) (.ref C) = some b := by
  obtain ⟨cd, hc, _⟩ := PySem.W.any_some hd
  have e1 : (Value.ref D == Value.ref C) = false := beq_eq_false_iff_ne.mpr fun z => ne (Value.ref.inj z)
  have e2 : ((PySem.W.clsIn K C).isSome && PySem.W.typeIn K (.ref C) == some (.type "type")) = true := by
    rw [hc, ty]
    rfl
  show (if (Value.ref D == Value.ref C) = true then some true else if ((PySem.W.clsIn K C).isSome && PySem.W.typeIn K (.ref C) == some (.type "type")) = true then PySem.W.subIn K (.ref D) (.ref C) else none) = some b
  rw [if_neg (by rw [e1]; simp), if_pos e2]
  exact sub
theorem kit_blt {K : PySem.W.Frag} {D : Addr} {T : String} {b : Bool} (mt : PySem.W.kitMeta T = true) (sub : PySem.W.subIn K (.ref D) (.type T) = some b) : PySem.W.kitOne K (.ref D) (.type T) = some b := by
  have e1 : (Value.ref D == Value.type T) = false := beq_eq_false_iff_ne.mpr fun z => nomatch z
  show (if (Value.ref D == Value.type T) = true then some true else if PySem.W.kitMeta T = true then PySem.W.subIn K (.ref D) (.type T) else none) = some b
  rw [if_neg (by rw [e1]; simp), if_pos mt]
  exact sub
theorem kit_no {K : PySem.W.Frag} {t c : Value} {cs : List Value} (h : PySem.W.kitOne K t c = some false) (hr : PySem.W.kitAny K t cs = some false) : PySem.W.kitAny K t (c :: cs) = some false :=
  kitAny_cons h (fun _ => hr) (fun z => nomatch z)
theorem rev_vals : ∀ {vs : List V} {us : List Value}, Vals vs us → Vals vs.reverse us.reverse
  | _, _, .nil => .nil
  | _, _, .cons r rs => by
    rw [List.reverse_cons, List.reverse_cons]
    exact (rev_vals rs).append (.cons r .nil)
theorem kb_flip {K : PySem.W.Frag} {f : Addr} {fd : FuncData} (F : Fun K "__init__" "Flip.__init__" gInit f fd) : KBn K fd ["self", "tested", "toggled"] 1 ["toggled", "tested"] (fun us ws => us ++ ws.reverse) (fun vs zs => vs ++ zs.reverse) := by
  obtain ⟨oc, od, kV, doc, pm, an, cdv, ct, osl, rfl, lk, hcd⟩ := F.ex
  refine ⟨fun s us ws X l1 l2 => ?_, fun r1 r2 => r1.append (rev_vals r2)⟩
  match us, ws, l1, l2 with
  | [x], [v, u], _, _ => exact .of_eq rfl
theorem all_mk {l : PySem.W.OpenLaw} {w : World} {K : PySem.W.Frag} {h : Heap} {mg : Str → Option Value} {fa : Addr} (X : K.In h) (G : h.Ns mainGlobals mg) (hfa : mg "law" = some (.ref fa))
    {f6 : Addr} {oc6 kV6 dc6 pm6 cd6 ct6 : Value} {od6 an6 : Option Addr} {sl6 : Array (Option Value)}
    {f7 : Addr} {oc7 kV7 dc7 pm7 cd7 ct7 : Value} {od7 an7 : Option Addr} {sl7 : Array (Option Value)}
    {f11 : Addr} {oc11 kV11 dc11 pm11 cd11 ct11 : Value} {od11 an11 : Option Addr} {sl11 : Array (Option Value)}
    {f13 : Addr} {oc13 kV13 dc13 pm13 cd13 ct13 : Value} {od13 an13 : Option Addr} {sl13 : Array (Option Value)}
    {f18 : Addr} {oc18 kV18 dc18 pm18 cd18 ct18 : Value} {od18 an18 : Option Addr} {sl18 : Array (Option Value)}
    {f19 : Addr} {oc19 kV19 dc19 pm19 cd19 ct19 : Value} {od19 an19 : Option Addr} {sl19 : Array (Option Value)}
    {f20 : Addr} {oc20 kV20 dc20 pm20 cd20 ct20 : Value} {od20 an20 : Option Addr} {sl20 : Array (Option Value)}
    {f21 : Addr} {oc21 kV21 dc21 pm21 cd21 ct21 : Value} {od21 an21 : Option Addr} {sl21 : Array (Option Value)}
    {f22 : Addr} {oc22 kV22 dc22 pm22 cd22 ct22 : Value} {od22 an22 : Option Addr} {sl22 : Array (Option Value)}
    {f23 : Addr} {oc23 kV23 dc23 pm23 cd23 ct23 : Value} {od23 an23 : Option Addr} {sl23 : Array (Option Value)}
    {f24 : Addr} {oc24 kV24 dc24 pm24 cd24 ct24 : Value} {od24 an24 : Option Addr} {sl24 : Array (Option Value)}
    {f25 : Addr} {oc25 kV25 dc25 pm25 cd25 ct25 : Value} {od25 an25 : Option Addr} {sl25 : Array (Option Value)}
    {f26 : Addr} {oc26 kV26 dc26 pm26 cd26 ct26 : Value} {od26 an26 : Option Addr} {sl26 : Array (Option Value)}
    {f27 : Addr} {oc27 kV27 dc27 pm27 cd27 ct27 : Value} {od27 an27 : Option Addr} {sl27 : Array (Option Value)}
    {f28 : Addr} {oc28 kV28 dc28 pm28 cd28 ct28 : Value} {od28 an28 : Option Addr} {sl28 : Array (Option Value)}
    {f29 : Addr} {oc29 kV29 dc29 pm29 cd29 ct29 : Value} {od29 an29 : Option Addr} {sl29 : Array (Option Value)}
    {f30 : Addr} {oc30 kV30 dc30 pm30 cd30 ct30 : Value} {od30 an30 : Option Addr} {sl30 : Array (Option Value)}
    {f31 : Addr} {oc31 kV31 dc31 pm31 cd31 ct31 : Value} {od31 an31 : Option Addr} {sl31 : Array (Option Value)}
    {f32 : Addr} {oc32 kV32 dc32 pm32 cd32 ct32 : Value} {od32 an32 : Option Addr} {sl32 : Array (Option Value)}
    {f33 : Addr} {oc33 kV33 dc33 pm33 cd33 ct33 : Value} {od33 an33 : Option Addr} {sl33 : Array (Option Value)}
    {f10 D10 : Addr} {t10 : Tok} {oc10 dc10 pm10 cd10 ct10 : Value} {od10 an10 : Option Addr} {sl10 : Array (Option Value)}
    {f12 D12 : Addr} {t12 : Tok} {oc12 dc12 pm12 cd12 ct12 : Value} {od12 an12 : Option Addr} {sl12 : Array (Option Value)}
    {V : Addr}
    {fJ : Addr} {ocJ kVJ dcJ pmJ cdJ ctJ : Value} {odJ anJ : Option Addr} {slJ : Array (Option Value)}
    {fg1 : Addr} {ocg1 kVg1 dcg1 pmg1 cdg1 ctg1 : Value} {odg1 ang1 : Option Addr} {slg1 : Array (Option Value)}
    {fg2 : Addr} {ocg2 kVg2 dcg2 pmg2 cdg2 ctg2 : Value} {odg2 ang2 : Option Addr} {slg2 : Array (Option Value)}
    {fg3 : Addr} {ocg3 kVg3 dcg3 pmg3 cdg3 ctg3 : Value} {odg3 ang3 : Option Addr} {slg3 : Array (Option Value)}
    {fg4 : Addr} {ocg4 kVg4 dcg4 pmg4 cdg4 ctg4 : Value} {odg4 ang4 : Option Addr} {slg4 : Array (Option Value)}
    {N NnN : Addr} {nmN qnN : Str} {bsN bmN : List Value} {snN : List Str} {subN : List Value} {abN : Bool} {colN : Option Bool} {ddN : Option Addr} {m0N m1N m2N m3N m5N : Option Value}
    {fI1 : Addr} {ocI1 kVI1 dcI1 pmI1 cdI1 ctI1 : Value} {odI1 anI1 : Option Addr} {slI1 : Array (Option Value)}
    {M NnM : Addr} {nmM qnM : Str} {bsM bmM : List Value} {snM : List Str} {subM : List Value} {abM : Bool} {colM : Option Bool} {ddM : Option Addr} {m0M m1M m2M m3M m5M : Option Value}
    {fI2 : Addr} {ocI2 kVI2 dcI2 pmI2 cdI2 ctI2 : Value} {odI2 anI2 : Option Addr} {slI2 : Array (Option Value)}
    {c1 : Addr}
    {c4 : Addr}
    {tM : Tok}
    (a6 : PySem.W.nsIn K mainGlobals "is_integer" = some (some (.ref f6)))
    (l6 : K.lookup f6 = some ⟨oc6, od6, .func (PySem.W.fnOf "is_integer" "is_integer" (defArgs sInteger) (defBody sInteger) (defScope sInteger) .none kV6 dc6 pm6 an6 cd6 ct6), sl6⟩)
    (c6 : PySem.W.codeIn K cd6 "is_integer" = true)
    (k6 : PySem.W.keepIn K (.ref f6) = true)
    (a7 : PySem.W.nsIn K mainGlobals "is_integer_between" = some (some (.ref f7)))
    (l7 : K.lookup f7 = some ⟨oc7, od7, .func (PySem.W.fnOf "is_integer_between" "is_integer_between" (defArgs sBetween) (defBody sBetween) (defScope sBetween) .none kV7 dc7 pm7 an7 cd7 ct7), sl7⟩)
    (c7 : PySem.W.codeIn K cd7 "is_integer_between" = true)
    (k7 : PySem.W.keepIn K (.ref f7) = true)
    (a11 : PySem.W.nsIn K mainGlobals "are_cells" = some (some (.ref f11)))
    (l11 : K.lookup f11 = some ⟨oc11, od11, .func (PySem.W.fnOf "are_cells" "are_cells" (defArgs sAreC) (defBody sAreC) (defScope sAreC) .none kV11 dc11 pm11 an11 cd11 ct11), sl11⟩)
    (c11 : PySem.W.codeIn K cd11 "are_cells" = true)
    (k11 : PySem.W.keepIn K (.ref f11) = true)
    (a13 : PySem.W.nsIn K mainGlobals "share_odd" = some (some (.ref f13)))
    (l13 : K.lookup f13 = some ⟨oc13, od13, .func (PySem.W.fnOf "share_odd" "share_odd" (defArgs sShare) (defBody sShare) (defScope sShare) .none kV13 dc13 pm13 an13 cd13 ct13), sl13⟩)
    (c13 : PySem.W.codeIn K cd13 "share_odd" = true)
    (k13 : PySem.W.keepIn K (.ref f13) = true)
    (a18 : PySem.W.nsIn K mainGlobals "_law_pot" = some (some (.ref f18)))
    (l18 : K.lookup f18 = some ⟨oc18, od18, .func (PySem.W.fnOf "_law_pot" "_law_pot" (defArgs sPot) (defBody sPot) (defScope sPot) .none kV18 dc18 pm18 an18 cd18 ct18), sl18⟩)
    (c18 : PySem.W.codeIn K cd18 "_law_pot" = true)
    (k18 : PySem.W.keepIn K (.ref f18) = true)
    (a19 : PySem.W.nsIn K mainGlobals "_law_draw" = some (some (.ref f19)))
    (l19 : K.lookup f19 = some ⟨oc19, od19, .func (PySem.W.fnOf "_law_draw" "_law_draw" (defArgs sDraw) (defBody sDraw) (defScope sDraw) .none kV19 dc19 pm19 an19 cd19 ct19), sl19⟩)
    (c19 : PySem.W.codeIn K cd19 "_law_draw" = true)
    (k19 : PySem.W.keepIn K (.ref f19) = true)
    (a20 : PySem.W.nsIn K mainGlobals "_law_width" = some (some (.ref f20)))
    (l20 : K.lookup f20 = some ⟨oc20, od20, .func (PySem.W.fnOf "_law_width" "_law_width" (defArgs sWidth) (defBody sWidth) (defScope sWidth) .none kV20 dc20 pm20 an20 cd20 ct20), sl20⟩)
    (c20 : PySem.W.codeIn K cd20 "_law_width" = true)
    (k20 : PySem.W.keepIn K (.ref f20) = true)
    (a21 : PySem.W.nsIn K mainGlobals "_law_spots" = some (some (.ref f21)))
    (l21 : K.lookup f21 = some ⟨oc21, od21, .func (PySem.W.fnOf "_law_spots" "_law_spots" (defArgs sSpots) (defBody sSpots) (defScope sSpots) .none kV21 dc21 pm21 an21 cd21 ct21), sl21⟩)
    (c21 : PySem.W.codeIn K cd21 "_law_spots" = true)
    (k21 : PySem.W.keepIn K (.ref f21) = true)
    (a22 : PySem.W.nsIn K mainGlobals "_law_pair" = some (some (.ref f22)))
    (l22 : K.lookup f22 = some ⟨oc22, od22, .func (PySem.W.fnOf "_law_pair" "_law_pair" (defArgs sPair) (defBody sPair) (defScope sPair) .none kV22 dc22 pm22 an22 cd22 ct22), sl22⟩)
    (c22 : PySem.W.codeIn K cd22 "_law_pair" = true)
    (k22 : PySem.W.keepIn K (.ref f22) = true)
    (a23 : PySem.W.nsIn K mainGlobals "_law_any_thing" = some (some (.ref f23)))
    (l23 : K.lookup f23 = some ⟨oc23, od23, .func (PySem.W.fnOf "_law_any_thing" "_law_any_thing" (defArgs sAny) (defBody sAny) (defScope sAny) .none kV23 dc23 pm23 an23 cd23 ct23), sl23⟩)
    (c23 : PySem.W.codeIn K cd23 "_law_any_thing" = true)
    (k23 : PySem.W.keepIn K (.ref f23) = true)
    (a24 : PySem.W.nsIn K mainGlobals "_law_is_int" = some (some (.ref f24)))
    (l24 : K.lookup f24 = some ⟨oc24, od24, .func (PySem.W.fnOf "_law_is_int" "_law_is_int" (defArgs sIsInt) (defBody sIsInt) (defScope sIsInt) .none kV24 dc24 pm24 an24 cd24 ct24), sl24⟩)
    (c24 : PySem.W.codeIn K cd24 "_law_is_int" = true)
    (k24 : PySem.W.keepIn K (.ref f24) = true)
    (a25 : PySem.W.nsIn K mainGlobals "_law_mixed" = some (some (.ref f25)))
    (l25 : K.lookup f25 = some ⟨oc25, od25, .func (PySem.W.fnOf "_law_mixed" "_law_mixed" (defArgs sMixed) (defBody sMixed) (defScope sMixed) .none kV25 dc25 pm25 an25 cd25 ct25), sl25⟩)
    (c25 : PySem.W.codeIn K cd25 "_law_mixed" = true)
    (k25 : PySem.W.keepIn K (.ref f25) = true)
    (a26 : PySem.W.nsIn K mainGlobals "_law_are_spots" = some (some (.ref f26)))
    (l26 : K.lookup f26 = some ⟨oc26, od26, .func (PySem.W.fnOf "_law_are_spots" "_law_are_spots" (defArgs sAre) (defBody sAre) (defScope sAre) .none kV26 dc26 pm26 an26 cd26 ct26), sl26⟩)
    (c26 : PySem.W.codeIn K cd26 "_law_are_spots" = true)
    (k26 : PySem.W.keepIn K (.ref f26) = true)
    (a27 : PySem.W.nsIn K mainGlobals "_law_odd_spots" = some (some (.ref f27)))
    (l27 : K.lookup f27 = some ⟨oc27, od27, .func (PySem.W.fnOf "_law_odd_spots" "_law_odd_spots" (defArgs sOdd) (defBody sOdd) (defScope sOdd) .none kV27 dc27 pm27 an27 cd27 ct27), sl27⟩)
    (c27 : PySem.W.codeIn K cd27 "_law_odd_spots" = true)
    (k27 : PySem.W.keepIn K (.ref f27) = true)
    (a28 : PySem.W.nsIn K mainGlobals "_law_met" = some (some (.ref f28)))
    (l28 : K.lookup f28 = some ⟨oc28, od28, .func (PySem.W.fnOf "_law_met" "_law_met" (defArgs sMet) (defBody sMet) (defScope sMet) .none kV28 dc28 pm28 an28 cd28 ct28), sl28⟩)
    (c28 : PySem.W.codeIn K cd28 "_law_met" = true)
    (k28 : PySem.W.keepIn K (.ref f28) = true)
    (a29 : PySem.W.nsIn K mainGlobals "_law_due" = some (some (.ref f29)))
    (l29 : K.lookup f29 = some ⟨oc29, od29, .func (PySem.W.fnOf "_law_due" "_law_due" (defArgs sDue) (defBody sDue) (defScope sDue) .none kV29 dc29 pm29 an29 cd29 ct29), sl29⟩)
    (c29 : PySem.W.codeIn K cd29 "_law_due" = true)
    (k29 : PySem.W.keepIn K (.ref f29) = true)
    (a30 : PySem.W.nsIn K mainGlobals "_law_flip_right" = some (some (.ref f30)))
    (l30 : K.lookup f30 = some ⟨oc30, od30, .func (PySem.W.fnOf "_law_flip_right" "_law_flip_right" (defArgs sFlipR) (defBody sFlipR) (defScope sFlipR) .none kV30 dc30 pm30 an30 cd30 ct30), sl30⟩)
    (c30 : PySem.W.codeIn K cd30 "_law_flip_right" = true)
    (k30 : PySem.W.keepIn K (.ref f30) = true)
    (a31 : PySem.W.nsIn K mainGlobals "_law_right" = some (some (.ref f31)))
    (l31 : K.lookup f31 = some ⟨oc31, od31, .func (PySem.W.fnOf "_law_right" "_law_right" (defArgs sRight) (defBody sRight) (defScope sRight) .none kV31 dc31 pm31 an31 cd31 ct31), sl31⟩)
    (c31 : PySem.W.codeIn K cd31 "_law_right" = true)
    (k31 : PySem.W.keepIn K (.ref f31) = true)
    (a32 : PySem.W.nsIn K mainGlobals "_law_either" = some (some (.ref f32)))
    (l32 : K.lookup f32 = some ⟨oc32, od32, .func (PySem.W.fnOf "_law_either" "_law_either" (defArgs sEither) (defBody sEither) (defScope sEither) .none kV32 dc32 pm32 an32 cd32 ct32), sl32⟩)
    (c32 : PySem.W.codeIn K cd32 "_law_either" = true)
    (k32 : PySem.W.keepIn K (.ref f32) = true)
    (a33 : PySem.W.nsIn K mainGlobals "law" = some (some (.ref f33)))
    (l33 : K.lookup f33 = some ⟨oc33, od33, .func (PySem.W.fnOf "law" "law" (defArgs sLaw) (defBody sLaw) (defScope sLaw) .none kV33 dc33 pm33 an33 cd33 ct33), sl33⟩)
    (c33 : PySem.W.codeIn K cd33 "law" = true)
    (k33 : PySem.W.keepIn K (.ref f33) = true)
    (a10 : PySem.W.nsIn K mainGlobals "is_cell" = some (some (.ref f10)))
    (l10 : K.lookup f10 = some ⟨oc10, od10, .func (PySem.W.fnOf "is_cell" "is_cell" (defArgs sIsCell) (defBody sIsCell) (defScope sIsCell) .none (.ref D10) dc10 pm10 an10 cd10 ct10), sl10⟩)
    (d10 : PySem.W.nsIn K D10 "size" = some (some (.int 40 t10)))
    (c10 : PySem.W.codeIn K cd10 "is_cell" = true)
    (k10 : PySem.W.keepIn K (.ref f10) = true)
    (a12 : PySem.W.nsIn K mainGlobals "cell_tuple" = some (some (.ref f12)))
    (l12 : K.lookup f12 = some ⟨oc12, od12, .func (PySem.W.fnOf "cell_tuple" "cell_tuple" (defArgs sCells) (defBody sCells) (defScope sCells) .none (.ref D12) dc12 pm12 an12 cd12 ct12), sl12⟩)
    (d12 : PySem.W.nsIn K D12 "size" = some (some (.int 40 t12)))
    (c12 : PySem.W.codeIn K cd12 "cell_tuple" = true)
    (k12 : PySem.W.keepIn K (.ref f12) = true)
    (aV : PySem.W.nsIn K mainGlobals "Flip" = some (some (.ref V)))
    (pgV : PySem.W.plainGet K V Str.empty = true)
    (hdV : PySem.W.hasDictIn K V = true)
    (poV : PySem.W.plainOver K V = true)
    (saV : PySem.W.findIn K (.ref V) "__setattr__" = some (some (.builtin "object.__setattr__")))
    (mkV : PySem.W.makesIn K V = true)
    (kcV : PySem.W.keepIn K (.ref V) = true)
    (nf0V : PySem.W.findIn K (.ref V) "tested_cells" = some none)
    (nf1V : PySem.W.findIn K (.ref V) "toggled_cells" = some none)
    (aJ : PySem.W.findIn K (.ref V) "__init__" = some (some (.ref fJ)))
    (nJ : PySem.W.isFn K (.ref fJ) = true)
    (lJ : K.lookup fJ = some ⟨ocJ, odJ, .func (PySem.W.fnOf "__init__" "Flip.__init__" (defArgs gInit) (defBody gInit) (defScope gInit) .none kVJ dcJ pmJ anJ cdJ ctJ), slJ⟩)
    (cJ : PySem.W.codeIn K cdJ "Flip.__init__" = true)
    (kJ : PySem.W.keepIn K (.ref fJ) = true)
    (ag1 : PySem.W.findIn K (.ref V) "tested" = some (some (.ref fg1)))
    (ng1 : PySem.W.isFn K (.ref fg1) = true)
    (lg1 : K.lookup fg1 = some ⟨ocg1, odg1, .func (PySem.W.fnOf "tested" "Flip.tested" (defArgs gTested) (defBody gTested) (defScope gTested) .none kVg1 dcg1 pmg1 ang1 cdg1 ctg1), slg1⟩)
    (cg1 : PySem.W.codeIn K cdg1 "Flip.tested" = true)
    (kg1 : PySem.W.keepIn K (.ref fg1) = true)
    (ag2 : PySem.W.findIn K (.ref V) "toggled" = some (some (.ref fg2)))
    (ng2 : PySem.W.isFn K (.ref fg2) = true)
    (lg2 : K.lookup fg2 = some ⟨ocg2, odg2, .func (PySem.W.fnOf "toggled" "Flip.toggled" (defArgs gToggled) (defBody gToggled) (defScope gToggled) .none kVg2 dcg2 pmg2 ang2 cdg2 ctg2), slg2⟩)
    (cg2 : PySem.W.codeIn K cdg2 "Flip.toggled" = true)
    (kg2 : PySem.W.keepIn K (.ref fg2) = true)
    (ag3 : PySem.W.findIn K (.ref V) "width" = some (some (.ref fg3)))
    (ng3 : PySem.W.isFn K (.ref fg3) = true)
    (lg3 : K.lookup fg3 = some ⟨ocg3, odg3, .func (PySem.W.fnOf "width" "Flip.width" (defArgs gWidth) (defBody gWidth) (defScope gWidth) .none kVg3 dcg3 pmg3 ang3 cdg3 ctg3), slg3⟩)
    (cg3 : PySem.W.codeIn K cdg3 "Flip.width" = true)
    (kg3 : PySem.W.keepIn K (.ref fg3) = true)
    (ag4 : PySem.W.findIn K (.ref V) "is_idle" = some (some (.ref fg4)))
    (ng4 : PySem.W.isFn K (.ref fg4) = true)
    (lg4 : K.lookup fg4 = some ⟨ocg4, odg4, .func (PySem.W.fnOf "is_idle" "Flip.is_idle" (defArgs gIdle) (defBody gIdle) (defScope gIdle) .none kVg4 dcg4 pmg4 ang4 cdg4 ctg4), slg4⟩)
    (cg4 : PySem.W.codeIn K cdg4 "Flip.is_idle" = true)
    (kg4 : PySem.W.keepIn K (.ref fg4) = true)
    (aN : PySem.W.nsIn K mainGlobals "NoCells" = some (some (.ref N)))
    (xN : K.lookup N = some (excClassObj nmN qnN N NnN bsN bmN true snN subN abN colN ddN m0N m1N m2N m3N m5N "ValueError.__new__"))
    (rvN : PySem.HandSPX.refsVE bmN = true)
    (saN : PySem.W.findIn K (.ref N) "__setattr__" = some (some (.builtin "object.__setattr__")))
    (exN : PySem.W.subIn K (.ref N) (.type "BaseException") = some true)
    (tyN : PySem.W.typeIn K (.ref N) = some (.type "type"))
    (kpN : PySem.W.keepIn K (.ref N) = true)
    (nf0N : PySem.W.findIn K (.ref N) "cells" = some none)
    (iI1 : PySem.W.findIn K (.ref N) "__init__" = some (some (.ref fI1)))
    (tI1 : PySem.W.typeIn K (.ref fI1) = some (.type "function"))
    (lI1 : K.lookup fI1 = some ⟨ocI1, odI1, .func (PySem.W.fnOf "__init__" "NoCells.__init__" (defArgs sIni) (defBody sIni) (defScope sIni) .none kVI1 dcI1 pmI1 anI1 cdI1 ctI1), slI1⟩)
    (cI1 : PySem.W.codeIn K cdI1 "NoCells.__init__" = true)
    (kI1 : PySem.W.keepIn K (.ref fI1) = true)
    (aM : PySem.W.nsIn K mainGlobals "NoFlip" = some (some (.ref M)))
    (xM : K.lookup M = some (excClassObj nmM qnM M NnM bsM bmM true snM subM abM colM ddM m0M m1M m2M m3M m5M "ValueError.__new__"))
    (rvM : PySem.HandSPX.refsVE bmM = true)
    (saM : PySem.W.findIn K (.ref M) "__setattr__" = some (some (.builtin "object.__setattr__")))
    (exM : PySem.W.subIn K (.ref M) (.type "BaseException") = some true)
    (tyM : PySem.W.typeIn K (.ref M) = some (.type "type"))
    (kpM : PySem.W.keepIn K (.ref M) = true)
    (nf0M : PySem.W.findIn K (.ref M) "why" = some none)
    (iI2 : PySem.W.findIn K (.ref M) "__init__" = some (some (.ref fI2)))
    (tI2 : PySem.W.typeIn K (.ref fI2) = some (.type "function"))
    (lI2 : K.lookup fI2 = some ⟨ocI2, odI2, .func (PySem.W.fnOf "__init__" "NoFlip.__init__" (defArgs sFIni) (defBody sFIni) (defScope sFIni) .none kVI2 dcI2 pmI2 anI2 cdI2 ctI2), slI2⟩)
    (cI2 : PySem.W.codeIn K cdI2 "NoFlip.__init__" = true)
    (kI2 : PySem.W.keepIn K (.ref fI2) = true)
    (ac1 : PySem.W.nsIn K mainGlobals "NoCell" = some (some (.ref c1)))
    (ac4 : PySem.W.nsIn K mainGlobals "CellError" = some (some (.ref c4)))
    (gaN : PySem.W.findIn K (.ref N) "__getattribute__" = some (some (.builtin "BaseException.__getattribute__")))
    (ggN : PySem.W.findIn K (.ref N) "__getattr__" = some none)
    (xdN : PySem.W.hasDictIn K N = true)
    (haN : PySem.W.findIn K (.ref N) "__class__" = some (some (.builtin "object.__class__")))
    (hnN : PySem.W.specialIn K (.builtin "object.__class__") "__get__" = some (some (.builtin "getset_descriptor.__get__")))
    (htN : PySem.W.takesIn K (.builtin "object.__class__") = some true)
    (hmN : PySem.W.mroIn K N (.type "object") = some true)
    (teN : PySem.W.exmOne K (.ref N) (.ref N) = some true)
    (gaM : PySem.W.findIn K (.ref M) "__getattribute__" = some (some (.builtin "BaseException.__getattribute__")))
    (ggM : PySem.W.findIn K (.ref M) "__getattr__" = some none)
    (xdM : PySem.W.hasDictIn K M = true)
    (haM : PySem.W.findIn K (.ref M) "__class__" = some (some (.builtin "object.__class__")))
    (hnM : PySem.W.specialIn K (.builtin "object.__class__") "__get__" = some (some (.builtin "getset_descriptor.__get__")))
    (htM : PySem.W.takesIn K (.builtin "object.__class__") = some true)
    (hmM : PySem.W.mroIn K M (.type "object") = some true)
    (teM : PySem.W.exmOne K (.ref M) (.ref M) = some true)
    (exMN : PySem.W.exmOne K (.ref M) (.ref N) = some false)
    (sNM : PySem.W.subIn K (.ref N) (.ref M) = some false)
    (hcNM : PySem.W.hasDictIn K M = true)
    (tcNM : PySem.W.typeIn K (.ref M) = some (.type "type"))
    (ncNM : N ≠ M)
    (sN1 : PySem.W.subIn K (.ref N) (.ref c1) = some false)
    (hcN1 : PySem.W.hasDictIn K c1 = true)
    (tcN1 : PySem.W.typeIn K (.ref c1) = some (.type "type"))
    (ncN1 : N ≠ c1)
    (sN4 : PySem.W.subIn K (.ref N) (.ref c4) = some true)
    (hcN4 : PySem.W.hasDictIn K c4 = true)
    (tcN4 : PySem.W.typeIn K (.ref c4) = some (.type "type"))
    (ncN4 : N ≠ c4)
    (sMN : PySem.W.subIn K (.ref M) (.ref N) = some false)
    (hcMN : PySem.W.hasDictIn K N = true)
    (tcMN : PySem.W.typeIn K (.ref N) = some (.type "type"))
    (ncMN : M ≠ N)
    (sM1 : PySem.W.subIn K (.ref M) (.ref c1) = some false)
    (hcM1 : PySem.W.hasDictIn K c1 = true)
    (tcM1 : PySem.W.typeIn K (.ref c1) = some (.type "type"))
    (ncM1 : M ≠ c1)
    (sM4 : PySem.W.subIn K (.ref M) (.ref c4) = some true)
    (hcM4 : PySem.W.hasDictIn K c4 = true)
    (tcM4 : PySem.W.typeIn K (.ref c4) = some (.type "type"))
    (ncM4 : M ≠ c4)
    (c_M : PySem.W.nsIn K mainGlobals "MOST_CELLS" = some (some (.int 40 tM)))
    (z_len : PySem.W.nsIn K mainGlobals "len" = some none)
    (z_abs : PySem.W.nsIn K mainGlobals "abs" = some none)
    (z_max : PySem.W.nsIn K mainGlobals "max" = some none)
    (z_min : PySem.W.nsIn K mainGlobals "min" = some none)
    (z_divmod : PySem.W.nsIn K mainGlobals "divmod" = some none)
    (z_list : PySem.W.nsIn K mainGlobals "list" = some none)
    (z_tuple : PySem.W.nsIn K mainGlobals "tuple" = some none)
    (z_range : PySem.W.nsIn K mainGlobals "range" = some none)
    (z_isinstance : PySem.W.nsIn K mainGlobals "isinstance" = some none)
    (z_bool : PySem.W.nsIn K mainGlobals "bool" = some none)
    (z_int : PySem.W.nsIn K mainGlobals "int" = some none)
    (z_sorted : PySem.W.nsIn K mainGlobals "sorted" = some none)
    (z_set : PySem.W.nsIn K mainGlobals "set" = some none)
    (z_all : PySem.W.nsIn K mainGlobals "all" = some none)
    (z_enumerate : PySem.W.nsIn K mainGlobals "enumerate" = some none)
    (z_repr : PySem.W.nsIn K mainGlobals "repr" = some none)
    (z_ValueError : PySem.W.nsIn K mainGlobals "ValueError" = some none)
    (z_LookupError : PySem.W.nsIn K mainGlobals "LookupError" = some none)
    (z_RuntimeError : PySem.W.nsIn K mainGlobals "RuntimeError" = some none)
    (z_ArithmeticError : PySem.W.nsIn K mainGlobals "ArithmeticError" = some none) :
    ∃ fd : FuncData, (∀ (s : Shared) (v : Value), BindsTo s fd ⟨[v], []⟩ [("_law_script", v)]) ∧ ∀ base : Heap, K.In base → base.Ns mainGlobals mg → FnG l.prog w K mg base CX0 10 fa fd ["_law_script"] (spLaw K) := by
  have e0 := hfa.symm.trans (PySem.W.mg_of X G a33)
  cases e0
  have B : Bl mg := ⟨PySem.W.mg_none_of X G z_len, PySem.W.mg_none_of X G z_abs, PySem.W.mg_none_of X G z_max, PySem.W.mg_none_of X G z_min, PySem.W.mg_none_of X G z_divmod, PySem.W.mg_none_of X G z_list, PySem.W.mg_none_of X G z_tuple, PySem.W.mg_none_of X G z_range, PySem.W.mg_none_of X G z_isinstance, PySem.W.mg_none_of X G z_bool, PySem.W.mg_none_of X G z_int, PySem.W.mg_none_of X G z_sorted, PySem.W.mg_none_of X G z_set, PySem.W.mg_none_of X G z_all, PySem.W.mg_none_of X G z_enumerate, PySem.W.mg_none_of X G z_repr, PySem.W.mg_none_of X G z_ValueError, PySem.W.mg_none_of X G z_LookupError, PySem.W.mg_none_of X G z_RuntimeError, PySem.W.mg_none_of X G z_ArithmeticError⟩
  have F6 := fun_mk (st := sInteger) l6 c6 k6
  have b6 := F6.binds (ps := ["thing"]) fun _ _ _ _ _ _ us hl => match us, hl with | [_], _ => rfl
  have m6 := PySem.W.mg_of X G a6
  have F7 := fun_mk (st := sBetween) l7 c7 k7
  have b7 := F7.binds (ps := ["thing", "low", "high"]) fun _ _ _ _ _ _ us hl => match us, hl with | [_, _, _], _ => rfl
  have m7 := PySem.W.mg_of X G a7
  have F11 := fun_mk (st := sAreC) l11 c11 k11
  have b11 := F11.binds (ps := ["things", "size"]) fun _ _ _ _ _ _ us hl => match us, hl with | [_, _], _ => rfl
  have m11 := PySem.W.mg_of X G a11
  have F13 := fun_mk (st := sShare) l13 c13 k13
  have b13 := F13.binds (ps := ["one", "other"]) fun _ _ _ _ _ _ us hl => match us, hl with | [_, _], _ => rfl
  have m13 := PySem.W.mg_of X G a13
  have F18 := fun_mk (st := sPot) l18 c18 k18
  have b18 := F18.binds (ps := ["_law_script", "_law_k"]) fun _ _ _ _ _ _ us hl => match us, hl with | [_, _], _ => rfl
  have m18 := PySem.W.mg_of X G a18
  have F19 := fun_mk (st := sDraw) l19 c19 k19
  have b19 := F19.binds (ps := ["_law_pot_here", "_law_many"]) fun _ _ _ _ _ _ us hl => match us, hl with | [_, _], _ => rfl
  have m19 := PySem.W.mg_of X G a19
  have F20 := fun_mk (st := sWidth) l20 c20 k20
  have b20 := F20.binds (ps := ["_law_pot_here", "_law_most"]) fun _ _ _ _ _ _ us hl => match us, hl with | [_, _], _ => rfl
  have m20 := PySem.W.mg_of X G a20
  have F21 := fun_mk (st := sSpots) l21 c21 k21
  have b21 := F21.binds (ps := ["_law_pot_here", "_law_least", "_law_width_here"]) fun _ _ _ _ _ _ us hl => match us, hl with | [_, _, _], _ => rfl
  have m21 := PySem.W.mg_of X G a21
  have F22 := fun_mk (st := sPair) l22 c22 k22
  have b22 := F22.binds (ps := ["_law_pot_here", "_law_width_here"]) fun _ _ _ _ _ _ us hl => match us, hl with | [_, _], _ => rfl
  have m22 := PySem.W.mg_of X G a22
  have F23 := fun_mk (st := sAny) l23 c23 k23
  have b23 := F23.binds (ps := ["_law_pot_here"]) fun _ _ _ _ _ _ us hl => match us, hl with | [_], _ => rfl
  have m23 := PySem.W.mg_of X G a23
  have F24 := fun_mk (st := sIsInt) l24 c24 k24
  have b24 := F24.binds (ps := ["_law_item", "_law_low", "_law_high"]) fun _ _ _ _ _ _ us hl => match us, hl with | [_, _, _], _ => rfl
  have m24 := PySem.W.mg_of X G a24
  have F25 := fun_mk (st := sMixed) l25 c25 k25
  have b25 := F25.binds (ps := ["_law_pot_here", "_law_given"]) fun _ _ _ _ _ _ us hl => match us, hl with | [_, _], _ => rfl
  have m25 := PySem.W.mg_of X G a25
  have F26 := fun_mk (st := sAre) l26 c26 k26
  have b26 := F26.binds (ps := ["_law_given", "_law_least", "_law_width_here"]) fun _ _ _ _ _ _ us hl => match us, hl with | [_, _, _], _ => rfl
  have m26 := PySem.W.mg_of X G a26
  have F27 := fun_mk (st := sOdd) l27 c27 k27
  have b27 := F27.binds (ps := ["_law_pot_here", "_law_width_here"]) fun _ _ _ _ _ _ us hl => match us, hl with | [_, _], _ => rfl
  have m27 := PySem.W.mg_of X G a27
  have F28 := fun_mk (st := sMet) l28 c28 k28
  have b28 := F28.binds (ps := ["_law_tests", "_law_hits"]) fun _ _ _ _ _ _ us hl => match us, hl with | [_, _], _ => rfl
  have m28 := PySem.W.mg_of X G a28
  have F29 := fun_mk (st := sDue) l29 c29 k29
  have b29 := F29.binds (ps := ["_law_tests", "_law_hits"]) fun _ _ _ _ _ _ us hl => match us, hl with | [_, _], _ => rfl
  have m29 := PySem.W.mg_of X G a29
  have F30 := fun_mk (st := sFlipR) l30 c30 k30
  have b30 := F30.binds (ps := ["_law_flip", "_law_tests", "_law_hits"]) fun _ _ _ _ _ _ us hl => match us, hl with | [_, _, _], _ => rfl
  have m30 := PySem.W.mg_of X G a30
  have F31 := fun_mk (st := sRight) l31 c31 k31
  have b31 := F31.binds (ps := ["_law_tests", "_law_hits"]) fun _ _ _ _ _ _ us hl => match us, hl with | [_, _], _ => rfl
  have m31 := PySem.W.mg_of X G a31
  have F32 := fun_mk (st := sEither) l32 c32 k32
  have b32 := F32.binds (ps := ["_law_pot_here", "_law_width_here"]) fun _ _ _ _ _ _ us hl => match us, hl with | [_, _], _ => rfl
  have m32 := PySem.W.mg_of X G a32
  have F33 := fun_mk (st := sLaw) l33 c33 k33
  have b33 := F33.binds (ps := ["_law_script"]) fun _ _ _ _ _ _ us hl => match us, hl with | [_], _ => rfl
  have m33 := PySem.W.mg_of X G a33
  have F10 : FunD K "is_cell" "is_cell" (defArgs sIsCell) (defBody sIsCell) (defScope sIsCell) [] [("size", .int 40)] f10 _ := ⟨⟨oc10, od10, .none, .ref D10, dc10, pm10, an10, cd10, ct10, sl10, rfl, l10, c10, .inl ⟨rfl, rfl⟩, .inr ⟨D10, rfl, fun q hq => by
    rw [List.mem_singleton.mp hq]
    exact ⟨_, d10, _, rfl⟩⟩⟩, k10⟩
  have m10 := PySem.W.mg_of X G a10
  have kb10 := kb_size (st := sIsCell) (y := "thing") F10 (fun _ _ _ _ _ _ _ _ => rfl)
  have F12 : FunD K "cell_tuple" "cell_tuple" (defArgs sCells) (defBody sCells) (defScope sCells) [] [("size", .int 40)] f12 _ := ⟨⟨oc12, od12, .none, .ref D12, dc12, pm12, an12, cd12, ct12, sl12, rfl, l12, c12, .inl ⟨rfl, rfl⟩, .inr ⟨D12, rfl, fun q hq => by
    rw [List.mem_singleton.mp hq]
    exact ⟨_, d12, _, rfl⟩⟩⟩, k12⟩
  have m12 := PySem.W.mg_of X G a12
  have kb12 := kb_size (st := sCells) (y := "things") F12 (fun _ _ _ _ _ _ _ _ => rfl)
  obtain ⟨ds12, hd12, bd12⟩ := F12.binds0 (ps := ["things", "size"]) 1 (by simp) rfl (fun D doc pm an cdv ct us ks h1 h2 => match us, ks, h1, h2 with | [_], [_], _, _ => ⟨_, _, _, _, _, _, rfl, rfl, rfl⟩)
  have FJ := fun_mk (st := gInit) lJ cJ kJ
  have bJ := FJ.binds (ps := ["self", "tested", "toggled"]) fun _ _ _ _ _ _ us hl => match us, hl with | [_, _, _], _ => rfl
  have Fg1 := fun_mk (st := gTested) lg1 cg1 kg1
  have bg1 := Fg1.binds (ps := ["self"]) fun _ _ _ _ _ _ us hl => match us, hl with | [_], _ => rfl
  have mg1 : Meth K V "tested" fg1 := ⟨ag1, ng1, kg1⟩
  have Fg2 := fun_mk (st := gToggled) lg2 cg2 kg2
  have bg2 := Fg2.binds (ps := ["self"]) fun _ _ _ _ _ _ us hl => match us, hl with | [_], _ => rfl
  have mg2 : Meth K V "toggled" fg2 := ⟨ag2, ng2, kg2⟩
  have Fg3 := fun_mk (st := gWidth) lg3 cg3 kg3
  have bg3 := Fg3.binds (ps := ["self"]) fun _ _ _ _ _ _ us hl => match us, hl with | [_], _ => rfl
  have mg3 : Meth K V "width" fg3 := ⟨ag3, ng3, kg3⟩
  have Fg4 := fun_mk (st := gIdle) lg4 cg4 kg4
  have bg4 := Fg4.binds (ps := ["self"]) fun _ _ _ _ _ _ us hl => match us, hl with | [_], _ => rfl
  have mg4 : Meth K V "is_idle" fg4 := ⟨ag4, ng4, kg4⟩
  have ON : OexC K N := ⟨⟨nmN, qnN, NnN, bsN, bmN, snN, subN, abN, colN, ddN, m0N, m1N, m2N, m3N, m5N, xN, rvN⟩, saN, exN, tyN, kpN⟩
  have gN := PySem.W.mg_of X G aN
  have FI1 := fun_mk (st := sIni) lI1 cI1 kI1
  have bI1 := FI1.binds (ps := ["self", "cells"]) fun _ _ _ _ _ _ us hl => match us, hl with | [_, _], _ => rfl
  have OM : OexC K M := ⟨⟨nmM, qnM, NnM, bsM, bmM, snM, subM, abM, colM, ddM, m0M, m1M, m2M, m3M, m5M, xM, rvM⟩, saM, exM, tyM, kpM⟩
  have gM := PySem.W.mg_of X G aM
  have FI2 := fun_mk (st := sFIni) lI2 cI2 kI2
  have bI2 := FI2.binds (ps := ["self", "why"]) fun _ _ _ _ _ _ us hl => match us, hl with | [_, _], _ => rfl
  have gc1 := PySem.W.mg_of X G ac1
  have gc4 := PySem.W.mg_of X G ac4
  have XCN : ExcC K N := ⟨gaN, ggN, exN, xdN, haN, hnN, htN, hmN⟩
  have XFN : XfC K N := ⟨gaN, ggN, exN, xdN⟩
  have XCM : ExcC K M := ⟨gaM, ggM, exM, xdM, haM, hnM, htM, hmM⟩
  have XFM : XfC K M := ⟨gaM, ggM, exM, xdM⟩
  have koNM := kit_own ncNM hcNM tcNM sNM
  have koN1 := kit_own ncN1 hcN1 tcN1 sN1
  have koN4 := kit_own ncN4 hcN4 tcN4 sN4
  have koMN := kit_own ncMN hcMN tcMN sMN
  have koM1 := kit_own ncM1 hcM1 tcM1 sM1
  have koM4 := kit_own ncM4 hcM4 tcM4 sM4
  have g_M := PySem.W.mg_of X G c_M
  have TF : FC K mg V := ⟨⟨pgV, hdV, poV, saV⟩, nf0V, nf1V, PySem.W.mg_of X G aV⟩
  have TN : CellsC K mg N := ⟨gN, ON, nf0N⟩
  have TM : NfC K mg M := ⟨gM, OM, nf0M⟩
  have R : ErrT K mg N M c1 c4 := ⟨gc1, gc4, kit_no koNM (kit_no koN1 kitAny_nil), koN4, kit_no koMN (kit_no koM1 kitAny_nil), koM4, XCN, XFN, XCM, XFM, teN, exMN, teM⟩
  refine ⟨PySem.W.fnOf "law" "law" (defArgs sLaw) (defBody sLaw) (defScope sLaw) .none kV33 dc33 pm33 an33 cd33 ct33, fun s v => .of_eq rfl, fun base _ _ => ?_⟩
  have HNi : Has l.prog w K mg base "is_integer" 1 ["thing"] (spIntegerA K) := ⟨f6, _, ok_integerA F6 B, m6, k6, b6⟩
  have HB : Has l.prog w K mg base "is_integer_between" 2 ["thing", "low", "high"] (spBetween K) := ⟨f7, _, ok_between F7 B HNi, m7, k7, b7⟩
  have HC : HasCell l.prog w K mg base := ⟨f10, _, ok_iscell F10 HB, m10, k10, kb10⟩
  have HAr : HasAreC l.prog w K mg base := ⟨f11, _, ok_areC F11 B HC, m11, k11, b11⟩
  have HIn : HasIni l.prog w K mg base N := ⟨fI1, _, ok_ini FI1 TN, iI1, tI1, bI1⟩
  have HCl : HasCl l.prog w K mg base N := ⟨f12, _, ds12, ok_cells F12 B TN HAr HIn, m12, k12, hd12, bd12⟩
  have HNf : HasNf l.prog w K mg base M := ⟨fI2, _, ok_nf FI2 TM, iI2, tI2, bI2⟩
  have HO : Has l.prog w K mg base "share_odd" 2 ["one", "other"] (spShare K) := ⟨f13, _, ok_share F13 B, m13, k13, b13⟩
  have OFX := ok_fx (P := l.prog) (w := w) (base := base) FJ B TF TM HCl HO HNf
  have MKV : Mk K V fJ := ⟨mkV, aJ, nJ, kcV⟩
  have HFX : HasFX l.prog w K mg base V N M := ⟨fJ, _, OFX, MKV, bJ⟩
  have HFY : HasFY l.prog w K mg base V N M := ⟨fJ, _, OFX, MKV, _, kb_flip FJ⟩
  have N1 : HasM l.prog w K mg base V "tested" 2 ["self"] (spTested V) := ⟨fg1, _, ok_tested Fg1 TF, mg1, bg1⟩
  have N2 : HasM l.prog w K mg base V "toggled" 2 ["self"] (spToggled V) := ⟨fg2, _, ok_toggled Fg2 TF, mg2, bg2⟩
  have N3 : HasM l.prog w K mg base V "width" 2 ["self"] (spFWidth V) := ⟨fg3, _, ok_fwidth Fg3 B TF, mg3, bg3⟩
  have N4 : HasM l.prog w K mg base V "is_idle" 2 ["self"] (spIdle V) := ⟨fg4, _, ok_idle Fg4 TF, mg4, bg4⟩
  have HP : Has l.prog w K mg base "_law_pot" 2 ["_law_script", "_law_k"] (spPot K) := ⟨f18, _, ok_pot F18 B, m18, k18, b18⟩
  have HD : Has l.prog w K mg base "_law_draw" 2 ["_law_pot_here", "_law_many"] spDraw := ⟨f19, _, ok_draw F19 B, m19, k19, b19⟩
  have HW : Has l.prog w K mg base "_law_width" 3 ["_law_pot_here", "_law_most"] spWidth := ⟨f20, _, ok_width F20 B HD, m20, k20, b20⟩
  have HS : Has l.prog w K mg base "_law_spots" 3 ["_law_pot_here", "_law_least", "_law_width_here"] spSpots := ⟨f21, _, ok_spots F21 B HD, m21, k21, b21⟩
  have HPr : Has l.prog w K mg base "_law_pair" 4 ["_law_pot_here", "_law_width_here"] spPairL := ⟨f22, _, ok_pair F22 B HD HS, m22, k22, b22⟩
  have HA : Has l.prog w K mg base "_law_any_thing" 3 ["_law_pot_here"] (spAny K) := ⟨f23, _, ok_any F23 B HD, m23, k23, b23⟩
  have HJ : Has l.prog w K mg base "_law_is_int" 2 ["_law_item", "_law_low", "_law_high"] (spBetween K) := ⟨f24, _, ok_isint F24 B, m24, k24, b24⟩
  have HX : Has l.prog w K mg base "_law_mixed" 3 ["_law_pot_here", "_law_given"] (spMixed K) := ⟨f25, _, ok_mixed F25 B HD, m25, k25, b25⟩
  have HR : Has l.prog w K mg base "_law_are_spots" 3 ["_law_given", "_law_least", "_law_width_here"] (spAre K) := ⟨f26, _, ok_are F26 B HJ, m26, k26, b26⟩
  have HOd : Has l.prog w K mg base "_law_odd_spots" 4 ["_law_pot_here", "_law_width_here"] (spOdd K) := ⟨f27, _, ok_odd F27 B HD HS HX HA, m27, k27, b27⟩
  have HM : Has l.prog w K mg base "_law_met" 8 ["_law_tests", "_law_hits"] (spMet K V) := ⟨f28, _, ok_met F28 B TF TN TM R HFX, m28, k28, b28⟩
  have HDu : Has l.prog w K mg base "_law_due" 4 ["_law_tests", "_law_hits"] (spDue K) := ⟨f29, _, ok_due F29 B HR, m29, k29, b29⟩
  have HF : HasG l.prog w K mg base "_law_flip_right" 3 ["_law_flip", "_law_tests", "_law_hits"] (spFlipR K V) := ⟨f30, _, ok_flipR F30 B TF N1 N2 N3 N4, m30, k30, b30⟩
  have HRi : HasG l.prog w K mg base "_law_right" 9 ["_law_tests", "_law_hits"] (spRight K) := ⟨f31, _, ok_right F31 B TF HDu HM HF HFY, m31, k31, b31⟩
  have HE : Has l.prog w K mg base "_law_either" 5 ["_law_pot_here", "_law_width_here"] (spEither K) := ⟨f32, _, ok_either F32 HD HOd HS HX, m32, k32, b32⟩
  exact ok_law F33 B HP HW HPr HX HE HRi
end K14
open PySem PySem.W PyProof.Rows
set_option maxRecDepth 100000 in
set_option maxHeartbeats 0 in
theorem PySem.Challenge.cw_paritycells_k14_flips_made_or_refused_holds : PySem.Challenge.rw_paritycells_k14_flips_made_or_refused.Holds := by
  w_on; o_law; k_head; (case hw => w_witness2)
  k_fill
  refine Par.walkG (l := PySem.Challenge.rw_paritycells_k14_flips_made_or_refused) (k := 10) (x := "_law_script") (sp := K14.spLaw) rfl (by decide) rfl ⟨rfl, by decide, by decide⟩ (fun w h Y => PySem.W.kIn_of Y) ?F (fun K H a ns hl _ hS => ⟨a, ns, rfl, hS, hl, fun _ => rfl⟩)
  case F =>
    intro w mg fa h KX G hmg
    refine' K14.all_mk KX G hmg ?q_a6 ?q_l6 ?q_c6 ?q_k6 ?q_a7 ?q_l7 ?q_c7 ?q_k7 ?q_a11 ?q_l11 ?q_c11 ?q_k11 ?q_a13 ?q_l13 ?q_c13 ?q_k13 ?q_a18 ?q_l18 ?q_c18 ?q_k18 ?q_a19 ?q_l19 ?q_c19 ?q_k19 ?q_a20 ?q_l20 ?q_c20 ?q_k20 ?q_a21 ?q_l21 ?q_c21 ?q_k21 ?q_a22 ?q_l22 ?q_c22 ?q_k22 ?q_a23 ?q_l23 ?q_c23 ?q_k23 ?q_a24 ?q_l24 ?q_c24 ?q_k24 ?q_a25 ?q_l25 ?q_c25 ?q_k25 ?q_a26 ?q_l26 ?q_c26 ?q_k26 ?q_a27 ?q_l27 ?q_c27 ?q_k27 ?q_a28 ?q_l28 ?q_c28 ?q_k28 ?q_a29 ?q_l29 ?q_c29 ?q_k29 ?q_a30 ?q_l30 ?q_c30 ?q_k30 ?q_a31 ?q_l31 ?q_c31 ?q_k31 ?q_a32 ?q_l32 ?q_c32 ?q_k32 ?q_a33 ?q_l33 ?q_c33 ?q_k33 ?q_a10 ?q_l10 ?q_d10 ?q_c10 ?q_k10 ?q_a12 ?q_l12 ?q_d12 ?q_c12 ?q_k12 ?q_aV ?q_pgV ?q_hdV ?q_poV ?q_saV ?q_mkV ?q_kcV ?q_nf0V ?q_nf1V ?q_aJ ?q_nJ ?q_lJ ?q_cJ ?q_kJ ?q_ag1 ?q_ng1 ?q_lg1 ?q_cg1 ?q_kg1 ?q_ag2 ?q_ng2 ?q_lg2 ?q_cg2 ?q_kg2 ?q_ag3 ?q_ng3 ?q_lg3 ?q_cg3 ?q_kg3 ?q_ag4 ?q_ng4 ?q_lg4 ?q_cg4 ?q_kg4 ?q_aN ?q_xN ?q_rvN ?q_saN ?q_exN ?q_tyN ?q_kpN ?q_nf0N ?q_iI1 ?q_tI1 ?q_lI1 ?q_cI1 ?q_kI1 ?q_aM ?q_xM ?q_rvM ?q_saM ?q_exM ?q_tyM ?q_kpM ?q_nf0M ?q_iI2 ?q_tI2 ?q_lI2 ?q_cI2 ?q_kI2 ?q_ac1 ?q_ac4 ?q_gaN ?q_ggN ?q_xdN ?q_haN ?q_hnN ?q_htN ?q_hmN ?q_teN ?q_gaM ?q_ggM ?q_xdM ?q_haM ?q_hnM ?q_htM ?q_hmM ?q_teM ?q_exMN ?q_sNM ?q_hcNM ?q_tcNM ?q_ncNM ?q_sN1 ?q_hcN1 ?q_tcN1 ?q_ncN1 ?q_sN4 ?q_hcN4 ?q_tcN4 ?q_ncN4 ?q_sMN ?q_hcMN ?q_tcMN ?q_ncMN ?q_sM1 ?q_hcM1 ?q_tcM1 ?q_ncM1 ?q_sM4 ?q_hcM4 ?q_tcM4 ?q_ncM4 ?q_c_M ?q_z_len ?q_z_abs ?q_z_max ?q_z_min ?q_z_divmod ?q_z_list ?q_z_tuple ?q_z_range ?q_z_isinstance ?q_z_bool ?q_z_int ?q_z_sorted ?q_z_set ?q_z_all ?q_z_enumerate ?q_z_repr ?q_z_ValueError ?q_z_LookupError ?q_z_RuntimeError ?q_z_ArithmeticError
    (case q_a6 => k_is)
    (case q_l6 => k_is)
    (case q_c6 => k_is)
    (case q_k6 => k_is)
    (case q_a7 => k_is)
    (case q_l7 => k_is)
    (case q_c7 => k_is)
    (case q_k7 => k_is)
    (case q_a11 => k_is)
    (case q_l11 => k_is)
    (case q_c11 => k_is)
    (case q_k11 => k_is)
    (case q_a13 => k_is)
    (case q_l13 => k_is)
    (case q_c13 => k_is)
    (case q_k13 => k_is)
    (case q_a18 => k_is)
    (case q_l18 => k_is)
    (case q_c18 => k_is)
    (case q_k18 => k_is)
    (case q_a19 => k_is)
    (case q_l19 => k_is)
    (case q_c19 => k_is)
    (case q_k19 => k_is)
    (case q_a20 => k_is)
    (case q_l20 => k_is)
    (case q_c20 => k_is)
    (case q_k20 => k_is)
    (case q_a21 => k_is)
    (case q_l21 => k_is)
    (case q_c21 => k_is)
    (case q_k21 => k_is)
    (case q_a22 => k_is)
    (case q_l22 => k_is)
    (case q_c22 => k_is)
    (case q_k22 => k_is)
    (case q_a23 => k_is)
    (case q_l23 => k_is)
    (case q_c23 => k_is)
    (case q_k23 => k_is)
    (case q_a24 => k_is)
    (case q_l24 => k_is)
    (case q_c24 => k_is)
    (case q_k24 => k_is)
    (case q_a25 => k_is)
    (case q_l25 => k_is)
    (case q_c25 => k_is)
    (case q_k25 => k_is)
    (case q_a26 => k_is)
    (case q_l26 => k_is)
    (case q_c26 => k_is)
    (case q_k26 => k_is)
    (case q_a27 => k_is)
    (case q_l27 => k_is)
    (case q_c27 => k_is)
    (case q_k27 => k_is)
    (case q_a28 => k_is)
    (case q_l28 => k_is)
    (case q_c28 => k_is)
    (case q_k28 => k_is)
    (case q_a29 => k_is)
    (case q_l29 => k_is)
    (case q_c29 => k_is)
    (case q_k29 => k_is)
    (case q_a30 => k_is)
    (case q_l30 => k_is)
    (case q_c30 => k_is)
    (case q_k30 => k_is)
    (case q_a31 => k_is)
    (case q_l31 => k_is)
    (case q_c31 => k_is)
    (case q_k31 => k_is)
    (case q_a32 => k_is)
    (case q_l32 => k_is)
    (case q_c32 => k_is)
    (case q_k32 => k_is)
    (case q_a33 => k_is)
    (case q_l33 => k_is)
    (case q_c33 => k_is)
    (case q_k33 => k_is)
    (case q_a10 => k_is)
    (case q_l10 => k_is)
    (case q_d10 => k_is)
    (case q_c10 => k_is)
    (case q_k10 => k_is)
    (case q_a12 => k_is)
    (case q_l12 => k_is)
    (case q_d12 => k_is)
    (case q_c12 => k_is)
    (case q_k12 => k_is)
    (case q_aV => k_is)
    (case q_pgV => k_is)
    (case q_hdV => k_is)
    (case q_poV => k_is)
    (case q_saV => k_is)
    (case q_mkV => k_is)
    (case q_kcV => k_is)
    (case q_nf0V => k_is)
    (case q_nf1V => k_is)
    (case q_aJ => k_is)
    (case q_nJ => k_is)
    (case q_lJ => k_is)
    (case q_cJ => k_is)
    (case q_kJ => k_is)
    (case q_ag1 => k_is)
    (case q_ng1 => k_is)
    (case q_lg1 => k_is)
    (case q_cg1 => k_is)
    (case q_kg1 => k_is)
    (case q_ag2 => k_is)
    (case q_ng2 => k_is)
    (case q_lg2 => k_is)
    (case q_cg2 => k_is)
    (case q_kg2 => k_is)
    (case q_ag3 => k_is)
    (case q_ng3 => k_is)
    (case q_lg3 => k_is)
    (case q_cg3 => k_is)
    (case q_kg3 => k_is)
    (case q_ag4 => k_is)
    (case q_ng4 => k_is)
    (case q_lg4 => k_is)
    (case q_cg4 => k_is)
    (case q_kg4 => k_is)
    (case q_aN => k_is)
    (case q_xN => k_is)
    (case q_rvN => decide +kernel)
    (case q_saN => k_is)
    (case q_exN => first | rfl | k_is)
    (case q_tyN => k_is)
    (case q_kpN => k_is)
    (case q_nf0N => k_is)
    (case q_iI1 => k_is)
    (case q_tI1 => k_is)
    (case q_lI1 => k_is)
    (case q_cI1 => k_is)
    (case q_kI1 => k_is)
    (case q_aM => k_is)
    (case q_xM => k_is)
    (case q_rvM => decide +kernel)
    (case q_saM => k_is)
    (case q_exM => first | rfl | k_is)
    (case q_tyM => k_is)
    (case q_kpM => k_is)
    (case q_nf0M => k_is)
    (case q_iI2 => k_is)
    (case q_tI2 => k_is)
    (case q_lI2 => k_is)
    (case q_cI2 => k_is)
    (case q_kI2 => k_is)
    (case q_ac1 => k_is)
    (case q_ac4 => k_is)
    (case q_gaN => k_is)
    (case q_ggN => k_is)
    (case q_xdN => k_is)
    (case q_haN => k_is)
    (case q_hnN => k_is)
    (case q_htN => k_is)
    (case q_hmN => k_is)
    (case q_teN => first | rfl | k_is)
    (case q_gaM => k_is)
    (case q_ggM => k_is)
    (case q_xdM => k_is)
    (case q_haM => k_is)
    (case q_hnM => k_is)
    (case q_htM => k_is)
    (case q_hmM => k_is)
    (case q_teM => first | rfl | k_is)
    (case q_exMN => first | rfl | k_is)
    (case q_sNM => k_is)
    (case q_hcNM => k_is)
    (case q_tcNM => k_is)
    (case q_ncNM => decide)
    (case q_sN1 => k_is)
    (case q_hcN1 => k_is)
    (case q_tcN1 => k_is)
    (case q_ncN1 => decide)
    (case q_sN4 => k_is)
    (case q_hcN4 => k_is)
    (case q_tcN4 => k_is)
    (case q_ncN4 => decide)
    (case q_sMN => k_is)
    (case q_hcMN => k_is)
    (case q_tcMN => k_is)
    (case q_ncMN => decide)
    (case q_sM1 => k_is)
    (case q_hcM1 => k_is)
    (case q_tcM1 => k_is)
    (case q_ncM1 => decide)
    (case q_sM4 => k_is)
    (case q_hcM4 => k_is)
    (case q_tcM4 => k_is)
    (case q_ncM4 => decide)
    (case q_c_M => k_is)
    (case q_z_len => k_is)
    (case q_z_abs => k_is)
    (case q_z_max => k_is)
    (case q_z_min => k_is)
    (case q_z_divmod => k_is)
    (case q_z_list => k_is)
    (case q_z_tuple => k_is)
    (case q_z_range => k_is)
    (case q_z_isinstance => k_is)
    (case q_z_bool => k_is)
    (case q_z_int => k_is)
    (case q_z_sorted => k_is)
    (case q_z_set => k_is)
    (case q_z_all => k_is)
    (case q_z_enumerate => k_is)
    (case q_z_repr => k_is)
    (case q_z_ValueError => k_is)
    (case q_z_LookupError => k_is)
    (case q_z_RuntimeError => k_is)
    (case q_z_ArithmeticError => k_is)
