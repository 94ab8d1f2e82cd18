import PyProof.Rows.All
import Wide.All
import OpenK.AllK
import Wide.FinOn
import HandS.ForMost
import HandS.ForExc
import HandS.ExcInit
import HandS.ExcIs
import HandS.ExcField
import HandS.IsInst
import HandS.Defaults
import HandS.SortInts
import HandS.SetFor
import HandS.More
import HandS.Conv
import HandS.WideBits
import HandS.TupAny
import HandS.SuiteRaise
import HandS.TryMany
import PyProof.Rows.ReprOcc
import KE.DataEq
import HandS.Strs
import KE.GoesMore
import HandS.Walk
import HandS.MakeKw
import HandS.MakeKwOnly
import PySem.Challenge.RW_paritycells_k31_names_times_stamps
set_option Elab.async false
set_option linter.all false
set_option maxRecDepth 100000
set_option maxHeartbeats 4000000
namespace Par
open PySem PySem.Spec PyProof.Rows L2

/-! A def's promise where nothing is being shown by repr around it: the guards are known to be none. -/
structure FnG (P : Program) (w : World) (K : PySem.W.Frag) (mg : Str → Option Value) (base : Heap) (CX : CXT) (k : Nat)
    (f : Addr) (fd : FuncData) (ps : List Str) (sp : Sp) : Prop where
  arity : ∀ vs H Q E, sp vs H Q E → vs.length = ps.length
  go : ∀ (A : Around) (outer : List Env) (s : Shared) (H : Hp) (args : Args) (us : List Value) (vs : List V) (Q : VK) (E : XK),
    A.guards = some [] → Room k A → Env0 P w K mg base A outer s H → BindsTo s fd args (ps.zip us) → Vals vs us →
    sp vs H Q E → codeAny (model P w) A (.call (.ref f) args) (CR CX outer P w H s Q E) s

section
variable {P : Program} {w : World} {K : PySem.W.Frag} {mg : Str → Option Value} {base : Heap}

theorem fnG_of {k : Nat} {x qual : Str} {st : Stmt} {f : Addr} {fd : FuncData} {N ps : List Str} {sp : Sp}
    (F : Fun K x qual st f fd) (S : FnScope N ps (defScope st))
    (arity : ∀ vs H Q E, sp vs H Q E → vs.length = ps.length)
    (body : ∀ (cdv : Value) (A : Around) (outer : List Env) (s : Shared) (H : Hp) (vs : List V) (Q : VK) (E : XK),
      A.guards = some [] → Room k (A.deeper (envOfC qual (defScope st) s.heap.objs.size f cdv)) → sp vs H Q E →
      ∃ t, PSs (cxOf CX0 P w K mg base N qual (defScope st) f cdv A outer s H E).nox (defBody st) t ∧
        t { nx := fun _ H' => Q .non H', rt := Q } (start N vs) H) :
    FnG P w K mg base CX0 (k + 1) f fd ps sp := by
  obtain ⟨oc, od, kV, doc, pm, an, cdv, ct, osl, efd, lk, hcd⟩ := F.ex
  subst efd
  constructor
  · exact arity
  intro A outer s H args us vs Q E gs room e0 bound rel hsp
  have lens := arity _ _ _ _ hsp
  have kin : K.In s.heap := e0.mod.kin.keeps (fun b o z => (e0.bs b o z).1)
  have nolim : s.heap.NoLimit := e0.mod.nolimit.keeps (fun b o z => (e0.bs b o z).1)
  have kinds : ∀ y ∈ ps.zip us, (defScope st).names.lookup y.1 = some .local ∨ ((defScope st).names.lookup y.1 = some .cell ∧
      ((cellsFrom (s.heap.objs.size + 1) (defScope st).names []).lookup y.1).isSome = true) := by
    rintro ⟨n, v⟩ hy
    cases S.par n (List.of_mem_zip hy).1 with
    | inl q => exact Or.inl q
    | inr q => exact Or.inr ⟨q, PySem.W.cellsFrom_some _ _ _ (Or.inl q)⟩
  refine codeAny_call_function room.depth (kin _ _ lk) rfl S.co S.gen rfl (PySem.W.codeRec_of kin hcd) (bound _ _ _ _ ?_)
  refine wpAny_newFunctionEnv_cells S.kind kinds ?_
  intro env he s1 x1
  subst he
  refine ⟨nolim.keeps x1.toInCall.keep, codeAny_func ?_⟩
  obtain ⟨t, ht, hq⟩ := body cdv A outer s H vs Q E gs (room.deeper _) hsp
  have I := inv_start (CX := CX0) (E := E) (w := w) S room.hd e0 lens rel x1
  refine wpAny_mono (ht.nox.run [] s1 (start N vs) H _ I hq) ?_ (fun e s' hs => hs)
  intro fl s' hs
  cases fl with
  | ret u =>
    obtain ⟨v, σ1, H1, J, rv, q⟩ := hs
    exact ⟨v, H1, J.os, J.bare, J.base, J.hok, rv, q⟩
  | next =>
    obtain ⟨σ1, H1, J, q⟩ := hs
    exact ⟨V.non, H1, J.os, J.bare, J.base, J.hok, rfl, q⟩
  | brk => exact (let ⟨_, _, _, q⟩ := hs; False.elim q)
  | cont => exact (let ⟨_, _, _, q⟩ := hs; False.elim q)
end

section
variable {X : Cx} {CX : CXT} {k : Nat} {f : Addr} {fd : FuncData} {ps : List Str} {sp : Sp} {x : Str} {p pos : Pos} {e : Expr} {es : List Expr} {t : TA} {E : XK}

/-- f(e, ..) of such a def, called where the guards are none -/
theorem pe_callG (F : FnG X.prog X.w X.K X.mg X.base CX k f fd ps sp) (gs : X.A.guards = some []) (hr : Room k X.A) (hg : Gl X x)
    (hm : X.mg x = some (.ref f)) (hk : PySem.W.keepIn X.K (.ref f) = true) (hb : Binds X.K fd ps []) (hx : Passes CX X E) (ha : PA X (e :: es) t)
    (hdb : (x == ("__debug__" : Str)) = false := by decide)
    (he : starEach (e :: es) X.env = (false, eval e X.env) :: starEach es X.env := by rfl)
    (hpl : (backTo pos (starEach es X.env)).any (·.1) = false := by rfl) :
    PE X (.Call (.Name x p) (e :: es) [] pos) (tCall sp [] E t) := by
  constructor
  intro pins s σ H Q I h
  refine wpAny_Call_Name_kw (ld_glob I hg hm ?_ hdb)
  refine PySem.W.callWith_K (h₀ := X.base) I.ok.mod.kin hk (thn (ha.run pos pins s σ H _ I h) ?_) he hpl
  rintro us s1 ⟨vs, H1, I1, r, q⟩
  refine ⟨I1.kIn, ?_⟩
  rw [List.append_nil] at q
  have hl : (us ++ []).length = ps.length := by
    rw [List.append_nil, ← r.length]
    exact F.arity _ _ _ _ q
  have hbi := hb s1 us I1.kIn hl
  rw [List.append_nil] at hbi
  refine wpAny_call (codeAny_mono (F.go X.A X.stack s1 H1 ⟨us, []⟩ us vs Q E gs hr I1.env0 hbi r q) ?_)
  intro res s' hq
  cases res with
  | error er => exact hx pins σ H1 s1 er s' I1 hq
  | ok fl =>
    cases fl with
    | ret u => exact I1.after hq
    | next => exact False.elim hq
    | brk => exact False.elim hq
    | cont => exact False.elim hq
end

/-- the law's end over such a promise -/
theorem law_callG {P : Program} {w : World} {K : PySem.W.Frag} {mg mb : Str → Option Value} {k : Nat} {fa a : Addr} {fd : FuncData} {x : Str} {sp : Sp}
    {s1 : Shared} {vs : List Value} {ns : List Int}
    (KX : K.In s1.heap) (hns : s1.heap.Ns mainGlobals mg) (hb : s1.heap.Ns builtinsNs mb)
    (hbb : ∀ x : Str, x ≠ "__name__" → mb x = bootBuiltins x) (hlim : s1.heap.NoLimit) (hg : s1.gens = #[])
    (ha : s1.heap.get? a = some { cls := .type "list", data := .seq vs.toArray }) (hi : IntsAre vs ns) (hl : ns.length ≤ sizeLine) (hr : Room k callerA)
    (F : ∀ base : Heap, K.In base → base.Ns mainGlobals mg → FnG P w K mg base CX0 k fa fd [x] sp)
    (hbind : ∀ (s : Shared) (u : Value), BindsTo s fd ⟨[u], []⟩ [(x, u)])
    (hsp : ∀ H : Hp, Only H → SqL K H a (ns.map V.int) → sp [.ref a] H (fun v _ => v = .bl true) fun _ _ _ => False) :
    codeAny (model P w) callerA (.call (.ref fa) ⟨[.ref a], []⟩)
      (fun r s' => r = .ok (.ret (.bool true)) ∧ OldK s1.heap s'.heap ∧ s'.os = s1.os ∧ AllBare s'.gens) s1 := by
  have rv := vals_ints hi
  have lenV := hi.length
  have core : ∀ H : Hp, Only H → SqL K H a (ns.map V.int) → HOk P w H s1.heap → (∀ b, H b ≠ none → b = a) →
      (H a ≠ none → K.lookup a = none) → codeAny (model P w) callerA (.call (.ref fa) ⟨[.ref a], []⟩)
      (fun r s' => r = .ok (.ret (.bool true)) ∧ OldK s1.heap s'.heap ∧ s'.os = s1.os ∧ AllBare s'.gens) s1 := by
    intro H only sq ok only_a out_a
    have un_dict : ∀ {b : Addr} {o : Obj} {es : Array DictEntry} {ep : Nat}, s1.heap.get? b = some o → o.data = .dict es ep → H b = none := by
      intro b o es ep e d
      cases q : H b with
      | none => rfl
      | some u =>
        have e' : b = a := only_a b (by rw [q]; simp)
        rw [e', ha] at e
        cases e
        exact nomatch d
    have ns_of : ∀ {b : Addr} {m : Str → Option Value}, s1.heap.Ns b m → (hidT s1.heap H).Ns b m := by
      rintro b m ⟨o, es, ep, e, d, r⟩
      exact ⟨o, es, ep, hidT_get e (un_dict e d), d, r⟩
    have kin : K.In (hidT s1.heap H) := by
      intro b o e
      refine hidT_get (KX b o e) ?_
      cases q : H b with
      | none => rfl
      | some u =>
        have e' : b = a := only_a b (by rw [q]; simp)
        rw [e'] at q e
        rw [out_a (by rw [q]; simp)] at e
        cases e
    have md : Mod K mg (hidT s1.heap H) := by
      obtain ⟨mc, h1, h2⟩ := hlim
      exact ⟨kin, ns_of hns, ⟨mb, ns_of hb, hbb⟩, ⟨mc, ns_of h1, h2⟩⟩
    have e0 : Env0 P w K mg (hidT s1.heap H) callerA [] s1 H := by
      refine ⟨rfl, md, fun b o e => of_hidT e, Nat.le_of_eq (hidT_size _ _), trivial, ?_, ok, .of_eq hg⟩
      intro b z
      exact absurd (show b ∈ ([] : List Addr) from z) (by simp)
    refine codeAny_mono ((F _ kin (ns_of hns)).go callerA [] s1 H ⟨[.ref a], []⟩ [.ref a] [.ref a] _ _ rfl hr e0
      (hbind s1 (.ref a)) (.cons rfl .nil) (hsp H only sq)) ?_
    intro r s' h
    cases r with
    | error e => exact False.elim h
    | ok fl =>
      cases fl with
      | next => exact False.elim h
      | brk => exact False.elim h
      | cont => exact False.elim h
      | ret u =>
        obtain ⟨v, H1, os, bare, un, ok1, rel, q⟩ := h
        have q' : v = .bl true := q
        subst q'
        obtain rfl : u = Value.bool true := rel
        refine ⟨rfl, OldK.of_keep ?_, os, bare⟩
        intro b o e
        cases q : H b with
        | none => exact un.keep b o e q (fun z => absurd (show b ∈ ([] : List Addr) from z) (by simp)) (by simp)
        | some u =>
          rcases only b with z | ⟨ob, xs, z⟩
          · rw [q] at z
            cases z
          · have z2 := un.frzs b ob _ z
            have e1 := (ok b _ z).1
            have e2 := (ok1 b _ z2).1
            rw [e] at e1
            cases e1
            exact e2
  cases hk : K.lookup a with
  | some o =>
    have e := KX a o hk
    rw [ha] at e
    cases e
    refine core (fun _ => none) (fun _ => .inl rfl) (.inr ⟨_, vs.toArray, _, hk, rfl, rfl, rfl, ?_, by simpa using rv⟩) ?_ (fun b z => absurd rfl z) (fun z => absurd rfl z)
    · rw [List.size_toArray, lenV]
      exact hl
    · intro b u z
      exact nomatch (show (none : Option HO) = some u from z)
  | none =>
    refine core (fun b => if b = a then some (.frz { cls := .type "list", data := .seq vs.toArray } (.lst (ns.map V.int))) else none) ?_ (.inl (.inr ⟨_, if_pos rfl⟩)) ?_ ?_ (fun _ => hk)
    · intro b
      by_cases hb : b = a
      · exact .inr ⟨_, _, if_pos hb⟩
      · exact .inl (if_neg hb)
    · intro b u z
      by_cases hb : b = a
      · have z1 := (if_pos hb).symm.trans z
        cases z1
        subst hb
        exact ⟨ha, by rw [List.length_map]; exact hl, vs, _, rv, ha⟩
      · have z1 := (if_neg hb).symm.trans z
        cases z1
    · intro b z
      by_cases hb : b = a
      · exact hb
      · exact absurd (if_neg hb) z

theorem walkG {l : PySem.W.OpenLaw} {n k : Nat} {q : Program} {loose : List Str} {XP : (Str → Option Value) → Heap → Prop} {YP : World → Heap → Prop}
    {d : DefRec} {K : Params → PySem.W.Frag} {sp : PySem.W.Frag → Sp} {x : Str}
    (hn : l.most = some n) (hn2 : n ≤ sizeLine) (hdf : d.params.defaults = []) (hr : Room k callerA)
    (hY : ∀ (w : World) (h : Heap), YP w h → (K w.params).In h)
    (F : ∀ (w : World) (mg : Str → Option Value) (fa : Addr) (h : Heap), (K w.params).In h → h.Ns mainGlobals mg → mg d.name = some (.ref fa) →
      ∃ fd : FuncData, (∀ (s : Shared) (u : Value), BindsTo s fd ⟨[u], []⟩ [(x, u)]) ∧
        ∀ base : Heap, (K w.params).In base → base.Ns mainGlobals mg → FnG l.prog w (K w.params) mg base CX0 k fa fd [x] (sp (K w.params)))
    (hsp : ∀ (K : PySem.W.Frag) (H : Hp) (a : Addr) (ns : List Int), ns.length ≤ n → Only H → SqL K H a (ns.map V.int) →
      sp K [.ref a] H (fun v _ => v = .bl true) fun _ _ _ => False) :
    PySem.W.WalkO q loose XP YP l.row.toRowW d [] (fun f vs => PySem.call f vs) := by
  refine Att.attach_call hn hdf ?_
  intro w s0 s1 mg mb fa o pm cd doc a vs ns G Y ho hd hcd hmg hobj hints hlen hg
  have KX := hY w _ Y
  obtain ⟨fd, hb, hF⟩ := F w mg fa _ KX G.T.g hmg
  exact law_callG KX G.T.g G.T.b G.T.builtins G.T.nolimit hg hobj hints (Nat.le_trans hlen hn2) hr hF hb
    (fun H hO hS => hsp _ H a ns hlen hO hS)
end Par
namespace Par
open PySem PySem.Spec PyProof.Rows L2

section
variable {X : Cx} {CX : CXT} {k : Nat} {f : Addr} {fd : FuncData} {ps ks : List Str} {sp : Sp} {E : XK} {x : Str} {p pos : Pos} {kws : List Keyword} {tk : TA}
  {g : List Value → List Value → List Value} {gV : List V → List V → List V}
/-- f(k = v, ..), no positional argument -/
theorem pe_callN0 (F : FnOk X.prog X.w X.K X.mg X.base CX k f fd ps sp) (hr : Room k X.A) (hg : Gl X x) (hm : X.mg x = some (.ref f))
    (hk : PySem.W.keepIn X.K (.ref f) = true) (hb : KBn X.K fd ps 0 ks g gV) (hx : Passes CX X E) (hkw : PK X kws tk)
    (hall : (backToKw pos (keywordEach kws X.env)).all (·.1.isSome) = true := by rfl)
    (hks : (backToKw pos (keywordEach kws X.env)).filterMap (·.1) = ks := by rfl)
    (hdb : (x == ("__debug__" : Str)) = false := by decide)
    (hpl : ((backTo pos (starEach [] X.env)).any (·.1) || (backToKw pos (keywordEach kws X.env)).any (·.1.isNone)) = false := by rfl) :
    PE X (.Call (.Name x p) [] kws pos) (tCallN 0 ks.length sp gV E tNil tk) := by
  constructor
  intro pins s σ H Q I h
  refine wpAny_Call_Name_kw (ld_glob I hg hm ?_ hdb)
  refine PySem.W.callWith_KW0 (h₀ := X.base) I.ok.mod.kin hk hall ?_ hpl
  refine thn (hkw.run pos pins s σ H _ I h) ?_
  rintro ws s2 ⟨zs, H2, I2, rz, l1, l2, q2⟩
  refine ⟨I2.kIn, ?_⟩
  rw [hks]
  exact run_fnN F hr hb hx I2 .nil rz l1 l2 q2
end

/-! ### a new list whose place is not that of sys.modules -/
def tLstS (t : TA) : TE := fun σ H Q => t σ H fun xs H1 => xs.length ≤ sizeLine ∧ ∀ p, H1 p = none → p ≠ sysModules → Q (.ref p) (upd H1 p (.lst xs))
theorem new_ne_sys {X : Cx} {pins : List (Addr × Obj)} {σ : L2.St} {H : Hp} {s : Shared} (I : Inv X pins σ H s) : s.heap.objs.size ≠ sysModules := by
  obtain ⟨o, _, _, e, _⟩ := I.ok.mod.glob
  have h1 := Heap.lt_size (I.bk _ _ e)
  intro z
  rw [z] at h1
  exact absurd h1 (by decide)
theorem pe_lstS {X : Cx} {es : List Expr} {t : TA} {pos : Pos} (h : PA X es t) : PE X (.List es pos) (tLstS t) := by
  constructor
  intro pins s σ H Q I hq
  refine wpAny_List_spliced (thn (h.run pos pins s σ H _ I hq) ?_)
  rintro us s1 ⟨xs, H1, I1, r, z, q⟩
  refine ⟨by rw [← r.length]; exact z, ?_⟩
  have free : H1 s1.heap.objs.size = none := I1.hok.fresh (Nat.le_refl _)
  have lay := I1.laid (t' := s1.toks) (o := .lst xs) (h' := s1.heap.push { cls := .type "list", data := .seq us.toArray 0 })
    (fun b u e => Heap.get?_push_of_some _ e) (Nat.le_refl _) ⟨z, us, 0, r, Heap.get?_push_size _ rfl⟩
  exact ⟨V.ref s1.heap.objs.size, _, lay, rfl, q _ free (new_ne_sys I1)⟩

/-! ### repr -/
/-- a value that is no container, or a dict with keys and values that are none -/
inductive Fl (H : Hp) : V → PyData → Prop
  | non : Fl H .non .none
  | bl (b : Bool) : Fl H (.bl b) (.bool b)
  | int (i : Int) : Fl H (.int i) (.int i)
  | str (x : Str) : Fl H (.str x) (.str x)
  | dic0 {a : Addr} : H a = some (.dK []) → Fl H (.ref a) (.dict [])
  | dic1 {a : Addr} {i j : Int} : H a = some (.dK [(Sum.inl i, .int j)]) → Fl H (.ref a) (.dict [(.int i, .int j)])
inductive FlAll (H : Hp) : List V → List PyData → Prop
  | nil : FlAll H [] []
  | cons {v : V} {vs : List V} {d : PyData} {ds : List PyData} : Fl H v d → FlAll H vs ds → FlAll H (v :: vs) (d :: ds)
/-- what repr is asked of: data without a dict, a flat thing, a list of flat things -/
inductive Dx (K : PySem.W.Frag) (H : Hp) : V → PyData → Prop
  | dp {v : V} {d : PyData} : Dp K H v d → Dx K H v d
  | fl {v : V} {d : PyData} : Fl H v d → Dx K H v d
  | lst {a : Addr} {xs : List V} {ds : List PyData} : H a = some (.lst xs) → a ≠ sysModules → FlAll H xs ds → Dx K H (.ref a) (.list ds)

mutual
theorem dp_nodict {K : PySem.W.Frag} {H : Hp} : ∀ (d : PyData) (v : V), Dp K H v d → d.hasDict = false
  | .none, _, _ => rfl
  | .bool _, _, _ => rfl
  | .int _, _, _ => rfl
  | .str _, _, _ => rfl
  | .list ds, _, h => by
    cases h with
    | lst _ ha => exact dps_nodict ds _ ha
  | .tuple ds, _, h => by
    cases h with
    | tup _ ha => exact dps_nodict ds _ ha
  | .dict _, _, h => by cases h
theorem dps_nodict {K : PySem.W.Frag} {H : Hp} : ∀ (ds : List PyData) (vs : List V), DpAll K H vs ds → PyData.hasDictAll ds = false
  | [], _, _ => rfl
  | d :: ds, _, h => by
    cases h with
    | cons h1 h2 =>
      show (d.hasDict || PyData.hasDictAll ds) = false
      rw [dp_nodict d _ h1, dps_nodict ds _ h2]
      rfl
end

section
variable {X : Cx} {pins : List (Addr × Obj)} {σ : L2.St} {H : Hp} {s : Shared}
theorem fl_reads (I : Inv X pins σ H s) {v : V} {d : PyData} {u : Value} (h : Fl H v d) (r : RelV v u) : ∃ as, Reads s.heap u d as ∧ sysModules ∉ as := by
  cases h with
  | non =>
    cases r
    exact ⟨_, Reads.none, by simp⟩
  | bl b =>
    cases r
    exact ⟨_, Reads.bool b, by simp⟩
  | int i =>
    obtain ⟨t, rfl⟩ := r
    exact ⟨_, Reads.int i t, by simp⟩
  | str x =>
    obtain ⟨t, rfl⟩ := r
    exact ⟨_, Reads.str x t, by simp⟩
  | @dic0 a e =>
    cases r
    obtain ⟨_, ns, vs, kv, o, es, ep, ho, hx, hd, hk, hp, _⟩ := dk_of I.hok e
    cases kv
    have ne : sysModules ≠ a := fun z => by rw [← z] at ns; exact absurd ns (by decide)
    cases hes : es.toList with
    | cons e1 t1 => rw [hes] at hp; cases hp
    | nil =>
      refine ⟨_, Reads.dict (kvs := []) (as := []) (bs := []) ho hx.1 hd (by rw [hes]; exact ReadsAll.nil) (by rw [hes]; exact ReadsAll.nil), ?_⟩
      simpa using ne
  | @dic1 a i j e =>
    cases r
    obtain ⟨_, ns, vs, kv, o, es, ep, ho, hx, hd, hk, hp, _⟩ := dk_of I.hok e
    have ne : sysModules ≠ a := fun z => by rw [← z] at ns; exact absurd ns (by decide)
    cases kv with
    | @cons _ q _ _ k1 k2 =>
      cases k2
      obtain ⟨k, u⟩ := q
      obtain ⟨e1, t, e2⟩ := k1
      have e1' : Sum.inl i = k := e1
      have e2' : u = Value.int j t := e2
      subst e1' e2'
      cases hes : es.toList with
      | nil => rw [hes] at hp; cases hp
      | cons e1 t1 =>
        rw [hes] at hp
        cases hp with
        | cons p1 p3 p2 =>
          cases p2
          have p1' : keyIs (Sum.inl i) e1.key = true := p1
          rcases keyIs_shape p1' with ⟨i2, t2, w1, w2⟩ | ⟨x2, t2, w1, w2⟩
          · cases w1
            have p3' : e1.val = Value.int j t := p3
            refine ⟨_, Reads.dict (kvs := [(.int i, .int j)]) ho hx.1 hd (as := [] ++ []) (bs := [] ++ []) ?_ ?_, ?_⟩
            · rw [hes]
              show ReadsAll s.heap [e1.key] [PyData.int i] ([] ++ [])
              rw [w2]
              exact ReadsAll.cons (Reads.int i t2) ReadsAll.nil
            · rw [hes]
              show ReadsAll s.heap [e1.val] [PyData.int j] ([] ++ [])
              rw [p3']
              exact ReadsAll.cons (Reads.int j t) ReadsAll.nil
            · simpa using ne
          · cases w1
theorem flAll_reads (I : L2.Inv X pins σ H s) : ∀ {vs : List V} {ds : List PyData} {us : List Value}, FlAll H vs ds → Vals vs us → ∃ as, ReadsAll s.heap us ds as ∧ sysModules ∉ as
  | _, _, _, .nil, .nil => ⟨_, ReadsAll.nil, by simp⟩
  | _, _, _, .cons h1 h2, .cons r1 r2 => by
    obtain ⟨as, q1, n1⟩ := fl_reads I h1 r1
    obtain ⟨bs, q2, n2⟩ := flAll_reads I h2 r2
    refine ⟨_, ReadsAll.cons q1 q2, ?_⟩
    intro z
    rcases List.mem_append.mp z with z | z
    · exact n1 z
    · exact n2 z
theorem dx_reads (I : L2.Inv X pins σ H s) {v : V} {d : PyData} {u : Value} (h : Dx X.K H v d) (r : RelV v u) :
    ∃ as, Reads s.heap u d as ∧ (d.hasDict = true → sysModules ∉ as) := by
  cases h with
  | dp h =>
    obtain ⟨as, q⟩ := Dp.reads I d v u h r
    refine ⟨as, q, fun z => ?_⟩
    rw [dp_nodict d v h] at z
    cases z
  | fl h =>
    obtain ⟨as, q, n⟩ := fl_reads I h r
    exact ⟨as, q, fun _ => n⟩
  | @lst a xs ds e ne h =>
    cases r
    obtain ⟨its, rv, ⟨o, n, ho, hc, _, hd⟩, _⟩ := I.list (a := a) (xs := xs) (SqL.of e)
    obtain ⟨as, q, nn⟩ := flAll_reads I h rv
    refine ⟨_, Reads.list ho hc hd q, fun _ z => ?_⟩
    rcases List.mem_cons.mp z with z | z
    · exact ne z.symm
    · exact nn z
end

section
variable {X : Cx}
/-- repr(x) where the guards are none -/
theorem cr_repr (gs : X.A.guards = some []) (hu : X.A.units + 64 < cLine) : CallR X (.builtin "repr") (fun xs H Q => ∃ v d, xs = [v] ∧ Dx X.K H v d ∧
    d.showable = true ∧ d.depth ≤ 40 ∧ d.shown.length ≤ sizeLine ∧ Q (.str d.shown) H) := by
  intro pins s σ H xs us Q I r h
  obtain ⟨v, d, rfl, hd, sh, dep, len, q⟩ := h
  cases r with
  | @cons _ u _ _ r1 r2 =>
    cases r2
    obtain ⟨as, rd, ns⟩ := dx_reads I hd r1
    have fin : ∀ (h' : Heap) (tk u' : Nat), (∀ b o, s.heap.get? b = some o → h'.get? b = some o) → EP X pins σ Q (.str d.shown u') { s with heap := h', toks := tk } :=
      fun h' tk u' k => ⟨.str d.shown, H, I.un (t' := tk) (Un.kept k) (I.hok.kept k), ⟨_, rfl⟩, q⟩
    cases u with
    | ref a => exact repr_of_reads' rd sh ns gs (by omega) (fun _ _ z => z) (fun h' u tk k => fin h' tk u k) len
    | none => cases rd; exact PySem.P.repr_of_none (fin s.heap _ _ fun _ _ z => z)
    | bool b => cases rd; exact PySem.P.repr_of_bool (fin s.heap _ _ fun _ _ z => z)
    | int i t => cases rd; exact PySem.P.repr_of_int (by simpa [PyData.showable] using sh) (fin s.heap _ _ fun _ _ z => z)
    | str x t => cases rd; exact PySem.P.repr_of_str (fin s.heap _ _ fun _ _ z => z) len
    | _ => cases rd
end
end Par
namespace Par
open PySem PySem.Spec PyProof.Rows L2
/-! ### data stays data -/
theorem sqL_same {K : PySem.W.Frag} {H H' : Hp} {a : Addr} {xs : List V} (s : Same H H') (h : SqL K H a xs) : SqL K H' a xs := s.seq h
theorem sqT_same {K : PySem.W.Frag} {H H' : Hp} {a : Addr} {xs : List V} (s : Same H H') (h : SqT K H a xs) : SqT K H' a xs := by
  rcases h with (h | ⟨o, h⟩) | h
  · exact .inl (.inl (s _ _ h))
  · exact .inl (.inr ⟨o, s _ _ h⟩)
  · exact .inr h
mutual
theorem dp_same {K : PySem.W.Frag} {H H' : Hp} (s : Same H H') : ∀ (d : PyData) (v : V), Dp K H v d → Dp K H' v d
  | .none, _, h => by cases h; exact .non
  | .bool b, _, h => by cases h; exact .bl b
  | .int i, _, h => by cases h; exact .int i
  | .str x, _, h => by cases h; exact .str x
  | .list ds, _, h => by
    cases h with
    | lst q ha => exact .lst (sqL_same s q) (dps_same s ds _ ha)
  | .tuple ds, _, h => by
    cases h with
    | tup q ha => exact .tup (sqT_same s q) (dps_same s ds _ ha)
  | .dict _, _, h => by cases h
theorem dps_same {K : PySem.W.Frag} {H H' : Hp} (s : Same H H') : ∀ (ds : List PyData) (vs : List V), DpAll K H vs ds → DpAll K H' vs ds
  | [], _, h => by cases h; exact .nil
  | d :: ds, _, h => by
    cases h with
    | cons h1 h2 => exact .cons (dp_same s d _ h1) (dps_same s ds _ h2)
end
theorem fl_same {H H' : Hp} (s : Same H H') {v : V} {d : PyData} (h : Fl H v d) : Fl H' v d := by
  cases h with
  | non => exact .non
  | bl b => exact .bl b
  | int i => exact .int i
  | str x => exact .str x
  | dic0 e => exact .dic0 (s _ _ e)
  | dic1 e => exact .dic1 (s _ _ e)
/-- a thing that is handed in: flat, a dict, or a list or tuple of data -/
inductive Giv (K : PySem.W.Frag) (H : Hp) : V → PyData → Prop
  | fl {v : V} {d : PyData} : Fl H v d → Giv K H v d
  | lst {a : Addr} {xs : List V} {ds : List PyData} : H a = some (.lst xs) → DpAll K H xs ds → xs.length ≤ 200 → Giv K H (.ref a) (.list ds)
  | tup {a : Addr} {xs : List V} {ds : List PyData} : H a = some (.tup xs) → DpAll K H xs ds → xs.length ≤ 200 → Giv K H (.ref a) (.tuple ds)
theorem giv_same {K : PySem.W.Frag} {H H' : Hp} (s : Same H H') {v : V} {d : PyData} (h : Giv K H v d) : Giv K H' v d := by
  cases h with
  | fl f => exact .fl (fl_same s f)
  | lst e q l => exact .lst (s _ _ e) (dps_same s _ _ q) l
  | tup e q l => exact .tup (s _ _ e) (dps_same s _ _ q) l
theorem giv_dx {K : PySem.W.Frag} {H : Hp} {v : V} {d : PyData} (h : Giv K H v d) : Dx K H v d := by
  cases h with
  | fl f => exact .fl f
  | lst e q _ => exact .dp (.lst (SqL.of e) q)
  | tup e q _ => exact .dp (.tup (SqT.of e) q)
theorem dps_ints {K : PySem.W.Frag} {H : Hp} : ∀ ns : List Int, DpAll K H (ns.map V.int) (ns.map PyData.int)
  | [] => .nil
  | n :: ns => .cons (.int n) (dps_ints ns)
theorem dps_bools {K : PySem.W.Frag} {H : Hp} : ∀ bs : List Bool, DpAll K H (bs.map V.bl) (bs.map PyData.bool)
  | [] => .nil
  | n :: ns => .cons (.bl n) (dps_bools ns)
theorem dps_append {K : PySem.W.Frag} {H : Hp} : ∀ {xs ys : List V} {ds es : List PyData}, DpAll K H xs ds → DpAll K H ys es → DpAll K H (xs ++ ys) (ds ++ es)
  | _, _, _, _, .nil, h => h
  | _, _, _, _, .cons h1 h2, h => .cons h1 (dps_append h2 h)

/-! ### what is shown is short -/
def small (d : PyData) : Prop := d.showable = true ∧ d.depth ≤ 4 ∧ d.shown.length ≤ 200
def good (d : PyData) : Prop := d.showable = true ∧ d.depth ≤ 8 ∧ d.shown.length ≤ 200000
theorem log_lt {n k : Nat} (h : n < 2 ^ k) (hk : 0 < k) : n.log2 < k := by
  by_cases h0 : n = 0
  · subst h0
    exact hk
  · exact (Nat.log2_lt h0).mpr h
theorem small_int {i : Int} (h : i.natAbs < 2 ^ 100) : small (.int i) := by
  have h1 := log_lt h (by decide)
  refine ⟨?_, Nat.zero_le _, ?_⟩
  · show decide (i.natAbs.log2 < 1920) = true
    exact decide_eq_true (by omega)
  · show (Str.ofString (toString i)).length ≤ 200
    have h2 := int_text_length_le (a := i) (k := 100) (by decide) h1
    rw [PySem.ofString_length]
    omega
theorem small_bool (b : Bool) : small (.bool b) := by cases b <;> exact ⟨by decide, by decide, by decide +kernel⟩
theorem small_good {d : PyData} (h : small d) : good d := ⟨h.1, by have := h.2.1; omega, by have := h.2.2; omega⟩
theorem showAll {ds : List PyData} : (∀ d ∈ ds, d.showable = true) → PyData.showableAll ds = true := by
  induction ds with
  | nil => intro _; rfl
  | cons d ds ih =>
    intro h
    show (d.showable && PyData.showableAll ds) = true
    rw [h d (List.mem_cons_self ..), ih fun e he => h e (List.mem_cons_of_mem _ he)]
    rfl
theorem depthAll {ds : List PyData} {n : Nat} : (∀ d ∈ ds, d.depth ≤ n) → PyData.depthAll ds ≤ n := by
  induction ds with
  | nil => intro _; exact Nat.zero_le _
  | cons d ds ih =>
    intro h
    show max d.depth (PyData.depthAll ds) ≤ n
    have h1 := h d (List.mem_cons_self ..)
    have h2 := ih fun e he => h e (List.mem_cons_of_mem _ he)
    omega
theorem piledAll {ds : List PyData} {n : Nat} : (∀ d ∈ ds, d.shown.length ≤ n) → piled (PyData.shownAll ds) ≤ ds.length * (n + 2) := by
  induction ds with
  | nil => intro _; show 0 ≤ _; exact Nat.zero_le _
  | cons d ds ih =>
    intro h
    show piled (d.shown :: PyData.shownAll ds) ≤ _
    rw [piled_cons, List.length_cons, Nat.add_mul]
    have h1 := h d (List.mem_cons_self ..)
    have h2 := ih fun e he => h e (List.mem_cons_of_mem _ he)
    omega
theorem listText_le : ∀ ts : List Str, (listText ts).length ≤ piled ts + 2
  | [] => by
    rw [listText_nil]
    show Str.length (Str.ofString "[]") ≤ 2
    decide +kernel
  | t :: ts => by
    have h := textFrom_length_pos ts 1 (Str.ofString "[" ++ Str.ofString "" ++ t) (by decide)
    have e1 : (Str.ofString "[" ++ Str.ofString "" ++ t).length = 1 + t.length := by
      rw [strLen_append, strLen_append]
      rfl
    have e2 : (listText (t :: ts)).length = (textFrom 1 (Str.ofString "[" ++ Str.ofString "" ++ t) ts).length + 1 := strLen_append _ _
    rw [e2, h, e1, piled_cons]
    omega
theorem tupleText_le (ts : List Str) : (tupleText ts).length ≤ piled ts + 4 := by
  have e1 : (Str.ofString "(").length = 1 := by decide +kernel
  have e3 : (Str.ofString (if ts.length == 1 then ",)" else ")")).length ≤ 2 := by split <;> decide +kernel
  have e4 : (tupleText ts).length = (Str.ofString "(").length + (Str.join ", " ts).length + (Str.ofString (if ts.length == 1 then ",)" else ")")).length := by
    unfold tupleText
    rw [strLen_append, strLen_append]
  by_cases h : ts = []
  · subst h
    decide +kernel
  · have := join_length_add ts h
    omega
theorem good_list {ds : List PyData} (h : ∀ d ∈ ds, small d) (hl : ds.length ≤ 300) : good (.list ds) := by
  refine ⟨showAll fun d hd => (h d hd).1, ?_, ?_⟩
  · show PyData.depthAll ds + 1 ≤ 8
    have := depthAll (n := 4) fun d hd => (h d hd).2.1
    omega
  · show (listText (PyData.shownAll ds)).length ≤ 200000
    have h1 := listText_le (PyData.shownAll ds)
    have h2 := piledAll (n := 200) fun d hd => (h d hd).2.2
    have h3 : ds.length * (200 + 2) ≤ 300 * (200 + 2) := Nat.mul_le_mul_right _ hl
    omega
theorem good_tuple {ds : List PyData} (h : ∀ d ∈ ds, small d) (hl : ds.length ≤ 300) : good (.tuple ds) := by
  refine ⟨showAll fun d hd => (h d hd).1, ?_, ?_⟩
  · show PyData.depthAll ds + 1 ≤ 8
    have := depthAll (n := 4) fun d hd => (h d hd).2.1
    omega
  · show (tupleText (PyData.shownAll ds)).length ≤ 200000
    have h1 := tupleText_le (PyData.shownAll ds)
    have h2 := piledAll (n := 200) fun d hd => (h d hd).2.2
    have h3 : ds.length * (200 + 2) ≤ 300 * (200 + 2) := Nat.mul_le_mul_right _ hl
    omega
/-- a short list of good things can be shown -/
theorem shown_list {ds : List PyData} (h : ∀ d ∈ ds, good d) (hl : ds.length ≤ 8) : (PyData.list ds).showable = true ∧ (PyData.list ds).depth ≤ 40 ∧ (PyData.list ds).shown.length ≤ sizeLine := by
  refine ⟨showAll fun d hd => (h d hd).1, ?_, ?_⟩
  · show PyData.depthAll ds + 1 ≤ 40
    have := depthAll (n := 8) fun d hd => (h d hd).2.1
    omega
  · show (listText (PyData.shownAll ds)).length ≤ sizeLine
    have h1 := listText_le (PyData.shownAll ds)
    have h2 := piledAll (n := 200000) fun d hd => (h d hd).2.2
    have h3 : ds.length * (200000 + 2) ≤ 8 * (200000 + 2) := Nat.mul_le_mul_right _ hl
    rw [sizeLine_eq]
    omega
theorem shown_good {d : PyData} (h : good d) : d.showable = true ∧ d.depth ≤ 40 ∧ d.shown.length ≤ sizeLine := by
  obtain ⟨h1, h2, h3⟩ := h
  refine ⟨h1, by omega, ?_⟩
  rw [sizeLine_eq]
  omega
end Par
namespace Par
open PySem PySem.Spec PyProof.Rows L2
/-! ### repr of data in which dicts with one text as a key may stand -/
/-- a flat thing, a dict with one text as a key -/
inductive Sx (H : Hp) : V → PyData → Prop
  | fl {v : V} {d : PyData} : Fl H v d → Sx H v d
  | dicS {a : Addr} {x : Str} {j : Int} : H a = some (.dK [(Sum.inr x, .int j)]) → Sx H (.ref a) (.dict [(.str x, .int j)])
inductive SxAll (H : Hp) : List V → List PyData → Prop
  | nil : SxAll H [] []
  | cons {v : V} {vs : List V} {d : PyData} {ds : List PyData} : Sx H v d → SxAll H vs ds → SxAll H (v :: vs) (d :: ds)
/-- data without a dict, a flat thing, a tuple of flat things -/
inductive Da (K : PySem.W.Frag) (H : Hp) : V → PyData → Prop
  | dp {v : V} {d : PyData} : Dp K H v d → Da K H v d
  | sx {v : V} {d : PyData} : Sx H v d → Da K H v d
  | tup {a : Addr} {xs : List V} {ds : List PyData} : H a = some (.tup xs) → SxAll H xs ds → Da K H (.ref a) (.tuple ds)
theorem sx_same {H H' : Hp} (s : Same H H') {v : V} {d : PyData} (h : Sx H v d) : Sx H' v d := by
  cases h with
  | fl f => exact .fl (fl_same s f)
  | dicS e => exact .dicS (s _ _ e)
theorem sxAll_same {H H' : Hp} (s : Same H H') : ∀ {vs : List V} {ds : List PyData}, SxAll H vs ds → SxAll H' vs ds
  | _, _, .nil => .nil
  | _, _, .cons h1 h2 => .cons (sx_same s h1) (sxAll_same s h2)
theorem da_same {K : PySem.W.Frag} {H H' : Hp} (s : Same H H') {v : V} {d : PyData} (h : Da K H v d) : Da K H' v d := by
  cases h with
  | dp h => exact .dp (dp_same s _ _ h)
  | sx h => exact .sx (sx_same s h)
  | tup e h => exact .tup (s _ _ e) (sxAll_same s h)
theorem sxAll_append {H : Hp} : ∀ {xs ys : List V} {ds es : List PyData}, SxAll H xs ds → SxAll H ys es → SxAll H (xs ++ ys) (ds ++ es)
  | _, _, _, _, .nil, h => h
  | _, _, _, _, .cons h1 h2, h => .cons h1 (sxAll_append h2 h)
section
variable {X : Cx} {pins : List (Addr × Obj)} {σ : L2.St} {H : Hp} {s : Shared}
theorem sx_reads (I : Inv X pins σ H s) {v : V} {d : PyData} {u : Value} (h : Sx H v d) (r : RelV v u) : ∃ as, Reads s.heap u d as ∧ sysModules ∉ as := by
  cases h with
  | fl f => exact fl_reads I f r
  | @dicS a x j e =>
    cases r
    obtain ⟨_, ns, vs, kv, o, es, ep, ho, hx, hd, hk, hp, _⟩ := dk_of I.hok e
    have ne : sysModules ≠ a := fun z => by rw [← z] at ns; exact absurd ns (by decide)
    cases kv with
    | @cons _ q _ _ k1 k2 =>
      cases k2
      obtain ⟨k, u⟩ := q
      obtain ⟨e1, t, e2⟩ := k1
      have e1' : Sum.inr x = k := e1
      have e2' : u = Value.int j t := e2
      subst e1' e2'
      cases hes : es.toList with
      | nil => rw [hes] at hp; cases hp
      | cons e1 t1 =>
        rw [hes] at hp
        cases hp with
        | cons p1 p3 p2 =>
          cases p2
          have p1' : keyIs (Sum.inr x) e1.key = true := p1
          rcases keyIs_shape p1' with ⟨i2, t2, w1, w2⟩ | ⟨x2, t2, w1, w2⟩
          · cases w1
          · cases w1
            have p3' : e1.val = Value.int j t := p3
            refine ⟨_, Reads.dict (kvs := [(.str x, .int j)]) ho hx.1 hd (as := [] ++ []) (bs := [] ++ []) ?_ ?_, ?_⟩
            · rw [hes]
              show ReadsAll s.heap [e1.key] [PyData.str x] ([] ++ [])
              rw [w2]
              exact ReadsAll.cons (Reads.str x t2) ReadsAll.nil
            · rw [hes]
              show ReadsAll s.heap [e1.val] [PyData.int j] ([] ++ [])
              rw [p3']
              exact ReadsAll.cons (Reads.int j t) ReadsAll.nil
            · simpa using ne
theorem sxAll_reads (I : Inv X pins σ H s) : ∀ {vs : List V} {ds : List PyData} {us : List Value}, SxAll H vs ds → Vals vs us → ∃ as, ReadsAll s.heap us ds as ∧ sysModules ∉ as
  | _, _, _, .nil, .nil => ⟨_, ReadsAll.nil, by simp⟩
  | _, _, _, .cons h1 h2, .cons r1 r2 => by
    obtain ⟨as, q1, n1⟩ := sx_reads I h1 r1
    obtain ⟨bs, q2, n2⟩ := sxAll_reads I h2 r2
    refine ⟨_, ReadsAll.cons q1 q2, ?_⟩
    intro z
    rcases List.mem_append.mp z with z | z
    · exact n1 z
    · exact n2 z
theorem da_reads (I : L2.Inv X pins σ H s) {v : V} {d : PyData} {u : Value} (h : Da X.K H v d) (r : RelV v u) :
    ∃ as, Reads s.heap u d as ∧ (d.hasDict = true → sysModules ∉ as) := by
  cases h with
  | dp h =>
    obtain ⟨as, q⟩ := Dp.reads I d v u h r
    refine ⟨as, q, fun z => ?_⟩
    rw [dp_nodict d v h] at z
    cases z
  | sx h =>
    obtain ⟨as, q, n⟩ := sx_reads I h r
    exact ⟨as, q, fun _ => n⟩
  | @tup a xs ds e h =>
    cases r
    obtain ⟨its, rv, ⟨o, ho, hc, n, hd⟩, _⟩ := I.tuple (a := a) (xs := xs) (SqT.of e)
    obtain ⟨as, q, nn⟩ := sxAll_reads I h rv
    exact ⟨_, Reads.tuple ho hc hd q, fun _ => nn⟩
end
section
variable {X : Cx}
theorem cr_reprA (gs : X.A.guards = some []) (hu : X.A.units + 64 < cLine) : CallR X (.builtin "repr") (fun xs H Q => ∃ v d, xs = [v] ∧ Da X.K H v d ∧
    d.showable = true ∧ d.depth ≤ 40 ∧ d.shown.length ≤ sizeLine ∧ Q (.str d.shown) H) := by
  intro pins s σ H xs us Q I r h
  obtain ⟨v, d, rfl, hd, sh, dep, len, q⟩ := h
  cases r with
  | @cons _ u _ _ r1 r2 =>
    cases r2
    obtain ⟨as, rd, ns⟩ := da_reads I hd r1
    have fin : ∀ (h' : Heap) (tk u' : Nat), (∀ b o, s.heap.get? b = some o → h'.get? b = some o) → EP X pins σ Q (.str d.shown u') { s with heap := h', toks := tk } :=
      fun h' tk u' k => ⟨.str d.shown, H, I.un (t' := tk) (Un.kept k) (I.hok.kept k), ⟨_, rfl⟩, q⟩
    cases u with
    | ref a => exact repr_of_reads' rd sh ns gs (by omega) (fun _ _ z => z) (fun h' u tk k => fin h' tk u k) len
    | none => cases rd; exact PySem.P.repr_of_none (fin s.heap _ _ fun _ _ z => z)
    | bool b => cases rd; exact PySem.P.repr_of_bool (fin s.heap _ _ fun _ _ z => z)
    | int i t => cases rd; exact PySem.P.repr_of_int (by simpa [PyData.showable] using sh) (fin s.heap _ _ fun _ _ z => z)
    | str x t => cases rd; exact PySem.P.repr_of_str (fin s.heap _ _ fun _ _ z => z) len
    | _ => cases rd
end
/-! ### what is shown is plain, where what is shown of is -/
def Low (t : Str) : Prop := ∀ c ∈ t.cps.toList, c < 128
theorem Low.append {a b : Str} (ha : Low a) (hb : Low b) : Low (a ++ b) := by
  intro c hc
  rw [PySem.Str.cps_append, Array.toList_append] at hc
  rcases List.mem_append.mp hc with h | h
  · exact ha c h
  · exact hb c h
theorem low_char : ∀ c, c < 128 → ∀ q ∈ [34, 39], ∀ x ∈ Builtin.Str.reprChar q c, x < 128 := by
  have h : ∀ c : Fin 128, ∀ q ∈ [34, 39], ∀ x ∈ Builtin.Str.reprChar q c.val, x < 128 := by decide +kernel
  exact fun c hc => h ⟨c, hc⟩
theorem low_fold (q : Nat) (hq : q ∈ [34, 39]) : ∀ (l : List Nat) (acc : Array Nat), (∀ c ∈ l, c < 128) → (∀ c ∈ acc.toList, c < 128) → ∀ c ∈ (l.foldl (fun out c => out ++ (Builtin.Str.reprChar q c).toArray) acc).toList, c < 128
  | [], acc, _, h => h
  | c :: r, acc, hl, h => by
    refine low_fold q hq r _ (fun d hd => hl d (List.mem_cons_of_mem _ hd)) fun d hd => ?_
    rw [Array.toList_append] at hd
    rcases List.mem_append.mp hd with z | z
    · exact h d z
    · exact low_char c (hl c (List.mem_cons_self ..)) q hq d z
theorem low_repr {x : Str} (h : Low x) : Low (reprText x) := by
  have hq : reprQuote x ∈ [34, 39] := by
    unfold reprQuote
    split <;> decide
  have hq2 : reprQuote x < 128 := by
    simp only [List.mem_cons, List.not_mem_nil, or_false] at hq
    omega
  unfold reprText
  intro c hc
  have hc2 : c ∈ ((x.cps.foldl (fun out c => out ++ (Builtin.Str.reprChar (reprQuote x) c).toArray) #[reprQuote x]).push (reprQuote x)).toList := hc
  rw [Array.toList_push, ← Array.foldl_toList] at hc2
  rcases List.mem_append.mp hc2 with z | z
  · refine low_fold _ hq x.cps.toList _ h (fun d hd => ?_) c z
    rw [show d = reprQuote x by simpa using hd]
    exact hq2
  · rw [show c = reprQuote x by simpa using z]
    exact hq2
theorem low_textFrom : ∀ (ts : List Str) (k : Nat) (acc : Str), Low acc → (∀ t ∈ ts, Low t) → Low (textFrom k acc ts)
  | [], _, _, h, _ => h
  | t :: ts, k, acc, h, ht => by
    refine low_textFrom ts (k + 1) _ (.append (.append h ?_) (ht t (List.mem_cons_self ..))) fun u hu => ht u (List.mem_cons_of_mem _ hu)
    split <;> (intro c hc; revert c hc; decide +kernel)
theorem low_join : ∀ (ts : List Str), (∀ t ∈ ts, Low t) → Low (Str.join ", " ts)
  | [], _ => by intro c hc; cases hc
  | [t], h => h t (List.mem_cons_self ..)
  | t :: u :: ts, h => by
    have ih := low_join (u :: ts) fun v hv => h v (List.mem_cons_of_mem _ hv)
    have e : Str.join ", " (t :: u :: ts) = t ++ ", " ++ Str.join ", " (u :: ts) := rfl
    rw [e]
    exact .append (.append (h t (List.mem_cons_self ..)) (by intro c hc; revert c hc; decide +kernel)) ih
def plain : PyData → Prop
  | .str x => Low x
  | .list _ | .tuple _ | .dict _ => False
  | _ => True
theorem low_int (i : Int) : Low (PyData.int i).shown := by
  intro c hc
  refine Decidable.byContradiction fun n => ?_
  exact shown_int_free' (k := c) ⟨by omega, by omega⟩ i hc
theorem low_plain {d : PyData} (h : plain d) : Low d.shown := by
  cases d with
  | none => intro c hc; revert c hc; decide +kernel
  | bool b => cases b <;> (intro c hc; revert c hc; decide +kernel)
  | int i => exact low_int i
  | str x => exact low_repr h
  | list _ => exact h.elim
  | tuple _ => exact h.elim
  | dict _ => exact h.elim
theorem low_all : ∀ {ds : List PyData}, (∀ d ∈ ds, Low d.shown) → ∀ t ∈ PyData.shownAll ds, Low t
  | [], _, t, ht => nomatch ht
  | d :: ds, h, t, ht => by
    rcases List.mem_cons.mp ht with e | e
    · rw [e]
      exact h d (List.mem_cons_self ..)
    · exact low_all (fun x hx => h x (List.mem_cons_of_mem _ hx)) t e
theorem low_list {ds : List PyData} (h : ∀ d ∈ ds, Low d.shown) : Low (PyData.list ds).shown :=
  .append (low_textFrom _ _ _ (by intro c hc; revert c hc; decide +kernel) (low_all h)) (by intro c hc; revert c hc; decide +kernel)
theorem low_tuple {ds : List PyData} (h : ∀ d ∈ ds, Low d.shown) : Low (PyData.tuple ds).shown := by
  refine .append (.append (by intro c hc; revert c hc; decide +kernel) (low_join _ (low_all h))) ?_
  split <;> (intro c hc; revert c hc; decide +kernel)
theorem low_len {x : Str} (h : Low x) : (reprText x).length ≤ 10 * x.length + 2 := StrLaws.reprText_len x fun c hc => by
  have := h c hc
  omega
section
variable {X : Cx}
/-- x == y of data without dicts, whatever the texts in it -/
def rEqP (K : PySem.W.Frag) : R2 := fun x y H Q => ∃ d e, Dp K H x d ∧ Dp K H y e ∧ d.plain = true ∧ e.plain = true ∧ min d.depth e.depth ≤ 64 ∧ Q (.bl (PyData.eqv d e)) H
theorem op_eqP (hu : X.A.units + 64 < cLine) : OpR X (compareOp .Eq) (rEqP X.K) := by
  intro pins s σ H x y v u Q I rx ry h
  obtain ⟨d, e, hd, he, sd, se, hm, q⟩ := h
  obtain ⟨as, r1⟩ := Dp.reads I d x v hd rx
  obtain ⟨bs, r2⟩ := Dp.reads I e y u he ry
  exact SeqAt.eq_plain r1 r2 sd se (by omega) ⟨.bl _, H, I, rfl, q⟩
end
end Par
namespace Par
open PySem PySem.Spec PyProof.Rows L2

/-! ### how many distinct items there are -/
theorem nodup_le : ∀ {L M : List Int}, L.Nodup → (∀ k ∈ L, k ∈ M) → L.length ≤ M.length
  | [], M, _, _ => Nat.zero_le _
  | a :: L, M, hn, hs => by
    have ha : a ∈ M := hs a (List.mem_cons_self ..)
    have h1 := nodup_le (L := L) (M := M.erase a) (List.nodup_cons.mp hn).2 (fun k hk => by
      have hka : k ≠ a := fun e => (List.nodup_cons.mp hn).1 (e ▸ hk)
      exact (List.mem_erase_of_ne hka).mpr (hs k (List.mem_cons_of_mem _ hk)))
    have h2 := List.length_erase_of_mem ha
    have h3 : 0 < M.length := List.length_pos_of_mem ha
    show L.length + 1 ≤ M.length
    omega
theorem nodup_lt : ∀ {M L : List Int}, L.Nodup → (∀ k ∈ L, k ∈ M) → ¬ M.Nodup → L.length < M.length
  | [], _, _, _, h => absurd List.nodup_nil h
  | a :: M, L, hn, hs, hM => by
    by_cases ha : a ∈ M
    · have h := nodup_le (L := L) (M := M) hn (fun k hk => by
        rcases List.mem_cons.mp (hs k hk) with e | e
        · exact e ▸ ha
        · exact e)
      show L.length < M.length + 1
      omega
    · have hM' : ¬ M.Nodup := fun z => hM (List.nodup_cons.mpr ⟨ha, z⟩)
      have h := nodup_lt (M := M) (L := L.erase a) (hn.erase a) (fun k hk => by
        have hk2 := (hn.mem_erase_iff).mp hk
        rcases List.mem_cons.mp (hs k hk2.2) with e | e
        · exact absurd e hk2.1
        · exact e) hM'
      have h2 : L.length ≤ (L.erase a).length + 1 := by
        by_cases hL : a ∈ L
        · have := List.length_erase_of_mem hL
          omega
        · rw [List.erase_of_not_mem hL]
          omega
      show L.length < M.length + 1
      omega
theorem distinct_iff {L M : List Int} (hn : L.Nodup) (hs : ∀ k, k ∈ L ↔ k ∈ M) : L.length ≤ M.length ∧ (L.length = M.length ↔ M.Nodup) := by
  have h1 := nodup_le hn (fun k hk => (hs k).mp hk)
  refine ⟨h1, fun e => ?_, fun e => ?_⟩
  · by_cases h : M.Nodup
    · exact h
    · have := nodup_lt hn (fun k hk => (hs k).mp hk) h
      omega
  · have := nodup_le e (fun k hk => (hs k).mpr hk)
    omega
theorem firstMet_nodup2 (val : Nat → Int) : ∀ i, (firstMet val i).Nodup
  | 0 => List.nodup_nil
  | i + 1 => by
    rw [firstMet_succ]
    have ih := firstMet_nodup2 val i
    unfold step_dedup
    split
    · exact ih
    · rename_i h
      refine List.nodup_append.mpr ⟨ih, by simp, ?_⟩
      intro a ha b hb e
      have hb' : b = val i := by simpa using hb
      apply h
      rw [List.any_eq_true]
      exact ⟨a, ha, by simp [e, hb']⟩
theorem firstMet_mem (ns : List Int) (k : Int) : k ∈ firstMet (fun i => ns.getD i 0) ns.length ↔ k ∈ ns := by
  have h := firstMet_any (fun i => ns.getD i 0) ns.length k
  have e : (List.range ns.length).map (fun i => ns.getD i 0) = ns := by
    refine List.ext_getElem (by simp) (fun i h1 h2 => ?_)
    simp [List.getD_eq_getElem?_getD, List.getElem?_eq_getElem h2]
  rw [e] at h
  constructor
  · intro z
    have y : (firstMet (fun i => ns.getD i 0) ns.length).any (· == k) = true := List.any_eq_true.mpr ⟨k, z, by simp⟩
    rw [h] at y
    obtain ⟨x, hx, ex⟩ := List.any_eq_true.mp y
    have : x = k := by simpa using ex
    exact this ▸ hx
  · intro z
    have y : ns.any (· == k) = true := List.any_eq_true.mpr ⟨k, z, by simp⟩
    rw [← h] at y
    obtain ⟨x, hx, ex⟩ := List.any_eq_true.mp y
    have : x = k := by simpa using ex
    exact this ▸ hx

/-- len(set(x)), x a list or tuple of ints -/
def tLenSetQ (K : PySem.W.Frag) (ta : TE) : TE := fun σ H Q => ta σ H fun x H1 => ∃ (l : Addr) (ns : List Int), x = .ref l ∧
  (SqL K H1 l (ns.map V.int) ∨ SqT K H1 l (ns.map V.int)) ∧ ns.length ≤ 4000 ∧
  ∀ c : Nat, c ≤ ns.length → (c = ns.length ↔ ns.Nodup) → Q (.int (c : Nat)) H1
theorem numbers_of : ∀ {ns : List Int} {us : List Value}, Vals (ns.map V.int) us → IntsAre us ns
  | [], _, h => by
    cases h
    exact .nil
  | n :: ns, _, h => by
    cases h with
    | cons r t =>
      obtain ⟨tk, rfl⟩ := r
      exact .cons n tk (numbers_of t)
theorem pe_lenSetQ {X : Cx} {a : Expr} {ta : TE} {p p2 q pos : Pos} (hg : Gl X "len") (hm : X.mg "len" = none) (hg2 : Gl X "set") (hm2 : X.mg "set" = none) (ha : PE X a ta)
    (hc : X.calm = true := by rfl) (na : starEach [a] X.env = (false, eval a X.env) :: starEach [] X.env := by rfl) :
    PE X (.Call (.Name "len" p) [.Call (.Name "set" p2) [a] [] q] [] pos) (tLenSetQ X.K ta) := by
  constructor
  intro pins s σ H Q I h
  refine Call_ (ld_blt I hg hm boot_len ?_)
  refine PyProof.Rows.callWith_builtin1 (PyProof.Rows.args_cons (Call_ (ld_blt I hg2 hm2 boot_set ?_)) rfl) rfl rfl
  refine PyProof.Rows.callWith_type1 (PyProof.Rows.args_cons (thn (ha.run pins s σ H _ I h) ?_) na) na rfl
  rintro v s1 ⟨x, H1, I1, r1, l, ns, rfl, hq, hl, q1⟩
  refine PyProof.Rows.args_nil ?_
  cases r1
  rcases hq with hq | hq
  · obtain ⟨its, r, plain, hz⟩ := I1.list hq
    have hlen : its.toArray.size = ns.length := by
      rw [List.size_toArray, ← r.length]
      exact List.length_map ..
    refine call_set_list (I1.ok.hd hc) plain.isList (by simpa using numbers_of r) (by rw [hlen]; unfold scanBound; omega) ?_
    intro h' tk hS hk
    refine PyProof.Rows.args_nil ?_
    rw [hlen] at hS
    obtain ⟨o, es, ep, t, ho, hex, hd, _, _, _, hf, hn⟩ := hS
    have I2 : L2.Inv X pins σ H1 { s1 with heap := h', toks := tk } := I1.kept fun b o e => hk b o (Heap.lt_size e) e
    obtain ⟨d1, d2⟩ := distinct_iff (firstMet_nodup2 (fun i => ns.getD i 0) ns.length) (fun k => firstMet_mem ns k)
    exact call_len_set ho hex hd hf (by rw [hn]; unfold sizeLine at *; omega) ⟨.int _, H1, I2.tok _, ⟨_, by rw [hn]⟩, q1 _ d1 d2⟩
  · obtain ⟨its, r, tup, hz⟩ := I1.tuple hq
    have hlen : its.toArray.size = ns.length := by
      rw [List.size_toArray, ← r.length]
      exact List.length_map ..
    refine L2.call_set_tupI ns (I1.ok.hd hc) tup (by simpa using numbers_of r) (by unfold scanBound; omega) ?_
    intro h' tk c hS hcn hk
    refine PyProof.Rows.args_nil ?_
    obtain ⟨o, es, ep, t, ho, hex, hd, _, nd, mem, _, hf, hn, _, _⟩ := hS
    have I2 : L2.Inv X pins σ H1 { s1 with heap := h', toks := tk } := I1.kept hk
    have hmem : ∀ k, k ∈ es.toList.map keyOf ↔ k ∈ ns := fun k => (mem k).symm.trans (by simp)
    obtain ⟨d1, d2⟩ := distinct_iff nd hmem
    have hc2 : (es.toList.map keyOf).length = c := by rw [List.length_map, Array.length_toList, hn]
    rw [hc2] at d1 d2
    exact call_len_set ho hex hd hf (by rw [hn]; omega) ⟨.int (c : Nat), H1, I2.tok _, ⟨_, by rw [hn]⟩, q1 c d1 d2⟩
end Par
namespace Par
open PySem PySem.Spec PyProof.Rows L2

/-! ### a loop that changes nothing -/
section
variable {M : Model} {A : Around} {E : Value → Shared → Prop} {s : Shared}
theorem wp_forSame {α β : Type} {b : β} {f : α → β → Sem (ForInStep β)} {Q : β → Shared → Prop} : ∀ (l : List α),
    (∀ a ∈ l, ∀ Q' : ForInStep β → Shared → Prop, Q' (.yield b) s → wpAny M A (f a b) Q' E s) → Q b s → wpAny M A (forIn l b f) Q E s
  | [], _, h => by
    rw [List.forIn_nil]
    exact wpAny_pure h
  | a :: l, hf, h => by
    rw [List.forIn_cons]
    refine wpAny_bind (hf a (List.mem_cons_self ..) _ ?_)
    exact wp_forSame l (fun x hx => hf x (List.mem_cons_of_mem _ hx)) h
end
section
variable {P : Program} {w : World} {A : Around} {E : Value → Shared → Prop} {s : Shared} {a f : Addr} {S Sf : Int → Bool} {n nf : Nat}
theorem quiet_sets {sets : List Addr} {Q : Bool → Shared → Prop} (hs : ∀ b ∈ sets, ∃ S n, SetR w s.heap b S n) (h : Q true s) :
    wpAny (model P w) A (setsQuiet sets) Q E s := by
  unfold setsQuiet
  refine wpAny_bind (wp_forSame sets (fun b hb Q' q => ?_) (wpAny_pure h))
  obtain ⟨S, n, o, es, ep, t, ho, hx, hd, g, _, _, _, hf, _⟩ := hs b hb
  refine wpAny_bind (wpAny_setEntries_of ho hd hf ?_)
  rw [← Array.forIn_toList]
  refine wpAny_bind (wp_forSame es.toList (fun e he Q2 q2 => ?_) (wpAny_pure q))
  obtain ⟨k, tk, h1, _⟩ := g e he
  obtain ⟨hh, x⟩ := e
  subst h1
  exact wpAny_pure q2
/-- what a walk that nobody sees gives -/
def Given (S : Int → Bool) (n : Nat) (l : Array (Int × Value)) : Prop :=
  (∀ e ∈ l.toList, GoodE e) ∧ (l.toList.map keyOf).Nodup ∧ (∀ k, S k = true ↔ k ∈ l.toList.map keyOf) ∧ l.size = n
theorem Given.perm {l l' : Array (Int × Value)} (g : Given S n l) (p : l'.toList.Perm l.toList) : Given S n l' :=
  ⟨fun e he => g.1 e (p.mem_iff.mp he), (p.map keyOf).nodup_iff.mpr g.2.1, fun k => (g.2.2.1 k).trans (p.map keyOf).mem_iff.symm, by
    rw [← Array.length_toList, p.length_eq, Array.length_toList]
    exact g.2.2.2⟩
theorem walk_unseen {others : List Addr} {Q : Array (Int × Value) → Shared → Prop} (R : SetR w s.heap a S n) (hs : ∀ b ∈ others, ∃ S n, SetR w s.heap b S n) (Rf : SetR w s.heap f Sf nf)
    (hQ : ∀ l h', Heap.SameBut f s.heap h' → SetR w h' f Sf nf → Given S n l → Q l { s with heap := h' }) :
    wpAny (model P w) A (setWalkUnseen a others (some f)) Q E s := by
  obtain ⟨o, es, ep, t, ho, hx, hd, g, nd, hm, hb, hf, hn, hr, hl⟩ := id R
  have gv : Given S n es := ⟨g, nd, hm, hn⟩
  have same : ∀ l, Given S n l → Q l s := fun l gl => hQ l s.heap (Heap.SameBut.refl f s.heap) Rf gl
  unfold setWalkUnseen
  refine wpAny_bind (wpAny_setState_of ho hd hf ?_)
  dsimp only
  refine wpAny_bind (wpAny_byText ?_)
  cases hbt : w.params.followText "set-order" with
  | true =>
    refine wp_if_pos (by simp) ?_
    unfold setWalk
    refine wpAny_bind (wpAny_setState_of ho hd hf ?_)
    dsimp only
    refine wpAny_bind (wpAny_byText ?_)
    refine wp_if_pos hbt ?_
    exact wpAny_bind (wpAny_askSetting (wpAny_pure (same _ (gv.perm (pick_perm _ es)))))
  | false =>
    have hled : t.led = true := hl.resolve_left (by rw [hbt]; exact Bool.false_ne_true)
    by_cases hc : (false || (t.led && t.plain) || decide (es.size ≤ 1)) = true
    · refine wp_if_pos hc ?_
      unfold setWalk
      refine wpAny_bind (wpAny_setState_of ho hd hf ?_)
      dsimp only
      refine wpAny_bind (wpAny_byText ?_)
      refine wp_if_neg (by rw [hbt]; exact Bool.false_ne_true) ?_
      try refine wpAny_bind (wpAny_pure ?_)
      refine wp_if_neg ?_ ?_
      · show ¬ ((!t.plain && decide (es.size > 1)) = true)
        intro z
        rw [Bool.and_eq_true, decide_eq_true_eq] at z
        rw [hled] at hc
        have hp : t.plain = false := by simpa using z.1
        rw [hp] at hc
        have : es.size ≤ 1 := by simpa using hc
        omega
      · try refine wpAny_bind (wpAny_pure ?_)
        refine wpAny_bind (wpAny_of_eq (a := ()) ?_ ?_)
        · show (if (!t.led && decide (es.size > 1)) = true then unsupported "set:maker-not-led" else pure ()) = pure ()
          rw [hled] <;> rfl
        · exact wpAny_pure (same es gv)
    · refine wp_if_neg hc ?_
      try refine wpAny_bind (wpAny_pure ?_)
      refine wpAny_bind (quiet_sets (fun b hb => ?_) ?_)
      · rcases List.mem_cons.mp hb with z | z
        · exact z ▸ ⟨S, n, R⟩
        · exact hs b z
      refine wp_if_neg (by simp) ?_
      try refine wpAny_bind (wpAny_pure ?_)
      refine wpAny_bind (wpAny_rule ?_)
      obtain ⟨o2, es2, ep2, t2, ho2, hx2, hd2, g2, nd2, hm2, hb2, hf2, hn2, hr2, hl2⟩ := id Rf
      refine wpAny_bind (wpAny_setState_of ho2 hd2 hf2 ?_)
      dsimp only
      split
      · refine wpAny_bind (wpAny_storeSet_of ho2 hd2 ?_ (fits_of_scanBound hb2))
        have ho3 := store_at (es' := es2) (t' := { t2 with led := t2.led && t.led, plain := t2.plain && t.plain }) ho2 hd2
        refine wpAny_pure (hQ es _ (Heap.SameBut.update s.heap f _) ?_ gv)
        exact ⟨_, es2, _, _, ho3, hx2, rfl, g2, nd2, hm2, hb2, hf2, hn2, hr2, hl2.imp id fun z => by show (t2.led && t.led) = true; rw [z, hled]; rfl⟩
      · exact wpAny_pure (same es gv)
end
end Par
namespace Par
open PySem PySem.Spec PyProof.Rows L2
section
variable {P : Program} {w : World} {A : Around} {E : Value → Shared → Prop} {s : Shared} {a : Addr} {S : Int → Bool} {n : Nat}
theorem eraseAt_list {α : Type} (xs : Array α) (i : Nat) : (SetTable.eraseAt xs i).toList = xs.toList.eraseIdx i := by
  unfold SetTable.eraseAt
  rw [Array.toList_append, Array.toList_extract, Array.toList_extract, List.eraseIdx_eq_take_drop_succ]
  simp [List.extract_eq_drop_take]
  rw [List.take_of_length_le (by simp)]
/-- where the member k lies -/
theorem find_at {k : Int} {tk : Tok} {o : Obj} {es : Array (Int × Value)} {ep : Nat} {t : SetTable} {Q : Option Nat → Shared → Prop} (ho : s.heap.get? a = some o) (hd : o.data = .set es ep t) (hf : t.fits es.size = true)
    (g : ∀ e ∈ es.toList, GoodE e) (hb : es.size < scanBound) (h : Q (es.toList.findIdx? fun e => (intKind P w).is k e.2) s) :
    wpAny (model P w) A (setFind a (.int k tk) ((intKind P w).hash k)) Q E s := by
  have hel : ElemsOf (intKind P w) es.toList := good_elems g
  unfold setFind setFindIn
  refine wpAny_bind (wpAny_setState_of ho hd hf ?_)
  dsimp only
  rw [byScan_of (x := .int k tk) rfl hb hel]
  simp only [↓reduceIte]
  refine wpAny_bind (wpAny_rule ?_)
  refine wpAny_bind (wpAny_setScan_of (intKind_is P w k tk) ho hd hf hel ?_)
  cases hr : List.findIdx? (fun e => (intKind P w).is k e.2) es.toList with
  | none =>
    dsimp only
    rw [hr] at h
    exact wpAny_pure h
  | some j =>
    dsimp only
    rw [hr] at h
    rw [Nat.zero_add]
    exact wpAny_pure h
theorem discard_hashed {k : Int} {tk : Tok} {Q : Bool → Shared → Prop} (R : SetR w s.heap a S n)
    (hQ : ∀ h' m, m ≤ n → Heap.SameBut a s.heap h' → SetR w h' a (fun j => S j && !decide (j = k)) m → Q (S k) { s with heap := h' }) :
    wpAny (model P w) A (setDiscardHashed a (.int k tk) ((intKind P w).hash k)) Q E s := by
  obtain ⟨o, es, ep, t, ho, hex, hd, g, nd, hm, hb, hf, hn, hr, hl⟩ := R
  unfold setDiscardHashed
  refine wpAny_bind (find_at ho hd hf g hb ?_)
  cases hwhere : List.findIdx? (fun e => (intKind P w).is k e.2) es.toList with
  | none =>
    dsimp only
    have hnot : k ∉ es.toList.map keyOf := fun z => by
      obtain ⟨e, he, q⟩ := (good_mem (P := P) (w := w) g k).1 z
      have c := List.findIdx?_eq_none_iff.mp hwhere e he
      rw [q] at c
      cases c
    have hyes : S k = false := by
      cases q : S k with
      | false => rfl
      | true => exact absurd ((hm k).1 q) hnot
    have q := hQ s.heap n (Nat.le_refl _) (Heap.SameBut.refl a s.heap) ⟨o, es, ep, t, ho, hex, hd, g, nd, fun i => by
      rw [← hm i, Bool.and_eq_true]
      constructor
      · exact fun z => z.1
      · intro z
        refine ⟨z, ?_⟩
        have : i ≠ k := fun e => by rw [e, hyes] at z; cases z
        simp [this], hb, hf, hn, hr, hl⟩
    rw [hyes] at q
    exact wpAny_pure q
  | some j =>
    dsimp only
    obtain ⟨hj, pj, _⟩ := List.findIdx?_eq_some_iff_getElem.mp hwhere
    have hyes : S k = true := (hm k).2 ((good_mem (P := P) (w := w) g k).2 ⟨es.toList[j], List.getElem_mem hj, pj⟩)
    have hkj : keyOf es.toList[j] = k := (good_is (P := P) (w := w) (g _ (List.getElem_mem hj)) k).1 pj
    have hjs : j < es.size := by rw [Array.length_toList] at hj; exact hj
    obtain ⟨f1, f2⟩ : t.place.size = es.size ∧ t.fill ≤ t.mask := by
      simpa [SetTable.fits] using hf
    have hpl : t.place[j]? = some (t.place[j]'(by omega)) := Array.getElem?_eq_getElem _
    have hdrop : t.drop j = { t with place := SetTable.eraseAt t.place j, dummies := SetTable.insertAt t.dummies (SetTable.below t.dummies (t.place[j]'(by omega))) (t.place[j]'(by omega)) } := by
      unfold SetTable.drop
      rw [hpl]
    have pe := erase_perm es.toList j _ (List.getElem?_eq_getElem hj)
    have pk : (k :: (es.toList.eraseIdx j).map keyOf).Perm (es.toList.map keyOf) := by
      have z := pe.map keyOf
      rw [List.map_cons, hkj] at z
      exact z
    have el : (SetTable.eraseAt es j).toList = es.toList.eraseIdx j := eraseAt_list es j
    have hsz : (SetTable.eraseAt es j).size + 1 = es.size := by
      rw [← Array.length_toList, el, List.length_eraseIdx_of_lt hj, Array.length_toList]
      omega
    have hb1 : (SetTable.eraseAt es j).size < scanBound := by omega
    refine wpAny_bind (wpAny_setState_of ho hd hf ?_)
    dsimp only
    refine wpAny_bind (wpAny_storeSet_of ho hd ?_ (fits_of_scanBound hb1))
    refine wpAny_bind (wpAny_point (wpAny_pure ?_))
    have ho1 := store_at (es' := SetTable.eraseAt es j) (t' := t.drop j) ho hd
    have ndk := pk.nodup_iff.mpr nd
    have q := hQ _ (SetTable.eraseAt es j).size (by omega) (Heap.SameBut.update s.heap a (Obj.putSet (SetTable.eraseAt es j) (t.drop j)))
      ⟨_, SetTable.eraseAt es j, _, t.drop j, ho1, hex, rfl, fun e he => by
        rw [el] at he
        exact g e ((List.eraseIdx_sublist _ _).subset he), by
        rw [el]
        exact (List.nodup_cons.mp ndk).2, fun i => by
        rw [el, Bool.and_eq_true, hm i, ← pk.mem_iff, List.mem_cons]
        constructor
        · rintro ⟨z | z, y⟩
          · simp [z] at y
          · exact z
        · intro z
          refine ⟨.inr z, ?_⟩
          have : i ≠ k := fun e => (List.nodup_cons.mp ndk).1 (e ▸ z)
          simp [this], hb1, by
        rw [hdrop]
        unfold SetTable.fits
        rw [Bool.and_eq_true]
        have h1 : (SetTable.eraseAt t.place j).size + 1 = t.place.size := by
          rw [← Array.length_toList, eraseAt_list, List.length_eraseIdx_of_lt (by rw [Array.length_toList]; omega), Array.length_toList]
          omega
        have h2 : (SetTable.insertAt t.dummies (SetTable.below t.dummies t.place[j]) t.place[j]).size = t.dummies.size + 1 := by
          rw [← Array.length_toList, SetTable.toList_insertAt]
          simp only [List.length_append, List.length_cons, List.length_take, List.length_drop, Array.length_toList]
          omega
        have h3 : t.place.size + t.dummies.size ≤ t.mask := f2
        refine ⟨beq_iff_eq.mpr ?_, decide_eq_true ?_⟩
        · show (SetTable.eraseAt t.place j).size = (SetTable.eraseAt es j).size
          omega
        · show (SetTable.eraseAt t.place j).size + (SetTable.insertAt t.dummies (SetTable.below t.dummies t.place[j]) t.place[j]).size ≤ t.mask
          rw [h2]
          omega, rfl, by
        rw [hdrop]
        show Ris (SetTable.eraseAt t.place j).toList
        rw [eraseAt_list]
        exact List.Pairwise.sublist (List.eraseIdx_sublist _ _) hr, hl.imp id fun z => by
        rw [hdrop]
        exact z⟩
    rw [hyes] at q
    exact q
end
end Par
namespace Par
open PySem PySem.Spec PyProof.Rows L2
/-! ### a clean table has room for few small ints -/
def way (mask : Nat) : Nat → Nat → Nat → List Nat
  | 0, _, _ => []
  | f + 1, i, p => i :: way mask f (SetTable.leap mask i p).1 (SetTable.leap mask i p).2
def marks : List Nat → Nat → Nat
  | [], b => b
  | i :: l, b => marks l (b ||| (1 <<< i))
theorem marks_mem : ∀ (l : List Nat) (b j : Nat), (marks l b).testBit j = true → b.testBit j = true ∨ j ∈ l
  | [], b, j, h => .inl h
  | i :: l, b, j, h => by
    rcases marks_mem l _ j h with z | z
    · rw [Nat.testBit_or, Bool.or_eq_true] at z
      rcases z with z | z
      · exact .inl z
      · right
        rw [Nat.testBit_shiftLeft, Bool.and_eq_true, decide_eq_true_eq] at z
        have : j = i := by
          have z2 : j - i = 0 := by
            cases hji : j - i with
            | zero => rfl
            | succ c =>
              rw [hji] at z
              have y := z.2
              simp [Nat.testBit_succ] at y
          omega
        rw [this]
        exact List.mem_cons_self ..
    · exact .inr (List.mem_cons_of_mem _ z)
def covers : Bool := [7, 15, 31, 63, 127].all fun m => (List.range 40).all fun h => marks (way m (m + 15) (h % (m + 1)) h) 0 == 2 ^ (m + 1) - 1
theorem covers_all : covers = true := by decide +kernel
theorem way_all {m h j : Nat} (hm : m ∈ [7, 15, 31, 63, 127]) (hh : h < 40) (hj : j ≤ m) : j ∈ way m (m + 15) (h % (m + 1)) h := by
  have h1 := List.all_eq_true.mp (List.all_eq_true.mp covers_all m hm) h (List.mem_range.mpr hh)
  have h2 : marks (way m (m + 15) (h % (m + 1)) h) 0 = 2 ^ (m + 1) - 1 := by simpa using h1
  rcases marks_mem (way m (m + 15) (h % (m + 1)) h) 0 j (by rw [h2, Nat.testBit_two_pow_sub_one, decide_eq_true_eq]; omega) with z | z
  · simp at z
  · exact z
theorem free_of {mask : Nat} {owner : Array (Option Nat)} {j : Nat} (hn : owner.getD j (some 0) = none) : ∀ (f i p : Nat), j ∈ way mask f i p →
    ∃ r, SetTable.layClean.free mask owner f i p = some r ∧ owner.getD r (some 0) = none
  | 0, i, p, h => by simp [way] at h
  | f + 1, i, p, h => by
    rw [SetTable.layClean.free]
    cases hf : (List.range (SetTable.runEnd mask i + 1 - i)).find? fun k => (owner.getD (i + k) (some 0)).isNone with
    | some k =>
      refine ⟨i + k, rfl, ?_⟩
      have z := List.find?_some hf
      simpa using z
    | none =>
      dsimp only
      have hrun : i ≤ SetTable.runEnd mask i := by
        unfold SetTable.runEnd
        split <;> omega
      rcases List.mem_cons.mp (show j ∈ i :: way mask f (SetTable.leap mask i p).1 (SetTable.leap mask i p).2 from h) with z | z
      · exfalso
        have := List.find?_eq_none.mp hf 0 (List.mem_range.mpr (by omega))
        rw [Nat.add_zero, ← z, hn] at this
        exact this rfl
      · exact free_of hn f _ _ z
theorem some_none {l : List (Option Nat)} (h : (l.filterMap id).length < l.length) : ∃ j : Nat, l[j]? = some none := by
  induction l with
  | nil => simp at h
  | cons a l ih =>
    cases a with
    | none => exact ⟨0, rfl⟩
    | some x =>
      obtain ⟨j, hj⟩ := ih (by simpa using h)
      exact ⟨j + 1, by simpa using hj⟩
theorem set_none : ∀ {l : List (Option Nat)} {j k : Nat}, l[j]? = some none → ((l.set j (some k)).filterMap id).Perm (k :: l.filterMap id)
  | [], j, k, h => by simp at h
  | a :: l, 0, k, h => by
    have e : a = none := by simpa using h
    subst e
    simp
  | a :: l, j + 1, k, h => by
    have z := set_none (l := l) (j := j) (k := k) (by simpa using h)
    cases a with
    | none => simpa using z
    | some x =>
      rw [List.set_cons_succ]
      simp only [List.filterMap_cons, id_eq]
      exact (z.cons x).trans (List.Perm.swap ..)
/-- one number more, laid into its own place -/
def layStep (mask : Nat) (acc : Option (Array (Option Nat) × Nat)) (h : Int) : Option (Array (Option Nat) × Nat) :=
  acc.bind fun q => (SetTable.layClean.free mask q.1 (mask + 15) (SetTable.bits h % (mask + 1)) (SetTable.bits h)).bind fun j => some (q.1.setIfInBounds j (some q.2), q.2 + 1)
theorem fold_ok {mask : Nat} (hm : mask ∈ [7, 15, 31, 63, 127]) : ∀ (hs : List Int) (owner : Array (Option Nat)) (k : Nat), (∀ h ∈ hs, SetTable.bits h < 40) → owner.size = mask + 1 →
    (owner.toList.filterMap id).Perm (List.range k) → k + hs.length ≤ mask →
    ∃ owner', hs.foldl (layStep mask) (some (owner, k)) = some (owner', k + hs.length) ∧ owner'.size = mask + 1 ∧ (owner'.toList.filterMap id).Perm (List.range (k + hs.length))
  | [], owner, k, _, hz, hp, _ => ⟨owner, rfl, hz, hp⟩
  | h :: hs, owner, k, hb, hz, hp, hk => by
    have hlt : (owner.toList.filterMap id).length < owner.toList.length := by
      rw [hp.length_eq, List.length_range, Array.length_toList, hz]
      simp only [List.length_cons] at hk
      omega
    obtain ⟨j, hj⟩ := some_none hlt
    have hjs : j < owner.size := by
      have := (List.getElem?_eq_some_iff.mp hj).1
      rw [Array.length_toList] at this
      exact this
    have hn : owner.getD j (some 0) = none := by
      rw [Array.getElem?_toList] at hj
      simp [Array.getD_eq_getD_getElem?, hj]
    obtain ⟨r, hr, hrn⟩ := free_of hn (mask + 15) _ _ (way_all (j := j) hm (hb h (List.mem_cons_self ..)) (by omega))
    have hrs : r < owner.size := by
      by_cases c : r < owner.size
      · exact c
      · simp [Array.getD_eq_getD_getElem?, Array.getElem?_eq_none (Nat.le_of_not_lt c)] at hrn
    have hrl : owner.toList[r]? = some none := by
      rw [Array.getElem?_toList, Array.getElem?_eq_getElem hrs]
      simp [Array.getD_eq_getD_getElem?, Array.getElem?_eq_getElem hrs] at hrn
      rw [hrn]
    have hstep : layStep mask (some (owner, k)) h = some (owner.setIfInBounds r (some k), k + 1) := by
      unfold layStep
      show (SetTable.layClean.free mask owner (mask + 15) _ _).bind _ = _
      rw [hr]
      rfl
    obtain ⟨o2, e1, e2, e3⟩ := fold_ok hm hs (owner.setIfInBounds r (some k)) (k + 1) (fun x hx => hb x (List.mem_cons_of_mem _ hx)) (by rw [Array.size_setIfInBounds]; exact hz) (by
      rw [Array.toList_setIfInBounds]
      refine (set_none hrl).trans ?_
      rw [List.range_succ]
      exact (hp.cons k).trans (List.perm_append_singleton _ _).symm) (by simp only [List.length_cons] at hk; omega)
    refine ⟨o2, ?_, e2, ?_⟩
    · rw [List.foldl_cons, hstep, e1, List.length_cons]
      congr 2
      omega
    · rw [List.length_cons]
      have : k + (hs.length + 1) = k + 1 + hs.length := by omega
      rw [this]
      exact e3
theorem owner_list {owner : Array (Option Nat)} {n : Nat} (h : owner.size = n) : (List.range n).filterMap (fun j => owner.getD j none) = owner.toList.filterMap id := by
  have e : (List.range n).map (fun j => owner.getD j none) = owner.toList := by
    refine List.ext_getElem (by simp [h]) (fun i h1 h2 => ?_)
    have hi : i < owner.size := by rw [Array.length_toList] at h2; exact h2
    simp [Array.getD_eq_getD_getElem?, Array.getElem?_eq_getElem hi]
  rw [← e, List.filterMap_map]
  rfl
theorem clean_ok {mask finger moves : Nat} {led plain : Bool} {hashes : Array Int} (hm : mask ∈ [7, 15, 31, 63, 127]) (hb : ∀ h ∈ hashes.toList, SetTable.bits h < 40) (hz : hashes.size ≤ mask) :
    ∃ t order, SetTable.laid mask finger moves led plain hashes = some (t, order) ∧ order.toList.Perm (List.range hashes.size) ∧ Ris t.place.toList ∧ t.led = led ∧ t.place.size = hashes.size ∧ t.dummies = #[] ∧ t.mask = mask := by
  obtain ⟨owner, e1, e2, e3⟩ := fold_ok hm hashes.toList (Array.replicate (mask + 1) none) 0 hb (by simp) (by simp) (by rw [Array.length_toList]; omega)
  have e : SetTable.layClean mask hashes = some owner := by
    unfold SetTable.layClean
    rw [← Array.foldl_toList]
    show Option.map _ (hashes.toList.foldl (layStep mask) (some (Array.replicate (mask + 1) none, 0))) = _
    rw [e1]
    rfl
  have p2 : (((List.range (mask + 1)).filterMap fun j => (owner.getD j none).map (j, ·)).map (·.2)).Perm (List.range hashes.size) := by
    have : ((List.range (mask + 1)).filterMap fun j => (owner.getD j none).map (j, ·)).map (·.2) = (List.range (mask + 1)).filterMap fun j => owner.getD j none := by
      rw [List.map_filterMap]
      congr 1
      funext j
      cases owner.getD j none <;> rfl
    rw [this, owner_list e2]
    rw [Nat.zero_add, Array.length_toList] at e3
    exact e3
  unfold SetTable.laid
  rw [e]
  refine ⟨_, _, rfl, p2, ?_, rfl, ?_, rfl, rfl⟩
  · exact (ris_live (fun j => owner.getD j none) (List.range (mask + 1)) (by unfold Ris; first | exact List.pairwise_lt_range | exact List.pairwise_lt_range _)).1
  · show (((List.range (mask + 1)).filterMap fun j => (owner.getD j none).map (j, ·)).map (·.1)).toArray.size = _
    have := p2.length_eq
    rw [List.length_map, List.length_range] at this
    rw [List.size_toArray, List.length_map]
    exact this
end Par
namespace Par
open PySem PySem.Spec PyProof.Rows L2
def Cell (k : Int) : Prop := 0 ≤ k ∧ k < 40
theorem cells_few {L : List Int} (hn : L.Nodup) (h : ∀ k ∈ L, Cell k) : L.length ≤ 40 := by
  have := nodup_le (M := (List.range 40).map Int.ofNat) hn (fun k hk => by
    obtain ⟨h1, h2⟩ := h k hk
    exact List.mem_map.mpr ⟨k.toNat, List.mem_range.mpr (by omega), by simp; omega⟩)
  simpa using this
theorem bits_small : ∀ k : Nat, k < 40 → SetTable.bits (hashInt (k : Int)) < 40 := by decide +kernel
theorem bits_cell {k : Int} (h : Cell k) : SetTable.bits (hashInt k) < 40 := by
  have := bits_small k.toNat (by have := h.1; have := h.2; omega)
  rwa [Int.toNat_of_nonneg h.1] at this
theorem wide_enough : ∀ n : Nat, n ≤ 40 → SetTable.sizeAbove (n * 2) - 1 ∈ [7, 15, 31, 63, 127] ∧ n ≤ SetTable.sizeAbove (n * 2) - 1 ∧ SetTable.sizeAbove (n * 2) ≤ 128 := by decide +kernel
section
variable {P : Program} {w : World} {A : Around} {E : Value → Shared → Prop} {s : Shared} {a : Addr} {S : Int → Bool} {n : Nat}
theorem SetR.few (R : SetR w s.heap a S n) (h : ∀ k, S k = true → Cell k) : n ≤ 40 := by
  obtain ⟨o, es, ep, t, ho, hx, hd, g, nd, hm, hb, hf, hn, hr, hl⟩ := R
  have := cells_few nd (fun k hk => h k ((hm k).2 hk))
  rw [List.length_map, Array.length_toList, hn] at this
  exact this
/-- a set that is still empty, its table -/
def NewSet (w : World) (h : Heap) (r : Addr) (n : Nat) : Prop := ∃ o ep t, h.get? r = some o ∧ o.ExactSet ∧ o.data = .set #[] ep t ∧ t.place = #[] ∧ t.dummies = #[] ∧ (w.params.followText "set-order" = true ∨ t.led = true) ∧
  t.mask ∈ [7, 15, 31, 63, 127] ∧ n ≤ t.mask
theorem room_new {r : Addr} {Q : Unit → Shared → Prop} (hn : n ≤ 40)
    (hr : s.heap.get? r = some { cls := .type "set", dict := none, data := .set #[] 0 (.fresh 0 0 (!w.params.followText "set-order")) })
    (hQ : ∀ h', Heap.SameBut r s.heap h' → NewSet w h' r n → Q () { s with heap := h' }) : wpAny (model P w) A (setRoomFor r n) Q E s := by
  have led : w.params.followText "set-order" = true ∨ (!w.params.followText "set-order") = true := by
    cases w.params.followText "set-order"
    · exact .inr rfl
    · exact .inl rfl
  unfold setRoomFor
  refine wpAny_bind (wpAny_setState_of hr rfl rfl ?_)
  dsimp only
  by_cases h5 : n * 5 ≥ 21
  · have e : (SetTable.fresh 0 0 (!w.params.followText "set-order")).roomFor n = some (n * 2) := by
      unfold SetTable.roomFor SetTable.fill SetTable.fresh
      simp [h5]
    rw [e]
    dsimp only
    unfold setRelay
    refine wpAny_bind (wpAny_setState_of hr rfl rfl ?_)
    dsimp only
    obtain ⟨w1, w2, w3⟩ := wide_enough n hn
    refine wp_if_neg (by rw [sizeLine_eq]; omega) ?_
    try refine wpAny_bind (wpAny_pure ?_)
    obtain ⟨t, order, e1, e2, e3, e4, e5, e6, e7⟩ := clean_ok (finger := 0) (moves := (SetTable.fresh 0 0 (!w.params.followText "set-order")).movedTo (SetTable.sizeAbove (n * 2) - 1)) (led := !w.params.followText "set-order") (plain := true) (hashes := #[]) w1 (by simp) (by simp)
    have e8 : (SetTable.fresh 0 0 (!w.params.followText "set-order")).relaid ((#[] : Array (Int × Value)).map (·.1)) (n * 2) = some (t, order) := by
      have q : ((#[] : Array (Int × Value)).map (·.1)) = #[] := by simp
      rw [q]
      exact e1
    rw [e8]
    have eo : order = #[] := by
      have : order.toList = [] := List.length_eq_zero_iff.mp (by rw [e2.length_eq]; simp)
      exact Array.toList_eq_nil_iff.mp this
    subst eo
    refine wpAny_bind (wpAny_pure ?_)
    refine wpAny_storeSet_of hr rfl ?_ (by simp)
    have ho1 := store_at (es' := #[]) (t' := t) hr rfl
    refine hQ _ (Heap.SameBut.update s.heap r _) ⟨_, _, t, ho1, ⟨rfl, rfl, rfl⟩, rfl, by simpa using e5, e6, by rw [e4]; exact led, by rw [e7]; exact w1, by rw [e7]; exact w2⟩
  · have e : (SetTable.fresh 0 0 (!w.params.followText "set-order")).roomFor n = none := by
      unfold SetTable.roomFor SetTable.fill SetTable.fresh
      simp [h5]
    rw [e]
    dsimp only
    exact wpAny_pure (hQ s.heap (Heap.SameBut.refl r s.heap) ⟨_, _, _, hr, ⟨rfl, rfl, rfl⟩, rfl, rfl, rfl, led, by simp [SetTable.fresh], by show n ≤ 7; omega⟩)
theorem merge_new {r o : Addr} {each : Sem Unit} {Q : Unit → Shared → Prop}
    (hr : s.heap.get? r = some { cls := .type "set", dict := none, data := .set #[] 0 (.fresh 0 0 (!w.params.followText "set-order")) })
    (R : SetR w s.heap o S n) (hne : r ≠ o) (hS : ∀ k, S k = true → Cell k)
    (hQ : ∀ h', Heap.SameBut r s.heap h' → SetR w h' r S n → Q () { s with heap := h' }) : wpAny (model P w) A (setMerge r o each) Q E s := by
  have hn40 := SetR.few R hS
  obtain ⟨oo, es, ep, t, ho, hx, hd, g, nd, hm, hb, hf, hn, hrs, hl⟩ := id R
  have led : w.params.followText "set-order" = true ∨ (!w.params.followText "set-order") = true := by
    cases w.params.followText "set-order"
    · exact .inr rfl
    · exact .inl rfl
  unfold setMerge
  refine wp_if_neg (by simpa using hne) ?_
  try refine wpAny_bind (wpAny_pure ?_)
  refine wpAny_bind (wpAny_setState_of ho hd hf ?_)
  dsimp only
  by_cases he : es.isEmpty = true
  · refine wp_if_pos he ?_
    have e0 : es = #[] := by simpa using he
    subst e0
    refine wpAny_pure (hQ s.heap (Heap.SameBut.refl r s.heap) ⟨_, #[], _, _, hr, ⟨rfl, rfl, rfl⟩, rfl, g, nd, hm, hb, rfl, hn, List.Pairwise.nil, led⟩)
  · refine wp_if_neg he ?_
    try refine wpAny_bind (wpAny_pure ?_)
    rw [hn]
    refine wpAny_bind (room_new hn40 hr fun h1 sb1 new => ?_)
    obtain ⟨o1, ep1, t1, ho1, hx1, hd1, hp1, hdm1, hl1, hm1, hk1⟩ := new
    have hf1 : t1.fits (#[] : Array (Int × Value)).size = true := by
      simp [SetTable.fits, SetTable.fill, hp1, hdm1]
    refine wpAny_bind (wpAny_setState_of (es := #[]) ho1 hd1 hf1 ?_)
    dsimp only
    have hfill : t1.fill = 0 := by simp [SetTable.fill, hp1, hdm1]
    cases hroad : t1.road t with
    | oneByOne =>
      exfalso
      unfold SetTable.road at hroad
      rw [hfill] at hroad
      simp at hroad
      split at hroad <;> simp at hroad
    | slotForSlot =>
      dsimp only
      refine wpAny_storeSet_of ho1 hd1 ?_ (fits_of_scanBound hb)
      have ho2 := store_at (es' := es) (t' := { t with finger := t1.finger, led := t1.led && t.led, moves := t1.moves, plain := t1.plain && t.plain }) ho1 hd1
      refine hQ _ (sb1.trans (Heap.SameBut.update h1 r _)) ⟨_, es, _, _, ho2, hx1, rfl, g, nd, hm, hb, hf, hn, hrs, ?_⟩
      rcases hl with z | z
      · exact .inl z
      · rcases hl1 with y | y
        · exact .inl y
        · exact .inr (by show (t1.led && t.led) = true; rw [z, y]; rfl)
    | clean =>
      dsimp only
      have hsm : (es.map (·.1)).size = es.size := Array.size_map ..
      obtain ⟨t2, order, e1, e2, e3, e4, e5, e6, e7⟩ := clean_ok (finger := t1.finger) (moves := t1.moves) (led := t1.led && t.led) (plain := t1.plain && t.plain) (hashes := es.map (·.1)) hm1 (fun h hh => by
        rw [Array.toList_map] at hh
        obtain ⟨e, he, rfl⟩ := List.mem_map.mp hh
        obtain ⟨k, tk, q1, q2⟩ := g e he
        rw [q2]
        refine bits_cell (hS k ((hm k).2 (List.mem_map.mpr ⟨e, he, ?_⟩)))
        unfold keyOf
        rw [q1]) (by rw [hsm]; omega)
      rw [e1]
      rw [hsm] at e2 e5
      have pm : (order.filterMap (es[·]?)).toList.Perm es.toList := by
        rw [Array.toList_filterMap]
        exact (e2.filterMap _).trans (by rw [filterMap_getElem?_range])
      have hsz : (order.filterMap (es[·]?)).size = es.size := by rw [← Array.length_toList, pm.length_eq, Array.length_toList]
      refine wpAny_bind (wpAny_of_eq (a := (order.filterMap (es[·]?), t2)) ?_ ?_)
      · show (do
          if ((order.filterMap (es[·]?)).size != es.size) = true then unsupported "internal:set-table-lost-an-element"
          pure (order.filterMap (es[·]?), t2)) = _
        rw [if_neg (by rw [hsz]; simp)]
        try rfl
      · dsimp only
        refine wpAny_storeSet_of ho1 hd1 ?_ (by rw [hsz]; exact fits_of_scanBound hb)
        have ho2 := store_at (es' := order.filterMap (es[·]?)) (t' := t2) ho1 hd1
        refine hQ _ (sb1.trans (Heap.SameBut.update h1 r _)) ⟨_, _, _, t2, ho2, hx1, rfl, fun e he => g e (pm.mem_iff.mp he), (pm.map keyOf).nodup_iff.mpr nd, fun k => (hm k).trans (pm.map keyOf).mem_iff.symm, by rw [hsz]; exact hb, ?_, by rw [hsz]; exact hn, e3, ?_⟩
        · rw [hsz]
          have : t2.place.size + t2.dummies.size ≤ t2.mask := by
            rw [e5, e6, e7]
            simp
            omega
          simp [SetTable.fits, SetTable.fill, e5, e6, e7]
          omega
        · rw [e4]
          rcases hl with z | z
          · exact .inl z
          · rcases hl1 with y | y
            · exact .inl y
            · exact .inr (by rw [z, y]; rfl)
end
end Par
namespace Par
open PySem PySem.Spec PyProof.Rows L2
theorem entry_set_xor : entryFor table "set.__xor__" = some Builtin.«frozenset.__xor__» :=
  entryFor_alias (id' := "frozenset.__xor__") (by kernel_rfl) rfl (by decide +kernel) (by kernel_rfl)
theorem entry_set_and : entryFor table "set.__and__" = some Builtin.«frozenset.__and__» :=
  entryFor_alias (id' := "frozenset.__and__") (by kernel_rfl) rfl (by decide +kernel) (by kernel_rfl)
section
variable {P : Program} {w : World} {A : Around} {E : Value → Shared → Prop} {s : Shared} {a : Addr} {S : Int → Bool} {n : Nat}
theorem set_typ (R : SetR w s.heap a S n) : s.TypeIs (.ref a) "set" := by
  obtain ⟨o, es, ep, t, ho, hx, _⟩ := R
  exact ⟨o, ho, hx.1⟩
theorem any_set {Q : Bool → Shared → Prop} (hT : s.TypeIs (.ref a) "set") (h : Q true s) : wpAny (model P w) A (Builtin.Frozenset.isAnySet (.ref a)) Q E s := by
  unfold Builtin.Frozenset.isAnySet
  refine wpAny_bind (wpAny_isInstance hT sub_set_self ?_)
  exact wpAny_pure h
theorem base_set {Q : Value → Shared → Prop} (hT : s.TypeIs (.ref a) "set") (h : Q (.type "set") s) : wpAny (model P w) A (Builtin.Frozenset.baseOf a) Q E s := by
  unfold Builtin.Frozenset.baseOf
  refine wpAny_bind (wpAny_isInstance hT sub_set_self ?_)
  exact wpAny_pure h
theorem new_set {Q : Value → Shared → Prop} (h : Q (.ref s.heap.objs.size) { s with heap := s.heap.push { cls := .type "set", dict := none, data := .set #[] 0 (.fresh 0 0 (!w.params.followText "set-order")) } }) :
    wpAny (model P w) A (newSet (.type "set")) Q E s := by
  unfold newSet
  refine wpAny_bind (wpAny_byText ?_)
  dsimp only
  simp only [newObj]
  refine wpAny_bind (wpAny_alloc (wpAny_pure ?_))
  exact h
theorem flip_one {k : Int} {tk : Tok} {Q : Unit → Shared → Prop} (R : SetR w s.heap a S n) (room : n + 1 < scanBound)
    (hQ : ∀ h' m, m ≤ n + 1 → Heap.SameBut a s.heap h' → SetR w h' a (fun j => xor (S j) (decide (j = k))) m → Q () { s with heap := h' }) :
    wpAny (model P w) A (holding [.int k tk] (do
      if !(← setDiscardHashed a (.int k tk) ((intKind P w).hash k)) then
        let _ ← setAddHashed a (.int k tk) ((intKind P w).hash k))) Q E s := by
  refine wpAny_holding (wpAny_bind (discard_hashed R fun h1 m hm sb1 R1 => ?_))
  cases hk : S k with
  | true =>
    refine wp_if_neg (by simp) ?_
    refine wpAny_pure (hQ h1 m (by omega) sb1 (R1.congr fun j => ?_))
    by_cases e : j = k
    · subst e
      rw [hk]
      simp
    · simp [e]
  | false =>
    refine wp_if_pos (by simp) ?_
    refine wpAny_bind (setR_add_hashed (s := { s with heap := h1 }) R1 (by omega) fun h2 sb2 R2 => ?_)
    refine wpAny_pure (hQ h2 _ (by split <;> omega) (sb1.trans sb2) (R2.congr fun j => ?_))
    by_cases e : j = k
    · subst e
      rw [hk]
      simp
    · simp [e]
theorem flip_all {body : Int × Value → PUnit → Sem (ForInStep PUnit)} {o : Addr} {oo : Obj} (hne : o ≠ a)
    (hb : ∀ (e : Int × Value) (s : Shared) (S : Int → Bool) (n : Nat) (Q : ForInStep PUnit → Shared → Prop), GoodE e → s.heap.get? o = some oo → SetR w s.heap a S n → n + 1 < scanBound →
      (∀ h' m, m ≤ n + 1 → Heap.SameBut a s.heap h' → SetR w h' a (fun j => xor (S j) (decide (j = keyOf e))) m → Q (.yield ⟨⟩) { s with heap := h' }) → wpAny (model P w) A (body e ⟨⟩) Q E s) :
    ∀ (l : List (Int × Value)) (s : Shared) (S : Int → Bool) (n : Nat) (Q : PUnit → Shared → Prop), (∀ e ∈ l, GoodE e) → (l.map keyOf).Nodup → s.heap.get? o = some oo → SetR w s.heap a S n → n + l.length + 1 < scanBound →
      (∀ h' m, Heap.SameBut a s.heap h' → SetR w h' a (fun j => xor (S j) (decide (j ∈ l.map keyOf))) m → Q ⟨⟩ { s with heap := h' }) → wpAny (model P w) A (forIn l ⟨⟩ body) Q E s
  | [], s, S, n, Q, _, _, _, R, _, hQ => by
    rw [List.forIn_nil]
    exact wpAny_pure (hQ s.heap n (Heap.SameBut.refl a s.heap) (R.congr fun j => by simp))
  | e :: l, s, S, n, Q, g, nd, Ro, R, room, hQ => by
    rw [List.forIn_cons]
    simp only [List.length_cons] at room
    refine wpAny_bind (hb e s S n _ (g e (List.mem_cons_self ..)) Ro R (by omega) fun h1 m hm sb1 R1 => ?_)
    have nd' := List.nodup_cons.mp (show (keyOf e :: l.map keyOf).Nodup from nd)
    refine flip_all hne hb l { s with heap := h1 } _ m Q (fun x hx => g x (List.mem_cons_of_mem _ hx)) nd'.2 ((sb1.2 o hne).trans Ro) R1 (by omega) fun h2 m2 sb2 R2 => ?_
    refine hQ h2 m2 (sb1.trans sb2) (R2.congr fun j => ?_)
    show xor (S j) (decide (j ∈ keyOf e :: l.map keyOf)) = xor (xor (S j) (decide (j = keyOf e))) (decide (j ∈ l.map keyOf))
    by_cases e1 : j = keyOf e
    · have : j ∉ l.map keyOf := fun z => nd'.1 (e1 ▸ z)
      have hin : j ∈ keyOf e :: l.map keyOf := by
        rw [e1]
        exact List.mem_cons_self ..
      rw [decide_eq_true hin, decide_eq_true e1, decide_eq_false this]
      simp
    · by_cases e2 : j ∈ l.map keyOf
      · rw [decide_eq_true (List.mem_cons_of_mem _ e2), decide_eq_true e2, decide_eq_false e1]
        simp
      · have hout : j ∉ keyOf e :: l.map keyOf := fun z => by
          rcases List.mem_cons.mp z with z | z
          · exact e1 z
          · exact e2 z
        rw [decide_eq_false hout, decide_eq_false e2, decide_eq_false e1]
        simp
def symOf (id : String) (l : Addr) (r : Value) : Sem Value := do
  let result ← Builtin.Frozenset.newFrom id (← Builtin.Frozenset.baseOf l) r
  holding [result] (Builtin.Frozenset.symmetricDifferenceUpdate id (← Builtin.Frozenset.addrOf result) (.ref l))
  return result
theorem call_xor {b : Addr} {T : Int → Bool} {m : Nat} {Q : Value → Shared → Prop} (Ra : SetR w s.heap a S n) (Rb : SetR w s.heap b T m) (hS : ∀ k, S k = true → Cell k) (hT : ∀ k, T k = true → Cell k)
    (hQ : ∀ h' c, (∀ x u, s.heap.get? x = some u → h'.get? x = some u) → SetR w h' s.heap.objs.size (fun k => xor (S k) (T k)) c → c ≤ 40 → Q (.ref s.heap.objs.size) { s with heap := h' }) :
    wpAny (model P w) A (call (.builtin "set.__xor__") [.ref a, .ref b]) Q E s := by
  have ta : s.TypeIs (.ref a) "set" := set_typ Ra
  have tb : s.TypeIs (.ref b) "set" := set_typ Rb
  have la := Ra.lt
  have lb := Rb.lt
  refine wpAny_call_entry F.slot_set_xor ta entry_set_xor ?_ (F.args_set_xor_2 _ _)
  unfold Builtin.«frozenset.__xor__»
  show wpAny _ _ (do
    let (self, other) ← Builtin.Frozenset.slot1 "__xor__" ⟨[.ref a, .ref b], []⟩
    let (l, r) := if false = true then (other, self) else (self, other)
    if !(← Builtin.Frozenset.isAnySet l <&&> Builtin.Frozenset.isAnySet r) then rule s!"frozenset.{"__xor__"}.declined"; return ← ret .notImplemented
    ret (← symOf s!"frozenset.{"__xor__"}" (← Builtin.Frozenset.addrOf l) r)) _ _ s
  refine wpAny_bind (wpAny_of_eq (a := (Value.ref a, Value.ref b)) (by rfl) ?_)
  dsimp only
  rw [if_neg Bool.false_ne_true]
  dsimp only
  refine wpAny_bind (wpAny_bind (any_set ta ?_))
  show wpAny _ _ (Builtin.Frozenset.isAnySet (.ref b)) _ _ s
  refine any_set tb ?_
  refine wp_if_neg (by simp) ?_
  refine wpAny_bind (m := Builtin.Frozenset.addrOf (.ref a)) (wpAny_pure ?_)
  refine wpAny_bind ?_
  unfold symOf
  refine wpAny_bind (base_set ta ?_)
  refine wpAny_bind ?_
  unfold Builtin.Frozenset.newFrom
  refine wpAny_bind (new_set ?_)
  generalize hr : s.heap.objs.size = r at *
  have hget : (s.heap.push { cls := .type "set", dict := none, data := .set #[] 0 (.fresh 0 0 (!w.params.followText "set-order")) }).get? s.heap.objs.size = some { cls := .type "set", dict := none, data := .set #[] 0 (.fresh 0 0 (!w.params.followText "set-order")) } := Heap.get?_push_size _ rfl
  generalize hg : s.heap.push { cls := .type "set", dict := none, data := .set #[] 0 (.fresh 0 0 (!w.params.followText "set-order")) } = g at *
  have keep : ∀ x u, s.heap.get? x = some u → g.get? x = some u := fun x u e => by
    rw [← hg]
    exact Heap.get?_push_of_some _ e
  have Ra1 : SetR w g a S n := Ra.at fun u e => keep a u e
  have Rb1 : SetR w g b T m := Rb.at fun u e => keep b u e
  refine wpAny_bind (m := Builtin.Frozenset.addrOf (.ref r)) (wpAny_pure ?_)
  refine wpAny_bind (wpAny_holding ?_)
  unfold Builtin.Frozenset.updateFrom
  refine wpAny_bind (any_set (s := { s with heap := g }) (set_typ Rb1) ?_)
  refine wp_if_pos rfl ?_
  refine wpAny_bind (m := Builtin.Frozenset.addrOf (.ref b)) (wpAny_pure ?_)
  unfold Builtin.Frozenset.merge
  obtain ⟨ob, esb, epb, tb2, hob, hxb, hdb, _, _, _, _, hfb, _⟩ := id Rb1
  refine wpAny_bind (wpAny_setEpoch_of hob hdb hfb ?_)
  rw [hr] at hget
  refine merge_new (s := { s with heap := g }) hget Rb1 (Nat.ne_of_gt lb) hT fun h1 sb1 R1 => ?_
  refine wpAny_pure ?_
  refine wpAny_bind (m := Builtin.Frozenset.addrOf (.ref r)) (wpAny_pure ?_)
  refine wpAny_bind (wpAny_holding ?_)
  have hra : a ≠ r := Nat.ne_of_lt la
  have Ra2 : SetR w h1 a S n := Ra1.at fun u e => (sb1.2 a hra).trans e
  unfold Builtin.Frozenset.symmetricDifferenceUpdate
  refine wp_if_neg (by simpa using hra) ?_
  try refine wpAny_bind (wpAny_pure ?_)
  dsimp only
  refine wpAny_bind (wpAny_typeOf (s := { s with heap := h1 }) (set_typ Ra2) ?_)
  refine wp_if_neg (by decide) ?_
  try refine wpAny_bind (wpAny_pure ?_)
  refine wpAny_bind (any_set (s := { s with heap := h1 }) (set_typ Ra2) ?_)
  refine wp_if_pos rfl ?_
  refine wpAny_bind (wpAny_pure ?_)
  refine wpAny_bind (m := Builtin.Frozenset.addrOf (.ref a)) (wpAny_pure ?_)
  obtain ⟨oa, esa, epa, ta2, hoa, hxa, hda, _, _, _, _, hfa, _⟩ := id Ra2
  refine wpAny_bind (wpAny_setEpoch_of hoa hda hfa ?_)
  refine wpAny_holding ?_
  refine wpAny_bind (walk_unseen (s := { s with heap := h1 }) (f := r) Ra2 (fun x hx => by rw [List.mem_singleton.mp hx]; exact ⟨T, m, R1⟩) R1 fun l h2 sb2 R2 gl => ?_)
  obtain ⟨gl1, gl2, gl3, gl4⟩ := gl
  have n40 : n ≤ 40 := SetR.few (s := { s with heap := h1 }) Ra2 hS
  have m40 : m ≤ 40 := SetR.few (s := { s with heap := h1 }) R1 hT
  rw [← Array.forIn_toList]
  refine wpAny_bind (flip_all (a := r) (o := a) (oo := oa) hra ?_ l.toList { s with heap := h2 } T m _ gl1 gl2 ((sb2.2 a hra).trans hoa) R2 (by rw [Array.length_toList, gl4]; unfold scanBound; omega) fun h3 c sb3 R3 => ?_)
  · intro e s0 S0 n0 Q0 ge ho0 R0 room q0
    obtain ⟨k, tk, e1, e2⟩ := ge
    obtain ⟨eh, ev⟩ := e
    dsimp only at e1 e2
    subst e1
    subst e2
    refine wpAny_bind (flip_one R0 room fun h' m' hm' sb' R' => ?_)
    refine wpAny_bind ?_
    unfold Builtin.Frozenset.unchanged
    refine wpAny_bind (wpAny_setEpoch_of ((sb'.2 a hra).trans ho0) hda hfa ?_)
    refine wp_if_neg (by simp) ?_
    exact wpAny_pure (wpAny_pure (q0 h' m' hm' sb' R'))
  refine wpAny_pure (wpAny_pure (wpAny_pure ⟨_, rfl, ?_⟩))
  have Rf : SetR w h3 r (fun k => xor (S k) (T k)) c := R3.congr fun k => by
    have : S k = decide (k ∈ l.toList.map keyOf) := by
      cases h : S k with
      | true => rw [decide_eq_true ((gl3 k).1 h)]
      | false =>
        have : k ∉ l.toList.map keyOf := fun z => by
          have := (gl3 k).2 z
          rw [h] at this
          cases this
        rw [decide_eq_false this]
    rw [this]
    exact Bool.xor_comm _ _
  refine hQ h3 c (fun x u e => ?_) Rf (SetR.few (s := { s with heap := h3 }) Rf fun k hk => ?_)
  · have hxr : x ≠ r := by
      rw [← hr]
      exact Nat.ne_of_lt (Heap.lt_size e)
    exact (sb3.2 x hxr).trans ((sb2.2 x hxr).trans ((sb1.2 x hxr).trans (keep x u e)))
  · cases h : S k with
    | true => exact hS k h
    | false =>
      rw [h] at hk
      exact hT k (by simpa using hk)
end
end Par
namespace Par
open PySem PySem.Spec PyProof.Rows L2
section
variable {X : Cx}
/-- set(t), t a tuple of ints -/
def rSetTup (K : PySem.W.Frag) (w : World) : List V → Hp → VK → Prop := fun xs H Q => ∃ (l : Addr) (ns : List Int), xs = [V.ref l] ∧ SqT K H l (ns.map V.int) ∧ ns.length ≤ 4000 ∧
  ∀ p c, H p = none → Q (.ref p) (upd H p (SetO w p (fun j => decide (j ∈ ns)) c))
theorem cr_setTup (hc : X.calm = true) : CallR X (.type "set") (rSetTup X.K X.w) := by
  intro pins s σ H xs us Q I r h
  obtain ⟨l, ns, rfl, hq, hl, q⟩ := h
  rw [Vals.ref1 r]
  obtain ⟨its, rv, tup, hz⟩ := I.tuple hq
  refine L2.call_set_tupI ns (I.ok.hd hc) tup (by simpa using numbers_of rv) (by unfold scanBound; omega) ?_
  intro h' tk c hS hcn hk
  exact ⟨.ref _, _, I.laid (t' := tk) hk (Nat.le_refl _) (setO_new hS), rfl, q _ c (I.hok.fresh (Nat.le_refl _))⟩
/-- one ^ other, sets of cells -/
def rXor (w : World) : V → V → Hp → VK → Prop := fun x y H Q => ∃ (a b : Addr) (S T : Int → Bool) (n m : Nat), x = V.ref a ∧ y = V.ref b ∧ H a = some (SetO w a S n) ∧ H b = some (SetO w b T m) ∧
  (∀ k, S k = true → Cell k) ∧ (∀ k, T k = true → Cell k) ∧ ∀ p c, H p = none → c ≤ 40 → Q (.ref p) (upd H p (SetO w p (fun k => xor (S k) (T k)) c))
theorem op_xorS : OpR X (binaryOp .BitXor) (rXor X.w) := by
  intro pins s σ H x y v u Q I rx ry h
  obtain ⟨a, b, S, T, n, m, rfl, rfl, ha, hb, hS, hT, q⟩ := h
  cases rx
  cases ry
  have Ra := setO_get I ha
  have Rb := setO_get I hb
  refine wpAny_binaryOp_same (op := .BitXor) (T := "set") (set_typ Ra) (set_typ Rb) F.fills_set_xor F.slot_set_xor ?_
  refine call_xor Ra Rb hS hT fun h' c k R c40 => ⟨by simp, ?_⟩
  exact ⟨.ref _, _, I.laid (t' := s.toks) k (Nat.le_refl _) (setO_new R), rfl, q _ c (I.hok.fresh (Nat.le_refl _)) c40⟩
end
end Par
namespace Par
open PySem PySem.Spec PyProof.Rows L2
section
variable {prog : Program} {w : World} {A : Around} {E : Value → Shared → Prop} {s : Shared}
theorem collect_tup {tp : Addr} {vs : List Value} {Q : List Value → Shared → Prop} (htp : IsTup s.heap tp vs.toArray)
    (h : Q vs { s with heap := (s.heap.push (seqObj "list" #[] 0)).update s.heap.objs.size (Obj.mapSeq (· ++ vs.toArray)) })
    (len : vs.length ≤ sizeLine) : wpAny (model prog w) A (collect (.ref tp)) Q E s := by
  obtain ⟨o, hob, hcl, n, hdt⟩ := id htp
  unfold collect
  refine wpAny_bind (wpAny_runValue ?_)
  refine codeAny_builtin entry_proto_collect' ?_
  show wpAny _ _ (do again (.builtin "list.__iadd__" ⟨[← newList [], .ref tp], []⟩)) _ _ s
  refine wpAny_bind (wpAny_newList (wpAny_pure ?_))
  refine ⟨Code.quiet_builtin _ (by decide +kernel), codeAny_builtin entry_list_iadd' ?_⟩
  show wpAny _ _ (Builtin.List.listExtendWith (.ref s.heap.objs.size) (.ref tp) (.ref s.heap.objs.size)) _ _ { s with heap := s.heap.push (seqObj "list" #[] 0) }
  unfold Builtin.List.listExtendWith -- a tuple's items go over at once
  have ho2 : (s.heap.push (seqObj "list" #[] 0)).get? tp = some o := Heap.get?_push_of_some _ hob
  refine wpAny_bind (wpAny_typeOf (T := "tuple") ⟨o, ho2, hcl⟩ ?_)
  have ht : (Value.type "tuple" == Value.type "tuple") = true := by rfl
  rw [if_pos (by simp [ht])]
  refine wpAny_bind (listItems_at ho2 hdt ?_)
  refine wpAny_bind (listItems_at (n := 0) (xs := #[]) (Heap.get?_push_size _ rfl) rfl ?_)
  rw [if_neg (by simp)]
  have room : (#[] ++ vs.toArray).size ≤ sizeLine + 1 := by
    simp only [Array.size_append, List.size_toArray, List.length_nil]
    omega
  refine wpAny_bind (listUpdate_at (xs := #[]) (n := 0) (Heap.get?_push_size _ rfl) rfl ?_ (Nat.zero_le _) room)
  refine wpAny_pure ?_
  have flat : ((#[] : Array Value) ++ vs.toArray).toList = vs := by simp
  refine wpAny_bind (wpAny_load (get?_update_seq (Heap.get?_push_size s.heap rfl) _) ?_)
  show wpAny _ _ (pure (#[] ++ vs.toArray).toList) Q E _
  rw [flat]
  exact wpAny_pure h
theorem sorted_tupOrd {tp : Addr} {vs : List Value} {ltv : Value → Value → Bool} {Q : Value → Shared → Prop} (O : SrtO.Swo ltv) (htp : IsTup s.heap tp vs.toArray) (hz : vs.length ≤ sizeLine)
    (can : 2 ≤ vs.length → ∀ (h1 : Heap) (a : Addr), h1.get? a = some (seqObj "list" vs.toArray 0) → (∀ b o, s.heap.get? b = some o → b ≠ a ∧ h1.get? b = some o) → SrtO.SortableO prog w A.in1.in1 { s with heap := h1 } a vs ltv)
    (h : ∀ out : List Value, SrtO.Srtd ltv out → SrtO.Stb ltv out vs → Q (.ref (s.heap.objs.size + 1)) { s with heap := sortedAll s.heap vs out.toArray }) :
    wpAny (model prog w) A (call (.builtin "sorted") [.ref tp]) Q E s := by
  refine Calls.call_function_entry kind_sorted plain_sorted entry_sorted (args_sorted1 (.ref tp)) ?_
  unfold Builtin.«sorted»
  refine wpAny_bind (m := checkCount "sorted" 1 1 _) ?_
  refine wpAny_pure ?_
  refine wpAny_bind (collect_tup htp ?_ hz)
  refine wpAny_bind (wpAny_newList (s := _) ?_ hz)
  generalize eg : (s.heap.push (seqObj "list" #[] 0)).update s.heap.objs.size (Obj.mapSeq (· ++ vs.toArray)) = g
  have hsz : g.objs.size = s.heap.objs.size + 1 := by rw [← eg, Heap.size_update, size_push']
  have hoL : (g.push (seqObj "list" vs.toArray 0)).get? (s.heap.objs.size + 1) = some (seqObj "list" vs.toArray 0) := by
    rw [← hsz]
    exact Heap.get?_push_size g rfl
  have keep : ∀ b o, s.heap.get? b = some o → b ≠ s.heap.objs.size + 1 ∧ (g.push (seqObj "list" vs.toArray 0)).get? b = some o := by
    intro b o q
    have hbl : b < s.heap.objs.size := Heap.lt_size q
    refine ⟨Nat.ne_of_lt (Nat.lt_succ_of_lt hbl), Heap.get?_push_of_some (seqObj "list" vs.toArray 0) ?_⟩
    rw [← eg, Heap.get?_update_ne _ _ _ _ (Nat.ne_of_lt hbl)]
    exact Heap.get?_push_of_some (seqObj "list" #[] 0) q
  show wpAny _ _ _ _ _ { s with heap := g.push (seqObj "list" vs.toArray 0) }
  rw [hsz]
  refine wpAny_bind (wpAny_holding (wpAny_call_entry slot_list_sort ⟨_, hoL, rfl⟩ entry_list_sort (SrtO.list_sort_ord O hoL hz (fun h2 => can h2 _ _ hoL keep) ?_) (args_list_sort _)))
  intro out hs hb
  refine ⟨_, rfl, ?_⟩
  subst eg
  exact wpAny_pure ⟨.ref (s.heap.objs.size + 1), rfl, h out hs hb⟩
end
/-- sorted(t), t a tuple of ints -/
theorem cr_sortedTup {X : Cx} : CallR X (.builtin "sorted") (fun vs H Q => ∃ (a : Addr) (ns : List Int), vs = [V.ref a] ∧ SqT X.K H a (ns.map V.int) ∧
    ∀ (ms : List Int) (p : Addr), ms.Perm ns → ms.Pairwise (· ≤ ·) → H p = none → Q (.ref p) (upd H p (.lst (ms.map V.int)))) := by
  intro pins s σ H vs us Q I r h
  obtain ⟨a, ns, rfl, hs, q⟩ := h
  obtain ⟨its, rv, htp, hz⟩ := I.tuple hs
  rw [Vals.ref1 r]
  have hi := rv.ints
  refine sorted_tupOrd SrtO.swo_int htp (by rw [← rv.length]; exact hz) (fun h2 h1 a2 _ _ => SrtO.ints_sortable hi h2) ?_
  intro out h1 h2
  obtain ⟨o1, o2, o3⟩ := SrtO.ints_out hi h1 h2
  obtain ⟨ep, he⟩ := PyProof.Rows.sortedAll_at s.heap its out.toArray
  have hshort : ((out.map SrtO.iv).map V.int).length ≤ sizeLine := by
    rw [List.length_map, o2.length_eq]
    rw [List.length_map] at hz
    exact hz
  have lay := I.laid (t' := s.toks) (a := s.heap.objs.size + 1) (o := .lst ((out.map SrtO.iv).map V.int)) (fun _ _ => PyProof.Rows.sortedAll_old) (Nat.le_succ _)
    ⟨hshort, out, ep, vals_of_ints o1, he⟩
  exact ⟨.ref _, _, lay, rfl, q _ _ o2 o3 (I.hok.fresh (Nat.le_succ _))⟩
end Par
namespace Par
open PySem PySem.Spec PyProof.Rows L2
theorem meets_enumT (l : Addr) (items : Array Value) :
    Meets (Builtin.«enumerate.__new__» ⟨[.type "enumerate", .ref l], []⟩) (fun _ R s => s.heap.IsTuple l items ∧
      R (.ok (.ret (.ref (s.heap.push { cls := .type "tuple_iterator", data := .fields #[.ref l, .int 0 0] }).objs.size)))
        { s with heap := (s.heap.push { cls := .type "tuple_iterator", data := .fields #[.ref l, .int 0 0] }).push { cls := .type "enumerate", data := .fields #[.none, .bool false, .ref s.heap.objs.size, rawInt 0, .none, .none] } }) := by
  refine .of_wp ?_
  rintro prog w A R ⟨hp, g, d, tk, os⟩ ⟨h1, h⟩
  have sub1 := sub_enumerate
  have it1 : ∀ {B : Around} {E : Value → Shared → Prop} {Q : Value → Shared → Prop},
      Q (.ref hp.objs.size) ⟨hp.push { cls := .type "tuple_iterator", data := .fields #[.ref l, .int 0 0] }, g, d, tk, os⟩ → wpAny (model prog w) B (pyIter (.ref l)) Q E ⟨hp, g, d, tk, os⟩ :=
    fun q => (begins_tuple l items).iter prog w _ _ ⟨hp, g, d, tk, os⟩ _ h1 q
  wp_walk using it1
  refine wpAny_stack_any (fun st => wpAny_pure ?_)
  split
  · rename_i c _ _ _ _ _
    cases (c == Value.type "enumerate") <;> (wp_walk using it1; exact ⟨_, rfl, h⟩)
  · wp_walk using it1
    exact ⟨_, rfl, h⟩
section
variable {prog : Program} {w : World} {A : Around} {E : Value → Shared → Prop} {s : Shared}
theorem call_enumT {l : Addr} {items : Array Value} {Q : Value → Shared → Prop} (hL : s.heap.IsTuple l items)
    (h : ∀ h', IsEnum h' (s.heap.objs.size + 1) s.heap.objs.size 0 .none → h'.IsTupleIter s.heap.objs.size l 0 → (∀ b o, s.heap.get? b = some o → h'.get? b = some o) →
      Q (.ref (s.heap.objs.size + 1)) { s with heap := h' }) : wpAny (model prog w) A (call (.type "enumerate") [.ref l]) Q E s := by
  refine callType_new F.called_enumerate (by decide) (F.typeCall_enumerate_1 _) (F.newCall_enumerate_1 _) (fun obj => F.args_object_init_2 obj _) F.entry_enumerate_new (meets_enumT l items) ⟨hL, ?_⟩
  generalize eg : s.heap.push { cls := .type "tuple_iterator", data := .fields #[.ref l, .int 0 0] } = g
  have hz : g.objs.size = s.heap.objs.size + 1 := by rw [← eg]; exact Heap.size_push ..
  have hi : g.get? s.heap.objs.size = some { cls := .type "tuple_iterator", data := .fields #[.ref l, .int 0 0] } := by rw [← eg]; exact Heap.get?_push_size _ rfl
  have hk : ∀ b o, s.heap.get? b = some o → g.get? b = some o := by rw [← eg]; exact fun b o x => Heap.get?_push_of_some _ x
  show _ ∧ _
  have he := Heap.get?_push_size g (o := { cls := .type "enumerate", data := .fields #[.none, .bool false, .ref s.heap.objs.size, rawInt 0, .none, .none] }) rfl
  rw [hz] at he ⊢
  exact ⟨⟨_, he, rfl⟩, h _ he ⟨_, Heap.get?_push_of_some _ hi, rfl, rfl⟩ fun b o x => Heap.get?_push_of_some _ (hk b o x)⟩
end
/-- the tuple at a, each item in a new pair -/
def ItEnT (K : PySem.W.Frag) (a : Addr) : It where
  go := fun i H => ∃ (xs : List V) (x : V), SqT K H a xs ∧ xs[i]? = some x
  yld := fun i H v H' => ∃ T x, v = .ref T ∧ H T = none ∧ H' = upd H T (.tup [.int (i : Nat), x]) ∧ ∀ xs, SqT K H a xs → xs[i]? = some x
  stop := fun i H => ∃ xs : List V, SqT K H a xs ∧ xs.length ≤ i
theorem turn_enumT {P : Program} {w : World} {K : PySem.W.Frag} {elts : List Expr} {kk : Nat} {tpos : Pos} (a e it : Addr) :
    Turn P w K (.Tuple elts kk tpos) (ItEnT K a) [e, it] e (fun i h => (∃ old, IsEnum h e it ((i : Nat) : Int) old) ∧ h.IsTupleIter it a i ∧ e ≠ it ∧ a ≠ it ∧ a ≠ e) where
  mem := by simp
  obj := by
    rintro i h ⟨⟨old, he⟩, ⟨o, ho, hc, hd⟩, _⟩ b hb
    rcases (show b = e ∨ b = it by simpa using hb) with rfl | rfl
    · exact ⟨_, he, fun v q => nomatch q⟩
    · exact ⟨o, ho, fun v q => by rw [hd] at q; cases q⟩
  keep := by
    rintro i h h' ⟨⟨old, he⟩, ⟨o, ho, r⟩, ne⟩ k
    exact ⟨⟨old, k e (by simp) _ he⟩, ⟨o, k it (by simp) o ho, r⟩, ne⟩
  item := by
    intro X hP hw hK hc i pins s σ H E I hf st hg
    subst hP hw hK
    obtain ⟨⟨old, he⟩, hit, hne, n1, n2⟩ := st
    obtain ⟨xs, x, hq, hx⟩ := hg
    obtain ⟨its, rv, p, hz⟩ := I.tuple hq
    obtain ⟨u, hu, ru⟩ := rv.get hx
    have hel : e < s.heap.objs.size := Heap.lt_size he
    have hil : it < s.heap.objs.size := let ⟨_, q, _⟩ := hit; Heap.lt_size q
    have hlt : i < its.toArray.size := by
      rcases Nat.lt_or_ge i its.length with z | z
      · simpa using z
      · rw [List.getElem?_eq_none z] at hu
        cases hu
    have hh : X.A.in1.handled = none := I.ok.hd hc
    refine wpAny_pyNext_enum_itemD (Draws.tuple hh it a n1 its.toArray) he ⟨hit, p⟩ hlt hne (by simp [hne, Ne.symm n2]) ?_
    intro y h1 tk hy ho hit1 hT hsz hk
    have ey : y = u := by
      have q : its.toArray[i]? = some u := by simpa using hu
      rw [hy] at q
      exact Option.some.inj q
    subst ey
    refine ⟨_, rfl, wpAny_letOwnedTupleGo_enum (s := { s with heap := h1, toks := tk + 1 }) ho ?_⟩
    intro h2 he2 sb
    have hT2 : h2.get? s.heap.objs.size = some { cls := .type "tuple", data := .seq #[.int i tk, y] } := (sb.2 _ (Nat.ne_of_gt hel)).trans hT
    have new : ObjOk X.prog X.w (upd H s.heap.objs.size (.tup [.int (i : Nat), x])) h2 s.heap.objs.size (.tup [.int (i : Nat), x]) :=
      ⟨by show 2 ≤ sizeLine; decide, [.int i tk, y], .cons ⟨_, rfl⟩ (.cons ru .nil), ⟨_, hT2, rfl, _, rfl⟩⟩
    have I1 : L2.Inv X pins σ (upd H s.heap.objs.size (.tup [.int (i : Nat), x])) { s with heap := h2, toks := tk + 1 } := by
      refine I.turnedNew (ch := [e, it]) ?_ hf (Nat.le_refl _) new
      intro b ob hb q
      have b1 : b ≠ e := fun z => hb (by simp [z])
      exact (sb.2 b b1).trans (hk b ob b1 (fun z => hb (by simp [z])) q)
    refine ⟨.ref s.heap.objs.size, _, I1, rfl, ⟨_, x, rfl, I.hok.fresh (Nat.le_refl _), rfl, ?_⟩, ⟨⟨y, ?_⟩, ?_, hne, n1, n2⟩, ?_⟩
    · intro ys hy
      rw [I.tuple_inj hy hq]
      exact hx
    · have e1 : ((i + 1 : Nat) : Int) = (i : Int) + 1 := by omega
      rw [e1]
      exact he2
    · obtain ⟨o, q, r⟩ := hit1.1
      exact ⟨o, (sb.2 it (Ne.symm hne)).trans q, r⟩
    · intro b hb
      have hb2 : b < s.heap.objs.size := by
        rcases (show b = e ∨ b = it by simpa using hb) with rfl | rfl
        · exact hel
        · exact hil
      rw [upd_ne (Nat.ne_of_lt hb2)]
      exact (hf b hb).1
  done := by
    intro X hP hw hK hc i pins s σ H E I hf st hg
    subst hP hw hK
    obtain ⟨⟨old, he⟩, hit, hne, n1, n2⟩ := st
    obtain ⟨xs, hq, hx⟩ := hg
    obtain ⟨its, rv, p, hz⟩ := I.tuple hq
    obtain ⟨f0, f1, f2, f3, f4, f5⟩ := hf it (by simp)
    have hh : X.A.in1.handled = none := I.ok.hd hc
    by_cases hi : i = its.toArray.size
    · subst hi
      refine wpAny_pyNext_enum_endD (Draws.tuple hh it a n1 its.toArray) he ⟨hit, p⟩ ?_
      intro h1 ex
      exact ⟨rfl, I.turned (t' := s.toks) (fun b o hb q => ex b o hb q) f0 f1 f3 f4 f5⟩
    · refine wpAny_bind (wpAny_attempt (wpAny_callSpecial?_slot (s := s) (name := Str.ofString "__next__") ⟨_, he, rfl⟩ F.slot_enumerate_next
        (wpAny_call_entry (s := s) F.slot_enumerate_next ⟨_, he, rfl⟩ F.entry_enumerate_next ?_ (F.args_enumerate_next_1 _))))
      show wpAny _ _ (field (Value.ref e) 2 >>= _) _ _ s
      refine wpAny_bind (wpAny_field (s := s) he rfl (x := .ref it) rfl ?_)
      refine wpAny_bind (wpAny_nextOf_tuple_end hh hit p (by simp; have := rv.length; omega) ?_)
      rintro h1 z ex ⟨o, ho, hcl⟩
      refine wpAny_bind (wpAny_isInstance (T := "StopIteration") (b := true) ⟨o, ho, hcl⟩ isSubtype_stop ?_)
      exact wpAny_pure ⟨rfl, I.turned (t' := s.toks) (fun b o hb q => ex b o hb q) f0 f1 f3 f4 f5⟩
  self := by
    rintro A i s Q E ⟨⟨_, he⟩, _⟩ h
    exact wpAny_pyIter_enum he h
def iEnumT (K : PySem.W.Frag) (ta : TA) : TI := fun σ H R => ta σ H fun vs H1 => ∃ a xs, vs = [.ref a] ∧ SqT K H1 a xs ∧ R (ItEnT K a) H1
/-- for i, x in enumerate(t), t a tuple -/
theorem pi_enumT {X : Cx} {e : Expr} {ta : TA} {p pos tpos : Pos} {elts : List Expr} {kk : Nat} (hg : Gl X "enumerate") (hm : X.mg "enumerate" = none) (ha : PA X [e] ta)
    (hs : starEach [e] X.env = [(false, eval e X.env)] := by rfl) : PI X (.Tuple elts kk tpos) (.Call (.Name "enumerate" p) [e] [] pos) (iEnumT X.K ta) := by
  constructor
  intro pins s σ H R I h
  refine Call_ (ld_blt I hg hm boot_enumerate (PyProof.Rows.callWith_type1 (thn (ha.run pos pins s σ H _ I h) ?_) hs rfl))
  rintro us s1 ⟨vs, H1, I1, r1, a, xs, rfl, hq, q⟩
  cases r1 with
  | cons r rr =>
    cases rr
    cases r
    obtain ⟨its, rv, pl, hz⟩ := I1.tuple hq
    refine call_enumT pl ?_
    intro h1 he hit hk
    refine wpAny_pyIter_enum he ?_
    have I2 : L2.Inv X pins σ H1 { s1 with heap := h1 } := I1.kept (t' := s1.toks) hk
    have al : a < s1.heap.objs.size := pl.lt
    refine ⟨s1.heap.objs.size + 1, [s1.heap.objs.size + 1, s1.heap.objs.size], _, _, H1, rfl, I2, turn_enumT a (s1.heap.objs.size + 1) s1.heap.objs.size,
      ⟨⟨.none, he⟩, hit, Nat.succ_ne_self _, Nat.ne_of_lt al, Nat.ne_of_lt (Nat.lt_succ_of_lt al)⟩, ?_, q⟩
    intro b hb
    have hle : s1.heap.objs.size ≤ b := by
      rcases (show b = s1.heap.objs.size + 1 ∨ b = s1.heap.objs.size by simpa using hb) with z | z
      · rw [z]
        exact Nat.le_succ _
      · rw [z]
        exact Nat.le_refl _
    exact I1.fpOk hle (I1.hok.fresh hle)
theorem walk_enumT {K : PySem.W.Frag} {a : Addr} {xs : List V} :
    Walk (ItEnT K a) xs.length (fun H => SqT K H a xs) (YPair (fun i => some (.int (i : Nat))) (fun i => xs[i]?)) where
  goes := fun i H hi h => ⟨xs, xs[i], h, by simp [hi]⟩
  stops := fun H h => ⟨xs, h, Nat.le_refl _⟩
  yields := by
    rintro i H v H' hi h ⟨T, x, rfl, hn, rfl, hx⟩
    exact ⟨T, _, x, rfl, hn, rfl, rfl, hx xs h⟩
end Par
namespace Par
open PySem PySem.Spec PyProof.Rows L2
/-- a statement that is never reached -/
theorem ps_off {X : Cx} {st : Stmt} : PS X st (fun _ _ _ => False) := ⟨fun _ _ _ _ _ _ h => h.elim⟩
/-- o.m(k = v, ..) -/
def tMethK (C : Addr) (m : Str) (n : Nat) (sp : Sp) (gV : List V → List V → List V) (E : XK) (ta : TE) (tk : TA) : TE := fun σ H Q => ta σ H fun x H1 => ∃ a dx fs, x = .ref a ∧ H1 a = some (.ins C dx fs) ∧ fs.lookup m = none ∧
  tk σ H1 fun zs H2 => zs.length = n ∧ sp (gV [x] zs) H2 Q E
section
variable {X : Cx} {CX : CXT} {k : Nat} {f C : Addr} {fd : FuncData} {ps ks : List Str} {sp : Sp} {E : XK} {x m : Str} {p pos apos : Pos} {e o : Expr} {es : List Expr} {kws : List Keyword} {ta : TE} {t tk : TA}
  {g : List Value → List Value → List Value} {gV : List V → List V → List V}
theorem pe_methK {pl : Sem Bool} (he : PE X o ta) (c : Cls X.K C) (hm : Meth X.K C m f) (F : FnOk X.prog X.w X.K X.mg X.base CX k f fd ps sp) (hr : Room k X.A) (hb : KBn X.K fd ps 1 ks g gV) (hx : Passes CX X E) (hkw : PK X kws tk)
    (hall : (backToKw pos (keywordEach kws X.env)).all (·.1.isSome) = true := by rfl) (hks : (backToKw pos (keywordEach kws X.env)).filterMap (·.1) = ks := by rfl)
    (hpl : ((backTo pos (starEach [] X.env)).any (·.1) || (backToKw pos (keywordEach kws X.env)).any (·.1.isNone)) = false := by rfl)
    (ht : eval (.Call (.Attribute o m apos) [] kws pos) X.env = (do
      let ov ← eval o X.env
      standAt apos.atName
      let (f, first) ← holding [ov] (getMethod ov m pl)
      callWith pos f first (backTo pos (starEach [] X.env)) (backToKw pos (keywordEach kws X.env))) := by rfl) :
    PE X (.Call (.Attribute o m apos) [] kws pos) (tMethK C m ks.length sp gV E ta tk) := by
  refine ⟨fun pins s σ H Q I h => ?_⟩
  refine PySem.W.methodCall_KW (pl := pl) (thn (he.run pins s σ H _ I h) ?_) ht
  rintro u s1 ⟨x, H1, I1, rx, a, dx, fs, ex, ea, l, q⟩
  subst ex
  obtain rfl : u = Value.ref a := rx
  refine getmeth_ok I1 ea c hm l ?_
  refine PySem.W.callWith_KW0 (first := [.ref a]) (h₀ := X.base) I.ok.mod.kin hm.kp hall ?_ hpl
  refine thn (hkw.run pos pins s1 σ H1 _ I1 q) ?_
  rintro ws s2 ⟨zs, H2, I2, rz, l2, q2⟩
  refine ⟨I2.kIn, ?_⟩
  rw [hks]
  have r1 : Vals [V.ref a] ([.ref a] ++ []) := .cons rfl .nil
  refine wpAny_call (codeAny_mono (F.run X.A X.stack s2 H2 ⟨[.ref a] ++ [], ks.zip ws⟩ (g [.ref a] ws) (gV [.ref a] zs) Q E hr I2.env0
    (hb.to s2 [.ref a] ws I2.kIn rfl (rz.length.symm.trans l2)) (hb.rel r1 rz) q2) ?_)
  intro res s3 hq
  cases res with
  | error er => exact hx pins σ H2 s2 er s3 I2 hq
  | ok fl =>
    cases fl with
    | ret u => exact I2.after hq
    | next => exact False.elim hq
    | brk => exact False.elim hq
    | cont => exact False.elim hq
/-- len(o), o an own instance whose class has __len__ -/
theorem cr_lenOwn (c : PySem.W.findIn X.K (.ref C) "__len__" = some (some (.ref f))) (hf : PySem.W.isFn X.K (.ref f) = true) (F : FnOk X.prog X.w X.K X.mg X.base CX k f fd ps sp) (hr : Room (k + 1) X.A) (hb : Binds X.K fd ps []) (hx : Passes CX X E) :
    CallR X (.builtin "len") (fun vs H Q => ∃ a dx fs, vs = [.ref a] ∧ H a = some (.ins C dx fs) ∧ sp [.ref a] H (fun v H2 => ∃ n : Int, v = .int n ∧ 0 ≤ n ∧ n < 2 ^ 63 ∧ Q (.int n) H2) E) := by
  intro pins s σ H vs us Q I r h
  obtain ⟨a, dx, fs, rfl, ha, q⟩ := h
  rw [Vals.ref1 r]
  obtain ⟨mA, O, _⟩ := ins_get I.hok ha
  obtain ⟨od, J, hl⟩ := O.look
  refine Calls.call_function_entry kind_len plain_len entry_len (args_len1 _) ?_
  unfold Builtin.«len»
  refine wpAny_bind (m := oneArg "len" _) (wpAny_pure ?_)
  refine wpAny_bind (m := callSpecial? (.ref a) (Str.ofString "__len__")) (PySem.W.special_fn I.kIn J c (beq_iff_eq.mp hf) ?_)
  have hlen : ([Value.ref a] ++ []).length = ps.length := F.len _ _ _ _ q
  refine wpAny_call (codeAny_mono (F.run X.A.in1 X.stack s H ⟨[.ref a], []⟩ [.ref a] [.ref a] _ E hr.in1 I.env0.in1 (hb s [.ref a] I.kIn hlen) (.cons rfl .nil) q) ?_)
  intro res s3 hq
  cases res with
  | error er => exact hx pins σ H s er s3 I hq
  | ok fl =>
    cases fl with
    | next => exact False.elim hq
    | brk => exact False.elim hq
    | cont => exact False.elim hq
    | ret u =>
      obtain ⟨v, H3, I3, rv, n, rfl, n0, n1, q3⟩ := I.after hq
      obtain ⟨tk, rfl⟩ := rv
      refine wpAny_bind (wpAny_holding (wpAny_pure ?_))
      refine wpAny_bind (wpAny_letGo ?_)
      show wpAny _ _ (if n < 0 then _ else _) _ _ _
      rw [if_neg (by omega)]
      show wpAny _ _ (if n ≥ 2 ^ 63 then _ else _) _ _ _
      rw [if_neg (by omega)]
      exact wpAny_bind (wpAny_mkInt (wpAny_pure ⟨_, rfl, .int n, H3, I3.tok _, ⟨_, rfl⟩, q3⟩))
end
end Par
namespace K31
open PySem PySem.Spec PyProof.Rows L2 Par
def topS (i : Nat) : Stmt := PySem.Challenge.pw_paritycells_k31_names_times_stamps.main.body.getD i (.Pass ⟨0, 0, 0, 0⟩)
abbrev sInteger : Stmt := topS 1
abbrev sBetween : Stmt := topS 2
abbrev sName : Stmt := topS 7
abbrev sTime : Stmt := topS 8
abbrev sStamp : Stmt := topS 9
abbrev sPot : Stmt := topS 11
abbrev sDraw : Stmt := topS 12
abbrev sMoment : Stmt := topS 13
abbrev sMark : Stmt := topS 14
abbrev sWord : Stmt := topS 15
abbrev sOdd : Stmt := topS 16
abbrev sIsWord : Stmt := topS 17
abbrev sIsMoment : Stmt := topS 18
abbrev sIsMark : Stmt := topS 19
abbrev sBent : Stmt := topS 20
abbrev sRight : Stmt := topS 21
abbrev sLaw : Stmt := topS 22
/-- the built-in names that the module leaves alone -/
structure Bl (mg : Str → Option Value) : Prop where
  len : mg "len" = none
  abs : mg "abs" = none
  max : mg "max" = none
  min : mg "min" = none
  divmod : mg "divmod" = none
  list : mg "list" = none
  tuple : mg "tuple" = none
  range : mg "range" = none
  isinstance : mg "isinstance" = none
  bool : mg "bool" = none
  int : mg "int" = none
  sorted : mg "sorted" = none
  set : mg "set" = none
  all : mg "all" = none
  enumerate : mg "enumerate" = none
  repr : mg "repr" = none
  str : mg "str" = none

/-! ### the pot: two numbers that are not negative, the second one small -/
def PotAt (H : Hp) (p : Addr) : Prop := ∃ a b : Int, H p = some (.lst [.int a, .int b]) ∧ 0 ≤ a ∧ 0 ≤ b ∧ b < 2147483648
/-- all but what stands at p is as it was -/
def But (p : Addr) (H H' : Hp) : Prop := ∀ b o, b ≠ p → H b = some o → H' b = some o
theorem But.refl (p : Addr) (H : Hp) : But p H H := fun _ _ _ h => h
theorem But.trans {p : Addr} {H H1 H2 : Hp} (a : But p H H1) (b : But p H1 H2) : But p H H2 := fun c o n h => b c o n (a c o n h)
theorem But.upd {p : Addr} {H : Hp} (o : HO) : But p H (L2.upd H p o) := fun b u n h => by rw [upd_ne n]; exact h
theorem But.new {p q : Addr} {H : Hp} {o : HO} (n : H q = none) : But p H (L2.upd H q o) := fun b u _ h => by rw [upd_ne (ne_of_none h n)]; exact h
theorem But.same {p : Addr} {H H' : Hp} (h : Same H H') : But p H H' := fun b o _ e => h b o e
theorem PotAt.same {p : Addr} {H H' : Hp} (x : PotAt H p) (s : Same H H') : PotAt H' p := by
  obtain ⟨a, b, e, r⟩ := x
  exact ⟨a, b, s _ _ e, r⟩
theorem same_new {H : Hp} {q : Addr} {o : HO} (n : H q = none) : Same H (upd H q o) := fun b u h => by
  rw [upd_ne (ne_of_none h n)]
  exact h
theorem But.free {p q : Addr} {H H' : Hp} (h : But p H H') (x : PotAt H p) (n : H' q = none) (x' : PotAt H' p) : H q = none := by
  cases e : H q with
  | none => rfl
  | some o =>
    by_cases z : q = p
    · subst z
      obtain ⟨_, _, e', _⟩ := x'
      rw [n] at e'
      cases e'
    · rw [h q o z e] at n
      cases n

section
variable {P : Program} {w : World} {K : PySem.W.Frag} {mg : Str → Option Value} {base : Heap}

def spPot (K : PySem.W.Frag) : Sp := fun vs H Q _ => ∃ (a : Addr) (ns : List Int) (k : Nat), vs = [.ref a, .int (k : Int)] ∧ SqL K H a (ns.map V.int) ∧ k ≤ 1000 ∧
  ∀ p H', H p = none → Same H H' → PotAt H' p → Q (.ref p) H'
theorem scPot : FnScope ["_law_script", "_law_k", "_law_number"] ["_law_script", "_law_k"] (defScope sPot) := ⟨rfl, rfl, rfl, by decide +kernel, rfl, by decide +kernel, by decide +kernel⟩
theorem ok_pot {f : Addr} {fd : FuncData} (F : Fun K "_law_pot" "_law_pot" sPot f fd) (B : Bl mg) : FnOk P w K mg base CX0 2 f fd ["_law_script", "_law_k"] (spPot K) := by
  refine F.ok scPot (fun vs H Q E h => ?_) (fun cdv A outer s H vs Q E hr h => ?_)
  · obtain ⟨a, ns, k, rfl, _⟩ := h
    rfl
  · obtain ⟨a, ns, k, rfl, hS, hk, out⟩ := h
    refine ⟨_, pss_cons (ps_set (i := 2) scPot.nd rfl (Or.inl rfl) (pe_ifExp (pt_cmpR op_lt (pv 1) (pe_callB call_len_seq (by rfl) B.len PySem.boot_len (pa_cons (pv 0) pa_nil)) (nomark _)) (pe_ix ix_list (pv 0) (pv 1) (fun _ _ => rfl)) pe_int))
      (pss_one (ps_ret (pe_lst (pa_cons
        (pe_callB (call_max2 rfl) (by rfl) B.max (by decide +kernel) (pa_cons pe_int (pa_cons (pe_op op_sub (pe_callB call_abs (by rfl) B.abs (by decide +kernel) (pa_cons (pv 2) pa_nil)) (pe_op op_pow pe_int pe_int)) pa_nil)))
        (pa_cons (pe_op op_mod (pe_op op_add (pe_op op_add (pe_op op_mul (pe_op op_mod (pe_callB call_abs (by rfl) B.abs (by decide +kernel) (pa_cons (pv 2) pa_nil)) pe_int) pe_int) (pe_op op_mul pe_int (pv 1))) pe_int) pe_int) pa_nil))))), ?_⟩
    have hm : ∀ d : Int, (0 : Int) ≤ (if d < 0 then -d else d) % 2147483587 ∧ (if d < 0 then -d else d) % 2147483587 < 2147483587 := fun d => ⟨Int.emod_nonneg _ (by decide), Int.emod_lt_of_pos _ (by decide)⟩
    have two : ∀ x : Int, 0 ≤ (if x > 0 then x else 0) := fun x => by split <;> omega
    have fin : ∀ d : Int, ∀ p, H p = none → Q (.ref p) (upd H p (.lst [.int (if (if d < 0 then -d else d) - 10 ^ 18 > 0 then (if d < 0 then -d else d) - 10 ^ 18 else 0),
        .int (((if d < 0 then -d else d) % 2147483587 * 48271 + 60013 * (k : Int) + 29) % 2147483647)])) := by
      intro d p hp
      refine out p _ hp (same_new hp) ⟨_, _, upd_same, two _, Int.emod_nonneg _ (by decide), ?_⟩
      have := Int.emod_lt_of_pos ((if d < 0 then -d else d) % 2147483587 * 48271 + 60013 * (k : Int) + 29) (b := 2147483647) (by decide)
      omega
    refine ⟨_, rfl, _, rfl, a, _, rfl, .inl hS, _, _, rfl, rfl, _, rfl, ?_⟩
    refine ite2 (fun hlt => ?_) (fun _ => ?_)
    · have hlt2 : (k : Int) < ((ns.map V.int).length : Int) := of_decide_eq_true hlt
      rw [List.length_map] at hlt2
      have hk2 : k < ns.length := by omega
      refine ⟨_, rfl, _, rfl, a, _, _, .int ns[k], rfl, rfl, hS, atI_nat (by simp [hk2]), ?_⟩
      refine ⟨_, rfl, _, rfl, 10, 18, rfl, rfl, ⟨by decide, by decide, by decide⟩, _, _, rfl, rfl, 0, _, rfl, ?_⟩
      refine ⟨_, rfl, _, rfl, _, _, rfl, rfl, (by show (0 : Int) < _; decide), _, _, rfl, rfl, .inl ⟨by have := hm ns[k]; omega, by have := hm ns[k]; omega⟩, _, rfl, 60013, _, rfl, rfl, .inl ⟨by decide, by decide⟩, _, _, rfl, rfl, _, _, rfl, rfl, _, _, rfl, rfl, (by show (0 : Int) < _; decide), ?_⟩
      exact ⟨(by show 2 ≤ sizeLine; decide), fin ns[k]⟩
    · refine ⟨_, rfl, _, rfl, 10, 18, rfl, rfl, ⟨by decide, by decide, by decide⟩, _, _, rfl, rfl, 0, _, rfl, ?_⟩
      refine ⟨_, rfl, _, rfl, _, _, rfl, rfl, (by show (0 : Int) < _; decide), _, _, rfl, rfl, .inl ⟨by have := hm 0; omega, by have := hm 0; omega⟩, _, rfl, 60013, _, rfl, rfl, .inl ⟨by decide, by decide⟩, _, _, rfl, rfl, _, _, rfl, rfl, _, _, rfl, rfl, (by show (0 : Int) < _; decide), ?_⟩
      exact ⟨(by show 2 ≤ sizeLine; decide), fin 0⟩

theorem pylong_no {a m : Int} (h0 : 0 < m) (h : m < 2 ^ 200) : Builtin.divisionGoesByPylong a m = false := by
  refine PyProof.noPylong_of_log2 ?_
  have h1 : m.natAbs < 2 ^ 200 := by omega
  have h2 : m.natAbs.log2 < 200 := (Nat.log2_lt (by omega)).mpr h1
  omega
/-- one draw: a digit below many; the pot goes on -/
def spDraw : Sp := fun vs H Q _ => ∃ (p : Addr) (m : Int), vs = [.ref p, .int m] ∧ PotAt H p ∧ 0 < m ∧ m < 2 ^ 200 ∧
  ∀ d H', 0 ≤ d → d < m → But p H H' → PotAt H' p → Q (.int d) H'
theorem scDraw : FnScope ["_law_pot_here", "_law_many", "_law_digit"] ["_law_pot_here", "_law_many"] (defScope sDraw) := ⟨rfl, rfl, rfl, by decide +kernel, rfl, by decide +kernel, by decide +kernel⟩
theorem ok_draw {f : Addr} {fd : FuncData} (F : Fun K "_law_draw" "_law_draw" sDraw f fd) (B : Bl mg) : FnOk P w K mg base CX0 2 f fd ["_law_pot_here", "_law_many"] spDraw := by
  refine F.ok scDraw (fun vs H Q E h => ?_) (fun cdv A outer s H vs Q E hr h => ?_)
  · obtain ⟨p, m, rfl, _⟩ := h
    rfl
  · obtain ⟨p, m, rfl, ⟨a, b, hp, ha, hb, hb2⟩, hm, hm2, out⟩ := h
    refine ⟨_, pss_cons (ps_if (pt_cmpR op_gt (pe_ix ix_list (pv 0) pe_int (fun _ _ => rfl)) pe_int (nomark _))
        (pss_cons (ps_asg (pe_callB call_divmodW (by rfl) B.divmod (by decide +kernel) (pa_cons (pe_ix ix_list (pv 0) pe_int (fun _ _ => rfl)) (pa_cons (pv 1) pa_nil))) (pg_tup rfl (pgs_cons (pg_sub (pv 0) pe_int set_list) (pgs_cons (pg_name (i := 2) scDraw.nd rfl (Or.inl rfl)) pgs_nil))))
          (pss_one (ps_ret (pv 2)))) pss_nil)
      (pss_cons (ps_asg (pe_op op_mod (pe_op op_add (pe_op op_mul (pe_ix ix_list (pv 0) pe_int (fun _ _ => rfl)) pe_int) pe_int) pe_int) (pg_sub (pv 0) pe_int set_list))
      (pss_one (ps_ret (pe_op op_mod (pe_op op_fdiv (pe_op op_mod (pe_op op_mul (pe_ix ix_list (pv 0) pe_int (fun _ _ => rfl)) (pe_ix ix_list (pv 0) pe_int (fun _ _ => rfl))) pe_int) pe_int) (pv 1))))), ?_⟩
    have hL : SqL K H p [.int a, .int b] := SqL.of hp
    refine ⟨_, rfl, p, _, 0, .int a, rfl, rfl, hL, rfl, a, 0, rfl, rfl, _, rfl, ?_⟩
    refine ite2 (fun hpos => ?_) (fun hneg => ?_)
    · refine ⟨_, rfl, p, _, 0, .int a, rfl, rfl, hL, rfl, _, rfl, a, m, rfl, ⟨hm, pylong_no hm hm2⟩, fun q hq => ?_⟩
      have hne : p ≠ q := ne_of_none hp hq
      have hT : SqT K (upd H q (.tup [.int (a / m), .int (a % m)])) q [.int (a / m), .int (a % m)] := SqT.of upd_same
      have hp2 : (upd H q (.tup [.int (a / m), .int (a % m)])) p = some (.lst [.int a, .int b]) := by
        rw [upd_ne hne]
        exact hp
      refine ⟨q, _, rfl, hT, rfl, _, _, rfl, _, rfl, p, _, 0, 0, rfl, rfl, hp2, rfl, _, _, rfl, rfl, _, rfl, ?_⟩
      exact out (a % m) _ (Int.emod_nonneg _ (by omega)) (Int.emod_lt_of_pos _ hm) ((But.new hq).trans (But.upd _)) ⟨a / m, b, upd_same, Int.ediv_nonneg ha (by omega), hb, hb2⟩
    · have h0 : (0 : Int) ≤ (b * 39373 + 12227) % 2147483629 := Int.emod_nonneg _ (by decide)
      have h1 : (b * 39373 + 12227) % 2147483629 < 2147483629 := Int.emod_lt_of_pos _ (by decide)
      refine ⟨_, rfl, p, _, 1, .int b, rfl, rfl, hL, rfl, b, 39373, rfl, rfl, .inl ⟨by omega, by omega⟩, _, _, rfl, rfl, _, _, rfl, rfl, (by show (0 : Int) < _; decide), _, rfl, p, _, 1, 1, rfl, rfl, hp, rfl, ?_⟩
      have hL2 : SqL K (upd H p (.lst [.int a, .int ((b * 39373 + 12227) % 2147483629)])) p [.int a, .int ((b * 39373 + 12227) % 2147483629)] := SqL.of upd_same
      refine ⟨_, rfl, p, _, 1, _, rfl, rfl, hL2, rfl, _, rfl, p, _, 1, _, rfl, rfl, hL2, rfl, _, _, rfl, rfl, .inl ⟨by omega, by omega⟩, _, _, rfl, rfl, (by show (0 : Int) < _; decide), _, _, rfl, rfl, ⟨by decide, by decide⟩, _, rfl, _, m, rfl, rfl, hm, ?_⟩
      exact out _ _ (Int.emod_nonneg _ (by omega)) (Int.emod_lt_of_pos _ hm) (But.upd _) ⟨a, _, upd_same, ha, h0, by omega⟩
end
end K31
namespace K31
open PySem PySem.Spec PyProof.Rows L2 Par
section
variable {P : Program} {w : World} {K : PySem.W.Frag} {mg : Str → Option Value} {base : Heap}
/-- a def of the module that raises nothing -/
def Has (P : Program) (w : World) (K : PySem.W.Frag) (mg : Str → Option Value) (base : Heap) (x : Str) (lv : Nat) (ps : List Str) (sp : Sp) : Prop :=
  ∃ f fd, FnOk P w K mg base CX0 lv f fd ps sp ∧ mg x = some (.ref f) ∧ PySem.W.keepIn K (.ref f) = true ∧ Binds K fd ps []
end
/-- is it a whole number from lo to hi -/
def isV (v : V) (lo hi : Int) : Bool := match v with
  | .int i => decide (lo ≤ i) && decide (i ≤ hi)
  | _ => false
/-- its type is known, and tells whether it is a bool, an int -/
def Typed (K : PySem.W.Frag) (H : Hp) (v : V) : Prop := (∃ b, v = .bl b) ∨ (∃ i, v = .int i) ∨
  (∃ n, TyX K H v (.type n) ∧ (n = "NoneType" ∨ n = "str" ∨ n = "list" ∨ n = "tuple" ∨ n = "dict") ∧ (∀ b, v ≠ .bl b) ∧ ∀ i, v ≠ .int i)
theorem isV_other {v : V} {lo hi : Int} (h : ∀ i, v ≠ .int i) : isV v lo hi = false := by
  unfold isV
  split
  · rename_i i
    exact absurd rfl (h i)
  · rfl
theorem sq_ty {K : PySem.W.Frag} {H : Hp} {a : Addr} {xs : List V} (h : SqL K H a xs) : TyX K H (.ref a) (.type "list") := by
  rcases h with (h | ⟨o, h⟩) | ⟨o, its, n, hk, hc, _⟩
  · exact .base (.lst h)
  · exact .base (.frz h)
  · exact .kList hk hc
theorem sqt_ty {K : PySem.W.Frag} {H : Hp} {a : Addr} {xs : List V} (h : SqT K H a xs) : TyX K H (.ref a) (.type "tuple") := by
  rcases h with (h | ⟨o, h⟩) | ⟨o, its, n, hk, hc, _⟩
  · exact .base (.tup h)
  · exact .fTuple h
  · exact .kTuple hk hc
theorem typed_dp {K : PySem.W.Frag} {H : Hp} {v : V} {d : PyData} (h : Dp K H v d) : Typed K H v := by
  cases h with
  | non => exact .inr (.inr ⟨_, .base .non, .inl rfl, by simp, by simp⟩)
  | bl b => exact .inl ⟨b, rfl⟩
  | int i => exact .inr (.inl ⟨i, rfl⟩)
  | str x => exact .inr (.inr ⟨_, .base (.str x), .inr (.inl rfl), by simp, by simp⟩)
  | lst hs _ => exact .inr (.inr ⟨_, sq_ty hs, by simp, by simp, by simp⟩)
  | tup hs _ => exact .inr (.inr ⟨_, sqt_ty hs, by simp, by simp, by simp⟩)
theorem typed_fl {K : PySem.W.Frag} {H : Hp} {v : V} {d : PyData} (h : Fl H v d) : Typed K H v := by
  cases h with
  | non => exact .inr (.inr ⟨_, .base .non, .inl rfl, by simp, by simp⟩)
  | bl b => exact .inl ⟨b, rfl⟩
  | int i => exact .inr (.inl ⟨i, rfl⟩)
  | str x => exact .inr (.inr ⟨_, .base (.str x), .inr (.inl rfl), by simp, by simp⟩)
  | dic0 e => exact .inr (.inr ⟨_, .base (.dK e), by simp, by simp, by simp⟩)
  | dic1 e => exact .inr (.inr ⟨_, .base (.dK e), by simp, by simp, by simp⟩)
section
variable {P : Program} {w : World} {K : PySem.W.Frag} {mg : Str → Option Value} {base : Heap}
theorem kit_bool {n : String} (h : n = "NoneType" ∨ n = "str" ∨ n = "list" ∨ n = "tuple" ∨ n = "dict") : PySem.W.kitOne K (.type n) (.type "bool") = some false := by
  rcases h with rfl | rfl | rfl | rfl | rfl <;> exact kit_ty (by decide +kernel)
theorem kit_int {n : String} (h : n = "NoneType" ∨ n = "str" ∨ n = "list" ∨ n = "tuple" ∨ n = "dict") : PySem.W.kitOne K (.type n) (.type "int") = some false := by
  rcases h with rfl | rfl | rfl | rfl | rfl <;> exact kit_ty (by decide +kernel)
/-- a whole number and no bool -/
def wholeV : V → Bool
  | .int _ => true
  | _ => false
theorem wholeV_other {v : V} (h : ∀ i, v ≠ .int i) : wholeV v = false := by
  cases v <;> first | rfl | exact absurd rfl (h _)
/-- is_integer -/
def spIntegerA (K : PySem.W.Frag) : Sp := fun vs H Q _ => ∃ v : V, vs = [v] ∧ Typed K H v ∧ Q (.bl (wholeV v)) H
theorem scInteger : FnScope ["thing"] ["thing"] (defScope sInteger) := ⟨rfl, rfl, rfl, by decide +kernel, rfl, by decide +kernel, by decide +kernel⟩
theorem ok_integerA {f : Addr} {fd : FuncData} (F : Fun K "is_integer" "is_integer" sInteger f fd) (B : Bl mg) : FnOk P w K mg base CX0 1 f fd ["thing"] (spIntegerA K) := by
  refine F.ok scInteger (fun vs H Q E h => ?_) (fun cdv A outer s H vs Q E hr h => ?_)
  · obtain ⟨v, rfl, _⟩ := h
    rfl
  · obtain ⟨v, rfl, hT, out⟩ := h
    refine ⟨_, pss_one (ps_ret (pe_and (pe_callB call_isi (by rfl) B.isinstance (by decide +kernel) (pa_cons (pv 0) (pa_cons (pe_bltn (v := .ty "int") (by rfl) B.int (by decide +kernel) rfl) pa_nil))) (pe_one (pe_not (pe_callB call_isi (by rfl) B.isinstance (by decide +kernel) (pa_cons (pv 0) (pa_cons (pe_bltn (v := .ty "bool") (by rfl) B.bool (by decide +kernel) rfl) pa_nil))))))), ?_⟩
    rcases hT with ⟨b, rfl⟩ | ⟨i, rfl⟩ | ⟨n, ty, hn, nb, ni⟩
    · refine ⟨_, rfl, _, _, _, _, true, rfl, .ty "int", .base (.bl b), kit_ty (by decide +kernel), _, rfl, iteT ?_⟩
      exact ⟨_, rfl, _, _, _, _, true, rfl, .ty "bool", .base (.bl b), kit_ty (by decide +kernel), _, rfl, out⟩
    · refine ⟨_, rfl, _, _, _, _, true, rfl, .ty "int", .base (.int i), kit_ty (by decide +kernel), _, rfl, iteT ?_⟩
      exact ⟨_, rfl, _, _, _, _, false, rfl, .ty "bool", .base (.int i), kit_ty (by decide +kernel), _, rfl, out⟩
    · rw [wholeV_other ni] at out
      refine ⟨_, rfl, _, _, _, _, false, rfl, .ty "int", ty, kit_int hn, _, rfl, iteF ?_⟩
      exact out
/-- is_integer_between -/
def spBetween (K : PySem.W.Frag) : Sp := fun vs H Q _ => ∃ (v : V) (lo hi : Int), vs = [v, .int lo, .int hi] ∧ Typed K H v ∧ Q (.bl (isV v lo hi)) H
theorem scBetween : FnScope ["thing", "low", "high"] ["thing", "low", "high"] (defScope sBetween) := ⟨rfl, rfl, rfl, by decide +kernel, rfl, by decide +kernel, by decide +kernel⟩
theorem ok_between {f : Addr} {fd : FuncData} (F : Fun K "is_integer_between" "is_integer_between" sBetween f fd) (B : Bl mg) (D : Has P w K mg base "is_integer" 1 ["thing"] (spIntegerA K)) : FnOk P w K mg base CX0 2 f fd ["thing", "low", "high"] (spBetween K) := by
  obtain ⟨fD, fdD, GD, mD, kD, bD⟩ := D
  refine F.ok scBetween (fun vs H Q E h => ?_) (fun cdv A outer s H vs Q E hr h => ?_)
  · obtain ⟨v, lo, hi, rfl, _⟩ := h
    rfl
  · obtain ⟨v, lo, hi, rfl, hT, out⟩ := h
    refine ⟨_, pss_one (ps_ret (pe_and (pe_call GD hr (by rfl) mD kD bD .nil pass0 (pa_cons (pv 0) pa_nil)) (pe_one (pe_chain op_le op_le (pv 1) (pv 0) (pv 2))))), ?_⟩
    have hT0 := hT
    rcases hT with ⟨b, rfl⟩ | ⟨i, rfl⟩ | ⟨n, ty, hn, nb, ni⟩
    · exact ⟨_, rfl, _, rfl, hT0, _, rfl, iteF out⟩
    · refine ⟨_, rfl, _, rfl, hT0, _, rfl, iteT ?_⟩
      refine ⟨_, rfl, _, rfl, lo, i, rfl, rfl, _, rfl, ite2 (fun h1 => ?_) (fun h1 => ?_)⟩
      · refine ⟨_, rfl, i, hi, rfl, rfl, ?_⟩
        have e : isV (.int i) lo hi = decide (i ≤ hi) := by
          show (decide (lo ≤ i) && decide (i ≤ hi)) = _
          rw [h1]
          rfl
        rw [e] at out
        exact out
      · have e : isV (.int i) lo hi = false := by
          show (decide (lo ≤ i) && decide (i ≤ hi)) = _
          rw [show decide (lo ≤ i) = false by simpa using h1]
          rfl
        rw [e] at out
        exact out
    · rw [isV_other ni] at out
      refine ⟨_, rfl, _, rfl, hT0, ?_⟩
      rw [wholeV_other ni]
      exact ⟨_, rfl, iteF out⟩
end
section
variable {P : Program} {w : World} {K : PySem.W.Frag} {mg : Str → Option Value} {base : Heap}
theorem same_tyx {H H' : Hp} {v : V} {t : Value} (s : Same H H') (h : TyX K H v t) : TyX K H' v t := by
  cases h with
  | base b =>
    refine .base ?_
    cases b with
    | non => exact .non
    | bl y => exact .bl y
    | int i => exact .int i
    | str y => exact .str y
    | flt y => exact .flt y
    | lst e => exact .lst (s _ _ e)
    | frz e => exact .frz (s _ _ e)
    | tup e => exact .tup (s _ _ e)
    | dK e => exact .dK (s _ _ e)
    | dT e => exact .dT (s _ _ e)
    | ins e cl ha hn htk hm => exact .ins (s _ _ e) cl ha hn htk hm
  | byt y => exact .byt y
  | set e => exact .set (s _ _ e)
  | kList e c => exact .kList e c
  | kTuple e c => exact .kTuple e c
  | kDict e c => exact .kDict e c
  | fTuple e => exact .fTuple (s _ _ e)
  | fDict e => exact .fDict (s _ _ e)
theorem same_sq {H H' : Hp} {a : Addr} {xs : List V} (s : Same H H') (h : SqL K H a xs) : SqL K H' a xs := s.seq h
theorem same_sqt {H H' : Hp} {a : Addr} {xs : List V} (s : Same H H') (h : SqT K H a xs) : SqT K H' a xs := sqT_same s h
theorem same_typed {H H' : Hp} {v : V} (s : Same H H') (h : Typed K H v) : Typed K H' v := by
  rcases h with h | h | ⟨n, ty, r⟩
  · exact .inl h
  · exact .inr (.inl h)
  · exact .inr (.inr ⟨n, same_tyx s ty, r⟩)
end
end K31
namespace K31
open PySem PySem.Spec PyProof.Rows L2 Par
section
variable {P : Program} {w : World} {K : PySem.W.Frag} {mg : Str → Option Value} {base : Heap}
theorem yesT {σ : L2.St} {H : Hp} {A B : Hp → Prop} (h : A H) : tYes σ H (fun b H3 => if b = true then A H3 else B H3) := by
  unfold tYes
  show (if true = true then A H else B H)
  rw [if_pos rfl]
  exact h
/-- a part: its type is known; a text is short and plain -/
def Kd (K : PySem.W.Frag) (H : Hp) (v : V) : Prop := Typed K H v ∧ ((∃ z, v = .str z ∧ z.length ≤ 100 ∧ Low z) ∨
  ∃ n, TyX K H v (.type n) ∧ (n = "NoneType" ∨ n = "bool" ∨ n = "int" ∨ n = "list" ∨ n = "tuple" ∨ n = "dict") ∧ ∀ z, v ≠ .str z)
theorem kd_same {H H' : Hp} {v : V} (s : Same H H') (h : Kd K H v) : Kd K H' v := by
  obtain ⟨h1, h2 | ⟨n, ty, hn, ns⟩⟩ := h
  · exact ⟨same_typed s h1, .inl h2⟩
  · exact ⟨same_typed s h1, .inr ⟨n, same_tyx s ty, hn, ns⟩⟩
theorem kit_str {n : String} (h : n = "NoneType" ∨ n = "bool" ∨ n = "int" ∨ n = "list" ∨ n = "tuple" ∨ n = "dict") : PySem.W.kitOne K (.type n) (.type "str") = some false := by
  rcases h with rfl | rfl | rfl | rfl | rfl | rfl <;> exact kit_ty (by decide +kernel)
def lowc (c : Nat) : Bool := decide (97 ≤ c) && decide (c ≤ 122)
def wordV : V → Bool
  | .str z => decide (1 ≤ z.length) && (decide (z.length ≤ 8) && z.cps.toList.all lowc)
  | _ => false
theorem wordV_other {v : V} (h : ∀ z, v ≠ .str z) : wordV v = false := by
  cases v <;> first | rfl | exact absurd rfl (h _)
def spName (K : PySem.W.Frag) : Sp := fun vs H Q _ => ∃ v : V, vs = [v] ∧ Kd K H v ∧ ∀ H', Same H H' → Q (.bl (wordV v)) H'
abbrev nName : List Str := ["thing", "letter"]
theorem scName : FnScope nName ["thing"] (defScope sName) := ⟨rfl, rfl, rfl, by decide +kernel, rfl, by decide +kernel, by decide +kernel⟩
theorem lt_sign (c d : Nat) : decide (([c] : List Nat) < [d]) = decide (c < d) := by
  by_cases h : c < d <;> simp [h, List.cons_lt_cons_iff]
theorem ok_name {f : Addr} {fd : FuncData} (F : Fun K "is_name" "is_name" sName f fd) (B : Bl mg) (hM : ∃ t, mg "MOST_LETTERS" = some (.int 8 t)) : FnOk P w K mg base CX0 2 f fd ["thing"] (spName K) := by
  obtain ⟨tM, hM⟩ := hM
  refine F.ok scName (fun vs H Q E h => ?_) (fun cdv A outer s H vs Q E hr h => ?_)
  · obtain ⟨v, rfl, _⟩ := h
    rfl
  · obtain ⟨v, rfl, hK, out⟩ := h
    refine ⟨_, pss_cons (ps_if (PW.pt (pw_or (pt_not (pt_val (pe_callB call_isi (by rfl) B.isinstance (by decide +kernel) (pa_cons (pv 0) (pa_cons (pe_bltn (v := .ty "str") (by rfl) B.str (by decide +kernel) rfl) pa_nil)))))
        (pw_or1 (pt_not (pt_chain op_le op_le pe_int (pe_callB call_len_str (by rfl) B.len PySem.boot_len (pa_cons (pv 0) pa_nil)) (pe_glob (v := .int 8) (by rfl) hM ⟨_, rfl⟩)))))) (pss_one (ps_ret pe_bl)) pss_nil)
      (pss_one (ps_ret (pe_callB (cr_all rfl) (by rfl) B.all (by decide +kernel) (pa_cons (pe_lc (own := [("letter", 1)]) (g := gName 1) rfl scName.nd (pi_str (pv 0)) (blkOk_by (own := [("letter", 1)]) (N := nName) (sc := defScope sName) (by decide +kernel))
        (fun _ _ _ _ _ => pg_name (i := 1) scName.nd rfl (Or.inl rfl)) (fun _ _ _ _ _ => pts_nil) (fun _ _ _ _ _ => by exact pe_chain op_le_str op_le_str pe_str (pv 1) pe_str)) pa_nil)))), ?_⟩
    obtain ⟨_, ⟨z, rfl, hz, _⟩ | ⟨n, ty, hn, ns⟩⟩ := hK
    · refine ⟨_, rfl, _, _, _, _, true, rfl, .ty "str", .base (.str z), kit_ty (by decide +kernel), _, rfl, iteF ?_⟩
      have hzl : z.length ≤ sizeLine := by rw [sizeLine_eq]; omega
      refine ⟨_, rfl, z, rfl, hzl, 1, _, rfl, rfl, _, rfl, ite2 (fun h1 => ?_) (fun h1 => ?_)⟩
      · refine ⟨_, 8, rfl, rfl, _, rfl, ?_⟩
        have h1' : (1 : Int) ≤ (z.length : Int) := of_decide_eq_true h1
        refine ite2 (fun h2 => ?_) (fun h2 => ?_)
        · have h2' : ¬ ((z.length : Int) ≤ 8) := by simpa using h2
          have e : wordV (.str z) = false := by
            show (decide (1 ≤ z.length) && (decide (z.length ≤ 8) && _)) = false
            rw [decide_eq_false (show ¬ z.length ≤ 8 by omega)]
            simp
          rw [e] at out
          exact out _ (fun _ _ e => e)
        · have h2' : (z.length : Int) ≤ 8 := by simpa using h2
          refine ⟨_, rfl, z, rfl, fun D hD => ?_⟩
          refine lc_it walk_str (fun i H' => Same H H' ∧ H' D = some (.lst ((z.cps.toList.take i).map fun c => .bl (lowc c)))) ⟨same_new hD, upd_same⟩ (fun _ _ _ _ => trivial) ?_ ?_
          · rintro i x H3 H4 hi ⟨s3, hD3⟩ ⟨rfl, c, hc, rfl⟩
            have hc2 : z.cps.toList[i]? = some c := by rw [Array.getElem?_toList]; exact hc
            have fin : ∀ b : Bool, b = lowc c → ∃ acc, H4 D = some (.lst acc) ∧ acc.length < sizeLine ∧ Same H (upd H4 D (.lst (acc ++ [.bl b]))) ∧ (upd H4 D (.lst (acc ++ [.bl b]))) D = some (.lst ((z.cps.toList.take (i + 1)).map fun c => .bl (lowc c))) := by
              intro b hb
              refine ⟨_, hD3, ?_, ?_, ?_⟩
              · have hl : z.cps.toList.length = z.length := by simp [Str.length]
                rw [List.length_map, List.length_take, sizeLine_eq]
                omega
              · intro b2 o e
                rw [upd_ne (ne_of_none e hD)]
                exact s3 b2 o e
              · rw [upd_same, List.take_succ, hc2, List.map_append, hb]
                rfl
            refine ⟨rfl, yesT ?_⟩
            refine ⟨_, rfl, _, _, rfl, rfl, _, rfl, ite2 (fun g1 => ?_) (fun g1 => ?_)⟩
            · refine ⟨_, _, rfl, rfl, fin _ ?_⟩
              have g1' : (!decide (([c] : List Nat) < [97])) = true := g1
              rw [lt_sign] at g1'
              show (!decide (([122] : List Nat) < [c])) = lowc c
              rw [lt_sign]
              unfold lowc
              have : 97 ≤ c := by simpa using g1'
              rw [decide_eq_true this, Bool.true_and]
              by_cases g : c ≤ 122
              · rw [decide_eq_true g, decide_eq_false (by omega)]; rfl
              · rw [decide_eq_false g, decide_eq_true (by omega)]; rfl
            · refine fin _ ?_
              have g1' : ¬ (!decide (([c] : List Nat) < [97])) = true := g1
              rw [lt_sign] at g1'
              have h97 : c < 97 := by simpa using g1'
              show false = lowc c
              unfold lowc
              rw [decide_eq_false (by omega)]
              rfl
          · rintro H3 ⟨s3, hD3⟩
            have hl : z.cps.toList.length = z.cps.size := by simp
            rw [← hl, List.take_length] at hD3
            refine ⟨D, z.cps.toList.map lowc, rfl, SqL.of (by rw [hD3, List.map_map]; rfl), ?_⟩
            have e : (z.cps.toList.map lowc).all id = wordV (.str z) := by
              show _ = (decide (1 ≤ z.length) && (decide (z.length ≤ 8) && _))
              rw [decide_eq_true (show 1 ≤ z.length by omega), decide_eq_true (show z.length ≤ 8 by omega)]
              simp
            rw [e]
            exact out _ s3
      · have h1' : ¬ ((1 : Int) ≤ (z.length : Int)) := by simpa using h1
        have e : wordV (.str z) = false := by
          show (decide (1 ≤ z.length) && _) = false
          rw [decide_eq_false (show ¬ 1 ≤ z.length by omega)]
          rfl
        rw [e] at out
        exact ⟨_, rfl, iteT (out _ (fun _ _ e => e))⟩
    · rw [wordV_other ns] at out
      refine ⟨_, rfl, _, _, _, _, false, rfl, .ty "str", ty, kit_str hn, _, rfl, iteT (iteT ?_)⟩
      exact out _ (fun _ _ e => e)
/-- the law's own word -/
abbrev nIsWord : List Str := ["_law_piece", "_law_sign"]
theorem scIsWord : FnScope nIsWord ["_law_piece"] (defScope sIsWord) := ⟨rfl, rfl, rfl, by decide +kernel, rfl, by decide +kernel, by decide +kernel⟩
def abc : Str := "abcdefghijklmnopqrstuvwxyz"
theorem abc_mem (c : Nat) : decide (c ∈ abc.cps.toList) = lowc c := by
  have e : abc.cps.toList = [97, 98, 99, 100, 101, 102, 103, 104, 105, 106, 107, 108, 109, 110, 111, 112, 113, 114, 115, 116, 117, 118, 119, 120, 121, 122] := by decide +kernel
  rw [e]
  unfold lowc
  by_cases h1 : 97 ≤ c
  · by_cases h2 : c ≤ 122
    · rw [decide_eq_true h1, decide_eq_true h2]
      refine decide_eq_true ?_
      simp only [List.mem_cons, List.not_mem_nil, or_false]
      omega
    · rw [decide_eq_false h2, Bool.and_false]
      refine decide_eq_false ?_
      simp only [List.mem_cons, List.not_mem_nil, or_false]
      omega
  · rw [decide_eq_false h1, Bool.false_and]
    refine decide_eq_false ?_
    simp only [List.mem_cons, List.not_mem_nil, or_false]
    omega
theorem dps_strs {H : Hp} : ∀ xs : List Str, DpAll K H (xs.map V.str) (xs.map PyData.str)
  | [] => .nil
  | x :: xs => .cons (.str x) (dps_strs xs)
theorem plain_strs (xs : List Str) : (PyData.list (xs.map PyData.str)).plain = true := by
  induction xs with
  | nil => rfl
  | cons x xs ih => simpa [PyData.plain, PyData.plainAll] using ih
theorem eqv_nil (xs : List PyData) : PyData.eqv (.list xs) (.list []) = xs.isEmpty := by
  cases xs <;> simp [PyData.eqv, PyData.eqvAll]
def odds (l : List Nat) : List Str := (l.filter fun c => !lowc c).map fun c => ⟨#[c]⟩
theorem ok_isWord {f : Addr} {fd : FuncData} (F : Fun K "_law_is_word" "_law_is_word" sIsWord f fd) (B : Bl mg) : FnOk P w K mg base CX0 2 f fd ["_law_piece"] (spName K) := by
  refine F.ok scIsWord (fun vs H Q E h => ?_) (fun cdv A outer s H vs Q E hr h => ?_)
  · obtain ⟨v, rfl, _⟩ := h
    rfl
  · obtain ⟨v, rfl, hK, out⟩ := h
    have hu := hr.units
    refine ⟨_, pss_cons (ps_if (PW.pt (pw_or (pt_not (pt_val (pe_callB call_isi (by rfl) B.isinstance (by decide +kernel) (pa_cons (pv 0) (pa_cons (pe_bltn (v := .ty "str") (by rfl) B.str (by decide +kernel) rfl) pa_nil)))))
        (pw_or (pt_cmpR op_lt (pe_callB call_len_str (by rfl) B.len PySem.boot_len (pa_cons (pv 0) pa_nil)) pe_int (nomark _))
        (pw_or1 (pt_cmpR op_gt (pe_callB call_len_str (by rfl) B.len PySem.boot_len (pa_cons (pv 0) pa_nil)) pe_int (nomark _)))))) (pss_one (ps_ret pe_bl)) pss_nil)
      (pss_one (ps_ret (pe_cmpR (op_eqP hu) (pe_lc (own := [("_law_sign", 1)]) (g := gName 1) rfl scIsWord.nd (pi_str (pv 0)) (blkOk_by (own := [("_law_sign", 1)]) (N := nIsWord) (sc := defScope sIsWord) (by decide +kernel))
        (fun _ _ _ _ _ => pg_name (i := 1) scIsWord.nd rfl (Or.inl rfl)) (fun _ _ _ _ _ => pts_one (pt_cmpR op_notIn_sign (pv 1) pe_str (by rfl))) (fun _ _ _ _ _ => pv 1)) (pe_lst pa_nil) (nomark _)))), ?_⟩
    obtain ⟨_, ⟨z, rfl, hz, _⟩ | ⟨n, ty, hn, ns⟩⟩ := hK
    · refine ⟨_, rfl, _, _, _, _, true, rfl, .ty "str", .base (.str z), kit_ty (by decide +kernel), _, rfl, iteF ?_⟩
      have hzl : z.length ≤ sizeLine := by rw [sizeLine_eq]; omega
      refine ⟨_, rfl, z, rfl, hzl, _, _, rfl, rfl, _, rfl, ite2 (fun h1 => ?_) (fun h1 => ?_)⟩
      · have h1' : (z.length : Int) < 1 := of_decide_eq_true h1
        have e : wordV (.str z) = false := by
          show (decide (1 ≤ z.length) && _) = false
          rw [decide_eq_false (show ¬ 1 ≤ z.length by omega)]
          rfl
        rw [e] at out
        exact iteT (out _ (fun _ _ e => e))
      · have h1' : ¬ ((z.length : Int) < 1) := by simpa using h1
        refine ⟨_, rfl, z, rfl, hzl, _, _, rfl, rfl, _, rfl, ite2 (fun h2 => ?_) (fun h2 => ?_)⟩
        · have h2' : (z.length : Int) > 8 := of_decide_eq_true h2
          have e : wordV (.str z) = false := by
            show (decide (1 ≤ z.length) && (decide (z.length ≤ 8) && _)) = false
            rw [decide_eq_false (show ¬ z.length ≤ 8 by omega)]
            simp
          rw [e] at out
          exact out _ (fun _ _ e => e)
        · have h2' : ¬ ((z.length : Int) > 8) := by simpa using h2
          refine ⟨_, rfl, z, rfl, fun D hD => ?_⟩
          refine lc_it walk_str (fun i H' => Same H H' ∧ H' D = some (.lst ((odds (z.cps.toList.take i)).map V.str))) ⟨same_new hD, upd_same⟩ (fun _ _ _ _ => trivial) ?_ ?_
          · rintro i x H3 H4 hi ⟨s3, hD3⟩ ⟨rfl, c, hc, rfl⟩
            have hc2 : z.cps.toList[i]? = some c := by rw [Array.getElem?_toList]; exact hc
            have hodd : odds (z.cps.toList.take (i + 1)) = odds (z.cps.toList.take i) ++ (if lowc c then [] else [⟨#[c]⟩]) := by
              unfold odds
              rw [List.take_succ, hc2, List.filter_append, List.map_append]
              cases h : lowc c <;> simp [h]
            refine ⟨rfl, ?_⟩
            refine ⟨_, rfl, c, abc, rfl, rfl, _, rfl, ?_⟩
            rw [abc_mem]
            cases hl : lowc c with
            | true =>
              refine iteF ⟨s3, ?_⟩
              rw [hodd, hl]
              simpa using hD3
            | false =>
              refine iteT ⟨_, rfl, _, hD3, ?_, ?_, ?_⟩
              · have hl : z.cps.toList.length = z.length := by simp [Str.length]
                have h3 : (odds (z.cps.toList.take i)).length ≤ (z.cps.toList.take i).length := by
                  unfold odds
                  rw [List.length_map]
                  exact List.length_filter_le _ _
                rw [List.length_take] at h3
                rw [List.length_map, sizeLine_eq]
                omega
              · intro b2 o e
                rw [upd_ne (ne_of_none e hD)]
                exact s3 b2 o e
              · rw [upd_same, hodd, hl, List.map_append]
                rfl
          · rintro H3 ⟨s3, hD3⟩
            have hl : z.cps.toList.length = z.cps.size := by simp
            rw [← hl, List.take_length] at hD3
            refine ⟨by decide, fun D2 hD2 => ?_⟩
            have hD4 : (upd H3 D2 (.lst [])) D = some (.lst ((odds z.cps.toList).map V.str)) := by
              rw [upd_ne (ne_of_none hD3 hD2)]
              exact hD3
            refine ⟨.list ((odds z.cps.toList).map PyData.str), .list [], .lst (SqL.of hD4) (dps_strs _), .lst (SqL.of upd_same) .nil, ?_, rfl, Nat.le_trans (Nat.min_le_right _ _) (by decide), ?_⟩
            · exact plain_strs _
            · have e : PyData.eqv (.list ((odds z.cps.toList).map PyData.str)) (.list []) = wordV (.str z) := by
                show _ = (decide (1 ≤ z.length) && (decide (z.length ≤ 8) && _))
                rw [decide_eq_true (show 1 ≤ z.length by omega), decide_eq_true (show z.length ≤ 8 by omega)]
                rw [eqv_nil, Bool.true_and, Bool.true_and]
                unfold odds
                induction z.cps.toList with
                | nil => rfl
                | cons c l ih =>
                  rw [List.all_cons]
                  cases h : lowc c with
                  | true => rw [Bool.true_and, ← ih]; simp [h]
                  | false => simp [h]
              rw [e]
              exact out _ (s3.trans (same_new hD2))
    · rw [wordV_other ns] at out
      refine ⟨_, rfl, _, _, _, _, false, rfl, .ty "str", ty, kit_str hn, _, rfl, iteT (iteT ?_)⟩
      exact out _ (fun _ _ e => e)
end
end K31
namespace K31
open PySem PySem.Spec PyProof.Rows L2 Par
section
variable {P : Program} {w : World} {K : PySem.W.Frag} {mg : Str → Option Value} {base : Heap}
abbrev most : Int := 1000000000000000000
def spTime (K : PySem.W.Frag) : Sp := fun vs H Q _ => ∃ v : V, vs = [v] ∧ Typed K H v ∧ Q (.bl (isV v 0 most)) H
theorem scTime : FnScope ["thing"] ["thing"] (defScope sTime) := ⟨rfl, rfl, rfl, by decide +kernel, rfl, by decide +kernel, by decide +kernel⟩
theorem ok_time {f : Addr} {fd : FuncData} (F : Fun K "is_time" "is_time" sTime f fd) (hM : ∃ t, mg "MOST_TIME" = some (.int most t)) (D : Has P w K mg base "is_integer_between" 2 ["thing", "low", "high"] (spBetween K)) :
    FnOk P w K mg base CX0 3 f fd ["thing"] (spTime K) := by
  obtain ⟨fD, fdD, GD, mD, kD, bD⟩ := D
  obtain ⟨tM, hM⟩ := hM
  refine F.ok scTime (fun vs H Q E h => ?_) (fun cdv A outer s H vs Q E hr h => ?_)
  · obtain ⟨v, rfl, _⟩ := h
    rfl
  · obtain ⟨v, rfl, hT, out⟩ := h
    refine ⟨_, pss_one (ps_ret (pe_call GD hr (by rfl) mD kD bD .nil pass0 (pa_cons (pv 0) (pa_cons pe_int (pa_cons (pe_glob (v := .int most) (by rfl) hM ⟨_, rfl⟩) pa_nil))))), ?_⟩
    exact ⟨_, rfl, v, 0, most, rfl, hT, out⟩
theorem scIsMoment : FnScope ["_law_piece"] ["_law_piece"] (defScope sIsMoment) := ⟨rfl, rfl, rfl, by decide +kernel, rfl, by decide +kernel, by decide +kernel⟩
theorem ok_isMoment {f : Addr} {fd : FuncData} (F : Fun K "_law_is_moment" "_law_is_moment" sIsMoment f fd) (B : Bl mg) : FnOk P w K mg base CX0 3 f fd ["_law_piece"] (spTime K) := by
  refine F.ok scIsMoment (fun vs H Q E h => ?_) (fun cdv A outer s H vs Q E hr h => ?_)
  · obtain ⟨v, rfl, _⟩ := h
    rfl
  · obtain ⟨v, rfl, hT, out⟩ := h
    refine ⟨_, pss_one (ps_ret (pe_and (pe_callB call_isi (by rfl) B.isinstance (by decide +kernel) (pa_cons (pv 0) (pa_cons (pe_bltn (v := .ty "int") (by rfl) B.int (by decide +kernel) rfl) pa_nil)))
        (pe_and (pe_not (pe_callB call_isi (by rfl) B.isinstance (by decide +kernel) (pa_cons (pv 0) (pa_cons (pe_bltn (v := .ty "bool") (by rfl) B.bool (by decide +kernel) rfl) pa_nil))))
        (pe_one (pe_chain op_le op_le pe_int (pv 0) (pe_op op_pow pe_int pe_int)))))), ?_⟩
    rcases hT with ⟨b, rfl⟩ | ⟨i, rfl⟩ | ⟨n, ty, hn, nb, ni⟩
    · refine ⟨_, rfl, _, _, _, _, true, rfl, .ty "int", .base (.bl b), kit_ty (by decide +kernel), _, rfl, iteT ?_⟩
      refine ⟨_, rfl, _, _, _, _, true, rfl, .ty "bool", .base (.bl b), kit_ty (by decide +kernel), _, rfl, _, rfl, iteF ?_⟩
      exact out
    · refine ⟨_, rfl, _, _, _, _, true, rfl, .ty "int", .base (.int i), kit_ty (by decide +kernel), _, rfl, iteT ?_⟩
      refine ⟨_, rfl, _, _, _, _, false, rfl, .ty "bool", .base (.int i), kit_ty (by decide +kernel), _, rfl, _, rfl, iteT ?_⟩
      refine ⟨_, rfl, 0, i, rfl, rfl, _, rfl, ite2 (fun h1 => ?_) (fun h1 => ?_)⟩
      · refine ⟨10, 18, rfl, rfl, ⟨by decide, by decide, by decide⟩, i, _, rfl, rfl, ?_⟩
        have e : isV (.int i) 0 most = decide (i ≤ most) := by
          show (decide (0 ≤ i) && decide (i ≤ most)) = _
          rw [h1]
          rfl
        rw [e] at out
        exact out
      · have e : isV (.int i) 0 most = false := by
          show (decide (0 ≤ i) && decide (i ≤ most)) = _
          rw [show decide (0 ≤ i) = false by simpa using h1]
          rfl
        rw [e] at out
        exact out
    · rw [isV_other ni] at out
      refine ⟨_, rfl, _, _, _, _, false, rfl, .ty "int", ty, kit_int hn, _, rfl, iteF ?_⟩
      exact out
/-- a piece: no tuple, or a tuple of parts -/
def Ds (K : PySem.W.Frag) (H : Hp) (v : V) : Option (List V) → Prop
  | none => Kd K H v ∧ ∃ n, TyX K H v (.type n) ∧ (n = "NoneType" ∨ n = "bool" ∨ n = "int" ∨ n = "str" ∨ n = "list" ∨ n = "dict")
  | some xs => ∃ a, v = .ref a ∧ SqT K H a xs ∧ xs.length ≤ 8 ∧ ∀ x ∈ xs, Kd K H x
theorem kd_tup {H : Hp} {a : Addr} {xs : List V} (h : SqT K H a xs) : Kd K H (.ref a) :=
  ⟨.inr (.inr ⟨_, sqt_ty h, by simp, by simp, by simp⟩), .inr ⟨_, sqt_ty h, by simp, by simp⟩⟩
theorem ds_kd {H : Hp} {v : V} : ∀ {o : Option (List V)}, Ds K H v o → Kd K H v
  | none, h => h.1
  | some xs, ⟨a, e, h, _⟩ => by subst e; exact kd_tup h
theorem ds_same {H H' : Hp} {v : V} (s : Same H H') : ∀ {o : Option (List V)}, Ds K H v o → Ds K H' v o
  | none, ⟨h, n, ty, hn⟩ => ⟨kd_same s h, n, same_tyx s ty, hn⟩
  | some xs, ⟨a, e, h, hl, hx⟩ => ⟨a, e, same_sqt s h, hl, fun x m => kd_same s (hx x m)⟩
def stampO : Option (List V) → Bool
  | some [a, b, c] => isV a 0 most && (wordV b && isV c 0 most)
  | _ => false
theorem stampO_len {xs : List V} (h : xs.length ≠ 3) : stampO (some xs) = false := by
  match xs, h with
  | [], _ => rfl
  | [_], _ => rfl
  | [_, _], _ => rfl
  | [_, _, _], h => exact absurd rfl h
  | _ :: _ :: _ :: _ :: _, _ => rfl
theorem kit_tup {n : String} (h : n = "NoneType" ∨ n = "bool" ∨ n = "int" ∨ n = "str" ∨ n = "list" ∨ n = "dict") : PySem.W.kitOne K (.type n) (.type "tuple") = some false := by
  rcases h with rfl | rfl | rfl | rfl | rfl | rfl <;> exact kit_ty (by decide +kernel)
def spStamp (K : PySem.W.Frag) : Sp := fun vs H Q _ => ∃ (v : V) (o : Option (List V)), vs = [v] ∧ Ds K H v o ∧ ∀ H', Same H H' → Q (.bl (stampO o)) H'
theorem scStamp : FnScope ["thing", "time", "hand", "number"] ["thing"] (defScope sStamp) := ⟨rfl, rfl, rfl, by decide +kernel, rfl, by decide +kernel, by decide +kernel⟩
theorem ok_stamp {f : Addr} {fd : FuncData} (F : Fun K "is_stamp" "is_stamp" sStamp f fd) (B : Bl mg) (hM : ∃ t, mg "MOST_NUMBER" = some (.int most t)) (Db : Has P w K mg base "is_integer_between" 2 ["thing", "low", "high"] (spBetween K))
    (Dt : Has P w K mg base "is_time" 3 ["thing"] (spTime K)) (Dn : Has P w K mg base "is_name" 2 ["thing"] (spName K)) : FnOk P w K mg base CX0 4 f fd ["thing"] (spStamp K) := by
  obtain ⟨fB, fdB, GB, mB, kB, bB⟩ := Db
  obtain ⟨fT, fdT, GT, mT, kT, bT⟩ := Dt
  obtain ⟨fN, fdN, GN, mN, kN, bN⟩ := Dn
  obtain ⟨tM, hM⟩ := hM
  refine F.ok scStamp (fun vs H Q E h => ?_) (fun cdv A outer s H vs Q E hr h => ?_)
  · obtain ⟨v, o, rfl, _⟩ := h
    rfl
  · obtain ⟨v, o, rfl, hD, out⟩ := h
    have r2 : Room 2 (A.deeper (envOfC "is_stamp" (defScope sStamp) s.heap.objs.size f cdv)) := hr.mono (by decide)
    refine ⟨_, pss_cons (ps_if (PW.pt (pw_or (pt_not (pt_val (pe_callB call_isi (by rfl) B.isinstance (by decide +kernel) (pa_cons (pv 0) (pa_cons (pe_bltn (v := .ty "tuple") (by rfl) B.tuple (by decide +kernel) rfl) pa_nil)))))
        (pw_or1 (pt_cmpR op_ne (pe_callB call_len_seq (by rfl) B.len PySem.boot_len (pa_cons (pv 0) pa_nil)) pe_int (nomark _))))) (pss_one (ps_ret pe_bl)) pss_nil)
      (pss_cons (ps_asg (pv 0) (pg_tup rfl (pgs_cons (pg_name (i := 1) scStamp.nd rfl (Or.inl rfl)) (pgs_cons (pg_name (i := 2) scStamp.nd rfl (Or.inl rfl)) (pgs_cons (pg_name (i := 3) scStamp.nd rfl (Or.inl rfl)) pgs_nil)))))
      (pss_one (ps_ret (pe_and (pe_call GT hr (by rfl) mT kT bT .nil pass0 (pa_cons (pv 1) pa_nil)) (pe_and (pe_call GN r2 (by rfl) mN kN bN .nil pass0 (pa_cons (pv 2) pa_nil))
        (pe_one (pe_call GB r2 (by rfl) mB kB bB .nil pass0 (pa_cons (pv 3) (pa_cons pe_int (pa_cons (pe_glob (v := .int most) (by rfl) hM ⟨_, rfl⟩) pa_nil)))))))))), ?_⟩
    match o, hD with
    | none, ⟨_, n, ty, hn⟩ =>
      refine ⟨_, rfl, _, _, _, _, false, rfl, .ty "tuple", ty, kit_tup hn, _, rfl, iteT (iteT ?_)⟩
      exact out _ (fun _ _ e => e)
    | some xs, ⟨a, e, hS, hl, hx⟩ =>
      subst e
      refine ⟨_, rfl, _, _, _, _, true, rfl, .ty "tuple", sqt_ty hS, kit_ty (by decide +kernel), _, rfl, iteF ?_⟩
      refine ⟨_, rfl, a, xs, rfl, .inr hS, rfl, _, rfl, ?_⟩
      refine ite2 (fun h3 => ?_) (fun h3 => ?_)
      · have h3' : xs.length ≠ 3 := by
          have : ((xs.length : Nat) : Int) ≠ 3 := by simpa using h3
          omega
        rw [stampO_len h3'] at out
        exact out _ (fun _ _ e => e)
      · have h3' : xs.length = 3 := by
          have : ((xs.length : Nat) : Int) = 3 := by simpa using h3
          omega
        match xs, h3', hS, hx, out with
        | [x, y, z], _, hS, hx, out =>
          have kx := hx x (by simp)
          have ky := hx y (by simp)
          have kz := hx z (by simp)
          refine ⟨_, rfl, a, _, rfl, hS, rfl, _, _, rfl, _, _, rfl, _, _, rfl, rfl, ?_⟩
          refine ⟨_, rfl, x, rfl, kx.1, ?_⟩
          have e : stampO (some [x, y, z]) = (isV x 0 most && (wordV y && isV z 0 most)) := rfl
          rw [e] at out
          refine ⟨_, rfl, ?_⟩
          cases h1 : isV x 0 most with
          | false =>
            rw [h1] at out
            exact iteF (out _ (fun _ _ e => e))
          | true =>
            rw [h1, Bool.true_and] at out
            refine iteT ⟨_, rfl, y, rfl, ky, fun H1 s1 => ⟨_, rfl, ?_⟩⟩
            cases h2 : wordV y with
            | false =>
              rw [h2] at out
              exact iteF (out _ s1)
            | true =>
              rw [h2, Bool.true_and] at out
              exact iteT ⟨_, rfl, z, 0, most, rfl, same_typed s1 kz.1, out _ s1⟩
end
end K31
namespace K31
open PySem PySem.Spec PyProof.Rows L2 Par
section
variable {P : Program} {w : World} {K : PySem.W.Frag} {mg : Str → Option Value} {base : Heap}
theorem scIsMark : FnScope ["_law_piece"] ["_law_piece"] (defScope sIsMark) := ⟨rfl, rfl, rfl, by decide +kernel, rfl, by decide +kernel, by decide +kernel⟩
theorem ok_isMark {f : Addr} {fd : FuncData} (F : Fun K "_law_is_mark" "_law_is_mark" sIsMark f fd) (B : Bl mg)
    (Dt : Has P w K mg base "_law_is_moment" 3 ["_law_piece"] (spTime K)) (Dn : Has P w K mg base "_law_is_word" 2 ["_law_piece"] (spName K)) : FnOk P w K mg base CX0 4 f fd ["_law_piece"] (spStamp K) := by
  obtain ⟨fT, fdT, GT, mT, kT, bT⟩ := Dt
  obtain ⟨fN, fdN, GN, mN, kN, bN⟩ := Dn
  refine F.ok scIsMark (fun vs H Q E h => ?_) (fun cdv A outer s H vs Q E hr h => ?_)
  · obtain ⟨v, o, rfl, _⟩ := h
    rfl
  · obtain ⟨v, o, rfl, hD, out⟩ := h
    have r2 : Room 2 (A.deeper (envOfC "_law_is_mark" (defScope sIsMark) s.heap.objs.size f cdv)) := hr.mono (by decide)
    refine ⟨_, pss_cons (ps_if (PW.pt (pw_or (pt_not (pt_val (pe_callB call_isi (by rfl) B.isinstance (by decide +kernel) (pa_cons (pv 0) (pa_cons (pe_bltn (v := .ty "tuple") (by rfl) B.tuple (by decide +kernel) rfl) pa_nil)))))
        (pw_or1 (pt_cmpR op_ne (pe_callB call_len_seq (by rfl) B.len PySem.boot_len (pa_cons (pv 0) pa_nil)) pe_int (nomark _))))) (pss_one (ps_ret pe_bl)) pss_nil)
      (pss_one (ps_ret (pe_and (pe_call GT hr (by rfl) mT kT bT .nil pass0 (pa_cons (pe_ix ix_tup (pv 0) pe_int (fun _ _ => rfl)) pa_nil)) (pe_and (pe_call GN r2 (by rfl) mN kN bN .nil pass0 (pa_cons (pe_ix ix_tup (pv 0) pe_int (fun _ _ => rfl)) pa_nil))
        (pe_one (pe_call GT hr (by rfl) mT kT bT .nil pass0 (pa_cons (pe_ix ix_tup (pv 0) pe_int (fun _ _ => rfl)) pa_nil))))))), ?_⟩
    match o, hD with
    | none, ⟨_, n, ty, hn⟩ =>
      refine ⟨_, rfl, _, _, _, _, false, rfl, .ty "tuple", ty, kit_tup hn, _, rfl, iteT (iteT ?_)⟩
      exact out _ (fun _ _ e => e)
    | some xs, ⟨a, e, hS, hl, hx⟩ =>
      subst e
      refine ⟨_, rfl, _, _, _, _, true, rfl, .ty "tuple", sqt_ty hS, kit_ty (by decide +kernel), _, rfl, iteF ?_⟩
      refine ⟨_, rfl, a, xs, rfl, .inr hS, rfl, _, rfl, ?_⟩
      refine ite2 (fun h3 => ?_) (fun h3 => ?_)
      · have h3' : xs.length ≠ 3 := by
          have : ((xs.length : Nat) : Int) ≠ 3 := by simpa using h3
          omega
        rw [stampO_len h3'] at out
        exact out _ (fun _ _ e => e)
      · have h3' : xs.length = 3 := by
          have : ((xs.length : Nat) : Int) = 3 := by simpa using h3
          omega
        match xs, h3', hS, hx, out with
        | [x, y, z], _, hS, hx, out =>
          have kx := hx x (by simp)
          have ky := hx y (by simp)
          have kz := hx z (by simp)
          refine ⟨_, rfl, a, _, 0, x, rfl, rfl, hS, rfl, ?_⟩
          refine ⟨x, rfl, kx.1, ?_⟩
          have e : stampO (some [x, y, z]) = (isV x 0 most && (wordV y && isV z 0 most)) := rfl
          rw [e] at out
          refine ⟨_, rfl, ?_⟩
          cases h1 : isV x 0 most with
          | false =>
            rw [h1] at out
            exact iteF (out _ (fun _ _ e => e))
          | true =>
            rw [h1, Bool.true_and] at out
            refine iteT ⟨_, rfl, a, _, 1, y, rfl, rfl, hS, rfl, y, rfl, ky, fun H1 s1 => ⟨_, rfl, ?_⟩⟩
            cases h2 : wordV y with
            | false =>
              rw [h2] at out
              exact iteF (out _ s1)
            | true =>
              rw [h2, Bool.true_and] at out
              exact iteT ⟨_, rfl, a, _, 2, z, rfl, rfl, same_sqt s1 hS, rfl, z, rfl, same_typed s1 kz.1, out _ s1⟩
/-- a piece that can be judged and shown -/
def Pc (K : PySem.W.Frag) (H : Hp) (v : V) : Prop := ∃ o d, Ds K H v o ∧ Da K H v d ∧ good d ∧ Low d.shown ∧ d.shown.length ≤ 10000
theorem pc_same {H H' : Hp} {v : V} (s : Same H H') (h : Pc K H v) : Pc K H' v := by
  obtain ⟨o, d, h1, h2, r⟩ := h
  exact ⟨o, d, ds_same s h1, da_same s h2, r⟩
theorem kb_thing {x : Str} {st : Stmt} {f : Addr} {fd : FuncData} (F : Fun K x x st f fd)
    (h : ∀ (kV doc pm : Value) (an : Option Addr) (cdv ct u : Value), bindArgs (PySem.W.fnOf x x (defArgs st) (defBody st) (defScope st) .none kV doc pm an cdv ct) ⟨[], [("thing", u)]⟩ = pure ([("thing", u)] : List (Str × Value))) :
    KBn K fd ["thing"] 0 ["thing"] (fun us ws => us ++ ws) (fun vs zs => vs ++ zs) := by
  obtain ⟨oc, od, kV, doc, pm, an, cdv, ct, osl, rfl, lk, hcd⟩ := F.ex
  refine ⟨fun s us ws X l1 l2 => ?_, fun r1 r2 => r1.append r2⟩
  match us, ws, l1, l2 with
  | [], [u], _, _ => exact .of_eq (h kV doc pm an cdv ct u)
def HasT (P : Program) (w : World) (K : PySem.W.Frag) (mg : Str → Option Value) (base : Heap) (x : Str) (lv : Nat) (sp : Sp) : Prop :=
  ∃ f fd, FnOk P w K mg base CX0 lv f fd ["thing"] sp ∧ mg x = some (.ref f) ∧ PySem.W.keepIn K (.ref f) = true ∧ Binds K fd ["thing"] [] ∧ KBn K fd ["thing"] 0 ["thing"] (fun us ws => us ++ ws) (fun vs zs => vs ++ zs)
def HasG (P : Program) (w : World) (K : PySem.W.Frag) (mg : Str → Option Value) (base : Heap) (x : Str) (lv : Nat) (ps : List Str) (sp : Sp) : Prop :=
  ∃ f fd, FnG P w K mg base CX0 lv f fd ps sp ∧ mg x = some (.ref f) ∧ PySem.W.keepIn K (.ref f) = true ∧ Binds K fd ps []
def spRight (K : PySem.W.Frag) : Sp := fun vs H Q _ => ∃ v : V, vs = [v] ∧ Pc K H v ∧ ∀ H', Same H H' → Q (.bl true) H'
abbrev nRight : List Str := ["_law_piece", "_law_kept", "_law_due", "_law_turn"]
theorem scRight : FnScope nRight ["_law_piece"] (defScope sRight) := ⟨rfl, rfl, rfl, by decide +kernel, rfl, by decide +kernel, by decide +kernel⟩
theorem show3 (a b c : Bool) : (PyData.list [.bool a, .bool b, .bool c]).showable = true ∧ (PyData.list [.bool a, .bool b, .bool c]).depth ≤ 40 ∧ (PyData.list [.bool a, .bool b, .bool c]).shown.length ≤ sizeLine :=
  shown_list (fun e he => by
    simp only [List.mem_cons, List.not_mem_nil, or_false] at he
    rcases he with rfl | rfl | rfl <;> exact small_good (small_bool _)) (by simp)
theorem show4 (a b c : Bool) {t : Str} (lt : Low t) (hl : t.length ≤ 10000) : (PyData.list [.bool a, .bool b, .bool c, .str t]).showable = true ∧ (PyData.list [.bool a, .bool b, .bool c, .str t]).depth ≤ 40 ∧ (PyData.list [.bool a, .bool b, .bool c, .str t]).shown.length ≤ sizeLine :=
  shown_list (fun e he => by
    simp only [List.mem_cons, List.not_mem_nil, or_false] at he
    rcases he with rfl | rfl | rfl | rfl
    · exact small_good (small_bool _)
    · exact small_good (small_bool _)
    · exact small_good (small_bool _)
    · refine ⟨rfl, Nat.zero_le _, ?_⟩
      have := low_len lt
      show (reprText t).length ≤ 200000
      omega) (by simp)
theorem ok_right {f : Addr} {fd : FuncData} (F : Fun K "_law_right" "_law_right" sRight f fd) (B : Bl mg)
    (Lw : Has P w K mg base "_law_is_word" 2 ["_law_piece"] (spName K)) (Lm : Has P w K mg base "_law_is_moment" 3 ["_law_piece"] (spTime K)) (Lk : Has P w K mg base "_law_is_mark" 4 ["_law_piece"] (spStamp K))
    (Dn : HasT P w K mg base "is_name" 2 (spName K)) (Dt : HasT P w K mg base "is_time" 3 (spTime K)) (Ds' : HasT P w K mg base "is_stamp" 4 (spStamp K)) : FnG P w K mg base CX0 5 f fd ["_law_piece"] (spRight K) := by
  obtain ⟨fW, fdW, GW, mW, kW, bW⟩ := Lw
  obtain ⟨fM, fdM, GM, mM, kM, bM⟩ := Lm
  obtain ⟨fK, fdK, GK, mK, kK, bK⟩ := Lk
  obtain ⟨fN, fdN, GN, mN, kN, bN, cN⟩ := Dn
  obtain ⟨fT, fdT, GT, mT, kT, bT, cT⟩ := Dt
  obtain ⟨fS, fdS, GS, mS, kS, bS, cS⟩ := Ds'
  refine fnG_of F scRight (fun vs H Q E h => ?_) (fun cdv A outer s H vs Q E gs hr h => ?_)
  · obtain ⟨v, rfl, _⟩ := h
    rfl
  · obtain ⟨v, rfl, ⟨o, d, hD, hA, hg, hlow, hlen⟩, out⟩ := h
    have hu := hr.units
    have r3 : Room 3 (A.deeper (envOfC "_law_right" (defScope sRight) s.heap.objs.size f cdv)) := hr.mono (by decide)
    have r2 : Room 2 (A.deeper (envOfC "_law_right" (defScope sRight) s.heap.objs.size f cdv)) := hr.mono (by decide)
    refine ⟨_, pss_cons (ps_set (i := 1) scRight.nd rfl (Or.inl rfl) (pe_callB (cr_reprA gs hu) (by rfl) B.repr (by decide +kernel) (pa_cons (pv 0) pa_nil)))
      (pss_cons (ps_set (i := 2) scRight.nd rfl (Or.inl rfl) (pe_lst (pa_cons (pe_call GW r2 (by rfl) mW kW bW .nil pass0 (pa_cons (pv 0) pa_nil)) (pa_cons (pe_call GM r3 (by rfl) mM kM bM .nil pass0 (pa_cons (pv 0) pa_nil)) (pa_cons (pe_call GK hr (by rfl) mK kK bK .nil pass0 (pa_cons (pv 0) pa_nil)) pa_nil)))))
      (pss_cons (ps_for PassesOwn.never rfl (pi_range1 (by rfl) B.range (pa_cons pe_int pa_nil)) (pg_name (i := 3) scRight.nd rfl (Or.inl rfl))
        (pss_one (ps_if (pt_cmpR op_ne (pe_callB (cr_reprA gs hu) (by rfl) B.repr (by decide +kernel) (pa_cons (pe_lst (pa_cons (pe_call GN r2 (by rfl) mN kN bN .nil pass0 (pa_cons (pv 0) pa_nil)) (pa_cons (pe_call GT r3 (by rfl) mT kT bT .nil pass0 (pa_cons (pv 0) pa_nil)) (pa_cons (pe_call GS hr (by rfl) mS kS bS .nil pass0 (pa_cons (pv 0) pa_nil)) pa_nil)))) pa_nil))
          (pe_callB (cr_reprA gs hu) (by rfl) B.repr (by decide +kernel) (pa_cons (pv 2) pa_nil)) (nomark _)) (pss_one (ps_ret pe_bl)) pss_nil)))
      (pss_one (ps_ret (pe_cmpR op_eq (pe_callB (cr_reprA gs hu) (by rfl) B.repr (by decide +kernel) (pa_cons (pe_lst (pa_cons (pe_callN0 (ks := ["thing"]) GN r2 (by rfl) mN kN cN pass0 (pk_cons (pv 0) pk_nil)) (pa_cons (pe_callN0 (ks := ["thing"]) GT r3 (by rfl) mT kT cT pass0 (pk_cons (pv 0) pk_nil)) (pa_cons (pe_callN0 (ks := ["thing"]) GS hr (by rfl) mS kS cS pass0 (pk_cons (pv 0) pk_nil)) (pa_cons (pv 1) pa_nil))))) pa_nil))
          (pe_callB (cr_reprA gs hu) (by rfl) B.repr (by decide +kernel) (pa_cons (pe_op op_cat (pv 2) (pe_lst (pa_cons (pe_callB (cr_reprA gs hu) (by rfl) B.repr (by decide +kernel) (pa_cons (pv 0) pa_nil)) pa_nil))) pa_nil)) (nomark _)))))), ?_⟩
    have sg := shown_good hg
    have hK := ds_kd hD
    refine ⟨_, rfl, v, d, rfl, hA, sg.1, sg.2.1, sg.2.2, ?_⟩
    refine ⟨_, rfl, v, rfl, hK, fun H1 s1 => ?_⟩
    refine ⟨_, rfl, v, rfl, same_typed s1 hK.1, ?_⟩
    refine ⟨_, rfl, v, o, rfl, ds_same s1 hD, fun H2 s2 => ?_⟩
    have s12 := s1.trans s2
    refine ⟨(by show 3 ≤ sizeLine; decide), fun L hL => ?_⟩
    have sL := s12.trans (same_new (o := .lst [.bl (wordV v), .bl (isV v 0 most), .bl (stampO o)]) hL)
    refine ⟨2, rfl, by decide, by decide, ?_⟩
    refine for_range (lo := 0) (n := 2) (fun i σ H' => Same H H' ∧ H' L = some (.lst [.bl (wordV v), .bl (isV v 0 most), .bl (stampO o)]) ∧ ∃ tv : Option V, σ = [some v, some (.str d.shown), some (.ref L), tv]) ⟨sL, upd_same, none, rfl⟩ ?_ ?_
    · rintro i σ H3 hi ⟨s3, hL3, tv, rfl⟩
      refine ⟨_, rfl, v, rfl, kd_same s3 hK, fun H4 s4 => ?_⟩
      refine ⟨_, rfl, v, rfl, same_typed (s3.trans s4) hK.1, ?_⟩
      refine ⟨_, rfl, v, o, rfl, ds_same (s3.trans s4) hD, fun H5 s5 => ?_⟩
      refine ⟨(by show 3 ≤ sizeLine; decide), fun M hM => ?_⟩
      have s6 := (s3.trans s4).trans (s5.trans (same_new (o := .lst [.bl (wordV v), .bl (isV v 0 most), .bl (stampO o)]) hM))
      have hL6 := (s4.trans (s5.trans (same_new (o := .lst [.bl (wordV v), .bl (isV v 0 most), .bl (stampO o)]) hM))) _ _ hL3
      have sh := show3 (wordV v) (isV v 0 most) (stampO o)
      refine ⟨_, _, rfl, .dp (.lst (SqL.of upd_same) (.cons (.bl _) (.cons (.bl _) (.cons (.bl _) .nil)))), sh.1, sh.2.1, sh.2.2, ?_⟩
      refine ⟨_, rfl, _, _, rfl, .dp (.lst (SqL.of hL6) (.cons (.bl _) (.cons (.bl _) (.cons (.bl _) .nil)))), sh.1, sh.2.1, sh.2.2, rfl, _, rfl, ?_⟩
      rw [show (!decide (V.str (PyData.list [PyData.bool (wordV v), PyData.bool (isV v 0 most), PyData.bool (stampO o)]).shown = V.str (PyData.list [PyData.bool (wordV v), PyData.bool (isV v 0 most), PyData.bool (stampO o)]).shown)) = false by simp]
      exact iteF ⟨s6, hL6, _, rfl⟩
    · rintro σ H3 ⟨s3, hL3, tv, rfl⟩
      refine ⟨_, rfl, rfl, rfl, v, rfl, kd_same s3 hK, fun H4 s4 => ?_⟩
      refine ⟨_, rfl, rfl, rfl, v, rfl, same_typed (s3.trans s4) hK.1, ?_⟩
      refine ⟨_, rfl, rfl, rfl, v, o, rfl, ds_same (s3.trans s4) hD, fun H5 s5 => ?_⟩
      refine ⟨_, rfl, (by show 4 ≤ sizeLine; decide), fun M hM => ?_⟩
      have sM := s4.trans (s5.trans (same_new (o := .lst [.bl (wordV v), .bl (isV v 0 most), .bl (stampO o), .str d.shown]) hM))
      have s6 := s3.trans sM
      have hL6 := sM _ _ hL3
      have sh := show4 (wordV v) (isV v 0 most) (stampO o) hlow hlen
      refine ⟨_, _, rfl, .dp (.lst (SqL.of upd_same) (.cons (.bl _) (.cons (.bl _) (.cons (.bl _) (.cons (.str _) .nil))))), sh.1, sh.2.1, sh.2.2, ?_⟩
      refine ⟨_, rfl, _, rfl, v, d, rfl, da_same s6 hA, sg.1, sg.2.1, sg.2.2, ?_⟩
      refine ⟨(by show 1 ≤ sizeLine; decide), fun N hN => ?_⟩
      have sN := same_new (o := .lst [.str d.shown]) hN
      refine ⟨L, N, _, _, rfl, rfl, sN _ _ hL6, upd_same, (by show 3 + 1 ≤ sizeLine; decide), fun R hR => ?_⟩
      have sR := same_new (o := .lst ([.bl (wordV v), .bl (isV v 0 most), .bl (stampO o)] ++ [.str d.shown])) hR
      refine ⟨_, _, rfl, .dp (.lst (SqL.of upd_same) (.cons (.bl _) (.cons (.bl _) (.cons (.bl _) (.cons (.str _) .nil))))), sh.1, sh.2.1, sh.2.2, ?_⟩
      refine ⟨rfl, ?_⟩
      show Q (.bl (decide (V.str _ = V.str _))) _
      rw [decide_eq_true rfl]
      exact out _ ((s6.trans sN).trans sR)
end
end K31
namespace K31
open PySem PySem.Spec PyProof.Rows L2 Par
theorem pot_ne {H : Hp} {p q : Addr} (hp : PotAt H p) (hq : H q = none) : q ≠ p := fun z => by
  subst z
  obtain ⟨_, _, e, _⟩ := hp
  rw [hq] at e
  cases e
theorem del_same' {H H' : Hp} {p : Addr} (h : But p H H') : Same (del H p) (del H' p) := fun b o e => by
  by_cases z : b = p
  · rw [z, del_same] at e
    cases e
  · rw [del_ne z] at e ⊢
    exact h b o z e
theorem del_sub (H : Hp) (p : Addr) : Same (del H p) H := fun b o e => by
  by_cases z : b = p
  · rw [z, del_same] at e
    cases e
  · rw [del_ne z] at e
    exact e
theorem del_at {H : Hp} {p b : Addr} {o : HO} (n : b ≠ p) (e : H b = some o) : del H p b = some o := by
  rw [del_ne n]
  exact e
section
variable {P : Program} {w : World} {K : PySem.W.Frag} {mg : Str → Option Value} {base : Heap}
def spMoment : Sp := fun vs H Q _ => ∃ p : Addr, vs = [.ref p] ∧ PotAt H p ∧ ∀ i H', 0 ≤ i → i ≤ most → But p H H' → PotAt H' p → Q (.int i) H'
theorem scMoment : FnScope ["_law_pot_here", "_law_far"] ["_law_pot_here"] (defScope sMoment) := ⟨rfl, rfl, rfl, by decide +kernel, rfl, by decide +kernel, by decide +kernel⟩
theorem ok_moment {f : Addr} {fd : FuncData} (F : Fun K "_law_moment" "_law_moment" sMoment f fd) (D : Has P w K mg base "_law_draw" 2 ["_law_pot_here", "_law_many"] spDraw) : FnOk P w K mg base CX0 3 f fd ["_law_pot_here"] spMoment := by
  obtain ⟨fD, fdD, GD, mD, kD, bD⟩ := D
  refine F.ok scMoment (fun vs H Q E h => ?_) (fun cdv A outer s H vs Q E hr h => ?_)
  · obtain ⟨p, rfl, _⟩ := h
    rfl
  · obtain ⟨p, rfl, hp, out⟩ := h
    refine ⟨_, pss_cons (ps_set (i := 1) scMoment.nd rfl (Or.inl rfl) (pe_call GD hr (by rfl) mD kD bD .nil pass0 (pa_cons (pv 0) (pa_cons (pe_op op_add (pe_op op_pow pe_int pe_int) pe_int) pa_nil))))
      (pss_one (ps_ret (pe_ix ix_list (pe_lst (pa_cons (pe_call GD hr (by rfl) mD kD bD .nil pass0 (pa_cons (pv 0) (pa_cons pe_int pa_nil))) (pa_cons (pe_call GD hr (by rfl) mD kD bD .nil pass0 (pa_cons (pv 0) (pa_cons pe_int pa_nil))) (pa_cons (pv 1) (pa_cons (pe_op op_pow pe_int pe_int) (pa_cons pe_int pa_nil))))))
        (pe_call GD hr (by rfl) mD kD bD .nil pass0 (pa_cons (pv 0) (pa_cons pe_int pa_nil))) (fun _ _ => rfl)))), ?_⟩
    refine ⟨_, rfl, 10, 18, rfl, rfl, ⟨by decide, by decide, by decide⟩, _, _, rfl, rfl, p, _, rfl, hp, by decide, by decide, ?_⟩
    intro a H1 a0 a1 b1 hp1
    refine ⟨_, rfl, p, 4, rfl, hp1, by decide, by decide, fun c H2 c0 c1 b2 hp2 => ?_⟩
    refine ⟨_, rfl, p, 12, rfl, hp2, by decide, by decide, fun e H3 e0 e1 b3 hp3 => ?_⟩
    refine ⟨_, rfl, 10, 18, rfl, rfl, ⟨by decide, by decide, by decide⟩, (by show 5 ≤ sizeLine; decide), fun L hL => ?_⟩
    have nL := pot_ne hp3 hL
    have sL := same_new (o := .lst [.int c, .int e, .int a, .int (10 ^ 18), .int 0]) hL
    refine ⟨_, rfl, p, 5, rfl, hp3.same sL, by decide, by decide, fun k H5 k0 k1 b5 hp5 => ?_⟩
    have eL := b5 L _ nL (upd_same (H := H3) (a := L) (o := .lst [.int c, .int e, .int a, .int (10 ^ 18), .int 0]))
    have bb : But p H H5 := ((b1.trans b2).trans (b3.trans (But.same sL))).trans b5
    have a1' : a < 10 ^ 18 + 1 := a1
    have hq : (10 : Int) ^ 18 = 1000000000000000000 := by decide
    have fin : ∀ i : Int, 0 ≤ i → i ≤ most → Q (.int i) H5 := fun i i0 i1 => out i H5 i0 i1 bb hp5
    rcases (show k = 0 ∨ k = 1 ∨ k = 2 ∨ k = 3 ∨ k = 4 by omega) with rfl | rfl | rfl | rfl | rfl
    · exact ⟨L, _, 0, _, rfl, rfl, SqL.of eL, rfl, fin c c0 (by show c ≤ 1000000000000000000; omega)⟩
    · exact ⟨L, _, 1, _, rfl, rfl, SqL.of eL, rfl, fin e e0 (by show e ≤ 1000000000000000000; omega)⟩
    · exact ⟨L, _, 2, _, rfl, rfl, SqL.of eL, rfl, fin a a0 (by show a ≤ 1000000000000000000; omega)⟩
    · exact ⟨L, _, 3, _, rfl, rfl, SqL.of eL, rfl, fin _ (by decide) (by decide)⟩
    · exact ⟨L, _, 4, _, rfl, rfl, SqL.of eL, rfl, fin 0 (by decide) (by decide)⟩
/-! ### texts of drawn letters -/
theorem join0 (xs : List Str) : Txt.join "" xs = Str.join "" xs := eq_of_beq (join_plain_closes "" xs)
theorem low_join0 : ∀ xs : List Str, (∀ x ∈ xs, Low x) → Low (Str.join "" xs)
  | [], _ => by intro c hc; cases hc
  | [t], h => h t (List.mem_cons_self ..)
  | t :: u :: ts, h => by
    have ih := low_join0 (u :: ts) fun v hv => h v (List.mem_cons_of_mem _ hv)
    have e : Str.join "" (t :: u :: ts) = t ++ "" ++ Str.join "" (u :: ts) := rfl
    rw [e]
    exact .append (.append (h t (List.mem_cons_self ..)) (by intro c hc; revert c hc; decide +kernel)) ih
theorem len_join0 : ∀ xs : List Str, (∀ x ∈ xs, x.length = 1) → (Str.join "" xs).length = xs.length
  | [], _ => rfl
  | [t], h => h t (List.mem_cons_self ..)
  | t :: u :: ts, h => by
    have ih := len_join0 (u :: ts) fun v hv => h v (List.mem_cons_of_mem _ hv)
    have e : Str.join "" (t :: u :: ts) = t ++ "" ++ Str.join "" (u :: ts) := rfl
    rw [e, strLen_append, strLen_append, ih, h t (List.mem_cons_self ..)]
    show 1 + 0 + (ts.length + 1) = ts.length + 1 + 1
    omega
/-- letters, one by one -/
def Ones (xs : List Str) : Prop := ∀ x ∈ xs, x.length = 1 ∧ Low x
theorem letters_at (i : Int) (h0 : 0 ≤ i) (h1 : i < 26) : ∃ c, abc.cps[i.toNat]? = some c ∧ c < 128 := by
  have h : ∀ n : Fin 26, ∃ c, abc.cps[n.val]? = some c ∧ c < 128 := by decide +kernel
  exact h ⟨i.toNat, by omega⟩
end
end K31
namespace K31
open PySem PySem.Spec PyProof.Rows L2 Par
section
variable {P : Program} {w : World} {K : PySem.W.Frag} {mg : Str → Option Value} {base : Heap}
/-- a new tuple: a moment, a short text, a moment -/
def spMark : Sp := fun vs H Q _ => ∃ p : Addr, vs = [.ref p] ∧ PotAt H p ∧ ∀ q (i : Int) (z : Str) (j : Int) H', H q = none → But p H H' → PotAt H' p → H' q = some (.tup [.int i, .str z, .int j]) →
  0 ≤ i → i ≤ most → 0 ≤ j → j ≤ most → z.length ≤ 19 → Low z → Q (.ref q) H'
abbrev nMark : List Str := ["_law_pot_here", "_law_letters", "_law_word_here", "_law_palm", "_law_far", "_law_k"]
theorem scMark : FnScope nMark ["_law_pot_here"] (defScope sMark) := ⟨rfl, rfl, rfl, by decide +kernel, rfl, by decide +kernel, by decide +kernel⟩
theorem ones_sum : ∀ {xs : List Str}, Ones xs → (xs.map (·.length)).sum = xs.length
  | [], _ => rfl
  | x :: xs, h => by
    rw [List.map_cons, List.sum_cons, ones_sum (fun y hy => h y (List.mem_cons_of_mem _ hy)), (h x (List.mem_cons_self ..)).1, List.length_cons]
    omega
theorem ok_mark {f : Addr} {fd : FuncData} (F : Fun K "_law_mark" "_law_mark" sMark f fd) (B : Bl mg) (D : Has P w K mg base "_law_draw" 2 ["_law_pot_here", "_law_many"] spDraw) (Mo : Has P w K mg base "_law_moment" 3 ["_law_pot_here"] spMoment) :
    FnOk P w K mg base CX0 4 f fd ["_law_pot_here"] spMark := by
  obtain ⟨fD, fdD, GD, mD, kD, bD⟩ := D
  obtain ⟨fM, fdM, GM, mM, kM, bM⟩ := Mo
  refine F.ok scMark (fun vs H Q E h => ?_) (fun cdv A outer s H vs Q E hr h => ?_)
  · obtain ⟨p, rfl, _⟩ := h
    rfl
  · obtain ⟨p, rfl, hp, out⟩ := h
    have r2 : Room 2 (A.deeper (envOfC "_law_mark" (defScope sMark) s.heap.objs.size f cdv)) := hr.mono (by decide)
    refine ⟨_, pss_cons (ps_set (i := 1) scMark.nd rfl (Or.inr rfl) pe_str)
      (pss_cons (ps_set (i := 2) scMark.nd rfl (Or.inl rfl) (pe_join pe_str (pe_lc (own := [("_law_k", 5)]) (g := gName 5) rfl scMark.nd (pi_range1 (by rfl) B.range (pa_cons (pe_op op_add pe_int (pe_call GD r2 (by rfl) mD kD bD .nil pass0 (pa_cons (pv 0) (pa_cons pe_int pa_nil)))) pa_nil)) (blkOk_by (own := [("_law_k", 5)]) (N := nMark) (sc := defScope sMark) (by decide +kernel))
          (fun _ _ _ _ _ => pg_name (i := 5) scMark.nd rfl (Or.inl rfl)) (fun _ _ _ _ _ => pts_nil) (fun _ _ _ _ _ => by exact pe_item_str (pv 1) (pe_call GD r2 (by rfl) mD kD bD .nil pass0 (pa_cons (pv 0) (pa_cons pe_int pa_nil))) (fun _ _ => rfl)))))
      (pss_cons (ps_set (i := 3) scMark.nd rfl (Or.inl rfl) (pe_ix ix_list (pe_lst (pa_cons pe_str (pa_cons pe_str (pa_cons pe_str (pa_cons pe_str (pa_cons (pv 2) pa_nil)))))) (pe_call GD r2 (by rfl) mD kD bD .nil pass0 (pa_cons (pv 0) (pa_cons pe_int pa_nil))) (fun _ _ => rfl)))
      (pss_cons (ps_set (i := 4) scMark.nd rfl (Or.inl rfl) (pe_call GD r2 (by rfl) mD kD bD .nil pass0 (pa_cons (pv 0) (pa_cons (pe_op op_add (pe_op op_pow pe_int pe_int) pe_int) pa_nil))))
      (pss_one (ps_ret (pe_tup (pa_cons (pe_call GM hr (by rfl) mM kM bM .nil pass0 (pa_cons (pv 0) pa_nil)) (pa_cons (pv 3) (pa_cons (pe_ix ix_list (pe_lst (pa_cons pe_int (pa_cons pe_int (pa_cons pe_int (pa_cons (pe_call GD r2 (by rfl) mD kD bD .nil pass0 (pa_cons (pv 0) (pa_cons pe_int pa_nil))) (pa_cons (pv 4) pa_nil))))))
          (pe_call GD r2 (by rfl) mD kD bD .nil pass0 (pa_cons (pv 0) (pa_cons pe_int pa_nil))) (fun _ _ => rfl)) pa_nil))))))))), ?_⟩
    refine ⟨⟨_, rfl⟩, ?_⟩
    refine ⟨_, rfl, p, 8, rfl, hp, by decide, by decide, fun n H1 n0 n1 b1 hp1 => ?_⟩
    refine ⟨1, n, rfl, rfl, 1 + n, rfl, ?_⟩
    refine ⟨by omega, by omega, fun D hD => ?_⟩
    have nD := pot_ne hp1 hD
    refine lc_range (lo := 0) (n := (1 + n).toNat) (fun i H' => ∃ xs : List Str, H' D = some (.lst (xs.map V.str)) ∧ xs.length = i ∧ Ones xs ∧ But p H H' ∧ PotAt H' p)
      ⟨[], upd_same, rfl, (fun x hx => nomatch hx), b1.trans (But.new hD), hp1.same (same_new hD)⟩ ?_ ?_
    · rintro i H2 hi ⟨xs, hD2, hl2, ho2, b2, hp2⟩
      refine ⟨rfl, yesT ?_⟩
      refine ⟨_, rfl, _, rfl, p, 26, rfl, hp2, by decide, by decide, fun d H3 d0 d1 b3 hp3 => ?_⟩
      obtain ⟨c, hc, hc2⟩ := letters_at d d0 d1
      refine ⟨abc, d, c, rfl, rfl, d0, by omega, (by show d < (26 : Int); exact d1), hc, ?_⟩
      refine ⟨_, b3 D _ nD hD2, ?_, xs ++ [⟨#[c]⟩], ?_, ?_, ?_, ?_, ?_⟩
      · rw [List.length_map, hl2, sizeLine_eq]
        omega
      · rw [upd_same, List.map_append]
        rfl
      · rw [List.length_append, hl2]
        rfl
      · intro x hx
        rcases List.mem_append.mp hx with z | z
        · exact ho2 x z
        · rw [List.mem_singleton.mp z]
          refine ⟨rfl, fun e he => ?_⟩
          rw [show e = c by simpa using he]
          exact hc2
      · intro b o hb e
        have e2 := b3 b o hb (b2 b o hb e)
        have nb : b ≠ D := fun z => by
          subst z
          exact absurd (b1 b o hb e) (by rw [hD]; simp)
        rw [upd_ne nb]
        exact e2
      · obtain ⟨x1, x2, e1, r1⟩ := hp3
        exact ⟨x1, x2, by rw [upd_ne (Ne.symm nD)]; exact e1, r1⟩
    rintro H2 ⟨xs, hD2, hl2, ho2, b2, hp2⟩
    have hxl : xs.length ≤ 12 := by omega
    refine ⟨_, D, xs, rfl, rfl, .inl (SqL.of hD2), ?_, ?_⟩
    · rw [ones_sum ho2]
      show xs.length + xs.length * 0 ≤ 16777216
      omega
    rw [join0]
    have lz := low_join0 xs fun x hx => (ho2 x hx).2
    have zl := len_join0 xs fun x hx => (ho2 x hx).1
    generalize Str.join "" xs = z at lz zl
    refine ⟨_, rfl, (by show 5 ≤ sizeLine; decide), fun L hL => ?_⟩
    have nL := pot_ne hp2 hL
    have sL := same_new (o := .lst [.str "ann", .str "anna", .str "a", .str "zzzzzzzz", .str z]) hL
    refine ⟨_, rfl, p, 5, rfl, hp2.same sL, by decide, by decide, fun k H5 k0 k1 b5 hp5 => ?_⟩
    have eL := b5 L _ nL (upd_same (H := H2) (a := L) (o := .lst [.str "ann", .str "anna", .str "a", .str "zzzzzzzz", .str z]))
    have bb : But p H H5 := (b2.trans (But.same sL)).trans b5
    obtain ⟨y, hat, yl, ly⟩ : ∃ y : Str, atI [V.str "ann", V.str "anna", V.str "a", V.str "zzzzzzzz", V.str z] k = some (.str y) ∧ y.length ≤ 19 ∧ Low y := by
      rcases (show k = 0 ∨ k = 1 ∨ k = 2 ∨ k = 3 ∨ k = 4 by omega) with rfl | rfl | rfl | rfl | rfl
      · exact ⟨_, rfl, by decide +kernel, by intro c hc; revert c hc; decide +kernel⟩
      · exact ⟨_, rfl, by decide +kernel, by intro c hc; revert c hc; decide +kernel⟩
      · exact ⟨_, rfl, by decide +kernel, by intro c hc; revert c hc; decide +kernel⟩
      · exact ⟨_, rfl, by decide +kernel, by intro c hc; revert c hc; decide +kernel⟩
      · exact ⟨z, rfl, by omega, lz⟩
    refine ⟨L, _, k, _, rfl, rfl, SqL.of eL, hat, ?_⟩
    refine ⟨_, rfl, 10, 18, rfl, rfl, ⟨by decide, by decide, by decide⟩, _, _, rfl, rfl, p, _, rfl, hp5, by decide, by decide, fun a H6 a0 a1 b6 hp6 => ?_⟩
    refine ⟨_, rfl, p, rfl, hp6, fun i H7 i0 i1 b7 hp7 => ?_⟩
    refine ⟨_, rfl, _, rfl, p, 5, rfl, hp7, by decide, by decide, fun e H8 e0 e1 b8 hp8 => ?_⟩
    refine ⟨_, rfl, (by show 5 ≤ sizeLine; decide), fun M hM => ?_⟩
    have nM := pot_ne hp8 hM
    have sM := same_new (o := .lst [.int 0, .int 9, .int 10, .int e, .int a]) hM
    refine ⟨_, rfl, p, 5, rfl, hp8.same sM, by decide, by decide, fun k2 H9 k20 k21 b9 hp9 => ?_⟩
    have eM := b9 M _ nM (upd_same (H := H8) (a := M) (o := .lst [.int 0, .int 9, .int 10, .int e, .int a]))
    have a1' : a < 10 ^ 18 + 1 := a1
    have hq : (10 : Int) ^ 18 = 1000000000000000000 := by decide
    obtain ⟨j, hat2, j0, j1⟩ : ∃ j : Int, atI [V.int 0, V.int 9, V.int 10, V.int e, V.int a] k2 = some (.int j) ∧ 0 ≤ j ∧ j ≤ most := by
      rcases (show k2 = 0 ∨ k2 = 1 ∨ k2 = 2 ∨ k2 = 3 ∨ k2 = 4 by omega) with rfl | rfl | rfl | rfl | rfl
      · exact ⟨_, rfl, by decide, by decide⟩
      · exact ⟨_, rfl, by decide, by decide⟩
      · exact ⟨_, rfl, by decide, by decide⟩
      · exact ⟨e, rfl, e0, by show e ≤ 1000000000000000000; omega⟩
      · exact ⟨a, rfl, a0, by show a ≤ 1000000000000000000; omega⟩
    refine ⟨M, _, k2, _, rfl, rfl, SqL.of eM, hat2, (by show 3 ≤ sizeLine; decide), fun q hq9 => ?_⟩
    have bAll : But p H H9 := (((bb.trans b6).trans b7).trans (b8.trans (But.same sM))).trans b9
    exact out q i y j _ (bAll.free hp hq9 hp9) (bAll.trans (But.new hq9)) (hp9.same (same_new hq9)) upd_same i0 i1 j0 j1 yl ly
end
end K31
namespace K31
open PySem PySem.Spec PyProof.Rows L2 Par
section
variable {P : Program} {w : World} {K : PySem.W.Frag} {mg : Str → Option Value} {base : Heap}
def spWord : Sp := fun vs H Q _ => ∃ p : Addr, vs = [.ref p] ∧ PotAt H p ∧ ∀ (z : Str) H', But p H H' → PotAt H' p → z.length ≤ 19 → Low z → Q (.str z) H'
abbrev nWord : List Str := ["_law_pot_here", "_law_letters", "_law_word_here", "_law_at", "_law_sign", "_law_k"]
theorem scWord : FnScope nWord ["_law_pot_here"] (defScope sWord) := ⟨rfl, rfl, rfl, by decide +kernel, rfl, by decide +kernel, by decide +kernel⟩
def signs : Str := "AZ09 _-.,{`\x40["
theorem signs_at (i : Int) (h0 : 0 ≤ i) (h1 : i < 13) : ∃ c, signs.cps[i.toNat]? = some c ∧ c < 128 := by
  have h : ∀ n : Fin 13, ∃ c, signs.cps[n.val]? = some c ∧ c < 128 := by decide +kernel
  exact h ⟨i.toNat, by omega⟩
theorem low_cut {z : Str} {lo hi : Option Int} (h : Low z) : Low (cutS z lo hi) := by
  intro c hc
  have hc2 : c ∈ ((z.cps.toList.drop (HT.sIx z.length 0 lo)).take (HT.sIx z.length z.length hi - HT.sIx z.length 0 lo)) := by
    have e : (cutS z lo hi).cps.toList = ((z.cps.toList.drop (HT.sIx z.length 0 lo)).take (HT.sIx z.length z.length hi - HT.sIx z.length 0 lo)) := rfl
    rw [e] at hc
    exact hc
  exact h c (List.mem_of_mem_drop (List.mem_of_mem_take hc2))
theorem ok_word {f : Addr} {fd : FuncData} (F : Fun K "_law_word" "_law_word" sWord f fd) (B : Bl mg) (D : Has P w K mg base "_law_draw" 2 ["_law_pot_here", "_law_many"] spDraw) :
    FnOk P w K mg base CX0 3 f fd ["_law_pot_here"] spWord := by
  obtain ⟨fD, fdD, GD, mD, kD, bD⟩ := D
  refine F.ok scWord (fun vs H Q E h => ?_) (fun cdv A outer s H vs Q E r2 h => ?_)
  · obtain ⟨p, rfl, _⟩ := h
    rfl
  · obtain ⟨p, rfl, hp, out⟩ := h
    refine ⟨_, pss_cons (ps_set (i := 1) scWord.nd rfl (Or.inr rfl) pe_str)
      (pss_cons (ps_set (i := 2) scWord.nd rfl (Or.inl rfl) (pe_join pe_str (pe_lc (own := [("_law_k", 5)]) (g := gName 5) rfl scWord.nd (pi_range1 (by rfl) B.range (pa_cons (pe_ix ix_list (pe_lst (pa_cons pe_int (pa_cons pe_int (pa_cons (pe_call GD r2 (by rfl) mD kD bD .nil pass0 (pa_cons (pv 0) (pa_cons pe_int pa_nil))) pa_nil)))) (pe_call GD r2 (by rfl) mD kD bD .nil pass0 (pa_cons (pv 0) (pa_cons pe_int pa_nil))) (fun _ _ => rfl)) pa_nil)) (blkOk_by (own := [("_law_k", 5)]) (N := nWord) (sc := defScope sWord) (by decide +kernel))
          (fun _ _ _ _ _ => pg_name (i := 5) scWord.nd rfl (Or.inl rfl)) (fun _ _ _ _ _ => pts_nil) (fun _ _ _ _ _ => by exact pe_item_str (pv 1) (pe_call GD r2 (by rfl) mD kD bD .nil pass0 (pa_cons (pv 0) (pa_cons pe_int pa_nil))) (fun _ _ => rfl)))))
      (pss_cons (ps_par (i := 3) (j := 4) rfl scWord.nd rfl rfl (by decide) rfl rfl (pa_cons (pe_call GD r2 (by rfl) mD kD bD .nil pass0 (pa_cons (pv 0) (pa_cons (pe_op op_add (pe_callB call_len_str (by rfl) B.len PySem.boot_len (pa_cons (pv 2) pa_nil)) pe_int) pa_nil)))
          (pa_cons (pe_item_str pe_str (pe_call GD r2 (by rfl) mD kD bD .nil pass0 (pa_cons (pv 0) (pa_cons pe_int pa_nil))) (fun _ _ => rfl)) pa_nil)) rfl)
      (pss_one (ps_ret (pe_ifExp (pt_cmpR op_eq (pe_call GD r2 (by rfl) mD kD bD .nil pass0 (pa_cons (pv 0) (pa_cons pe_int pa_nil))) pe_int (nomark _))
        (pe_op op_add_str (pe_op op_add_str (pe_slice sl_str (pv 2) po_none (po_some (pv 3))) (pv 4)) (pe_slice sl_str (pv 2) (po_some (pv 3)) po_none)) (pv 2)))))), ?_⟩
    refine ⟨⟨_, rfl⟩, ?_⟩
    refine ⟨_, rfl, p, 10, rfl, hp, by decide, by decide, fun d H0 d0 d1 b0 hp0 => ?_⟩
    refine ⟨(by show 3 ≤ sizeLine; decide), fun L hL => ?_⟩
    have nL := pot_ne hp0 hL
    have sL := same_new (o := .lst [.int 1, .int 8, .int d]) hL
    refine ⟨_, rfl, p, 3, rfl, hp0.same sL, by decide, by decide, fun k H1 k0 k1 b1' hp1 => ?_⟩
    have eL := b1' L _ nL (upd_same (H := H0) (a := L) (o := .lst [.int 1, .int 8, .int d]))
    have b1 : But p H H1 := (b0.trans (But.same sL)).trans b1'
    obtain ⟨n, hat, n0, n1⟩ : ∃ n : Int, atI [V.int 1, V.int 8, V.int d] k = some (.int n) ∧ 0 ≤ n ∧ n < 10 := by
      rcases (show k = 0 ∨ k = 1 ∨ k = 2 by omega) with rfl | rfl | rfl
      · exact ⟨_, rfl, by decide, by decide⟩
      · exact ⟨_, rfl, by decide, by decide⟩
      · exact ⟨d, rfl, d0, d1⟩
    refine ⟨L, _, k, _, rfl, rfl, SqL.of eL, hat, n, rfl, ?_⟩
    refine ⟨by omega, by omega, fun D hD => ?_⟩
    have nD := pot_ne hp1 hD
    refine lc_range (lo := 0) (n := n.toNat) (fun i H' => ∃ xs : List Str, H' D = some (.lst (xs.map V.str)) ∧ xs.length = i ∧ Ones xs ∧ But p H H' ∧ PotAt H' p)
      ⟨[], upd_same, rfl, (fun x hx => nomatch hx), b1.trans (But.new hD), hp1.same (same_new hD)⟩ ?_ ?_
    · rintro i H2 hi ⟨xs, hD2, hl2, ho2, b2, hp2⟩
      refine ⟨rfl, yesT ?_⟩
      refine ⟨_, rfl, _, rfl, p, 26, rfl, hp2, by decide, by decide, fun d H3 d0 d1 b3 hp3 => ?_⟩
      obtain ⟨c, hc, hc2⟩ := letters_at d d0 d1
      refine ⟨abc, d, c, rfl, rfl, d0, by omega, (by show d < (26 : Int); exact d1), hc, ?_⟩
      refine ⟨_, b3 D _ nD hD2, ?_, xs ++ [⟨#[c]⟩], ?_, ?_, ?_, ?_, ?_⟩
      · rw [List.length_map, hl2, sizeLine_eq]
        omega
      · rw [upd_same, List.map_append]
        rfl
      · rw [List.length_append, hl2]
        rfl
      · intro x hx
        rcases List.mem_append.mp hx with z | z
        · exact ho2 x z
        · rw [List.mem_singleton.mp z]
          refine ⟨rfl, fun e he => ?_⟩
          rw [show e = c by simpa using he]
          exact hc2
      · intro b o hb e
        have e2 := b3 b o hb (b2 b o hb e)
        have nb : b ≠ D := fun z => by
          subst z
          exact absurd (b1 b o hb e) (by rw [hD]; simp)
        rw [upd_ne nb]
        exact e2
      · obtain ⟨x1, x2, e1, r1⟩ := hp3
        exact ⟨x1, x2, by rw [upd_ne (Ne.symm nD)]; exact e1, r1⟩
    rintro H2 ⟨xs, hD2, hl2, ho2, b2, hp2⟩
    have hxl : xs.length ≤ 12 := by omega
    refine ⟨_, D, xs, rfl, rfl, .inl (SqL.of hD2), ?_, ?_⟩
    · rw [ones_sum ho2]
      show xs.length + xs.length * 0 ≤ 16777216
      omega
    rw [join0]
    have lz := low_join0 xs fun x hx => (ho2 x hx).2
    have zl := len_join0 xs fun x hx => (ho2 x hx).1
    generalize Str.join "" xs = z at lz zl
    refine ⟨_, rfl, _, rfl, z, rfl, (by rw [sizeLine_eq]; omega), _, _, rfl, rfl, p, _, rfl, hp2, by omega, ?_, fun at' H3 a0 a1 b3 hp3 => ?_⟩
    · have : (2 : Int) ^ 200 > 100 := by decide
      omega
    refine ⟨_, rfl, p, 13, rfl, hp3, by decide, by decide, fun e H4 e0 e1 b4 hp4 => ?_⟩
    obtain ⟨c, hc, hc2⟩ := signs_at e e0 e1
    refine ⟨signs, e, c, rfl, rfl, e0, by omega, (by show e < (13 : Int); exact e1), hc, ?_⟩
    refine ⟨_, _, rfl, ?_⟩
    refine ⟨_, rfl, p, 2, rfl, hp4, by decide, by decide, fun g H5 g0 g1 b5 hp5 => ⟨rfl, _, rfl, ?_⟩⟩
    have bAll : But p H H5 := ((b2.trans b3).trans b4).trans b5
    have hz2 : z.length ≤ sizeLine := by rw [sizeLine_eq]; omega
    refine ite2 (fun _ => ?_) (fun _ => ⟨_, rfl, out z H5 bAll hp5 (by omega) lz⟩)
    have l1 := cutS_length z none (some at')
    have l2 := cutS_length z (some at') none
    have lc1 : (⟨#[c]⟩ : Str).length = 1 := rfl
    refine ⟨_, rfl, _, rfl, at', rfl, z, rfl, hz2, _, rfl, _, _, rfl, rfl, (by rw [sizeLine_eq]; omega), ?_⟩
    refine ⟨_, rfl, _, rfl, at', rfl, z, rfl, hz2, _, _, rfl, rfl, (by rw [strLen_append, sizeLine_eq]; omega), ?_⟩
    refine out _ H5 bAll hp5 ?_ ?_
    · rw [strLen_append, strLen_append]
      omega
    · refine .append (.append (low_cut lz) ?_) (low_cut lz)
      intro x hx
      rw [show x = c by simpa using hx]
      exact hc2
end
end K31
namespace K31
open PySem PySem.Spec PyProof.Rows L2 Par
section
variable {P : Program} {w : World} {K : PySem.W.Frag} {mg : Str → Option Value} {base : Heap}
/-- a thing that is drawn as a part -/
def Od (K : PySem.W.Frag) (H : Hp) (v : V) : Prop := ∃ o d, Ds K H v o ∧ (Dp K H v d ∨ Sx H v d) ∧ small d ∧ Low d.shown
theorem od_same {H H' : Hp} {v : V} (s : Same H H') (h : Od K H v) : Od K H' v := by
  obtain ⟨o, d, h1, h2 | h2, r⟩ := h
  · exact ⟨o, d, ds_same s h1, .inl (dp_same s _ _ h2), r⟩
  · exact ⟨o, d, ds_same s h1, .inr (sx_same s h2), r⟩
theorem od_pc {H : Hp} {v : V} (h : Od K H v) : Pc K H v := by
  obtain ⟨o, d, h1, h2, h3, h4⟩ := h
  refine ⟨o, d, h1, h2.elim .dp .sx, small_good h3, h4, ?_⟩
  have := h3.2.2
  omega
theorem small_int10 {i : Int} (h : i.natAbs < 10 ^ 61) : small (.int i) := by
  have h1 : i.natAbs < 2 ^ 1920 := Nat.lt_trans h (by decide +kernel)
  refine ⟨?_, Nat.zero_le _, ?_⟩
  · show decide (i.natAbs.log2 < 1920) = true
    exact decide_eq_true (log_lt h1 (by decide))
  · show (Str.ofString (toString i)).length ≤ 200
    have h2 := int_text_length_le10 (a := i) (k := 61) (by decide) h
    rw [PySem.ofString_length]
    omega
theorem kd_int {H : Hp} (i : Int) : Kd K H (.int i) := ⟨.inr (.inl ⟨i, rfl⟩), .inr ⟨_, .base (.int i), by simp, by simp⟩⟩
theorem kd_bl {H : Hp} (b : Bool) : Kd K H (.bl b) := ⟨.inl ⟨b, rfl⟩, .inr ⟨_, .base (.bl b), by simp, by simp⟩⟩
theorem kd_non {H : Hp} : Kd K H .non := ⟨.inr (.inr ⟨_, .base .non, .inl rfl, by simp, by simp⟩), .inr ⟨_, .base .non, by simp, by simp⟩⟩
theorem kd_str {H : Hp} {z : Str} (h : z.length ≤ 100) (l : Low z) : Kd K H (.str z) := ⟨.inr (.inr ⟨_, .base (.str z), .inr (.inl rfl), by simp, by simp⟩), .inl ⟨z, rfl, h, l⟩⟩
theorem kd_lst {H : Hp} {a : Addr} {xs : List V} (h : SqL K H a xs) : Kd K H (.ref a) := ⟨.inr (.inr ⟨_, sq_ty h, by simp, by simp, by simp⟩), .inr ⟨_, sq_ty h, by simp, by simp⟩⟩
theorem kd_dic {H : Hp} {a : Addr} {kv : List (Key × V)} (h : H a = some (.dK kv)) : Kd K H (.ref a) := ⟨.inr (.inr ⟨_, .base (.dK h), by simp, by simp, by simp⟩), .inr ⟨_, .base (.dK h), by simp, by simp⟩⟩
theorem od_int {H : Hp} {i : Int} (h : i.natAbs < 10 ^ 61) : Od K H (.int i) := ⟨none, _, ⟨kd_int i, _, .base (.int i), by simp⟩, .inl (.int i), small_int10 h, low_int i⟩
theorem od_bl {H : Hp} (b : Bool) : Od K H (.bl b) := ⟨none, _, ⟨kd_bl b, _, .base (.bl b), by simp⟩, .inl (.bl b), small_bool b, low_plain (d := .bool b) trivial⟩
theorem od_non {H : Hp} : Od K H .non := ⟨none, _, ⟨kd_non, _, .base .non, by simp⟩, .inl .non, ⟨by decide, by decide, by decide +kernel⟩, low_plain (d := .none) trivial⟩
theorem od_str {H : Hp} {z : Str} (h : z.length ≤ 19) (l : Low z) : Od K H (.str z) :=
  ⟨none, _, ⟨kd_str (by omega) l, _, .base (.str z), by simp⟩, .inl (.str z), ⟨rfl, Nat.zero_le _, by show (reprText z).length ≤ 200; have := low_len l; omega⟩, low_repr l⟩
def things (far : Int) (p1 p2 p3 p4 p5 p6 q1 q2 q3 : Addr) : List V := [.non, .bl true, .bl false, .str "", .str "A", .str "a b", .str "ninesigns", .ref p1, .ref p2, .ref p3, .ref p4, .ref p5, .ref p6, .int 0, .int (-1), .int (10 ^ 18)] ++
  [.int (10 ^ 18 + 1), .int far, .int (-far), .str "5", .ref q1, .ref q2, .ref q3]
theorem things_len (far : Int) (p1 p2 p3 p4 p5 p6 q1 q2 q3 : Addr) : (things far p1 p2 p3 p4 p5 p6 q1 q2 q3).length = 23 := rfl
theorem low_by {s : Str} (h : (s.cps.toList.all fun c => decide (c < 128)) = true) : Low s := fun c hc => of_decide_eq_true (List.all_eq_true.mp h c hc)
theorem things_od {H : Hp} {far : Int} {p1 p2 p3 p4 p5 p6 q1 q2 q3 r : Addr} (hf : far.natAbs < 10 ^ 61) (h1 : H p1 = some (.lst [])) (h2 : H p2 = some (.lst [.str "a"])) (h3 : H p3 = some (.tup [])) (h4 : H p4 = some (.tup [.str "a"]))
    (h5 : H p5 = some (.dK [])) (h6 : H p6 = some (.dK [(Sum.inr "a", .int 1)])) (g1 : H q1 = some (.tup [.int 5, .str "a", .int 0])) (g2 : H q2 = some (.lst [.int 5, .str "a", .int 0])) (g3 : H q3 = some (.tup [.ref r])) (g4 : H r = some (.tup [.int 5, .str "a", .int 0])) :
    ∀ v ∈ things far p1 p2 p3 p4 p5 p6 q1 q2 q3, Od K H v := by
  have ka : Kd K H (.str "a") := kd_str (by decide +kernel) (low_by (by decide +kernel))
  intro v hv
  have hv2 : v ∈ ([.non, .bl true, .bl false, .str "", .str "A", .str "a b", .str "ninesigns", .ref p1, .ref p2, .ref p3, .ref p4, .ref p5, .ref p6, .int 0, .int (-1), .int (10 ^ 18), .int (10 ^ 18 + 1), .int far, .int (-far), .str "5", .ref q1, .ref q2, .ref q3] : List V) := hv
  simp only [List.mem_cons, List.not_mem_nil, or_false] at hv2
  rcases hv2 with rfl | rfl | rfl | rfl | rfl | rfl | rfl | rfl | rfl | rfl | rfl | rfl | rfl | rfl | rfl | rfl | rfl | rfl | rfl | rfl | rfl | rfl | rfl
  · exact od_non
  · exact od_bl _
  · exact od_bl _
  · exact od_str (by decide +kernel) (low_by (by decide +kernel))
  · exact od_str (by decide +kernel) (low_by (by decide +kernel))
  · exact od_str (by decide +kernel) (low_by (by decide +kernel))
  · exact od_str (by decide +kernel) (low_by (by decide +kernel))
  · exact ⟨none, _, ⟨kd_lst (SqL.of h1), _, sq_ty (SqL.of h1), by simp⟩, .inl (.lst (SqL.of h1) .nil), ⟨by decide +kernel, by decide +kernel, by decide +kernel⟩, low_by (by decide +kernel)⟩
  · exact ⟨none, _, ⟨kd_lst (SqL.of h2), _, sq_ty (SqL.of h2), by simp⟩, .inl (.lst (SqL.of h2) (.cons (.str _) .nil)), ⟨by decide +kernel, by decide +kernel, by decide +kernel⟩, low_by (by decide +kernel)⟩
  · exact ⟨some [], _, ⟨p3, rfl, SqT.of h3, by decide, fun x hx => nomatch hx⟩, .inl (.tup (SqT.of h3) .nil), ⟨by decide +kernel, by decide +kernel, by decide +kernel⟩, low_by (by decide +kernel)⟩
  · exact ⟨some [.str "a"], _, ⟨p4, rfl, SqT.of h4, by decide, fun x hx => by rw [List.mem_singleton.mp hx]; exact ka⟩, .inl (.tup (SqT.of h4) (.cons (.str _) .nil)), ⟨by decide +kernel, by decide +kernel, by decide +kernel⟩, low_by (by decide +kernel)⟩
  · exact ⟨none, _, ⟨kd_dic h5, _, .base (.dK h5), by simp⟩, .inr (.fl (.dic0 h5)), ⟨by decide +kernel, by decide +kernel, by decide +kernel⟩, low_by (by decide +kernel)⟩
  · exact ⟨none, _, ⟨kd_dic h6, _, .base (.dK h6), by simp⟩, .inr (.dicS h6), ⟨by decide +kernel, by decide +kernel, by decide +kernel⟩, low_by (by decide +kernel)⟩
  · exact od_int (by decide +kernel)
  · exact od_int (by decide +kernel)
  · exact od_int (by decide +kernel)
  · exact od_int (by decide +kernel)
  · exact od_int hf
  · exact od_int (by rw [Int.natAbs_neg]; exact hf)
  · exact od_str (by decide +kernel) (low_by (by decide +kernel))
  · refine ⟨some _, _, ⟨q1, rfl, SqT.of g1, by simp, fun x hx => ?_⟩, .inl (.tup (SqT.of g1) (.cons (.int _) (.cons (.str _) (.cons (.int _) .nil)))), ⟨by decide +kernel, by decide +kernel, by decide +kernel⟩, low_by (by decide +kernel)⟩
    simp only [List.mem_cons, List.not_mem_nil, or_false] at hx
    rcases hx with rfl | rfl | rfl
    · exact kd_int _
    · exact ka
    · exact kd_int _
  · exact ⟨none, _, ⟨kd_lst (SqL.of g2), _, sq_ty (SqL.of g2), by simp⟩, .inl (.lst (SqL.of g2) (.cons (.int _) (.cons (.str _) (.cons (.int _) .nil)))), ⟨by decide +kernel, by decide +kernel, by decide +kernel⟩, low_by (by decide +kernel)⟩
  · exact ⟨some _, _, ⟨q3, rfl, SqT.of g3, by simp, fun x hx => by rw [List.mem_singleton.mp hx]; exact kd_tup (SqT.of g4)⟩, .inl (.tup (SqT.of g3) (.cons (.tup (SqT.of g4) (.cons (.int _) (.cons (.str _) (.cons (.int _) .nil)))) .nil)), ⟨by decide +kernel, by decide +kernel, by decide +kernel⟩, low_by (by decide +kernel)⟩
end
end K31
namespace K31
open PySem PySem.Spec PyProof.Rows L2 Par
section
variable {P : Program} {w : World} {K : PySem.W.Frag} {mg : Str → Option Value} {base : Heap}
def spOdd (K : PySem.W.Frag) : Sp := fun vs H Q _ => ∃ p : Addr, vs = [.ref p] ∧ PotAt H p ∧ ∀ v H', But p H H' → PotAt H' p → Od K (del H' p) v → Q v H'
abbrev nOdd : List Str := ["_law_pot_here", "_law_far", "_law_some"]
theorem scOdd : FnScope nOdd ["_law_pot_here"] (defScope sOdd) := ⟨rfl, rfl, rfl, by decide +kernel, rfl, by decide +kernel, by decide +kernel⟩
theorem ok_odd {f : Addr} {fd : FuncData} (F : Fun K "_law_odd" "_law_odd" sOdd f fd) (B : Bl mg) (D : Has P w K mg base "_law_draw" 2 ["_law_pot_here", "_law_many"] spDraw) :
    FnOk P w K mg base CX0 3 f fd ["_law_pot_here"] (spOdd K) := by
  obtain ⟨fD, fdD, GD, mD, kD, bD⟩ := D
  refine F.ok scOdd (fun vs H Q E h => ?_) (fun cdv A outer s H vs Q E hr h => ?_)
  · obtain ⟨p, rfl, _⟩ := h
    rfl
  · obtain ⟨p, rfl, hp, out⟩ := h
    refine ⟨_, pss_cons (ps_set (i := 1) scOdd.nd rfl (Or.inl rfl) (pe_call GD hr (by rfl) mD kD bD .nil pass0 (pa_cons (pv 0) (pa_cons (pe_op op_pow pe_int pe_int) pa_nil))))
      (pss_cons (ps_set (i := 2) scOdd.nd rfl (Or.inl rfl) (pe_lst (pa_cons pe_non (pa_cons pe_bl (pa_cons pe_bl (pa_cons pe_str (pa_cons pe_str (pa_cons pe_str (pa_cons pe_str (pa_cons (pe_lst pa_nil) (pa_cons (pe_lst (pa_cons pe_str pa_nil)) (pa_cons (pe_tup pa_nil) (pa_cons (pe_tup (pa_cons pe_str pa_nil)) (pa_cons pe_dnewK
        (pa_cons (pe_disp (pps_cons pe_str pe_int pps_nil) (by rfl) (by rfl) (fun z => by cases z) (by decide)) (pa_cons pe_int (pa_cons (pe_un un_neg pe_int) (pa_cons (pe_op op_pow pe_int pe_int) pa_nil))))))))))))))))))
      (pss_cons (ps_set (i := 2) scOdd.nd rfl (Or.inl rfl) (pe_op op_cat (pv 2) (pe_lst (pa_cons (pe_op op_add (pe_op op_pow pe_int pe_int) pe_int) (pa_cons (pv 1) (pa_cons (pe_un un_neg (pv 1)) (pa_cons pe_str (pa_cons (pe_tup (pa_cons pe_int (pa_cons pe_str (pa_cons pe_int pa_nil)))) (pa_cons (pe_lst (pa_cons pe_int (pa_cons pe_str (pa_cons pe_int pa_nil)))) (pa_cons (pe_tup (pa_cons (pe_tup (pa_cons pe_int (pa_cons pe_str (pa_cons pe_int pa_nil)))) pa_nil)) pa_nil))))))))))
      (pss_one (ps_ret (pe_ix ix_list (pv 2) (pe_call GD hr (by rfl) mD kD bD .nil pass0 (pa_cons (pv 0) (pa_cons (pe_callB call_len_seq (by rfl) B.len PySem.boot_len (pa_cons (pv 2) pa_nil)) pa_nil))) (fun _ _ => rfl)))))), ?_⟩
    refine ⟨_, rfl, 10, 60, rfl, rfl, ⟨by decide, by decide, by decide⟩, p, _, rfl, hp, by decide, by decide, ?_⟩
    intro d1 H1 d0 dl b1 hp1
    refine ⟨by decide, fun p1 h1 => ⟨by decide, fun p2 h2 => ⟨by decide, fun p3 h3 => ⟨by decide, fun p4 h4 p5 h5 p6 h6 => ?_⟩⟩⟩⟩
    refine ⟨upd_same, [(Sum.inr "a", .int 1)], rfl, by decide, 1, rfl, 10, 18, rfl, rfl, ⟨by decide, by decide, by decide⟩, (by show 16 ≤ sizeLine; decide), fun L hL => ?_⟩
    rw [upd_upd] at hL ⊢
    have s1 := same_new (o := .lst []) h1
    have s2 := same_new (o := .lst [.str "a"]) h2
    have s3 := same_new (o := .tup []) h3
    have s4 := same_new (o := .tup [.str "a"]) h4
    have s5 := same_new (o := .dK []) h5
    have s6 := same_new (o := .dK (mergeK [] [(Sum.inr "a", .int 1)])) h6
    have s7 := same_new (o := .lst [V.non, V.bl true, V.bl false, V.str "", V.str "A", V.str "a b", V.str "ninesigns", V.ref p1, V.ref p2, V.ref p3, V.ref p4, V.ref p5, V.ref p6, V.int 0, V.int (-1), V.int (10 ^ 18)]) hL
    have t6 := s6.trans s7
    have t5 := s5.trans t6
    have t4 := s4.trans t5
    have t3 := s3.trans t4
    have t2 := s2.trans t3
    have a1 := t2 _ _ (upd_same (H := H1) (a := p1) (o := .lst []))
    have a2 := t3 _ _ (upd_same (a := p2) (o := .lst [.str "a"]))
    have a3 := t4 _ _ (upd_same (a := p3) (o := .tup []))
    have a4 := t5 _ _ (upd_same (a := p4) (o := .tup [.str "a"]))
    have a5 := t6 _ _ (upd_same (a := p5) (o := .dK []))
    have a6 := s7 _ _ (upd_same (a := p6) (o := .dK (mergeK [] [(Sum.inr "a", .int 1)])))
    have a7 := upd_same (H := upd (upd (upd (upd (upd (upd H1 p1 (.lst [])) p2 (.lst [.str "a"])) p3 (.tup [])) p4 (.tup [.str "a"])) p5 (.dK [])) p6 (.dK (mergeK [] [(Sum.inr "a", .int 1)]))) (a := L) (o := .lst [V.non, V.bl true, V.bl false, V.str "", V.str "A", V.str "a b", V.str "ninesigns", V.ref p1, V.ref p2, V.ref p3, V.ref p4, V.ref p5, V.ref p6, V.int 0, V.int (-1), V.int (10 ^ 18)])
    have sA := s1.trans t2
    have hpA := hp1.same sA
    have n1 : p1 ≠ p := pot_ne hp1 h1
    have n2 : p2 ≠ p := pot_ne (hp1.same s1) h2
    have n3 : p3 ≠ p := pot_ne (hp1.same (s1.trans s2)) h3
    have n4 : p4 ≠ p := pot_ne (hp1.same (s1.trans (s2.trans s3))) h4
    have n5 : p5 ≠ p := pot_ne (hp1.same (s1.trans (s2.trans (s3.trans s4)))) h5
    have n6 : p6 ≠ p := pot_ne (hp1.same (s1.trans (s2.trans (s3.trans (s4.trans s5))))) h6
    clear s1 s2 s3 s4 s5 s6 s7 t6 t5 t4 t3 t2
    refine ⟨_, rfl, 10, 18, rfl, rfl, ⟨by decide, by decide, by decide⟩, _, _, rfl, rfl, _, rfl, _, rfl, d1, rfl, (by show 3 ≤ sizeLine; decide), fun q1 g1 => ⟨(by show 3 ≤ sizeLine; decide), fun q2 g2 => ⟨(by show 3 ≤ sizeLine; decide), fun r gr => ⟨(by show 1 ≤ sizeLine; decide), fun q3 g3 => ⟨(by show 7 ≤ sizeLine; decide), fun M hM => ?_⟩⟩⟩⟩⟩
    have s8 := same_new (o := .tup [.int 5, .str "a", .int 0]) g1
    have s9 := same_new (o := .lst [.int 5, .str "a", .int 0]) g2
    have s10 := same_new (o := .tup [.int 5, .str "a", .int 0]) gr
    have s11 := same_new (o := .tup [.ref r]) g3
    have s12 := same_new (o := .lst [.int (10 ^ 18 + 1), .int d1, .int (-d1), .str "5", .ref q1, .ref q2, .ref q3]) hM
    have u11 := s11.trans s12
    have u10 := s10.trans u11
    have u9 := s9.trans u10
    have u8 := s8.trans u9
    refine ⟨L, M, _, _, rfl, rfl, u8 _ _ a7, upd_same, (by show 16 + 7 ≤ sizeLine; decide), fun N hN => ?_⟩
    have s13 := same_new (o := .lst (things d1 p1 p2 p3 p4 p5 p6 q1 q2 q3)) hN
    have u13 := u8.trans s13
    have c1 := u13 _ _ a1
    have c2 := u13 _ _ a2
    have c3 := u13 _ _ a3
    have c4 := u13 _ _ a4
    have c5 := u13 _ _ a5
    have c6 := u13 _ _ a6
    have e1 := (u9.trans s13) _ _ (upd_same (a := q1) (o := .tup [.int 5, .str "a", .int 0]))
    have e2 := (u10.trans s13) _ _ (upd_same (a := q2) (o := .lst [.int 5, .str "a", .int 0]))
    have e3 := (u11.trans s13) _ _ (upd_same (a := r) (o := .tup [.int 5, .str "a", .int 0]))
    have e4 := (s12.trans s13) _ _ (upd_same (a := q3) (o := .tup [.ref r]))
    have hp8 := hpA.same s8
    have m1 : q1 ≠ p := pot_ne hpA g1
    have m2 : q2 ≠ p := pot_ne hp8 g2
    have m3 : r ≠ p := pot_ne (hp8.same s9) gr
    have m4 : q3 ≠ p := pot_ne ((hp8.same s9).same s10) g3
    have mN : N ≠ p := pot_ne (hpA.same u8) hN
    have hpN := (hpA.same u8).same s13
    refine ⟨_, rfl, _, rfl, _, rfl, N, things d1 p1 p2 p3 p4 p5 p6 q1 q2 q3, rfl, .inl (SqL.of upd_same), p, 23, rfl, hpN, by decide, by decide, ?_⟩
    intro d2 HZ z0 z1 bZ hpZ
    have hk : d2.toNat < (things d1 p1 p2 p3 p4 p5 p6 q1 q2 q3).length := by
      rw [things_len]
      omega
    have hx : (things d1 p1 p2 p3 p4 p5 p6 q1 q2 q3)[d2.toNat]? = some (things d1 p1 p2 p3 p4 p5 p6 q1 q2 q3)[d2.toNat] := by simp [hk]
    have hat : atI (things d1 p1 p2 p3 p4 p5 p6 q1 q2 q3) d2 = some (things d1 p1 p2 p3 p4 p5 p6 q1 q2 q3)[d2.toNat] := by
      have q := atI_nat hx
      rw [show ((d2.toNat : Nat) : Int) = d2 by omega] at q
      exact q
    refine ⟨N, _, d2, _, rfl, rfl, SqL.of (bZ N _ mN upd_same), hat, ?_⟩
    have hfar : d1.natAbs < 10 ^ 61 := by
      have q : d1 < 10 ^ 60 := dl
      have q2 : ((10 : Int) ^ 60) = ((10 ^ 60 : Nat) : Int) := by decide +kernel
      have q3 : (10 : Nat) ^ 60 < 10 ^ 61 := by decide +kernel
      omega
    refine out _ HZ ((b1.trans (But.same (sA.trans u13))).trans bZ) hpZ ?_
    exact things_od hfar (del_at n1 (bZ _ _ n1 c1)) (del_at n2 (bZ _ _ n2 c2)) (del_at n3 (bZ _ _ n3 c3)) (del_at n4 (bZ _ _ n4 c4)) (del_at n5 (bZ _ _ n5 c5)) (del_at n6 (bZ _ _ n6 c6)) (del_at m1 (bZ _ _ m1 e1)) (del_at m2 (bZ _ _ m2 e2)) (del_at m4 (bZ _ _ m4 e4)) (del_at m3 (bZ _ _ m3 e3)) _ (List.getElem_mem hk)
end
end K31
namespace K31
open PySem PySem.Spec PyProof.Rows L2 Par
section
variable {P : Program} {w : World} {K : PySem.W.Frag} {mg : Str → Option Value} {base : Heap}
/-- a number, a truth value or a text as a part -/
def Bi (K : PySem.W.Frag) (x : V) : Prop := ∃ d, (∀ H, Kd K H x) ∧ (∀ H, Dp K H x d) ∧ (∀ H, Sx H x d) ∧ small d ∧ Low d.shown
theorem bi_int {i : Int} (h : i.natAbs < 10 ^ 61) : Bi K (.int i) := ⟨.int i, fun H => kd_int i, fun H => .int i, fun H => .fl (.int i), small_int10 h, low_int i⟩
theorem bi_bl (b : Bool) : Bi K (.bl b) := ⟨.bool b, fun H => kd_bl b, fun H => .bl b, fun H => .fl (.bl b), small_bool b, low_plain (d := .bool b) trivial⟩
theorem small_str {z : Str} (h : z.length ≤ 19) (l : Low z) : small (.str z) := ⟨rfl, Nat.zero_le _, by show (reprText z).length ≤ 200; have := low_len l; omega⟩
theorem bi_str {z : Str} (h : z.length ≤ 19) (l : Low z) : Bi K (.str z) := ⟨.str z, fun H => kd_str (by omega) l, fun H => .str z, fun H => .fl (.str z), small_str h l, low_repr l⟩
def Nice (ds : List PyData) : Prop := ∀ d ∈ ds, small d ∧ Low d.shown
theorem bis : ∀ {xs : List V}, (∀ x ∈ xs, Bi K x) → ∃ ds, (∀ H, DpAll K H xs ds) ∧ (∀ H, SxAll H xs ds) ∧ Nice ds ∧ ds.length = xs.length
  | [], _ => ⟨[], fun _ => .nil, fun _ => .nil, (fun _ h => nomatch h), rfl⟩
  | x :: xs, h => by
    obtain ⟨d, _, h2, h3, h4, h5⟩ := h x (List.mem_cons_self ..)
    obtain ⟨ds, g1, g2, g3, g4⟩ := bis fun y hy => h y (List.mem_cons_of_mem _ hy)
    refine ⟨d :: ds, fun H => .cons (h2 H) (g1 H), fun H => .cons (h3 H) (g2 H), ?_, by rw [List.length_cons, List.length_cons, g4]⟩
    intro e he
    rcases List.mem_cons.mp he with rfl | z
    · exact ⟨h4, h5⟩
    · exact g3 e z
theorem nice_append {a b : List PyData} (h : Nice a) (g : Nice b) : Nice (a ++ b) := fun d hd => (List.mem_append.mp hd).elim (h d) (g d)
theorem tup_short {ds : List PyData} (h : Nice ds) (hl : ds.length ≤ 8) : (PyData.tuple ds).shown.length ≤ 10000 := by
  show (tupleText (PyData.shownAll ds)).length ≤ 10000
  have h1 := tupleText_le (PyData.shownAll ds)
  have h2 := piledAll (n := 200) fun d hd => (h d hd).1.2.2
  have h3 : ds.length * (200 + 2) ≤ 8 * (200 + 2) := Nat.mul_le_mul_right _ hl
  omega
theorem lst_short {ds : List PyData} (h : Nice ds) (hl : ds.length ≤ 8) : (PyData.list ds).shown.length ≤ 10000 := by
  show (listText (PyData.shownAll ds)).length ≤ 10000
  have h1 := listText_le (PyData.shownAll ds)
  have h2 := piledAll (n := 200) fun d hd => (h d hd).1.2.2
  have h3 : ds.length * (200 + 2) ≤ 8 * (200 + 2) := Nat.mul_le_mul_right _ hl
  omega
theorem pc_lst {H : Hp} {a : Addr} {xs : List V} (e : H a = some (.lst xs)) (h : ∀ x ∈ xs, Bi K x) (hl : xs.length ≤ 8) : Pc K H (.ref a) := by
  obtain ⟨ds, g1, _, g3, g4⟩ := bis h
  exact ⟨none, _, ⟨kd_lst (SqL.of e), _, sq_ty (SqL.of e), by simp⟩, .dp (.lst (SqL.of e) (g1 H)), good_list (fun d hd => (g3 d hd).1) (by omega), low_list fun d hd => (g3 d hd).2, lst_short g3 (by omega)⟩
theorem pc_tup {H : Hp} {a : Addr} {xs : List V} (e : H a = some (.tup xs)) (h : ∀ x ∈ xs, Bi K x) (hl : xs.length ≤ 8) : Pc K H (.ref a) := by
  obtain ⟨ds, g1, _, g3, g4⟩ := bis h
  refine ⟨some xs, _, ⟨a, rfl, SqT.of e, hl, fun x hx => ?_⟩, .dp (.tup (SqT.of e) (g1 H)), good_tuple (fun d hd => (g3 d hd).1) (by omega), low_tuple fun d hd => (g3 d hd).2, tup_short g3 (by omega)⟩
  obtain ⟨_, k, _⟩ := h x hx
  exact k H
theorem pc_mid {H : Hp} {a : Addr} {xs ys : List V} {v : V} (e : H a = some (.tup (xs ++ [v] ++ ys))) (hx : ∀ x ∈ xs, Bi K x) (hy : ∀ x ∈ ys, Bi K x) (hv : Od K H v) (hl : (xs ++ [v] ++ ys).length ≤ 8) : Pc K H (.ref a) := by
  obtain ⟨ds, g1, g2, g3, g4⟩ := bis hx
  obtain ⟨es, k1, k2, k3, k4⟩ := bis hy
  obtain ⟨o, d, hD, hd, hs, hw⟩ := hv
  have nn : Nice (ds ++ [d] ++ es) := nice_append (nice_append g3 fun c hc => by rw [List.mem_singleton.mp hc]; exact ⟨hs, hw⟩) k3
  have nl : (ds ++ [d] ++ es).length ≤ 8 := by
    simp only [List.length_append, List.length_cons, List.length_nil] at hl ⊢
    omega
  refine ⟨some (xs ++ [v] ++ ys), .tuple (ds ++ [d] ++ es), ⟨a, rfl, SqT.of e, hl, fun x m => ?_⟩, ?_, good_tuple (fun d hd => (nn d hd).1) (by omega), low_tuple fun d hd => (nn d hd).2, tup_short nn nl⟩
  · rcases List.mem_append.mp m with m | m
    · rcases List.mem_append.mp m with m | m
      · obtain ⟨_, k, _⟩ := hx x m
        exact k H
      · rw [List.mem_singleton.mp m]
        exact ds_kd hD
    · obtain ⟨_, k, _⟩ := hy x m
      exact k H
  · rcases hd with hd | hd
    · exact .dp (.tup (SqT.of e) (dps_append (dps_append (g1 H) (.cons hd .nil)) (k1 H)))
    · exact .tup e (sxAll_append (sxAll_append (g2 H) (.cons hd .nil)) (k2 H))
theorem sl_any {H : Hp} {a : Addr} {xs : List V} {lo hi : Option Int} {Q : VK} (e : H a = some (.tup xs)) (h : ∀ b H', Same H H' → H' b = some (.tup (cutV xs lo hi)) → Q (.ref b) H') : rSlA K (.ref a) lo hi H Q := by
  refine ⟨a, xs, rfl, SqT.of e, fun hw => ?_, fun _ p hp => h p _ (same_new hp) upd_same⟩
  refine h a H (fun _ _ z => z) ?_
  have : cutV xs lo hi = xs := by
    unfold cutV
    rw [hw.1, hw.2]
    simp
  rw [this]
  exact e
theorem cat_any {H : Hp} {a b : Addr} {xs ys : List V} {Q : VK} (e : H a = some (.tup xs)) (g : H b = some (.tup ys)) (hl : xs.length + ys.length ≤ 100) (h : ∀ c H', Same H H' → H' c = some (.tup (xs ++ ys)) → Q (.ref c) H') : rCatA K (.ref a) (.ref b) H Q := by
  refine ⟨a, b, xs, ys, rfl, rfl, SqT.of e, SqT.of g, by rw [sizeLine_eq]; omega, fun hx => ?_, fun _ hy => ?_, fun _ _ p hp => h p _ (same_new hp) upd_same⟩
  · subst hx
    exact h b H (fun _ _ z => z) g
  · subst hy
    exact h a H (fun _ _ z => z) (by rw [List.append_nil]; exact e)
end
end K31
namespace K31
open PySem PySem.Spec PyProof.Rows L2 Par
section
variable {P : Program} {w : World} {K : PySem.W.Frag} {mg : Str → Option Value} {base : Heap}
/-- a mark at m -/
def MarkAt (H : Hp) (m : Addr) : Prop := ∃ (i : Int) (z : Str) (j : Int), H m = some (.tup [.int i, .str z, .int j]) ∧ 0 ≤ i ∧ i ≤ most ∧ 0 ≤ j ∧ j ≤ most ∧ z.length ≤ 19 ∧ Low z
def spBent (K : PySem.W.Frag) : Sp := fun vs H Q _ => ∃ p m : Addr, vs = [.ref p, .ref m] ∧ PotAt H p ∧ MarkAt H m ∧ ∀ v H', But p H H' → PotAt H' p → Pc K (del H' p) v → Q v H'
abbrev nBent : List Str := ["_law_pot_here", "_law_mark_here", "_law_way", "_law_at"]
theorem scBent : FnScope nBent ["_law_pot_here", "_law_mark_here"] (defScope sBent) := ⟨rfl, rfl, rfl, by decide +kernel, rfl, by decide +kernel, by decide +kernel⟩
theorem ok_bent {f : Addr} {fd : FuncData} (F : Fun K "_law_bent" "_law_bent" sBent f fd) (B : Bl mg) (D : Has P w K mg base "_law_draw" 2 ["_law_pot_here", "_law_many"] spDraw) (O : Has P w K mg base "_law_odd" 3 ["_law_pot_here"] (spOdd K)) :
    FnOk P w K mg base CX0 4 f fd ["_law_pot_here", "_law_mark_here"] (spBent K) := by
  obtain ⟨fD, fdD, GD, mD, kD, bD⟩ := D
  obtain ⟨fO, fdO, GO, mO, kO, bO⟩ := O
  refine F.ok scBent (fun vs H Q E h => ?_) (fun cdv A outer s H vs Q E hr h => ?_)
  · obtain ⟨p, m, rfl, _⟩ := h
    rfl
  · obtain ⟨p, m, rfl, hp, ⟨i, z, j, hm, i0, i1, j0, j1, hz, lz⟩, out⟩ := h
    have r2 : Room 2 (A.deeper (envOfC "_law_bent" (defScope sBent) s.heap.objs.size f cdv)) := hr.mono (by decide)
    refine ⟨_, pss_cons (ps_par (by rfl) scBent.nd (i := 2) (j := 3) rfl rfl (by decide) rfl rfl (pa_cons (pe_call GD r2 (by rfl) mD kD bD .nil pass0 (pa_cons (pv 0) (pa_cons pe_int pa_nil))) (pa_cons (pe_call GD r2 (by rfl) mD kD bD .nil pass0 (pa_cons (pv 0) (pa_cons pe_int pa_nil))) pa_nil)) (by rfl))
      (pss_cons (ps_if (pt_cmpR op_eq (pv 2) pe_int (nomark _)) (pss_one (ps_ret (pe_callTy call_list_of (by rfl) B.list (by decide +kernel) (pa_cons (pv 1) pa_nil)))) pss_nil)
      (pss_cons (ps_if (pt_cmpR op_eq (pv 2) pe_int (nomark _)) (pss_one (ps_ret (pe_op op_catA (pe_slice sl_tupA (pv 1) po_none (po_some (pv 3))) (pe_slice sl_tupA (pv 1) (po_some (pe_op op_add (pv 3) pe_int)) po_none)))) pss_nil)
      (pss_cons (ps_if (pt_cmpR op_eq (pv 2) pe_int (nomark _)) (pss_one (ps_ret (pe_op op_catA (pe_op op_catA (pe_slice sl_tupA (pv 1) po_none (po_some (pv 3))) (pe_tup (pa_cons (pe_ix ix_tup (pv 1) (pv 3) (fun _ _ => rfl)) pa_nil))) (pe_slice sl_tupA (pv 1) (po_some (pv 3)) po_none)))) pss_nil)
      (pss_cons (ps_if (pt_cmpR op_eq (pv 2) pe_int (nomark _)) (pss_one (ps_ret (pe_op op_catA (pe_op op_catA (pe_slice sl_tupA (pv 1) po_none (po_some (pv 3))) (pe_tup (pa_cons (pe_ix ix_list (pe_lst (pa_cons pe_bl (pa_cons pe_bl pa_nil))) (pe_call GD r2 (by rfl) mD kD bD .nil pass0 (pa_cons (pv 0) (pa_cons pe_int pa_nil))) (fun _ _ => rfl)) pa_nil))) (pe_slice sl_tupA (pv 1) (po_some (pe_op op_add (pv 3) pe_int)) po_none)))) pss_nil)
      (pss_one (ps_ret (pe_op op_catA (pe_op op_catA (pe_slice sl_tupA (pv 1) po_none (po_some (pv 3))) (pe_tup (pa_cons (pe_call GO hr (by rfl) mO kO bO .nil pass0 (pa_cons (pv 0) pa_nil)) pa_nil))) (pe_slice sl_tupA (pv 1) (po_some (pe_op op_add (pv 3) pe_int)) po_none)))))))), ?_⟩
    have nm : m ≠ p := fun e => by
      subst e
      obtain ⟨_, _, e, _⟩ := hp
      rw [hm] at e
      cases e
    have hi : i.natAbs < 10 ^ 61 := by
      have q2 : most < ((10 ^ 61 : Nat) : Int) := by decide +kernel
      omega
    have hj : j.natAbs < 10 ^ 61 := by
      have q2 : most < ((10 ^ 61 : Nat) : Int) := by decide +kernel
      omega
    have bi : ∀ x ∈ ([.int i, .str z, .int j] : List V), Bi K x := by
      intro x hx
      simp only [List.mem_cons, List.not_mem_nil, or_false] at hx
      rcases hx with rfl | rfl | rfl
      · exact bi_int hi
      · exact bi_str hz lz
      · exact bi_int hj
    have bc : ∀ lo hi, ∀ x ∈ cutV ([.int i, .str z, .int j] : List V) lo hi, Bi K x := fun lo hi x hx => bi x (List.mem_of_mem_drop (List.mem_of_mem_take hx))
    have lc : ∀ lo hi, (cutV ([.int i, .str z, .int j] : List V) lo hi).length ≤ 3 := fun lo hi => cutV_length _ lo hi
    refine ⟨_, rfl, p, 6, rfl, hp, by decide, by decide, fun y H1 y0 y1 b1 hp1 => ?_⟩
    refine ⟨_, rfl, p, 3, rfl, hp1, by decide, by decide, fun t H2 t0 t1 b2 hp2 => ?_⟩
    have b12 := b1.trans b2
    have hm2 := b12 m _ nm hm
    have tne : ∀ {H' : Hp} {c : Addr} {xs : List V}, PotAt H' p → H' c = some (.tup xs) → c ≠ p := by
      intro H' c xs h e z
      subst z
      obtain ⟨_, _, e2, _⟩ := h
      rw [e] at e2
      cases e2
    have lcat : ∀ (a b : List V), a.length ≤ 4 → b.length ≤ 4 → a.length + b.length ≤ 100 := fun a b h1 h2 => by omega
    refine ⟨_, _, rfl, _, rfl, rfl, _, rfl, ?_⟩
    refine ite2 (fun _ => ?_) (fun _ => ?_)
    · refine ⟨_, rfl, m, _, rfl, .inr (SqT.of hm2), fun l hl => ?_⟩
      exact out _ _ (b12.trans (But.new hl)) (hp2.same (same_new hl)) (pc_lst (del_at (pot_ne hp2 hl) upd_same) bi (by simp))
    refine ⟨_, rfl, rfl, _, rfl, ?_⟩
    refine ite2 (fun _ => ?_) (fun _ => ?_)
    · refine ⟨_, rfl, _, rfl, t, rfl, sl_any hm2 fun a1 H3 s3 e3 => ?_⟩
      suffices key : rSlA K (.ref m) (some (t + 1)) none H3 (fun y H6 => rCatA K (.ref a1) y H6 Q) from ⟨_, rfl, _, rfl, t, 1, rfl, rfl, _, rfl, key⟩
      refine sl_any (s3 _ _ hm2) fun a2 H4 s4 e4 => ?_
      refine cat_any (s4 _ _ e3) e4 (by have := lc none (some t); have := lc (some (t + 1)) none; omega) fun c H5 s5 e5 => ?_
      have sA := (s3.trans s4).trans s5
      refine out _ _ (b12.trans (But.same sA)) (hp2.same sA) (pc_tup (del_at (tne (hp2.same sA) e5) e5) (fun x hx => ?_) ?_)
      · exact (List.mem_append.mp hx).elim (bc _ _ x) (bc _ _ x)
      · rw [List.length_append]
        have := lc none (some t)
        have := lc (some (t + 1)) none
        omega
    refine ⟨_, rfl, rfl, _, rfl, ?_⟩
    refine ite2 (fun _ => ?_) (fun _ => ?_)
    · refine ⟨_, rfl, _, rfl, t, rfl, sl_any hm2 fun a1 H3 s3 e3 => ?_⟩
      obtain ⟨x, hat, hx⟩ : ∃ x, atI ([.int i, .str z, .int j] : List V) t = some x ∧ Bi K x := by
        rcases (show t = 0 ∨ t = 1 ∨ t = 2 by omega) with rfl | rfl | rfl
        · exact ⟨_, rfl, bi_int hi⟩
        · exact ⟨_, rfl, bi_str hz lz⟩
        · exact ⟨_, rfl, bi_int hj⟩
      refine ⟨_, rfl, _, rfl, m, _, t, x, rfl, rfl, SqT.of (s3 _ _ hm2), hat, (by show 1 ≤ sizeLine; decide), fun a2 h2 => ?_⟩
      have s4 := same_new (o := .tup [x]) h2
      refine cat_any (s4 _ _ e3) upd_same (by have := lc none (some t); show _ + 1 ≤ 100; omega) fun a3 H5 s5 e5 => ?_
      suffices key : rSlA K (.ref m) (some t) none H5 (fun y H6 => rCatA K (.ref a3) y H6 Q) from ⟨_, rfl, _, rfl, t, rfl, key⟩
      refine sl_any ((s3.trans (s4.trans s5)) _ _ hm2) fun a4 H6 s6 e6 => ?_
      refine cat_any (s6 _ _ e5) e6 (by rw [List.length_append]; have := lc none (some t); have := lc (some t) none; show _ + 1 + _ ≤ 100; omega) fun c H7 s7 e7 => ?_
      have sA := (s3.trans s4).trans ((s5.trans s6).trans s7)
      refine out _ _ (b12.trans (But.same sA)) (hp2.same sA) (pc_tup (del_at (tne (hp2.same sA) e7) e7) (fun y hy => ?_) ?_)
      · rcases List.mem_append.mp hy with hy | hy
        · rcases List.mem_append.mp hy with hy | hy
          · exact bc _ _ y hy
          · rw [List.mem_singleton.mp hy]
            exact hx
        · exact bc _ _ y hy
      · rw [List.length_append, List.length_append]
        have := lc none (some t)
        have := lc (some t) none
        show _ + 1 + _ ≤ 8
        omega
    have fin : ∀ (v : V) (Hs H4 : Hp) (a1 : Addr), Same H2 Hs → Od K (del H4 p) v → But p Hs H4 → PotAt H4 p → Hs a1 = some (.tup (cutV ([.int i, .str z, .int j] : List V) none (some t))) → a1 ≠ p → ∀ a2, H4 a2 = none →
        rCatA K (.ref a1) (.ref a2) (upd H4 a2 (.tup [v])) fun x H5 => ∀ k : Int, k = t + 1 → rSlA K (.ref m) (some k) none H5 fun y H6 => rCatA K x y H6 Q := by
      intro v Hs H4 a1 ss hv b4 hp4 ea1 na1 a2 h2
      have s4 := same_new (o := .tup [v]) h2
      have na2 := pot_ne hp4 h2
      refine cat_any (s4 _ _ (b4 _ _ na1 ea1)) upd_same (by have := lc none (some t); show _ + 1 ≤ 100; omega) fun a3 H5 s5 e5 => ?_
      intro k hk
      subst hk
      have hm4 : H4 m = some (.tup [.int i, .str z, .int j]) := b4 m _ nm (ss _ _ hm2)
      refine sl_any ((s4.trans s5) _ _ hm4) fun a4 H6 s6 e6 => ?_
      refine cat_any (s6 _ _ e5) e6 (by rw [List.length_append]; have := lc none (some t); have := lc (some (t + 1)) none; show _ + 1 + _ ≤ 100; omega) fun c H7 s7 e7 => ?_
      have sA := (s4.trans s5).trans (s6.trans s7)
      refine out _ _ (((b12.trans (But.same ss)).trans b4).trans (But.same sA)) (hp4.same sA) (pc_mid (del_at (tne (hp4.same sA) e7) e7) (bc _ _) (bc _ _) (od_same (del_same' (But.same sA)) hv) ?_)
      rw [List.length_append, List.length_append]
      have := lc none (some t)
      have := lc (some (t + 1)) none
      show _ + 1 + _ ≤ 8
      omega
    refine ⟨_, rfl, rfl, _, rfl, ?_⟩
    refine ite2 (fun _ => ?_) (fun _ => ?_)
    · refine ⟨_, rfl, _, rfl, t, rfl, sl_any hm2 fun a1 H3 s3 e3 => ?_⟩
      refine ⟨(by show 2 ≤ sizeLine; decide), fun L hL => ?_⟩
      have sL := same_new (o := .lst [.bl true, .bl false]) hL
      have nL := pot_ne (hp2.same s3) hL
      have hpL := (hp2.same s3).same sL
      refine ⟨_, rfl, p, 2, rfl, hpL, by decide, by decide, fun g H4 g0 g1 b4 hp4 => ?_⟩
      have eL := b4 L _ nL (upd_same (H := H3) (a := L) (o := .lst [.bl true, .bl false]))
      obtain ⟨b, hat⟩ : ∃ b, atI [V.bl true, V.bl false] g = some (.bl b) := by
        rcases (show g = 0 ∨ g = 1 by omega) with rfl | rfl
        · exact ⟨_, rfl⟩
        · exact ⟨_, rfl⟩
      refine ⟨L, _, g, _, rfl, rfl, SqL.of eL, hat, (by show 1 ≤ sizeLine; decide), fun a2 h2 => ?_⟩
      have key := fin (.bl b) _ H4 a1 (s3.trans sL) (od_bl b) b4 hp4 (sL _ _ e3) (tne (hp2.same s3) e3) a2 h2
      obtain ⟨k1, k2, k3, k4, k5, k6, k7, k8, k9, q0, q1, q2⟩ := key
      exact ⟨k1, k2, k3, k4, k5, k6, k7, k8, k9, fun z => ⟨_, rfl, _, rfl, t, 1, rfl, rfl, _, rfl, q0 z _ rfl⟩, fun z z2 => ⟨_, rfl, _, rfl, t, 1, rfl, rfl, _, rfl, q1 z z2 _ rfl⟩, fun z z2 c hc => ⟨_, rfl, _, rfl, t, 1, rfl, rfl, _, rfl, q2 z z2 c hc _ rfl⟩⟩
    refine ⟨_, rfl, _, rfl, t, rfl, sl_any hm2 fun a1 H3 s3 e3 => ?_⟩
    refine ⟨_, rfl, p, rfl, hp2.same s3, fun v H4 b4 hp4 hv => ⟨(by show 1 ≤ sizeLine; decide), fun a2 h2 => ?_⟩⟩
    have key := fin v _ H4 a1 s3 hv b4 hp4 e3 (tne (hp2.same s3) e3) a2 h2
    obtain ⟨k1, k2, k3, k4, k5, k6, k7, k8, k9, q0, q1, q2⟩ := key
    exact ⟨k1, k2, k3, k4, k5, k6, k7, k8, k9, fun z => ⟨_, rfl, _, rfl, t, 1, rfl, rfl, _, rfl, q0 z _ rfl⟩, fun z z2 => ⟨_, rfl, _, rfl, t, 1, rfl, rfl, _, rfl, q1 z z2 _ rfl⟩, fun z z2 c hc => ⟨_, rfl, _, rfl, t, 1, rfl, rfl, _, rfl, q2 z z2 c hc _ rfl⟩⟩
end
end K31
namespace K31
open PySem PySem.Spec PyProof.Rows L2 Par
section
variable {P : Program} {w : World} {K : PySem.W.Frag} {mg : Str → Option Value} {base : Heap}
theorem same_but {H0 H H' : Hp} {p : Addr} (h0 : H0 p = none) (s : Same H0 H) (b : But p H H') : Same H0 H' := fun c o e => b c o (ne_of_none e h0) (s c o e)
theorem pcd {H H' : Hp} {p : Addr} {v : V} (b : But p H H') (h : Pc K (del H p) v) : Pc K (del H' p) v := pc_same (del_same' b) h
def spLaw (K : PySem.W.Frag) : Sp := fun vs H Q _ => ∃ (a : Addr) (ns : List Int), vs = [.ref a] ∧ SqL K H a (ns.map V.int) ∧ ns.length ≤ 63 ∧ ∀ H', Q (.bl true) H'
abbrev nLaw : List Str := ["_law_script", "_law_k", "_law_pot_here", "_law_turn", "_law_mark_here", "_law_some", "_law_piece"]
theorem scLaw : FnScope nLaw ["_law_script"] (defScope sLaw) := ⟨rfl, rfl, rfl, by decide +kernel, rfl, by decide +kernel, by decide +kernel⟩
theorem ok_law {f : Addr} {fd : FuncData} (F : Fun K "law" "law" sLaw f fd) (B : Bl mg) (hM : ∃ t, mg "MOST_TIME" = some (.int most t))
    (Pt : Has P w K mg base "_law_pot" 2 ["_law_script", "_law_k"] (spPot K)) (Mk : Has P w K mg base "_law_mark" 4 ["_law_pot_here"] spMark)
    (Wd : Has P w K mg base "_law_word" 3 ["_law_pot_here"] spWord) (Be : Has P w K mg base "_law_bent" 4 ["_law_pot_here", "_law_mark_here"] (spBent K))
    (Mo : Has P w K mg base "_law_moment" 3 ["_law_pot_here"] spMoment) (Od' : Has P w K mg base "_law_odd" 3 ["_law_pot_here"] (spOdd K))
    (R : HasG P w K mg base "_law_right" 5 ["_law_piece"] (spRight K)) : FnG P w K mg base CX0 6 f fd ["_law_script"] (spLaw K) := by
  obtain ⟨tM, hM⟩ := hM
  obtain ⟨fP, fdP, GP, mP, kP, bP⟩ := Pt
  obtain ⟨fK, fdK, GK, mK, kK, bK⟩ := Mk
  obtain ⟨fW, fdW, GW, mW, kW, bW⟩ := Wd
  obtain ⟨fB, fdB, GB, mB, kB, bB⟩ := Be
  obtain ⟨fM, fdM, GM, mM, kM, bM⟩ := Mo
  obtain ⟨fO, fdO, GO, mO, kO, bO⟩ := Od'
  obtain ⟨fR, fdR, GR, mR, kR, bR⟩ := R
  refine fnG_of F scLaw (fun vs H Q E h => ?_) (fun cdv A outer s H vs Q E gs hr h => ?_)
  · obtain ⟨a, ns, rfl, _⟩ := h
    rfl
  · obtain ⟨a, ns, rfl, hS, hlen, out⟩ := h
    have r4 : Room 4 (A.deeper (envOfC "law" (defScope sLaw) s.heap.objs.size f cdv)) := hr.mono (by decide)
    have r3 : Room 3 (A.deeper (envOfC "law" (defScope sLaw) s.heap.objs.size f cdv)) := hr.mono (by decide)
    have r2 : Room 2 (A.deeper (envOfC "law" (defScope sLaw) s.heap.objs.size f cdv)) := hr.mono (by decide)
    refine ⟨_, pss_cons (ps_for PassesOwn.never rfl (pi_range1 (by rfl) B.range (pa_cons (pe_callB (call_max2 rfl) (by rfl) B.max (by decide +kernel) (pa_cons pe_int (pa_cons (pe_callB (call_min2 rfl) (by rfl) B.min (by decide +kernel) (pa_cons (pe_callB call_len_seq (by rfl) B.len PySem.boot_len (pa_cons (pv 0) pa_nil)) (pa_cons pe_int pa_nil))) pa_nil))) pa_nil)) (pg_name (i := 1) scLaw.nd rfl (Or.inl rfl))
        (pss_cons (ps_set (i := 2) scLaw.nd rfl (Or.inl rfl) (pe_call GP r2 (by rfl) mP kP bP .nil pass0 (pa_cons (pv 0) (pa_cons (pv 1) pa_nil))))
        (pss_one (ps_for PassesOwn.never rfl (pi_range1 (by rfl) B.range (pa_cons pe_int pa_nil)) (pg_name (i := 3) scLaw.nd rfl (Or.inl rfl))
          (pss_cons (ps_set (i := 4) scLaw.nd rfl (Or.inl rfl) (pe_call GK r4 (by rfl) mK kK bK .nil pass0 (pa_cons (pv 2) pa_nil)))
          (pss_cons (ps_set (i := 5) scLaw.nd rfl (Or.inl rfl) (pe_lst (pa_cons (pe_call GW r3 (by rfl) mW kW bW .nil pass0 (pa_cons (pv 2) pa_nil)) (pa_cons (pv 4) (pa_cons (pe_call GB r4 (by rfl) mB kB bB .nil pass0 (pa_cons (pv 2) (pa_cons (pv 4) pa_nil)))
            (pa_cons (pe_tup (pa_cons (pe_call GM r3 (by rfl) mM kM bM .nil pass0 (pa_cons (pv 2) pa_nil)) (pa_cons (pe_call GW r3 (by rfl) mW kW bW .nil pass0 (pa_cons (pv 2) pa_nil)) (pa_cons pe_int pa_nil)))) (pa_cons (pe_call GO r3 (by rfl) mO kO bO .nil pass0 (pa_cons (pv 2) pa_nil)) pa_nil)))))))
          (pss_one (ps_if (pt_not (pt_val (pe_callB (cr_all rfl) (by rfl) B.all (by decide +kernel) (pa_cons (pe_lc (own := [("_law_piece", 6)]) (g := gName 6) (te := tCall (spRight K) [] E0 (tCons (tVar 6) tNil)) rfl scLaw.nd (pi_list (pe_op op_cat (pv 5) (pe_lst (pa_cons (pe_call GM r3 (by rfl) mM kM bM .nil pass0 (pa_cons (pv 2) pa_nil)) pa_nil)))) (blkOk_by (own := [("_law_piece", 6)]) (N := nLaw) (sc := defScope sLaw) (by decide +kernel))
            (fun _ _ _ _ _ => pg_name (i := 6) scLaw.nd rfl (Or.inl rfl)) (fun _ _ _ _ _ => pts_nil) (fun _ _ _ _ _ => by exact pe_callG GR gs hr (by rfl) mR kR bR pass0 (pa_cons (pv 6) pa_nil))) pa_nil)))) (pss_one (ps_ret pe_bl)) pss_nil))))))))
      (pss_one (ps_ret (pe_cmpR op_eq (pe_glob (v := .int most) (by rfl) hM ⟨_, rfl⟩) (pe_op op_pow pe_int pe_int) (nomark _)))), ?_⟩
    refine ⟨_, rfl, a, _, rfl, .inl hS, _, _, rfl, _, _, rfl, _, rfl, ?_, ?_, ?_⟩
    · rw [List.length_map]
      split <;> split <;> omega
    · rw [List.length_map]
      split <;> split <;> omega
    refine for_range (lo := 0) (fun i σ H' => Same H H' ∧ ∃ (kv pv tv mv sv qv : Option V), σ = [some (.ref a), kv, pv, tv, mv, sv, qv])
      ⟨Same.refl _, none, none, none, none, none, none, rfl⟩ ?_ ?_
    · rintro i σ H1 hi ⟨s1, kv, pv0, tv, mv, sv, qv, rfl⟩
      have hi8 : i < 9 := by
        rw [List.length_map] at hi
        revert hi
        split <;> split <;> omega
      refine ⟨_, rfl, _, rfl, a, ns, i, (by rw [Int.zero_add]; rfl), s1.seq hS, by omega, fun p H2 hp s2 pot2 => ?_⟩
      have hpH : H p = none := s1.free hp
      refine ⟨4, rfl, by decide, by decide, ?_⟩
      refine for_range (lo := 0) (n := 4) (fun j σ H' => But p H2 H' ∧ PotAt H' p ∧ ∃ (tv mv sv : Option V), σ = [some (.ref a), some (.int (0 + (i : Int))), some (.ref p), tv, mv, sv, qv])
        ⟨But.refl p H2, pot2, _, _, _, rfl⟩ ?_ ?_
      · rintro j σ H3 hj ⟨b3, pot3, tv, mv, sv, rfl⟩
        refine ⟨_, rfl, p, rfl, pot3, fun m mi mz mj H4 hm b4 pot4 em mi0 mi1 mj0 mj1 mzl mzw => ?_⟩
        have nm : m ≠ p := pot_ne pot3 hm
        have tiny : ∀ i : Int, 0 ≤ i → i ≤ most → i.natAbs < 10 ^ 61 := by
          intro i i0 i1
          have q2 : most < ((10 ^ 61 : Nat) : Int) := by decide +kernel
          omega
        have bi3 : ∀ (i : Int) (z : Str) (j : Int), 0 ≤ i → i ≤ most → z.length ≤ 19 → Low z → 0 ≤ j → j ≤ most → ∀ x ∈ ([.int i, .str z, .int j] : List V), Bi K x := by
          intro i z j i0 i1 zl zw j0 j1 x hx
          simp only [List.mem_cons, List.not_mem_nil, or_false] at hx
          rcases hx with rfl | rfl | rfl
          · exact bi_int (tiny i i0 i1)
          · exact bi_str zl zw
          · exact bi_int (tiny j j0 j1)
        have pm4 : Pc K (del H4 p) (.ref m) := pc_tup (del_at nm em) (bi3 mi mz mj mi0 mi1 mzl mzw mj0 mj1) (by simp)
        refine ⟨_, rfl, p, rfl, pot4, fun z H5 b5 pot5 zl zw => ?_⟩
        have em5 := b5 m _ nm em
        refine ⟨_, rfl, _, rfl, _, rfl, p, m, rfl, pot5, ⟨mi, mz, mj, em5, mi0, mi1, mj0, mj1, mzl, mzw⟩, fun v H6 b6 pot6 pc6 => ?_⟩
        refine ⟨_, rfl, p, rfl, pot6, fun t H7 t0 t1 b7 pot7 => ?_⟩
        refine ⟨_, rfl, p, rfl, pot7, fun y H8 b8 pot8 yl yw => ?_⟩
        refine ⟨(by show 3 ≤ sizeLine; decide), fun T hT => ?_⟩
        have sT := same_new (o := .tup [.int t, .str y, .int 0]) hT
        have nT := pot_ne pot8 hT
        refine ⟨_, rfl, p, rfl, pot8.same sT, fun u H9 b9 pot9 od9 => ?_⟩
        have eT := b9 T _ nT upd_same
        refine ⟨(by show 5 ≤ sizeLine; decide), fun S hS' => ?_⟩
        have sS := same_new (o := .lst [.str z, .ref m, v, .ref T, u]) hS'
        have nS := pot_ne pot9 hS'
        refine ⟨_, rfl, _, rfl, p, rfl, pot9.same sS, fun c H10 c0 c1 b10 pot10 => ?_⟩
        refine ⟨(by show 1 ≤ sizeLine; decide), fun N hN => ?_⟩
        have sN := same_new (o := .lst [.int c]) hN
        have eS := sN _ _ (b10 S _ nS upd_same)
        refine ⟨S, N, _, _, rfl, rfl, eS, upd_same, (by show 5 + 1 ≤ sizeLine; decide), fun L hL => ?_⟩
        have sL := same_new (o := .lst ([.str z, .ref m, v, .ref T, u] ++ [.int c])) hL
        have pot11 := (pot10.same sN).same sL
        have bA : But p H9 (upd (upd H10 N (.lst [.int c])) L (.lst ([.str z, .ref m, v, .ref T, u] ++ [.int c]))) := ((But.same sS).trans b10).trans ((But.same sN).trans (But.same sL))
        have b69 : But p H6 H9 := ((b7.trans b8).trans (But.same sT)).trans b9
        have all : ∀ x ∈ ([.str z, .ref m, v, .ref T, u] ++ [.int c] : List V), Pc K (upd (upd H10 N (.lst [.int c])) L (.lst ([.str z, .ref m, v, .ref T, u] ++ [.int c]))) x := by
          intro x hx
          refine pc_same (del_sub _ p) ?_
          have hx2 : x ∈ ([.str z, .ref m, v, .ref T, u, .int c] : List V) := hx
          simp only [List.mem_cons, List.not_mem_nil, or_false] at hx2
          rcases hx2 with rfl | rfl | rfl | rfl | rfl | rfl
          · exact od_pc (od_str zl zw)
          · exact pcd (((b5.trans b6).trans b69).trans bA) pm4
          · exact pcd (b69.trans bA) pc6
          · exact pcd bA (pc_tup (del_at nT eT) (bi3 t y 0 t0 t1 yl yw (by decide) (by decide)) (by simp))
          · exact pcd bA (od_pc od9)
          · exact od_pc (od_int (tiny c c0 c1))
        have b11 : But p H2 _ := (((b3.trans b4).trans (b5.trans b6)).trans b69).trans bA
        have eL := upd_same (H := upd H10 N (.lst [.int c])) (a := L) (o := .lst ([.str z, .ref m, v, .ref T, u] ++ [.int c]))
        generalize upd (upd H10 N (.lst [.int c])) L (.lst ([.str z, .ref m, v, .ref T, u] ++ [.int c])) = H11 at *
        refine ⟨L, rfl, ⟨_, SqL.of eL⟩, fun D hD => ?_⟩
        refine lc_list (K := K) (a := L) (xs := [.str z, .ref m, v, .ref T, u] ++ [.int c]) (fun j H' => Same H11 H' ∧ H' D = some (.lst ((List.replicate j true).map V.bl))) ⟨same_new hD, upd_same⟩ (fun j H' _ h => SqL.of (h.1 _ _ eL)) ?_ ?_
        · rintro j2 x H12 hx ⟨s12, hD12⟩
          have jl : j2 < 6 := (List.getElem?_eq_some_iff.mp hx).1
          refine ⟨rfl, yesT ?_⟩
          refine ⟨_, rfl, x, rfl, pc_same s12 (all x (List.mem_of_getElem? hx)), fun H13 s13 => ?_⟩
          refine ⟨_, s13 _ _ hD12, ?_, ?_, ?_⟩
          · rw [List.length_map, List.length_replicate, sizeLine_eq]
            omega
          · intro b o e
            rw [upd_ne (ne_of_none e hD)]
            exact s13 _ _ (s12 b o e)
          · rw [upd_same, List.replicate_succ', List.map_append]
            rfl
        rintro H12 ⟨s12, hD12⟩
        refine ⟨D, List.replicate 6 true, rfl, SqL.of hD12, _, rfl, iteF ?_⟩
        exact ⟨b11.trans (But.same s12), pot11.same s12, _, _, _, rfl⟩
      · rintro σ H3 ⟨b3, pot3, tv, mv, sv, rfl⟩
        exact ⟨same_but hpH (s1.trans s2) b3, _, _, _, _, _, _, rfl⟩
    · rintro σ H1 _
      refine ⟨10, 18, rfl, rfl, ⟨by decide, by decide, by decide⟩, rfl, ?_⟩
      exact out H1
end
end K31
namespace K31
open PySem PySem.Spec PyProof.Rows L2 Par
theorem all_mk {l : PySem.W.OpenLaw} {w : World} {K : PySem.W.Frag} {h : Heap} {mg : Str → Option Value} {fa : Addr} (X : K.In h) (G : h.Ns mainGlobals mg) (hfa : mg "law" = some (.ref fa))
    {f1 : Addr} {oc1 kV1 dc1 pm1 cd1 ct1 : Value} {od1 an1 : Option Addr} {sl1 : Array (Option Value)}
    {f2 : Addr} {oc2 kV2 dc2 pm2 cd2 ct2 : Value} {od2 an2 : Option Addr} {sl2 : Array (Option Value)}
    {f7 : Addr} {oc7 kV7 dc7 pm7 cd7 ct7 : Value} {od7 an7 : Option Addr} {sl7 : Array (Option Value)}
    {f8 : Addr} {oc8 kV8 dc8 pm8 cd8 ct8 : Value} {od8 an8 : Option Addr} {sl8 : Array (Option Value)}
    {f9 : Addr} {oc9 kV9 dc9 pm9 cd9 ct9 : Value} {od9 an9 : Option Addr} {sl9 : Array (Option Value)}
    {f11 : Addr} {oc11 kV11 dc11 pm11 cd11 ct11 : Value} {od11 an11 : Option Addr} {sl11 : Array (Option Value)}
    {f12 : Addr} {oc12 kV12 dc12 pm12 cd12 ct12 : Value} {od12 an12 : Option Addr} {sl12 : Array (Option Value)}
    {f13 : Addr} {oc13 kV13 dc13 pm13 cd13 ct13 : Value} {od13 an13 : Option Addr} {sl13 : Array (Option Value)}
    {f14 : Addr} {oc14 kV14 dc14 pm14 cd14 ct14 : Value} {od14 an14 : Option Addr} {sl14 : Array (Option Value)}
    {f15 : Addr} {oc15 kV15 dc15 pm15 cd15 ct15 : Value} {od15 an15 : Option Addr} {sl15 : Array (Option Value)}
    {f16 : Addr} {oc16 kV16 dc16 pm16 cd16 ct16 : Value} {od16 an16 : Option Addr} {sl16 : Array (Option Value)}
    {f17 : Addr} {oc17 kV17 dc17 pm17 cd17 ct17 : Value} {od17 an17 : Option Addr} {sl17 : Array (Option Value)}
    {f18 : Addr} {oc18 kV18 dc18 pm18 cd18 ct18 : Value} {od18 an18 : Option Addr} {sl18 : Array (Option Value)}
    {f19 : Addr} {oc19 kV19 dc19 pm19 cd19 ct19 : Value} {od19 an19 : Option Addr} {sl19 : Array (Option Value)}
    {f20 : Addr} {oc20 kV20 dc20 pm20 cd20 ct20 : Value} {od20 an20 : Option Addr} {sl20 : Array (Option Value)}
    {f21 : Addr} {oc21 kV21 dc21 pm21 cd21 ct21 : Value} {od21 an21 : Option Addr} {sl21 : Array (Option Value)}
    {f22 : Addr} {oc22 kV22 dc22 pm22 cd22 ct22 : Value} {od22 an22 : Option Addr} {sl22 : Array (Option Value)}
    {tT : Tok}
    {tN : Tok}
    {tL : Tok}
    (a1 : PySem.W.nsIn K mainGlobals "is_integer" = some (some (.ref f1)))
    (l1 : K.lookup f1 = some ⟨oc1, od1, .func (PySem.W.fnOf "is_integer" "is_integer" (defArgs sInteger) (defBody sInteger) (defScope sInteger) .none kV1 dc1 pm1 an1 cd1 ct1), sl1⟩)
    (c1 : PySem.W.codeIn K cd1 "is_integer" = true)
    (k1 : PySem.W.keepIn K (.ref f1) = true)
    (a2 : PySem.W.nsIn K mainGlobals "is_integer_between" = some (some (.ref f2)))
    (l2 : K.lookup f2 = some ⟨oc2, od2, .func (PySem.W.fnOf "is_integer_between" "is_integer_between" (defArgs sBetween) (defBody sBetween) (defScope sBetween) .none kV2 dc2 pm2 an2 cd2 ct2), sl2⟩)
    (c2 : PySem.W.codeIn K cd2 "is_integer_between" = true)
    (k2 : PySem.W.keepIn K (.ref f2) = true)
    (a7 : PySem.W.nsIn K mainGlobals "is_name" = some (some (.ref f7)))
    (l7 : K.lookup f7 = some ⟨oc7, od7, .func (PySem.W.fnOf "is_name" "is_name" (defArgs sName) (defBody sName) (defScope sName) .none kV7 dc7 pm7 an7 cd7 ct7), sl7⟩)
    (c7 : PySem.W.codeIn K cd7 "is_name" = true)
    (k7 : PySem.W.keepIn K (.ref f7) = true)
    (a8 : PySem.W.nsIn K mainGlobals "is_time" = some (some (.ref f8)))
    (l8 : K.lookup f8 = some ⟨oc8, od8, .func (PySem.W.fnOf "is_time" "is_time" (defArgs sTime) (defBody sTime) (defScope sTime) .none kV8 dc8 pm8 an8 cd8 ct8), sl8⟩)
    (c8 : PySem.W.codeIn K cd8 "is_time" = true)
    (k8 : PySem.W.keepIn K (.ref f8) = true)
    (a9 : PySem.W.nsIn K mainGlobals "is_stamp" = some (some (.ref f9)))
    (l9 : K.lookup f9 = some ⟨oc9, od9, .func (PySem.W.fnOf "is_stamp" "is_stamp" (defArgs sStamp) (defBody sStamp) (defScope sStamp) .none kV9 dc9 pm9 an9 cd9 ct9), sl9⟩)
    (c9 : PySem.W.codeIn K cd9 "is_stamp" = true)
    (k9 : PySem.W.keepIn K (.ref f9) = true)
    (a11 : PySem.W.nsIn K mainGlobals "_law_pot" = some (some (.ref f11)))
    (l11 : K.lookup f11 = some ⟨oc11, od11, .func (PySem.W.fnOf "_law_pot" "_law_pot" (defArgs sPot) (defBody sPot) (defScope sPot) .none kV11 dc11 pm11 an11 cd11 ct11), sl11⟩)
    (c11 : PySem.W.codeIn K cd11 "_law_pot" = true)
    (k11 : PySem.W.keepIn K (.ref f11) = true)
    (a12 : PySem.W.nsIn K mainGlobals "_law_draw" = some (some (.ref f12)))
    (l12 : K.lookup f12 = some ⟨oc12, od12, .func (PySem.W.fnOf "_law_draw" "_law_draw" (defArgs sDraw) (defBody sDraw) (defScope sDraw) .none kV12 dc12 pm12 an12 cd12 ct12), sl12⟩)
    (c12 : PySem.W.codeIn K cd12 "_law_draw" = true)
    (k12 : PySem.W.keepIn K (.ref f12) = true)
    (a13 : PySem.W.nsIn K mainGlobals "_law_moment" = some (some (.ref f13)))
    (l13 : K.lookup f13 = some ⟨oc13, od13, .func (PySem.W.fnOf "_law_moment" "_law_moment" (defArgs sMoment) (defBody sMoment) (defScope sMoment) .none kV13 dc13 pm13 an13 cd13 ct13), sl13⟩)
    (c13 : PySem.W.codeIn K cd13 "_law_moment" = true)
    (k13 : PySem.W.keepIn K (.ref f13) = true)
    (a14 : PySem.W.nsIn K mainGlobals "_law_mark" = some (some (.ref f14)))
    (l14 : K.lookup f14 = some ⟨oc14, od14, .func (PySem.W.fnOf "_law_mark" "_law_mark" (defArgs sMark) (defBody sMark) (defScope sMark) .none kV14 dc14 pm14 an14 cd14 ct14), sl14⟩)
    (c14 : PySem.W.codeIn K cd14 "_law_mark" = true)
    (k14 : PySem.W.keepIn K (.ref f14) = true)
    (a15 : PySem.W.nsIn K mainGlobals "_law_word" = some (some (.ref f15)))
    (l15 : K.lookup f15 = some ⟨oc15, od15, .func (PySem.W.fnOf "_law_word" "_law_word" (defArgs sWord) (defBody sWord) (defScope sWord) .none kV15 dc15 pm15 an15 cd15 ct15), sl15⟩)
    (c15 : PySem.W.codeIn K cd15 "_law_word" = true)
    (k15 : PySem.W.keepIn K (.ref f15) = true)
    (a16 : PySem.W.nsIn K mainGlobals "_law_odd" = some (some (.ref f16)))
    (l16 : K.lookup f16 = some ⟨oc16, od16, .func (PySem.W.fnOf "_law_odd" "_law_odd" (defArgs sOdd) (defBody sOdd) (defScope sOdd) .none kV16 dc16 pm16 an16 cd16 ct16), sl16⟩)
    (c16 : PySem.W.codeIn K cd16 "_law_odd" = true)
    (k16 : PySem.W.keepIn K (.ref f16) = true)
    (a17 : PySem.W.nsIn K mainGlobals "_law_is_word" = some (some (.ref f17)))
    (l17 : K.lookup f17 = some ⟨oc17, od17, .func (PySem.W.fnOf "_law_is_word" "_law_is_word" (defArgs sIsWord) (defBody sIsWord) (defScope sIsWord) .none kV17 dc17 pm17 an17 cd17 ct17), sl17⟩)
    (c17 : PySem.W.codeIn K cd17 "_law_is_word" = true)
    (k17 : PySem.W.keepIn K (.ref f17) = true)
    (a18 : PySem.W.nsIn K mainGlobals "_law_is_moment" = some (some (.ref f18)))
    (l18 : K.lookup f18 = some ⟨oc18, od18, .func (PySem.W.fnOf "_law_is_moment" "_law_is_moment" (defArgs sIsMoment) (defBody sIsMoment) (defScope sIsMoment) .none kV18 dc18 pm18 an18 cd18 ct18), sl18⟩)
    (c18 : PySem.W.codeIn K cd18 "_law_is_moment" = true)
    (k18 : PySem.W.keepIn K (.ref f18) = true)
    (a19 : PySem.W.nsIn K mainGlobals "_law_is_mark" = some (some (.ref f19)))
    (l19 : K.lookup f19 = some ⟨oc19, od19, .func (PySem.W.fnOf "_law_is_mark" "_law_is_mark" (defArgs sIsMark) (defBody sIsMark) (defScope sIsMark) .none kV19 dc19 pm19 an19 cd19 ct19), sl19⟩)
    (c19 : PySem.W.codeIn K cd19 "_law_is_mark" = true)
    (k19 : PySem.W.keepIn K (.ref f19) = true)
    (a20 : PySem.W.nsIn K mainGlobals "_law_bent" = some (some (.ref f20)))
    (l20 : K.lookup f20 = some ⟨oc20, od20, .func (PySem.W.fnOf "_law_bent" "_law_bent" (defArgs sBent) (defBody sBent) (defScope sBent) .none kV20 dc20 pm20 an20 cd20 ct20), sl20⟩)
    (c20 : PySem.W.codeIn K cd20 "_law_bent" = true)
    (k20 : PySem.W.keepIn K (.ref f20) = true)
    (a21 : PySem.W.nsIn K mainGlobals "_law_right" = some (some (.ref f21)))
    (l21 : K.lookup f21 = some ⟨oc21, od21, .func (PySem.W.fnOf "_law_right" "_law_right" (defArgs sRight) (defBody sRight) (defScope sRight) .none kV21 dc21 pm21 an21 cd21 ct21), sl21⟩)
    (c21 : PySem.W.codeIn K cd21 "_law_right" = true)
    (k21 : PySem.W.keepIn K (.ref f21) = true)
    (a22 : PySem.W.nsIn K mainGlobals "law" = some (some (.ref f22)))
    (l22 : K.lookup f22 = some ⟨oc22, od22, .func (PySem.W.fnOf "law" "law" (defArgs sLaw) (defBody sLaw) (defScope sLaw) .none kV22 dc22 pm22 an22 cd22 ct22), sl22⟩)
    (c22 : PySem.W.codeIn K cd22 "law" = true)
    (k22 : PySem.W.keepIn K (.ref f22) = true)
    (c_T : PySem.W.nsIn K mainGlobals "MOST_TIME" = some (some (.int most tT)))
    (c_N : PySem.W.nsIn K mainGlobals "MOST_NUMBER" = some (some (.int most tN)))
    (c_L : PySem.W.nsIn K mainGlobals "MOST_LETTERS" = some (some (.int 8 tL)))
    (z_len : PySem.W.nsIn K mainGlobals "len" = some none)
    (z_abs : PySem.W.nsIn K mainGlobals "abs" = some none)
    (z_max : PySem.W.nsIn K mainGlobals "max" = some none)
    (z_min : PySem.W.nsIn K mainGlobals "min" = some none)
    (z_divmod : PySem.W.nsIn K mainGlobals "divmod" = some none)
    (z_list : PySem.W.nsIn K mainGlobals "list" = some none)
    (z_tuple : PySem.W.nsIn K mainGlobals "tuple" = some none)
    (z_range : PySem.W.nsIn K mainGlobals "range" = some none)
    (z_isinstance : PySem.W.nsIn K mainGlobals "isinstance" = some none)
    (z_bool : PySem.W.nsIn K mainGlobals "bool" = some none)
    (z_int : PySem.W.nsIn K mainGlobals "int" = some none)
    (z_sorted : PySem.W.nsIn K mainGlobals "sorted" = some none)
    (z_set : PySem.W.nsIn K mainGlobals "set" = some none)
    (z_all : PySem.W.nsIn K mainGlobals "all" = some none)
    (z_enumerate : PySem.W.nsIn K mainGlobals "enumerate" = some none)
    (z_repr : PySem.W.nsIn K mainGlobals "repr" = some none)
    (z_str : PySem.W.nsIn K mainGlobals "str" = some none) :
    ∃ fd : FuncData, (∀ (s : Shared) (v : Value), BindsTo s fd ⟨[v], []⟩ [("_law_script", v)]) ∧ ∀ base : Heap, K.In base → base.Ns mainGlobals mg → FnG l.prog w K mg base CX0 6 fa fd ["_law_script"] (spLaw K) := by
  have e0 := hfa.symm.trans (PySem.W.mg_of X G a22)
  cases e0
  have B : Bl mg := ⟨PySem.W.mg_none_of X G z_len, PySem.W.mg_none_of X G z_abs, PySem.W.mg_none_of X G z_max, PySem.W.mg_none_of X G z_min, PySem.W.mg_none_of X G z_divmod, PySem.W.mg_none_of X G z_list, PySem.W.mg_none_of X G z_tuple, PySem.W.mg_none_of X G z_range, PySem.W.mg_none_of X G z_isinstance, PySem.W.mg_none_of X G z_bool, PySem.W.mg_none_of X G z_int, PySem.W.mg_none_of X G z_sorted, PySem.W.mg_none_of X G z_set, PySem.W.mg_none_of X G z_all, PySem.W.mg_none_of X G z_enumerate, PySem.W.mg_none_of X G z_repr, PySem.W.mg_none_of X G z_str⟩
  have F1 := fun_mk (st := sInteger) l1 c1 k1
  have b1 := F1.binds (ps := ["thing"]) fun _ _ _ _ _ _ us hl => match us, hl with | [_], _ => rfl
  have m1 := PySem.W.mg_of X G a1
  have F2 := fun_mk (st := sBetween) l2 c2 k2
  have b2 := F2.binds (ps := ["thing", "low", "high"]) fun _ _ _ _ _ _ us hl => match us, hl with | [_, _, _], _ => rfl
  have m2 := PySem.W.mg_of X G a2
  have F7 := fun_mk (st := sName) l7 c7 k7
  have b7 := F7.binds (ps := ["thing"]) fun _ _ _ _ _ _ us hl => match us, hl with | [_], _ => rfl
  have m7 := PySem.W.mg_of X G a7
  have F8 := fun_mk (st := sTime) l8 c8 k8
  have b8 := F8.binds (ps := ["thing"]) fun _ _ _ _ _ _ us hl => match us, hl with | [_], _ => rfl
  have m8 := PySem.W.mg_of X G a8
  have F9 := fun_mk (st := sStamp) l9 c9 k9
  have b9 := F9.binds (ps := ["thing"]) fun _ _ _ _ _ _ us hl => match us, hl with | [_], _ => rfl
  have m9 := PySem.W.mg_of X G a9
  have F11 := fun_mk (st := sPot) l11 c11 k11
  have b11 := F11.binds (ps := ["_law_script", "_law_k"]) fun _ _ _ _ _ _ us hl => match us, hl with | [_, _], _ => rfl
  have m11 := PySem.W.mg_of X G a11
  have F12 := fun_mk (st := sDraw) l12 c12 k12
  have b12 := F12.binds (ps := ["_law_pot_here", "_law_many"]) fun _ _ _ _ _ _ us hl => match us, hl with | [_, _], _ => rfl
  have m12 := PySem.W.mg_of X G a12
  have F13 := fun_mk (st := sMoment) l13 c13 k13
  have b13 := F13.binds (ps := ["_law_pot_here"]) fun _ _ _ _ _ _ us hl => match us, hl with | [_], _ => rfl
  have m13 := PySem.W.mg_of X G a13
  have F14 := fun_mk (st := sMark) l14 c14 k14
  have b14 := F14.binds (ps := ["_law_pot_here"]) fun _ _ _ _ _ _ us hl => match us, hl with | [_], _ => rfl
  have m14 := PySem.W.mg_of X G a14
  have F15 := fun_mk (st := sWord) l15 c15 k15
  have b15 := F15.binds (ps := ["_law_pot_here"]) fun _ _ _ _ _ _ us hl => match us, hl with | [_], _ => rfl
  have m15 := PySem.W.mg_of X G a15
  have F16 := fun_mk (st := sOdd) l16 c16 k16
  have b16 := F16.binds (ps := ["_law_pot_here"]) fun _ _ _ _ _ _ us hl => match us, hl with | [_], _ => rfl
  have m16 := PySem.W.mg_of X G a16
  have F17 := fun_mk (st := sIsWord) l17 c17 k17
  have b17 := F17.binds (ps := ["_law_piece"]) fun _ _ _ _ _ _ us hl => match us, hl with | [_], _ => rfl
  have m17 := PySem.W.mg_of X G a17
  have F18 := fun_mk (st := sIsMoment) l18 c18 k18
  have b18 := F18.binds (ps := ["_law_piece"]) fun _ _ _ _ _ _ us hl => match us, hl with | [_], _ => rfl
  have m18 := PySem.W.mg_of X G a18
  have F19 := fun_mk (st := sIsMark) l19 c19 k19
  have b19 := F19.binds (ps := ["_law_piece"]) fun _ _ _ _ _ _ us hl => match us, hl with | [_], _ => rfl
  have m19 := PySem.W.mg_of X G a19
  have F20 := fun_mk (st := sBent) l20 c20 k20
  have b20 := F20.binds (ps := ["_law_pot_here", "_law_mark_here"]) fun _ _ _ _ _ _ us hl => match us, hl with | [_, _], _ => rfl
  have m20 := PySem.W.mg_of X G a20
  have F21 := fun_mk (st := sRight) l21 c21 k21
  have b21 := F21.binds (ps := ["_law_piece"]) fun _ _ _ _ _ _ us hl => match us, hl with | [_], _ => rfl
  have m21 := PySem.W.mg_of X G a21
  have F22 := fun_mk (st := sLaw) l22 c22 k22
  have b22 := F22.binds (ps := ["_law_script"]) fun _ _ _ _ _ _ us hl => match us, hl with | [_], _ => rfl
  have m22 := PySem.W.mg_of X G a22
  have g_T := PySem.W.mg_of X G c_T
  have g_N := PySem.W.mg_of X G c_N
  have g_L := PySem.W.mg_of X G c_L
  refine ⟨PySem.W.fnOf "law" "law" (defArgs sLaw) (defBody sLaw) (defScope sLaw) .none kV22 dc22 pm22 an22 cd22 ct22, fun s v => .of_eq rfl, fun base _ _ => ?_⟩
  have HI : Has l.prog w K mg base "is_integer" 1 ["thing"] (spIntegerA K) := ⟨f1, _, ok_integerA F1 B, m1, k1, b1⟩
  have HB : Has l.prog w K mg base "is_integer_between" 2 ["thing", "low", "high"] (spBetween K) := ⟨f2, _, ok_between F2 B HI, m2, k2, b2⟩
  have HN : Has l.prog w K mg base "is_name" 2 ["thing"] (spName K) := ⟨f7, _, ok_name F7 B ⟨_, g_L⟩, m7, k7, b7⟩
  have HT : Has l.prog w K mg base "is_time" 3 ["thing"] (spTime K) := ⟨f8, _, ok_time F8 ⟨_, g_T⟩ HB, m8, k8, b8⟩
  have TN : HasT l.prog w K mg base "is_name" 2 (spName K) := ⟨f7, _, ok_name F7 B ⟨_, g_L⟩, m7, k7, b7, kb_thing (st := sName) F7 (fun _ _ _ _ _ _ _ => rfl)⟩
  have TT : HasT l.prog w K mg base "is_time" 3 (spTime K) := ⟨f8, _, ok_time F8 ⟨_, g_T⟩ HB, m8, k8, b8, kb_thing (st := sTime) F8 (fun _ _ _ _ _ _ _ => rfl)⟩
  have TS : HasT l.prog w K mg base "is_stamp" 4 (spStamp K) := ⟨f9, _, ok_stamp F9 B ⟨_, g_N⟩ HB HT HN, m9, k9, b9, kb_thing (st := sStamp) F9 (fun _ _ _ _ _ _ _ => rfl)⟩
  have HP : Has l.prog w K mg base "_law_pot" 2 ["_law_script", "_law_k"] (spPot K) := ⟨f11, _, ok_pot F11 B, m11, k11, b11⟩
  have HD : Has l.prog w K mg base "_law_draw" 2 ["_law_pot_here", "_law_many"] spDraw := ⟨f12, _, ok_draw F12 B, m12, k12, b12⟩
  have HM : Has l.prog w K mg base "_law_moment" 3 ["_law_pot_here"] spMoment := ⟨f13, _, ok_moment F13 HD, m13, k13, b13⟩
  have HK : Has l.prog w K mg base "_law_mark" 4 ["_law_pot_here"] spMark := ⟨f14, _, ok_mark F14 B HD HM, m14, k14, b14⟩
  have HW : Has l.prog w K mg base "_law_word" 3 ["_law_pot_here"] spWord := ⟨f15, _, ok_word F15 B HD, m15, k15, b15⟩
  have HO : Has l.prog w K mg base "_law_odd" 3 ["_law_pot_here"] (spOdd K) := ⟨f16, _, ok_odd F16 B HD, m16, k16, b16⟩
  have LW : Has l.prog w K mg base "_law_is_word" 2 ["_law_piece"] (spName K) := ⟨f17, _, ok_isWord F17 B, m17, k17, b17⟩
  have LM : Has l.prog w K mg base "_law_is_moment" 3 ["_law_piece"] (spTime K) := ⟨f18, _, ok_isMoment F18 B, m18, k18, b18⟩
  have LK : Has l.prog w K mg base "_law_is_mark" 4 ["_law_piece"] (spStamp K) := ⟨f19, _, ok_isMark F19 B LM LW, m19, k19, b19⟩
  have HBe : Has l.prog w K mg base "_law_bent" 4 ["_law_pot_here", "_law_mark_here"] (spBent K) := ⟨f20, _, ok_bent F20 B HD HO, m20, k20, b20⟩
  have HR : HasG l.prog w K mg base "_law_right" 5 ["_law_piece"] (spRight K) := ⟨f21, _, ok_right F21 B LW LM LK TN TT TS, m21, k21, b21⟩
  exact ok_law F22 B ⟨_, g_T⟩ HP HK HW HBe HM HO HR
end K31
open PySem PySem.W PyProof.Rows
set_option maxRecDepth 100000 in
set_option maxHeartbeats 0 in
theorem PySem.Challenge.cw_paritycells_k31_names_times_stamps_holds : PySem.Challenge.rw_paritycells_k31_names_times_stamps.Holds := by
  w_on; o_law; k_head; (case hw => w_witness2)
  k_fill
  refine Par.walkG (l := PySem.Challenge.rw_paritycells_k31_names_times_stamps) (k := 6) (x := "_law_script") (sp := K31.spLaw) rfl (by decide) rfl ⟨rfl, by decide, by decide⟩ (fun w h Y => PySem.W.kIn_of Y) ?F (fun K H a ns hl _ hS => ⟨a, ns, rfl, hS, hl, fun _ => rfl⟩)
  case F =>
    intro w mg fa h KX G hmg
    refine' K31.all_mk KX G hmg ?q_a1 ?q_l1 ?q_c1 ?q_k1 ?q_a2 ?q_l2 ?q_c2 ?q_k2 ?q_a7 ?q_l7 ?q_c7 ?q_k7 ?q_a8 ?q_l8 ?q_c8 ?q_k8 ?q_a9 ?q_l9 ?q_c9 ?q_k9 ?q_a11 ?q_l11 ?q_c11 ?q_k11 ?q_a12 ?q_l12 ?q_c12 ?q_k12 ?q_a13 ?q_l13 ?q_c13 ?q_k13 ?q_a14 ?q_l14 ?q_c14 ?q_k14 ?q_a15 ?q_l15 ?q_c15 ?q_k15 ?q_a16 ?q_l16 ?q_c16 ?q_k16 ?q_a17 ?q_l17 ?q_c17 ?q_k17 ?q_a18 ?q_l18 ?q_c18 ?q_k18 ?q_a19 ?q_l19 ?q_c19 ?q_k19 ?q_a20 ?q_l20 ?q_c20 ?q_k20 ?q_a21 ?q_l21 ?q_c21 ?q_k21 ?q_a22 ?q_l22 ?q_c22 ?q_k22 ?q_c_T ?q_c_N ?q_c_L ?q_z_len ?q_z_abs ?q_z_max ?q_z_min ?q_z_divmod ?q_z_list ?q_z_tuple ?q_z_range ?q_z_isinstance ?q_z_bool ?q_z_int ?q_z_sorted ?q_z_set ?q_z_all ?q_z_enumerate ?q_z_repr ?q_z_str
    (case q_a1 => k_is)
    (case q_l1 => k_is)
    (case q_c1 => k_is)
    (case q_k1 => k_is)
    (case q_a2 => k_is)
    (case q_l2 => k_is)
    (case q_c2 => k_is)
    (case q_k2 => k_is)
    (case q_a7 => k_is)
    (case q_l7 => k_is)
    (case q_c7 => k_is)
    (case q_k7 => k_is)
    (case q_a8 => k_is)
    (case q_l8 => k_is)
    (case q_c8 => k_is)
    (case q_k8 => k_is)
    (case q_a9 => k_is)
    (case q_l9 => k_is)
    (case q_c9 => k_is)
    (case q_k9 => k_is)
    (case q_a11 => k_is)
    (case q_l11 => k_is)
    (case q_c11 => k_is)
    (case q_k11 => k_is)
    (case q_a12 => k_is)
    (case q_l12 => k_is)
    (case q_c12 => k_is)
    (case q_k12 => k_is)
    (case q_a13 => k_is)
    (case q_l13 => k_is)
    (case q_c13 => k_is)
    (case q_k13 => k_is)
    (case q_a14 => k_is)
    (case q_l14 => k_is)
    (case q_c14 => k_is)
    (case q_k14 => k_is)
    (case q_a15 => k_is)
    (case q_l15 => k_is)
    (case q_c15 => k_is)
    (case q_k15 => k_is)
    (case q_a16 => k_is)
    (case q_l16 => k_is)
    (case q_c16 => k_is)
    (case q_k16 => k_is)
    (case q_a17 => k_is)
    (case q_l17 => k_is)
    (case q_c17 => k_is)
    (case q_k17 => k_is)
    (case q_a18 => k_is)
    (case q_l18 => k_is)
    (case q_c18 => k_is)
    (case q_k18 => k_is)
    (case q_a19 => k_is)
    (case q_l19 => k_is)
    (case q_c19 => k_is)
    (case q_k19 => k_is)
    (case q_a20 => k_is)
    (case q_l20 => k_is)
    (case q_c20 => k_is)
    (case q_k20 => k_is)
    (case q_a21 => k_is)
    (case q_l21 => k_is)
    (case q_c21 => k_is)
    (case q_k21 => k_is)
    (case q_a22 => k_is)
    (case q_l22 => k_is)
    (case q_c22 => k_is)
    (case q_k22 => k_is)
    (case q_c_T => k_is)
    (case q_c_N => k_is)
    (case q_c_L => k_is)
    (case q_z_len => k_is)
    (case q_z_abs => k_is)
    (case q_z_max => k_is)
    (case q_z_min => k_is)
    (case q_z_divmod => k_is)
    (case q_z_list => k_is)
    (case q_z_tuple => k_is)
    (case q_z_range => k_is)
    (case q_z_isinstance => k_is)
    (case q_z_bool => k_is)
    (case q_z_int => k_is)
    (case q_z_sorted => k_is)
    (case q_z_set => k_is)
    (case q_z_all => k_is)
    (case q_z_enumerate => k_is)
    (case q_z_repr => k_is)
    (case q_z_str => k_is)
