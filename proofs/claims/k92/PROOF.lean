import PyProof.Rows.All
import Wide.All
import OpenK.AllK
import Wide.FinOn
import HandS.ForMost
import HandS.ForExc
import HandS.ExcInit
import HandS.ExcIs
import HandS.ExcField
import HandS.IsInst
import HandS.Defaults
import HandS.SortInts
import HandS.SetFor
import HandS.More
import HandS.Conv
import HandS.WideBits
import HandS.TupAny
import HandS.SuiteRaise
import HandS.TryMany
import HandS.Strs
import KE.GoesMore
import HandS.Walk
import HandS.MakeKw
import HandS.MakeKwOnly
import HandS.SortKw
import KE.KExcIs
import HandS.CallSlots
import KE.KExcInit
import HandS.OwnEq
import PyProof.InstNe
import HandS.FStr
import KE.KCallOwn
import PyProof.ReprRoads
import HandS.Flow
import PyProof.EqKinds
import PyProof.FactsAll.dict
import KE.DataEq
import PyProof.ReprReads
import HandS.HotCalls
import HandS.Lambda
import HandS.EndTab
import HandS.Text
import KE.IntTextLaws
import HandS.Codes
import HandS.Style
import HandS.RaiseMore
import HandS.TryOnly
import HandS.CallLocal
import PySem.Challenge.RW_paritycells_k92_whole_texts_spoilt
set_option Elab.async false
set_option linter.all false
set_option maxRecDepth 100000
set_option maxHeartbeats 4000000
namespace Par
open PySem PySem.Spec PyProof.Rows L2

/-! A def's promise where nothing is being shown by repr around it: the guards are known to be none. -/
structure FnG (P : Program) (w : World) (K : PySem.W.Frag) (mg : Str → Option Value) (base : Heap) (CX : CXT) (k : Nat)
    (f : Addr) (fd : FuncData) (ps : List Str) (sp : Sp) : Prop where
  arity : ∀ vs H Q E, sp vs H Q E → vs.length = ps.length
  go : ∀ (A : Around) (outer : List Env) (s : Shared) (H : Hp) (args : Args) (us : List Value) (vs : List V) (Q : VK) (E : XK),
    A.guards = some [] → Room k A → Env0 P w K mg base A outer s H → BindsTo s fd args (ps.zip us) → Vals vs us →
    sp vs H Q E → codeAny (model P w) A (.call (.ref f) args) (CR CX outer P w H s Q E) s

section
variable {P : Program} {w : World} {K : PySem.W.Frag} {mg : Str → Option Value} {base : Heap}

theorem fnG_of {k : Nat} {x qual : Str} {st : Stmt} {f : Addr} {fd : FuncData} {N ps : List Str} {sp : Sp}
    (F : Fun K x qual st f fd) (S : FnScope N ps (defScope st))
    (arity : ∀ vs H Q E, sp vs H Q E → vs.length = ps.length)
    (body : ∀ (cdv : Value) (A : Around) (outer : List Env) (s : Shared) (H : Hp) (vs : List V) (Q : VK) (E : XK),
      A.guards = some [] → Room k (A.deeper (envOfC qual (defScope st) s.heap.objs.size f cdv)) → sp vs H Q E →
      ∃ t, PSs (cxOf CX0 P w K mg base N qual (defScope st) f cdv A outer s H E).nox (defBody st) t ∧
        t { nx := fun _ H' => Q .non H', rt := Q } (start N vs) H) :
    FnG P w K mg base CX0 (k + 1) f fd ps sp := by
  obtain ⟨oc, od, kV, doc, pm, an, cdv, ct, osl, efd, lk, hcd⟩ := F.ex
  subst efd
  constructor
  · exact arity
  intro A outer s H args us vs Q E gs room e0 bound rel hsp
  have lens := arity _ _ _ _ hsp
  have kin : K.In s.heap := e0.mod.kin.keeps (fun b o z => (e0.bs b o z).1)
  have nolim : s.heap.NoLimit := e0.mod.nolimit.keeps (fun b o z => (e0.bs b o z).1)
  have kinds : ∀ y ∈ ps.zip us, (defScope st).names.lookup y.1 = some .local ∨ ((defScope st).names.lookup y.1 = some .cell ∧
      ((cellsFrom (s.heap.objs.size + 1) (defScope st).names []).lookup y.1).isSome = true) := by
    rintro ⟨n, v⟩ hy
    cases S.par n (List.of_mem_zip hy).1 with
    | inl q => exact Or.inl q
    | inr q => exact Or.inr ⟨q, PySem.W.cellsFrom_some _ _ _ (Or.inl q)⟩
  refine codeAny_call_function room.depth (kin _ _ lk) rfl S.co S.gen rfl (PySem.W.codeRec_of kin hcd) (bound _ _ _ _ ?_)
  refine wpAny_newFunctionEnv_cells S.kind kinds ?_
  intro env he s1 x1
  subst he
  refine ⟨nolim.keeps x1.toInCall.keep, codeAny_func ?_⟩
  obtain ⟨t, ht, hq⟩ := body cdv A outer s H vs Q E gs (room.deeper _) hsp
  have I := inv_start (CX := CX0) (E := E) (w := w) S room.hd e0 lens rel x1
  refine wpAny_mono (ht.nox.run [] s1 (start N vs) H _ I hq) ?_ (fun e s' hs => hs)
  intro fl s' hs
  cases fl with
  | ret u =>
    obtain ⟨v, σ1, H1, J, rv, q⟩ := hs
    exact ⟨v, H1, J.os, J.bare, J.base, J.hok, rv, q⟩
  | next =>
    obtain ⟨σ1, H1, J, q⟩ := hs
    exact ⟨V.non, H1, J.os, J.bare, J.base, J.hok, rfl, q⟩
  | brk => exact (let ⟨_, _, _, q⟩ := hs; False.elim q)
  | cont => exact (let ⟨_, _, _, q⟩ := hs; False.elim q)
end

section
variable {X : Cx} {CX : CXT} {k : Nat} {f : Addr} {fd : FuncData} {ps : List Str} {sp : Sp} {x : Str} {p pos : Pos} {e : Expr} {es : List Expr} {t : TA} {E : XK}

/-- f(e, ..) of such a def, called where the guards are none -/
theorem pe_callG (F : FnG X.prog X.w X.K X.mg X.base CX k f fd ps sp) (gs : X.A.guards = some []) (hr : Room k X.A) (hg : Gl X x)
    (hm : X.mg x = some (.ref f)) (hk : PySem.W.keepIn X.K (.ref f) = true) (hb : Binds X.K fd ps []) (hx : Passes CX X E) (ha : PA X (e :: es) t)
    (hdb : (x == ("__debug__" : Str)) = false := by decide)
    (he : starEach (e :: es) X.env = (false, eval e X.env) :: starEach es X.env := by rfl)
    (hpl : (backTo pos (starEach es X.env)).any (·.1) = false := by rfl) :
    PE X (.Call (.Name x p) (e :: es) [] pos) (tCall sp [] E t) := by
  constructor
  intro pins s σ H Q I h
  refine wpAny_Call_Name_kw (ld_glob I hg hm ?_ hdb)
  refine PySem.W.callWith_K (h₀ := X.base) I.ok.mod.kin hk (thn (ha.run pos pins s σ H _ I h) ?_) he hpl
  rintro us s1 ⟨vs, H1, I1, r, q⟩
  refine ⟨I1.kIn, ?_⟩
  rw [List.append_nil] at q
  have hl : (us ++ []).length = ps.length := by
    rw [List.append_nil, ← r.length]
    exact F.arity _ _ _ _ q
  have hbi := hb s1 us I1.kIn hl
  rw [List.append_nil] at hbi
  refine wpAny_call (codeAny_mono (F.go X.A X.stack s1 H1 ⟨us, []⟩ us vs Q E gs hr I1.env0 hbi r q) ?_)
  intro res s' hq
  cases res with
  | error er => exact hx pins σ H1 s1 er s' I1 hq
  | ok fl =>
    cases fl with
    | ret u => exact I1.after hq
    | next => exact False.elim hq
    | brk => exact False.elim hq
    | cont => exact False.elim hq
end

/-- the law's end over such a promise -/
theorem law_callG {P : Program} {w : World} {K : PySem.W.Frag} {mg mb : Str → Option Value} {k : Nat} {fa a : Addr} {fd : FuncData} {x : Str} {sp : Sp}
    {s1 : Shared} {vs : List Value} {ns : List Int}
    (KX : K.In s1.heap) (hns : s1.heap.Ns mainGlobals mg) (hb : s1.heap.Ns builtinsNs mb)
    (hbb : ∀ x : Str, x ≠ "__name__" → mb x = bootBuiltins x) (hlim : s1.heap.NoLimit) (hg : s1.gens = #[])
    (ha : s1.heap.get? a = some { cls := .type "list", data := .seq vs.toArray }) (hi : IntsAre vs ns) (hl : ns.length ≤ sizeLine) (hr : Room k callerA)
    (F : ∀ base : Heap, K.In base → base.Ns mainGlobals mg → FnG P w K mg base CX0 k fa fd [x] sp)
    (hbind : ∀ (s : Shared) (u : Value), BindsTo s fd ⟨[u], []⟩ [(x, u)])
    (hsp : ∀ H : Hp, Only H → SqL K H a (ns.map V.int) → sp [.ref a] H (fun v _ => v = .bl true) fun _ _ _ => False) :
    codeAny (model P w) callerA (.call (.ref fa) ⟨[.ref a], []⟩)
      (fun r s' => r = .ok (.ret (.bool true)) ∧ OldK s1.heap s'.heap ∧ s'.os = s1.os ∧ AllBare s'.gens) s1 := by
  have rv := vals_ints hi
  have lenV := hi.length
  have core : ∀ H : Hp, Only H → SqL K H a (ns.map V.int) → HOk P w H s1.heap → (∀ b, H b ≠ none → b = a) →
      (H a ≠ none → K.lookup a = none) → codeAny (model P w) callerA (.call (.ref fa) ⟨[.ref a], []⟩)
      (fun r s' => r = .ok (.ret (.bool true)) ∧ OldK s1.heap s'.heap ∧ s'.os = s1.os ∧ AllBare s'.gens) s1 := by
    intro H only sq ok only_a out_a
    have un_dict : ∀ {b : Addr} {o : Obj} {es : Array DictEntry} {ep : Nat}, s1.heap.get? b = some o → o.data = .dict es ep → H b = none := by
      intro b o es ep e d
      cases q : H b with
      | none => rfl
      | some u =>
        have e' : b = a := only_a b (by rw [q]; simp)
        rw [e', ha] at e
        cases e
        exact nomatch d
    have ns_of : ∀ {b : Addr} {m : Str → Option Value}, s1.heap.Ns b m → (hidT s1.heap H).Ns b m := by
      rintro b m ⟨o, es, ep, e, d, r⟩
      exact ⟨o, es, ep, hidT_get e (un_dict e d), d, r⟩
    have kin : K.In (hidT s1.heap H) := by
      intro b o e
      refine hidT_get (KX b o e) ?_
      cases q : H b with
      | none => rfl
      | some u =>
        have e' : b = a := only_a b (by rw [q]; simp)
        rw [e'] at q e
        rw [out_a (by rw [q]; simp)] at e
        cases e
    have md : Mod K mg (hidT s1.heap H) := by
      obtain ⟨mc, h1, h2⟩ := hlim
      exact ⟨kin, ns_of hns, ⟨mb, ns_of hb, hbb⟩, ⟨mc, ns_of h1, h2⟩⟩
    have e0 : Env0 P w K mg (hidT s1.heap H) callerA [] s1 H := by
      refine ⟨rfl, md, fun b o e => of_hidT e, Nat.le_of_eq (hidT_size _ _), trivial, ?_, ok, .of_eq hg⟩
      intro b z
      exact absurd (show b ∈ ([] : List Addr) from z) (by simp)
    refine codeAny_mono ((F _ kin (ns_of hns)).go callerA [] s1 H ⟨[.ref a], []⟩ [.ref a] [.ref a] _ _ rfl hr e0
      (hbind s1 (.ref a)) (.cons rfl .nil) (hsp H only sq)) ?_
    intro r s' h
    cases r with
    | error e => exact False.elim h
    | ok fl =>
      cases fl with
      | next => exact False.elim h
      | brk => exact False.elim h
      | cont => exact False.elim h
      | ret u =>
        obtain ⟨v, H1, os, bare, un, ok1, rel, q⟩ := h
        have q' : v = .bl true := q
        subst q'
        obtain rfl : u = Value.bool true := rel
        refine ⟨rfl, OldK.of_keep ?_, os, bare⟩
        intro b o e
        cases q : H b with
        | none => exact un.keep b o e q (fun z => absurd (show b ∈ ([] : List Addr) from z) (by simp)) (by simp)
        | some u =>
          rcases only b with z | ⟨ob, xs, z⟩
          · rw [q] at z
            cases z
          · have z2 := un.frzs b ob _ z
            have e1 := (ok b _ z).1
            have e2 := (ok1 b _ z2).1
            rw [e] at e1
            cases e1
            exact e2
  cases hk : K.lookup a with
  | some o =>
    have e := KX a o hk
    rw [ha] at e
    cases e
    refine core (fun _ => none) (fun _ => .inl rfl) (.inr ⟨_, vs.toArray, _, hk, rfl, rfl, rfl, ?_, by simpa using rv⟩) ?_ (fun b z => absurd rfl z) (fun z => absurd rfl z)
    · rw [List.size_toArray, lenV]
      exact hl
    · intro b u z
      exact nomatch (show (none : Option HO) = some u from z)
  | none =>
    refine core (fun b => if b = a then some (.frz { cls := .type "list", data := .seq vs.toArray } (.lst (ns.map V.int))) else none) ?_ (.inl (.inr ⟨_, if_pos rfl⟩)) ?_ ?_ (fun _ => hk)
    · intro b
      by_cases hb : b = a
      · exact .inr ⟨_, _, if_pos hb⟩
      · exact .inl (if_neg hb)
    · intro b u z
      by_cases hb : b = a
      · have z1 := (if_pos hb).symm.trans z
        cases z1
        subst hb
        exact ⟨ha, by rw [List.length_map]; exact hl, vs, _, rv, ha⟩
      · have z1 := (if_neg hb).symm.trans z
        cases z1
    · intro b z
      by_cases hb : b = a
      · exact hb
      · exact absurd (if_neg hb) z

theorem walkG {l : PySem.W.OpenLaw} {n k : Nat} {q : Program} {loose : List Str} {XP : (Str → Option Value) → Heap → Prop} {YP : World → Heap → Prop}
    {d : DefRec} {K : Params → PySem.W.Frag} {sp : PySem.W.Frag → Sp} {x : Str}
    (hn : l.most = some n) (hn2 : n ≤ sizeLine) (hdf : d.params.defaults = []) (hr : Room k callerA)
    (hY : ∀ (w : World) (h : Heap), YP w h → (K w.params).In h)
    (F : ∀ (w : World) (mg : Str → Option Value) (fa : Addr) (h : Heap), (K w.params).In h → h.Ns mainGlobals mg → mg d.name = some (.ref fa) →
      ∃ fd : FuncData, (∀ (s : Shared) (u : Value), BindsTo s fd ⟨[u], []⟩ [(x, u)]) ∧
        ∀ base : Heap, (K w.params).In base → base.Ns mainGlobals mg → FnG l.prog w (K w.params) mg base CX0 k fa fd [x] (sp (K w.params)))
    (hsp : ∀ (K : PySem.W.Frag) (H : Hp) (a : Addr) (ns : List Int), ns.length ≤ n → Only H → SqL K H a (ns.map V.int) →
      sp K [.ref a] H (fun v _ => v = .bl true) fun _ _ _ => False) :
    PySem.W.WalkO q loose XP YP l.row.toRowW d [] (fun f vs => PySem.call f vs) := by
  refine Att.attach_call hn hdf ?_
  intro w s0 s1 mg mb fa o pm cd doc a vs ns G Y ho hd hcd hmg hobj hints hlen hg
  have KX := hY w _ Y
  obtain ⟨fd, hb, hF⟩ := F w mg fa _ KX G.T.g hmg
  exact law_callG KX G.T.g G.T.b G.T.builtins G.T.nolimit hg hobj hints (Nat.le_trans hlen hn2) hr hF hb
    (fun H hO hS => hsp _ H a ns hlen hO hS)
end Par
namespace Par
open PySem PySem.Spec PyProof.Rows L2

/-! ### how many distinct items there are -/
theorem nodup_le : ∀ {L M : List Int}, L.Nodup → (∀ k ∈ L, k ∈ M) → L.length ≤ M.length
  | [], M, _, _ => Nat.zero_le _
  | a :: L, M, hn, hs => by
    have ha : a ∈ M := hs a (List.mem_cons_self ..)
    have h1 := nodup_le (L := L) (M := M.erase a) (List.nodup_cons.mp hn).2 (fun k hk => by
      have hka : k ≠ a := fun e => (List.nodup_cons.mp hn).1 (e ▸ hk)
      exact (List.mem_erase_of_ne hka).mpr (hs k (List.mem_cons_of_mem _ hk)))
    have h2 := List.length_erase_of_mem ha
    have h3 : 0 < M.length := List.length_pos_of_mem ha
    show L.length + 1 ≤ M.length
    omega
theorem nodup_lt : ∀ {M L : List Int}, L.Nodup → (∀ k ∈ L, k ∈ M) → ¬ M.Nodup → L.length < M.length
  | [], _, _, _, h => absurd List.nodup_nil h
  | a :: M, L, hn, hs, hM => by
    by_cases ha : a ∈ M
    · have h := nodup_le (L := L) (M := M) hn (fun k hk => by
        rcases List.mem_cons.mp (hs k hk) with e | e
        · exact e ▸ ha
        · exact e)
      show L.length < M.length + 1
      omega
    · have hM' : ¬ M.Nodup := fun z => hM (List.nodup_cons.mpr ⟨ha, z⟩)
      have h := nodup_lt (M := M) (L := L.erase a) (hn.erase a) (fun k hk => by
        have hk2 := (hn.mem_erase_iff).mp hk
        rcases List.mem_cons.mp (hs k hk2.2) with e | e
        · exact absurd e hk2.1
        · exact e) hM'
      have h2 : L.length ≤ (L.erase a).length + 1 := by
        by_cases hL : a ∈ L
        · have := List.length_erase_of_mem hL
          omega
        · rw [List.erase_of_not_mem hL]
          omega
      show L.length < M.length + 1
      omega
theorem distinct_iff {L M : List Int} (hn : L.Nodup) (hs : ∀ k, k ∈ L ↔ k ∈ M) : L.length ≤ M.length ∧ (L.length = M.length ↔ M.Nodup) := by
  have h1 := nodup_le hn (fun k hk => (hs k).mp hk)
  refine ⟨h1, fun e => ?_, fun e => ?_⟩
  · by_cases h : M.Nodup
    · exact h
    · have := nodup_lt hn (fun k hk => (hs k).mp hk) h
      omega
  · have := nodup_le e (fun k hk => (hs k).mpr hk)
    omega
theorem firstMet_nodup2 (val : Nat → Int) : ∀ i, (firstMet val i).Nodup
  | 0 => List.nodup_nil
  | i + 1 => by
    rw [firstMet_succ]
    have ih := firstMet_nodup2 val i
    unfold step_dedup
    split
    · exact ih
    · rename_i h
      refine List.nodup_append.mpr ⟨ih, by simp, ?_⟩
      intro a ha b hb e
      have hb' : b = val i := by simpa using hb
      apply h
      rw [List.any_eq_true]
      exact ⟨a, ha, by simp [e, hb']⟩
theorem firstMet_mem (ns : List Int) (k : Int) : k ∈ firstMet (fun i => ns.getD i 0) ns.length ↔ k ∈ ns := by
  have h := firstMet_any (fun i => ns.getD i 0) ns.length k
  have e : (List.range ns.length).map (fun i => ns.getD i 0) = ns := by
    refine List.ext_getElem (by simp) (fun i h1 h2 => ?_)
    simp [List.getD_eq_getElem?_getD, List.getElem?_eq_getElem h2]
  rw [e] at h
  constructor
  · intro z
    have y : (firstMet (fun i => ns.getD i 0) ns.length).any (· == k) = true := List.any_eq_true.mpr ⟨k, z, by simp⟩
    rw [h] at y
    obtain ⟨x, hx, ex⟩ := List.any_eq_true.mp y
    have : x = k := by simpa using ex
    exact this ▸ hx
  · intro z
    have y : ns.any (· == k) = true := List.any_eq_true.mpr ⟨k, z, by simp⟩
    rw [← h] at y
    obtain ⟨x, hx, ex⟩ := List.any_eq_true.mp y
    have : x = k := by simpa using ex
    exact this ▸ hx

/-- len(set(x)), x a list or tuple of ints -/
def tLenSetQ (K : PySem.W.Frag) (ta : TE) : TE := fun σ H Q => ta σ H fun x H1 => ∃ (l : Addr) (ns : List Int), x = .ref l ∧
  (SqL K H1 l (ns.map V.int) ∨ SqT K H1 l (ns.map V.int)) ∧ ns.length ≤ 4000 ∧
  ∀ c : Nat, c ≤ ns.length → (c = ns.length ↔ ns.Nodup) → Q (.int (c : Nat)) H1
theorem numbers_of : ∀ {ns : List Int} {us : List Value}, Vals (ns.map V.int) us → IntsAre us ns
  | [], _, h => by
    cases h
    exact .nil
  | n :: ns, _, h => by
    cases h with
    | cons r t =>
      obtain ⟨tk, rfl⟩ := r
      exact .cons n tk (numbers_of t)
theorem pe_lenSetQ {X : Cx} {a : Expr} {ta : TE} {p p2 q pos : Pos} (hg : Gl X "len") (hm : X.mg "len" = none) (hg2 : Gl X "set") (hm2 : X.mg "set" = none) (ha : PE X a ta)
    (hc : X.calm = true := by rfl) (na : starEach [a] X.env = (false, eval a X.env) :: starEach [] X.env := by rfl) :
    PE X (.Call (.Name "len" p) [.Call (.Name "set" p2) [a] [] q] [] pos) (tLenSetQ X.K ta) := by
  constructor
  intro pins s σ H Q I h
  refine Call_ (ld_blt I hg hm boot_len ?_)
  refine PyProof.Rows.callWith_builtin1 (PyProof.Rows.args_cons (Call_ (ld_blt I hg2 hm2 boot_set ?_)) rfl) rfl rfl
  refine PyProof.Rows.callWith_type1 (PyProof.Rows.args_cons (thn (ha.run pins s σ H _ I h) ?_) na) na rfl
  rintro v s1 ⟨x, H1, I1, r1, l, ns, rfl, hq, hl, q1⟩
  refine PyProof.Rows.args_nil ?_
  cases r1
  rcases hq with hq | hq
  · obtain ⟨its, r, plain, hz⟩ := I1.list hq
    have hlen : its.toArray.size = ns.length := by
      rw [List.size_toArray, ← r.length]
      exact List.length_map ..
    refine call_set_list (I1.ok.hd hc) plain.isList (by simpa using numbers_of r) (by rw [hlen]; unfold scanBound; omega) ?_
    intro h' tk hS hk
    refine PyProof.Rows.args_nil ?_
    rw [hlen] at hS
    obtain ⟨o, es, ep, t, ho, hex, hd, _, _, _, hf, hn⟩ := hS
    have I2 : L2.Inv X pins σ H1 { s1 with heap := h', toks := tk } := I1.kept fun b o e => hk b o (Heap.lt_size e) e
    obtain ⟨d1, d2⟩ := distinct_iff (firstMet_nodup2 (fun i => ns.getD i 0) ns.length) (fun k => firstMet_mem ns k)
    exact call_len_set ho hex hd hf (by rw [hn]; unfold sizeLine at *; omega) ⟨.int _, H1, I2.tok _, ⟨_, by rw [hn]⟩, q1 _ d1 d2⟩
  · obtain ⟨its, r, tup, hz⟩ := I1.tuple hq
    have hlen : its.toArray.size = ns.length := by
      rw [List.size_toArray, ← r.length]
      exact List.length_map ..
    refine L2.call_set_tupI ns (I1.ok.hd hc) tup (by simpa using numbers_of r) (by unfold scanBound; omega) ?_
    intro h' tk c hS hcn hk
    refine PyProof.Rows.args_nil ?_
    obtain ⟨o, es, ep, t, ho, hex, hd, _, nd, mem, _, hf, hn, _, _⟩ := hS
    have I2 : L2.Inv X pins σ H1 { s1 with heap := h', toks := tk } := I1.kept hk
    have hmem : ∀ k, k ∈ es.toList.map keyOf ↔ k ∈ ns := fun k => (mem k).symm.trans (by simp)
    obtain ⟨d1, d2⟩ := distinct_iff nd hmem
    have hc2 : (es.toList.map keyOf).length = c := by rw [List.length_map, Array.length_toList, hn]
    rw [hc2] at d1 d2
    exact call_len_set ho hex hd hf (by rw [hn]; omega) ⟨.int (c : Nat), H1, I2.tok _, ⟨_, by rw [hn]⟩, q1 c d1 d2⟩
end Par
namespace Par
open PySem PySem.Spec PyProof.Rows L2

/-! ### a loop that changes nothing -/
section
variable {M : Model} {A : Around} {E : Value → Shared → Prop} {s : Shared}
theorem wp_forSame {α β : Type} {b : β} {f : α → β → Sem (ForInStep β)} {Q : β → Shared → Prop} : ∀ (l : List α),
    (∀ a ∈ l, ∀ Q' : ForInStep β → Shared → Prop, Q' (.yield b) s → wpAny M A (f a b) Q' E s) → Q b s → wpAny M A (forIn l b f) Q E s
  | [], _, h => by
    rw [List.forIn_nil]
    exact wpAny_pure h
  | a :: l, hf, h => by
    rw [List.forIn_cons]
    refine wpAny_bind (hf a (List.mem_cons_self ..) _ ?_)
    exact wp_forSame l (fun x hx => hf x (List.mem_cons_of_mem _ hx)) h
end
section
variable {P : Program} {w : World} {A : Around} {E : Value → Shared → Prop} {s : Shared} {a f : Addr} {S Sf : Int → Bool} {n nf : Nat}
theorem quiet_sets {sets : List Addr} {Q : Bool → Shared → Prop} (hs : ∀ b ∈ sets, ∃ S n, SetR w s.heap b S n) (h : Q true s) :
    wpAny (model P w) A (setsQuiet sets) Q E s := by
  unfold setsQuiet
  refine wpAny_bind (wp_forSame sets (fun b hb Q' q => ?_) (wpAny_pure h))
  obtain ⟨S, n, o, es, ep, t, ho, hx, hd, g, _, _, _, hf, _⟩ := hs b hb
  refine wpAny_bind (wpAny_setEntries_of ho hd hf ?_)
  rw [← Array.forIn_toList]
  refine wpAny_bind (wp_forSame es.toList (fun e he Q2 q2 => ?_) (wpAny_pure q))
  obtain ⟨k, tk, h1, _⟩ := g e he
  obtain ⟨hh, x⟩ := e
  subst h1
  exact wpAny_pure q2
/-- what a walk that nobody sees gives -/
def Given (S : Int → Bool) (n : Nat) (l : Array (Int × Value)) : Prop :=
  (∀ e ∈ l.toList, GoodE e) ∧ (l.toList.map keyOf).Nodup ∧ (∀ k, S k = true ↔ k ∈ l.toList.map keyOf) ∧ l.size = n
theorem Given.perm {l l' : Array (Int × Value)} (g : Given S n l) (p : l'.toList.Perm l.toList) : Given S n l' :=
  ⟨fun e he => g.1 e (p.mem_iff.mp he), (p.map keyOf).nodup_iff.mpr g.2.1, fun k => (g.2.2.1 k).trans (p.map keyOf).mem_iff.symm, by
    rw [← Array.length_toList, p.length_eq, Array.length_toList]
    exact g.2.2.2⟩
theorem walk_unseen {others : List Addr} {Q : Array (Int × Value) → Shared → Prop} (R : SetR w s.heap a S n) (hs : ∀ b ∈ others, ∃ S n, SetR w s.heap b S n) (Rf : SetR w s.heap f Sf nf)
    (hQ : ∀ l h', Heap.SameBut f s.heap h' → SetR w h' f Sf nf → Given S n l → Q l { s with heap := h' }) :
    wpAny (model P w) A (setWalkUnseen a others (some f)) Q E s := by
  obtain ⟨o, es, ep, t, ho, hx, hd, g, nd, hm, hb, hf, hn, hr, hl⟩ := id R
  have gv : Given S n es := ⟨g, nd, hm, hn⟩
  have same : ∀ l, Given S n l → Q l s := fun l gl => hQ l s.heap (Heap.SameBut.refl f s.heap) Rf gl
  unfold setWalkUnseen
  refine wpAny_bind (wpAny_setState_of ho hd hf ?_)
  dsimp only
  refine wpAny_bind (wpAny_byText ?_)
  cases hbt : w.params.followText "set-order" with
  | true =>
    refine wp_if_pos (by simp) ?_
    unfold setWalk
    refine wpAny_bind (wpAny_setState_of ho hd hf ?_)
    dsimp only
    refine wpAny_bind (wpAny_byText ?_)
    refine wp_if_pos hbt ?_
    exact wpAny_bind (wpAny_askSetting (wpAny_pure (same _ (gv.perm (pick_perm _ es)))))
  | false =>
    have hled : t.led = true := hl.resolve_left (by rw [hbt]; exact Bool.false_ne_true)
    by_cases hc : (false || (t.led && t.plain) || decide (es.size ≤ 1)) = true
    · refine wp_if_pos hc ?_
      unfold setWalk
      refine wpAny_bind (wpAny_setState_of ho hd hf ?_)
      dsimp only
      refine wpAny_bind (wpAny_byText ?_)
      refine wp_if_neg (by rw [hbt]; exact Bool.false_ne_true) ?_
      try refine wpAny_bind (wpAny_pure ?_)
      refine wp_if_neg ?_ ?_
      · show ¬ ((!t.plain && decide (es.size > 1)) = true)
        intro z
        rw [Bool.and_eq_true, decide_eq_true_eq] at z
        rw [hled] at hc
        have hp : t.plain = false := by simpa using z.1
        rw [hp] at hc
        have : es.size ≤ 1 := by simpa using hc
        omega
      · try refine wpAny_bind (wpAny_pure ?_)
        refine wpAny_bind (wpAny_of_eq (a := ()) ?_ ?_)
        · show (if (!t.led && decide (es.size > 1)) = true then unsupported "set:maker-not-led" else pure ()) = pure ()
          rw [hled] <;> rfl
        · exact wpAny_pure (same es gv)
    · refine wp_if_neg hc ?_
      try refine wpAny_bind (wpAny_pure ?_)
      refine wpAny_bind (quiet_sets (fun b hb => ?_) ?_)
      · rcases List.mem_cons.mp hb with z | z
        · exact z ▸ ⟨S, n, R⟩
        · exact hs b z
      refine wp_if_neg (by simp) ?_
      try refine wpAny_bind (wpAny_pure ?_)
      refine wpAny_bind (wpAny_rule ?_)
      obtain ⟨o2, es2, ep2, t2, ho2, hx2, hd2, g2, nd2, hm2, hb2, hf2, hn2, hr2, hl2⟩ := id Rf
      refine wpAny_bind (wpAny_setState_of ho2 hd2 hf2 ?_)
      dsimp only
      split
      · refine wpAny_bind (wpAny_storeSet_of ho2 hd2 ?_ (fits_of_scanBound hb2))
        have ho3 := store_at (es' := es2) (t' := { t2 with led := t2.led && t.led, plain := t2.plain && t.plain }) ho2 hd2
        refine wpAny_pure (hQ es _ (Heap.SameBut.update s.heap f _) ?_ gv)
        exact ⟨_, es2, _, _, ho3, hx2, rfl, g2, nd2, hm2, hb2, hf2, hn2, hr2, hl2.imp id fun z => by show (t2.led && t.led) = true; rw [z, hled]; rfl⟩
      · exact wpAny_pure (same es gv)
end
end Par
namespace Par
open PySem PySem.Spec PyProof.Rows L2
section
variable {P : Program} {w : World} {A : Around} {E : Value → Shared → Prop} {s : Shared} {a : Addr} {S : Int → Bool} {n : Nat}
theorem eraseAt_list {α : Type} (xs : Array α) (i : Nat) : (SetTable.eraseAt xs i).toList = xs.toList.eraseIdx i := by
  unfold SetTable.eraseAt
  rw [Array.toList_append, Array.toList_extract, Array.toList_extract, List.eraseIdx_eq_take_drop_succ]
  simp [List.extract_eq_drop_take]
  rw [List.take_of_length_le (by simp)]
/-- where the member k lies -/
theorem find_at {k : Int} {tk : Tok} {o : Obj} {es : Array (Int × Value)} {ep : Nat} {t : SetTable} {Q : Option Nat → Shared → Prop} (ho : s.heap.get? a = some o) (hd : o.data = .set es ep t) (hf : t.fits es.size = true)
    (g : ∀ e ∈ es.toList, GoodE e) (hb : es.size < scanBound) (h : Q (es.toList.findIdx? fun e => (intKind P w).is k e.2) s) :
    wpAny (model P w) A (setFind a (.int k tk) ((intKind P w).hash k)) Q E s := by
  have hel : ElemsOf (intKind P w) es.toList := good_elems g
  unfold setFind setFindIn
  refine wpAny_bind (wpAny_setState_of ho hd hf ?_)
  dsimp only
  rw [byScan_of (x := .int k tk) rfl hb hel]
  simp only [↓reduceIte]
  refine wpAny_bind (wpAny_rule ?_)
  refine wpAny_bind (wpAny_setScan_of (intKind_is P w k tk) ho hd hf hel ?_)
  cases hr : List.findIdx? (fun e => (intKind P w).is k e.2) es.toList with
  | none =>
    dsimp only
    rw [hr] at h
    exact wpAny_pure h
  | some j =>
    dsimp only
    rw [hr] at h
    rw [Nat.zero_add]
    exact wpAny_pure h
theorem discard_hashed {k : Int} {tk : Tok} {Q : Bool → Shared → Prop} (R : SetR w s.heap a S n)
    (hQ : ∀ h' m, m ≤ n → Heap.SameBut a s.heap h' → SetR w h' a (fun j => S j && !decide (j = k)) m → Q (S k) { s with heap := h' }) :
    wpAny (model P w) A (setDiscardHashed a (.int k tk) ((intKind P w).hash k)) Q E s := by
  obtain ⟨o, es, ep, t, ho, hex, hd, g, nd, hm, hb, hf, hn, hr, hl⟩ := R
  unfold setDiscardHashed
  refine wpAny_bind (find_at ho hd hf g hb ?_)
  cases hwhere : List.findIdx? (fun e => (intKind P w).is k e.2) es.toList with
  | none =>
    dsimp only
    have hnot : k ∉ es.toList.map keyOf := fun z => by
      obtain ⟨e, he, q⟩ := (good_mem (P := P) (w := w) g k).1 z
      have c := List.findIdx?_eq_none_iff.mp hwhere e he
      rw [q] at c
      cases c
    have hyes : S k = false := by
      cases q : S k with
      | false => rfl
      | true => exact absurd ((hm k).1 q) hnot
    have q := hQ s.heap n (Nat.le_refl _) (Heap.SameBut.refl a s.heap) ⟨o, es, ep, t, ho, hex, hd, g, nd, fun i => by
      rw [← hm i, Bool.and_eq_true]
      constructor
      · exact fun z => z.1
      · intro z
        refine ⟨z, ?_⟩
        have : i ≠ k := fun e => by rw [e, hyes] at z; cases z
        simp [this], hb, hf, hn, hr, hl⟩
    rw [hyes] at q
    exact wpAny_pure q
  | some j =>
    dsimp only
    obtain ⟨hj, pj, _⟩ := List.findIdx?_eq_some_iff_getElem.mp hwhere
    have hyes : S k = true := (hm k).2 ((good_mem (P := P) (w := w) g k).2 ⟨es.toList[j], List.getElem_mem hj, pj⟩)
    have hkj : keyOf es.toList[j] = k := (good_is (P := P) (w := w) (g _ (List.getElem_mem hj)) k).1 pj
    have hjs : j < es.size := by rw [Array.length_toList] at hj; exact hj
    obtain ⟨f1, f2⟩ : t.place.size = es.size ∧ t.fill ≤ t.mask := by
      simpa [SetTable.fits] using hf
    have hpl : t.place[j]? = some (t.place[j]'(by omega)) := Array.getElem?_eq_getElem _
    have hdrop : t.drop j = { t with place := SetTable.eraseAt t.place j, dummies := SetTable.insertAt t.dummies (SetTable.below t.dummies (t.place[j]'(by omega))) (t.place[j]'(by omega)) } := by
      unfold SetTable.drop
      rw [hpl]
    have pe := erase_perm es.toList j _ (List.getElem?_eq_getElem hj)
    have pk : (k :: (es.toList.eraseIdx j).map keyOf).Perm (es.toList.map keyOf) := by
      have z := pe.map keyOf
      rw [List.map_cons, hkj] at z
      exact z
    have el : (SetTable.eraseAt es j).toList = es.toList.eraseIdx j := eraseAt_list es j
    have hsz : (SetTable.eraseAt es j).size + 1 = es.size := by
      rw [← Array.length_toList, el, List.length_eraseIdx_of_lt hj, Array.length_toList]
      omega
    have hb1 : (SetTable.eraseAt es j).size < scanBound := by omega
    refine wpAny_bind (wpAny_setState_of ho hd hf ?_)
    dsimp only
    refine wpAny_bind (wpAny_storeSet_of ho hd ?_ (fits_of_scanBound hb1))
    refine wpAny_bind (wpAny_point (wpAny_pure ?_))
    have ho1 := store_at (es' := SetTable.eraseAt es j) (t' := t.drop j) ho hd
    have ndk := pk.nodup_iff.mpr nd
    have q := hQ _ (SetTable.eraseAt es j).size (by omega) (Heap.SameBut.update s.heap a (Obj.putSet (SetTable.eraseAt es j) (t.drop j)))
      ⟨_, SetTable.eraseAt es j, _, t.drop j, ho1, hex, rfl, fun e he => by
        rw [el] at he
        exact g e ((List.eraseIdx_sublist _ _).subset he), by
        rw [el]
        exact (List.nodup_cons.mp ndk).2, fun i => by
        rw [el, Bool.and_eq_true, hm i, ← pk.mem_iff, List.mem_cons]
        constructor
        · rintro ⟨z | z, y⟩
          · simp [z] at y
          · exact z
        · intro z
          refine ⟨.inr z, ?_⟩
          have : i ≠ k := fun e => (List.nodup_cons.mp ndk).1 (e ▸ z)
          simp [this], hb1, by
        rw [hdrop]
        unfold SetTable.fits
        rw [Bool.and_eq_true]
        have h1 : (SetTable.eraseAt t.place j).size + 1 = t.place.size := by
          rw [← Array.length_toList, eraseAt_list, List.length_eraseIdx_of_lt (by rw [Array.length_toList]; omega), Array.length_toList]
          omega
        have h2 : (SetTable.insertAt t.dummies (SetTable.below t.dummies t.place[j]) t.place[j]).size = t.dummies.size + 1 := by
          rw [← Array.length_toList, SetTable.toList_insertAt]
          simp only [List.length_append, List.length_cons, List.length_take, List.length_drop, Array.length_toList]
          omega
        have h3 : t.place.size + t.dummies.size ≤ t.mask := f2
        refine ⟨beq_iff_eq.mpr ?_, decide_eq_true ?_⟩
        · show (SetTable.eraseAt t.place j).size = (SetTable.eraseAt es j).size
          omega
        · show (SetTable.eraseAt t.place j).size + (SetTable.insertAt t.dummies (SetTable.below t.dummies t.place[j]) t.place[j]).size ≤ t.mask
          rw [h2]
          omega, rfl, by
        rw [hdrop]
        show Ris (SetTable.eraseAt t.place j).toList
        rw [eraseAt_list]
        exact List.Pairwise.sublist (List.eraseIdx_sublist _ _) hr, hl.imp id fun z => by
        rw [hdrop]
        exact z⟩
    rw [hyes] at q
    exact q
end
end Par
namespace Par
open PySem PySem.Spec PyProof.Rows L2
/-! ### a clean table has room for few small ints -/
def way (mask : Nat) : Nat → Nat → Nat → List Nat
  | 0, _, _ => []
  | f + 1, i, p => i :: way mask f (SetTable.leap mask i p).1 (SetTable.leap mask i p).2
def marks : List Nat → Nat → Nat
  | [], b => b
  | i :: l, b => marks l (b ||| (1 <<< i))
theorem marks_mem : ∀ (l : List Nat) (b j : Nat), (marks l b).testBit j = true → b.testBit j = true ∨ j ∈ l
  | [], b, j, h => .inl h
  | i :: l, b, j, h => by
    rcases marks_mem l _ j h with z | z
    · rw [Nat.testBit_or, Bool.or_eq_true] at z
      rcases z with z | z
      · exact .inl z
      · right
        rw [Nat.testBit_shiftLeft, Bool.and_eq_true, decide_eq_true_eq] at z
        have : j = i := by
          have z2 : j - i = 0 := by
            cases hji : j - i with
            | zero => rfl
            | succ c =>
              rw [hji] at z
              have y := z.2
              simp [Nat.testBit_succ] at y
          omega
        rw [this]
        exact List.mem_cons_self ..
    · exact .inr (List.mem_cons_of_mem _ z)
def covers : Bool := [7, 15, 31, 63, 127].all fun m => (List.range 40).all fun h => marks (way m (m + 15) (h % (m + 1)) h) 0 == 2 ^ (m + 1) - 1
theorem covers_all : covers = true := by decide +kernel
theorem way_all {m h j : Nat} (hm : m ∈ [7, 15, 31, 63, 127]) (hh : h < 40) (hj : j ≤ m) : j ∈ way m (m + 15) (h % (m + 1)) h := by
  have h1 := List.all_eq_true.mp (List.all_eq_true.mp covers_all m hm) h (List.mem_range.mpr hh)
  have h2 : marks (way m (m + 15) (h % (m + 1)) h) 0 = 2 ^ (m + 1) - 1 := by simpa using h1
  rcases marks_mem (way m (m + 15) (h % (m + 1)) h) 0 j (by rw [h2, Nat.testBit_two_pow_sub_one, decide_eq_true_eq]; omega) with z | z
  · simp at z
  · exact z
theorem free_of {mask : Nat} {owner : Array (Option Nat)} {j : Nat} (hn : owner.getD j (some 0) = none) : ∀ (f i p : Nat), j ∈ way mask f i p →
    ∃ r, SetTable.layClean.free mask owner f i p = some r ∧ owner.getD r (some 0) = none
  | 0, i, p, h => by simp [way] at h
  | f + 1, i, p, h => by
    rw [SetTable.layClean.free]
    cases hf : (List.range (SetTable.runEnd mask i + 1 - i)).find? fun k => (owner.getD (i + k) (some 0)).isNone with
    | some k =>
      refine ⟨i + k, rfl, ?_⟩
      have z := List.find?_some hf
      simpa using z
    | none =>
      dsimp only
      have hrun : i ≤ SetTable.runEnd mask i := by
        unfold SetTable.runEnd
        split <;> omega
      rcases List.mem_cons.mp (show j ∈ i :: way mask f (SetTable.leap mask i p).1 (SetTable.leap mask i p).2 from h) with z | z
      · exfalso
        have := List.find?_eq_none.mp hf 0 (List.mem_range.mpr (by omega))
        rw [Nat.add_zero, ← z, hn] at this
        exact this rfl
      · exact free_of hn f _ _ z
theorem some_none {l : List (Option Nat)} (h : (l.filterMap id).length < l.length) : ∃ j : Nat, l[j]? = some none := by
  induction l with
  | nil => simp at h
  | cons a l ih =>
    cases a with
    | none => exact ⟨0, rfl⟩
    | some x =>
      obtain ⟨j, hj⟩ := ih (by simpa using h)
      exact ⟨j + 1, by simpa using hj⟩
theorem set_none : ∀ {l : List (Option Nat)} {j k : Nat}, l[j]? = some none → ((l.set j (some k)).filterMap id).Perm (k :: l.filterMap id)
  | [], j, k, h => by simp at h
  | a :: l, 0, k, h => by
    have e : a = none := by simpa using h
    subst e
    simp
  | a :: l, j + 1, k, h => by
    have z := set_none (l := l) (j := j) (k := k) (by simpa using h)
    cases a with
    | none => simpa using z
    | some x =>
      rw [List.set_cons_succ]
      simp only [List.filterMap_cons, id_eq]
      exact (z.cons x).trans (List.Perm.swap ..)
/-- one number more, laid into its own place -/
def layStep (mask : Nat) (acc : Option (Array (Option Nat) × Nat)) (h : Int) : Option (Array (Option Nat) × Nat) :=
  acc.bind fun q => (SetTable.layClean.free mask q.1 (mask + 15) (SetTable.bits h % (mask + 1)) (SetTable.bits h)).bind fun j => some (q.1.setIfInBounds j (some q.2), q.2 + 1)
theorem fold_ok {mask : Nat} (hm : mask ∈ [7, 15, 31, 63, 127]) : ∀ (hs : List Int) (owner : Array (Option Nat)) (k : Nat), (∀ h ∈ hs, SetTable.bits h < 40) → owner.size = mask + 1 →
    (owner.toList.filterMap id).Perm (List.range k) → k + hs.length ≤ mask →
    ∃ owner', hs.foldl (layStep mask) (some (owner, k)) = some (owner', k + hs.length) ∧ owner'.size = mask + 1 ∧ (owner'.toList.filterMap id).Perm (List.range (k + hs.length))
  | [], owner, k, _, hz, hp, _ => ⟨owner, rfl, hz, hp⟩
  | h :: hs, owner, k, hb, hz, hp, hk => by
    have hlt : (owner.toList.filterMap id).length < owner.toList.length := by
      rw [hp.length_eq, List.length_range, Array.length_toList, hz]
      simp only [List.length_cons] at hk
      omega
    obtain ⟨j, hj⟩ := some_none hlt
    have hjs : j < owner.size := by
      have := (List.getElem?_eq_some_iff.mp hj).1
      rw [Array.length_toList] at this
      exact this
    have hn : owner.getD j (some 0) = none := by
      rw [Array.getElem?_toList] at hj
      simp [Array.getD_eq_getD_getElem?, hj]
    obtain ⟨r, hr, hrn⟩ := free_of hn (mask + 15) _ _ (way_all (j := j) hm (hb h (List.mem_cons_self ..)) (by omega))
    have hrs : r < owner.size := by
      by_cases c : r < owner.size
      · exact c
      · simp [Array.getD_eq_getD_getElem?, Array.getElem?_eq_none (Nat.le_of_not_lt c)] at hrn
    have hrl : owner.toList[r]? = some none := by
      rw [Array.getElem?_toList, Array.getElem?_eq_getElem hrs]
      simp [Array.getD_eq_getD_getElem?, Array.getElem?_eq_getElem hrs] at hrn
      rw [hrn]
    have hstep : layStep mask (some (owner, k)) h = some (owner.setIfInBounds r (some k), k + 1) := by
      unfold layStep
      show (SetTable.layClean.free mask owner (mask + 15) _ _).bind _ = _
      rw [hr]
      rfl
    obtain ⟨o2, e1, e2, e3⟩ := fold_ok hm hs (owner.setIfInBounds r (some k)) (k + 1) (fun x hx => hb x (List.mem_cons_of_mem _ hx)) (by rw [Array.size_setIfInBounds]; exact hz) (by
      rw [Array.toList_setIfInBounds]
      refine (set_none hrl).trans ?_
      rw [List.range_succ]
      exact (hp.cons k).trans (List.perm_append_singleton _ _).symm) (by simp only [List.length_cons] at hk; omega)
    refine ⟨o2, ?_, e2, ?_⟩
    · rw [List.foldl_cons, hstep, e1, List.length_cons]
      congr 2
      omega
    · rw [List.length_cons]
      have : k + (hs.length + 1) = k + 1 + hs.length := by omega
      rw [this]
      exact e3
theorem owner_list {owner : Array (Option Nat)} {n : Nat} (h : owner.size = n) : (List.range n).filterMap (fun j => owner.getD j none) = owner.toList.filterMap id := by
  have e : (List.range n).map (fun j => owner.getD j none) = owner.toList := by
    refine List.ext_getElem (by simp [h]) (fun i h1 h2 => ?_)
    have hi : i < owner.size := by rw [Array.length_toList] at h2; exact h2
    simp [Array.getD_eq_getD_getElem?, Array.getElem?_eq_getElem hi]
  rw [← e, List.filterMap_map]
  rfl
theorem clean_ok {mask finger moves : Nat} {led plain : Bool} {hashes : Array Int} (hm : mask ∈ [7, 15, 31, 63, 127]) (hb : ∀ h ∈ hashes.toList, SetTable.bits h < 40) (hz : hashes.size ≤ mask) :
    ∃ t order, SetTable.laid mask finger moves led plain hashes = some (t, order) ∧ order.toList.Perm (List.range hashes.size) ∧ Ris t.place.toList ∧ t.led = led ∧ t.place.size = hashes.size ∧ t.dummies = #[] ∧ t.mask = mask := by
  obtain ⟨owner, e1, e2, e3⟩ := fold_ok hm hashes.toList (Array.replicate (mask + 1) none) 0 hb (by simp) (by simp) (by rw [Array.length_toList]; omega)
  have e : SetTable.layClean mask hashes = some owner := by
    unfold SetTable.layClean
    rw [← Array.foldl_toList]
    show Option.map _ (hashes.toList.foldl (layStep mask) (some (Array.replicate (mask + 1) none, 0))) = _
    rw [e1]
    rfl
  have p2 : (((List.range (mask + 1)).filterMap fun j => (owner.getD j none).map (j, ·)).map (·.2)).Perm (List.range hashes.size) := by
    have : ((List.range (mask + 1)).filterMap fun j => (owner.getD j none).map (j, ·)).map (·.2) = (List.range (mask + 1)).filterMap fun j => owner.getD j none := by
      rw [List.map_filterMap]
      congr 1
      funext j
      cases owner.getD j none <;> rfl
    rw [this, owner_list e2]
    rw [Nat.zero_add, Array.length_toList] at e3
    exact e3
  unfold SetTable.laid
  rw [e]
  refine ⟨_, _, rfl, p2, ?_, rfl, ?_, rfl, rfl⟩
  · exact (ris_live (fun j => owner.getD j none) (List.range (mask + 1)) (by unfold Ris; first | exact List.pairwise_lt_range | exact List.pairwise_lt_range _)).1
  · show (((List.range (mask + 1)).filterMap fun j => (owner.getD j none).map (j, ·)).map (·.1)).toArray.size = _
    have := p2.length_eq
    rw [List.length_map, List.length_range] at this
    rw [List.size_toArray, List.length_map]
    exact this
end Par
namespace Par
open PySem PySem.Spec PyProof.Rows L2
def Cell (k : Int) : Prop := 0 ≤ k ∧ k < 40
theorem cells_few {L : List Int} (hn : L.Nodup) (h : ∀ k ∈ L, Cell k) : L.length ≤ 40 := by
  have := nodup_le (M := (List.range 40).map Int.ofNat) hn (fun k hk => by
    obtain ⟨h1, h2⟩ := h k hk
    exact List.mem_map.mpr ⟨k.toNat, List.mem_range.mpr (by omega), by simp; omega⟩)
  simpa using this
theorem bits_small : ∀ k : Nat, k < 40 → SetTable.bits (hashInt (k : Int)) < 40 := by decide +kernel
theorem bits_cell {k : Int} (h : Cell k) : SetTable.bits (hashInt k) < 40 := by
  have := bits_small k.toNat (by have := h.1; have := h.2; omega)
  rwa [Int.toNat_of_nonneg h.1] at this
theorem wide_enough : ∀ n : Nat, n ≤ 40 → SetTable.sizeAbove (n * 2) - 1 ∈ [7, 15, 31, 63, 127] ∧ n ≤ SetTable.sizeAbove (n * 2) - 1 ∧ SetTable.sizeAbove (n * 2) ≤ 128 := by decide +kernel
section
variable {P : Program} {w : World} {A : Around} {E : Value → Shared → Prop} {s : Shared} {a : Addr} {S : Int → Bool} {n : Nat}
theorem SetR.few (R : SetR w s.heap a S n) (h : ∀ k, S k = true → Cell k) : n ≤ 40 := by
  obtain ⟨o, es, ep, t, ho, hx, hd, g, nd, hm, hb, hf, hn, hr, hl⟩ := R
  have := cells_few nd (fun k hk => h k ((hm k).2 hk))
  rw [List.length_map, Array.length_toList, hn] at this
  exact this
/-- a set that is still empty, its table -/
def NewSet (w : World) (h : Heap) (r : Addr) (n : Nat) : Prop := ∃ o ep t, h.get? r = some o ∧ o.ExactSet ∧ o.data = .set #[] ep t ∧ t.place = #[] ∧ t.dummies = #[] ∧ (w.params.followText "set-order" = true ∨ t.led = true) ∧
  t.mask ∈ [7, 15, 31, 63, 127] ∧ n ≤ t.mask
theorem room_new {r : Addr} {Q : Unit → Shared → Prop} (hn : n ≤ 40)
    (hr : s.heap.get? r = some { cls := .type "set", dict := none, data := .set #[] 0 (.fresh 0 0 (!w.params.followText "set-order")) })
    (hQ : ∀ h', Heap.SameBut r s.heap h' → NewSet w h' r n → Q () { s with heap := h' }) : wpAny (model P w) A (setRoomFor r n) Q E s := by
  have led : w.params.followText "set-order" = true ∨ (!w.params.followText "set-order") = true := by
    cases w.params.followText "set-order"
    · exact .inr rfl
    · exact .inl rfl
  unfold setRoomFor
  refine wpAny_bind (wpAny_setState_of hr rfl rfl ?_)
  dsimp only
  by_cases h5 : n * 5 ≥ 21
  · have e : (SetTable.fresh 0 0 (!w.params.followText "set-order")).roomFor n = some (n * 2) := by
      unfold SetTable.roomFor SetTable.fill SetTable.fresh
      simp [h5]
    rw [e]
    dsimp only
    unfold setRelay
    refine wpAny_bind (wpAny_setState_of hr rfl rfl ?_)
    dsimp only
    obtain ⟨w1, w2, w3⟩ := wide_enough n hn
    refine wp_if_neg (by rw [sizeLine_eq]; omega) ?_
    try refine wpAny_bind (wpAny_pure ?_)
    obtain ⟨t, order, e1, e2, e3, e4, e5, e6, e7⟩ := clean_ok (finger := 0) (moves := (SetTable.fresh 0 0 (!w.params.followText "set-order")).movedTo (SetTable.sizeAbove (n * 2) - 1)) (led := !w.params.followText "set-order") (plain := true) (hashes := #[]) w1 (by simp) (by simp)
    have e8 : (SetTable.fresh 0 0 (!w.params.followText "set-order")).relaid ((#[] : Array (Int × Value)).map (·.1)) (n * 2) = some (t, order) := by
      have q : ((#[] : Array (Int × Value)).map (·.1)) = #[] := by simp
      rw [q]
      exact e1
    rw [e8]
    have eo : order = #[] := by
      have : order.toList = [] := List.length_eq_zero_iff.mp (by rw [e2.length_eq]; simp)
      exact Array.toList_eq_nil_iff.mp this
    subst eo
    refine wpAny_bind (wpAny_pure ?_)
    refine wpAny_storeSet_of hr rfl ?_ (by simp)
    have ho1 := store_at (es' := #[]) (t' := t) hr rfl
    refine hQ _ (Heap.SameBut.update s.heap r _) ⟨_, _, t, ho1, ⟨rfl, rfl, rfl⟩, rfl, by simpa using e5, e6, by rw [e4]; exact led, by rw [e7]; exact w1, by rw [e7]; exact w2⟩
  · have e : (SetTable.fresh 0 0 (!w.params.followText "set-order")).roomFor n = none := by
      unfold SetTable.roomFor SetTable.fill SetTable.fresh
      simp [h5]
    rw [e]
    dsimp only
    exact wpAny_pure (hQ s.heap (Heap.SameBut.refl r s.heap) ⟨_, _, _, hr, ⟨rfl, rfl, rfl⟩, rfl, rfl, rfl, led, by simp [SetTable.fresh], by show n ≤ 7; omega⟩)
theorem merge_new {r o : Addr} {each : Sem Unit} {Q : Unit → Shared → Prop}
    (hr : s.heap.get? r = some { cls := .type "set", dict := none, data := .set #[] 0 (.fresh 0 0 (!w.params.followText "set-order")) })
    (R : SetR w s.heap o S n) (hne : r ≠ o) (hS : ∀ k, S k = true → Cell k)
    (hQ : ∀ h', Heap.SameBut r s.heap h' → SetR w h' r S n → Q () { s with heap := h' }) : wpAny (model P w) A (setMerge r o each) Q E s := by
  have hn40 := SetR.few R hS
  obtain ⟨oo, es, ep, t, ho, hx, hd, g, nd, hm, hb, hf, hn, hrs, hl⟩ := id R
  have led : w.params.followText "set-order" = true ∨ (!w.params.followText "set-order") = true := by
    cases w.params.followText "set-order"
    · exact .inr rfl
    · exact .inl rfl
  unfold setMerge
  refine wp_if_neg (by simpa using hne) ?_
  try refine wpAny_bind (wpAny_pure ?_)
  refine wpAny_bind (wpAny_setState_of ho hd hf ?_)
  dsimp only
  by_cases he : es.isEmpty = true
  · refine wp_if_pos he ?_
    have e0 : es = #[] := by simpa using he
    subst e0
    refine wpAny_pure (hQ s.heap (Heap.SameBut.refl r s.heap) ⟨_, #[], _, _, hr, ⟨rfl, rfl, rfl⟩, rfl, g, nd, hm, hb, rfl, hn, List.Pairwise.nil, led⟩)
  · refine wp_if_neg he ?_
    try refine wpAny_bind (wpAny_pure ?_)
    rw [hn]
    refine wpAny_bind (room_new hn40 hr fun h1 sb1 new => ?_)
    obtain ⟨o1, ep1, t1, ho1, hx1, hd1, hp1, hdm1, hl1, hm1, hk1⟩ := new
    have hf1 : t1.fits (#[] : Array (Int × Value)).size = true := by
      simp [SetTable.fits, SetTable.fill, hp1, hdm1]
    refine wpAny_bind (wpAny_setState_of (es := #[]) ho1 hd1 hf1 ?_)
    dsimp only
    have hfill : t1.fill = 0 := by simp [SetTable.fill, hp1, hdm1]
    cases hroad : t1.road t with
    | oneByOne =>
      exfalso
      unfold SetTable.road at hroad
      rw [hfill] at hroad
      simp at hroad
      split at hroad <;> simp at hroad
    | slotForSlot =>
      dsimp only
      refine wpAny_storeSet_of ho1 hd1 ?_ (fits_of_scanBound hb)
      have ho2 := store_at (es' := es) (t' := { t with finger := t1.finger, led := t1.led && t.led, moves := t1.moves, plain := t1.plain && t.plain }) ho1 hd1
      refine hQ _ (sb1.trans (Heap.SameBut.update h1 r _)) ⟨_, es, _, _, ho2, hx1, rfl, g, nd, hm, hb, hf, hn, hrs, ?_⟩
      rcases hl with z | z
      · exact .inl z
      · rcases hl1 with y | y
        · exact .inl y
        · exact .inr (by show (t1.led && t.led) = true; rw [z, y]; rfl)
    | clean =>
      dsimp only
      have hsm : (es.map (·.1)).size = es.size := Array.size_map ..
      obtain ⟨t2, order, e1, e2, e3, e4, e5, e6, e7⟩ := clean_ok (finger := t1.finger) (moves := t1.moves) (led := t1.led && t.led) (plain := t1.plain && t.plain) (hashes := es.map (·.1)) hm1 (fun h hh => by
        rw [Array.toList_map] at hh
        obtain ⟨e, he, rfl⟩ := List.mem_map.mp hh
        obtain ⟨k, tk, q1, q2⟩ := g e he
        rw [q2]
        refine bits_cell (hS k ((hm k).2 (List.mem_map.mpr ⟨e, he, ?_⟩)))
        unfold keyOf
        rw [q1]) (by rw [hsm]; omega)
      rw [e1]
      rw [hsm] at e2 e5
      have pm : (order.filterMap (es[·]?)).toList.Perm es.toList := by
        rw [Array.toList_filterMap]
        exact (e2.filterMap _).trans (by rw [filterMap_getElem?_range])
      have hsz : (order.filterMap (es[·]?)).size = es.size := by rw [← Array.length_toList, pm.length_eq, Array.length_toList]
      refine wpAny_bind (wpAny_of_eq (a := (order.filterMap (es[·]?), t2)) ?_ ?_)
      · show (do
          if ((order.filterMap (es[·]?)).size != es.size) = true then unsupported "internal:set-table-lost-an-element"
          pure (order.filterMap (es[·]?), t2)) = _
        rw [if_neg (by rw [hsz]; simp)]
        try rfl
      · dsimp only
        refine wpAny_storeSet_of ho1 hd1 ?_ (by rw [hsz]; exact fits_of_scanBound hb)
        have ho2 := store_at (es' := order.filterMap (es[·]?)) (t' := t2) ho1 hd1
        refine hQ _ (sb1.trans (Heap.SameBut.update h1 r _)) ⟨_, _, _, t2, ho2, hx1, rfl, fun e he => g e (pm.mem_iff.mp he), (pm.map keyOf).nodup_iff.mpr nd, fun k => (hm k).trans (pm.map keyOf).mem_iff.symm, by rw [hsz]; exact hb, ?_, by rw [hsz]; exact hn, e3, ?_⟩
        · rw [hsz]
          have : t2.place.size + t2.dummies.size ≤ t2.mask := by
            rw [e5, e6, e7]
            simp
            omega
          simp [SetTable.fits, SetTable.fill, e5, e6, e7]
          omega
        · rw [e4]
          rcases hl with z | z
          · exact .inl z
          · rcases hl1 with y | y
            · exact .inl y
            · exact .inr (by rw [z, y]; rfl)
end
end Par
namespace Par
open PySem PySem.Spec PyProof.Rows L2
theorem entry_set_xor : entryFor table "set.__xor__" = some Builtin.«frozenset.__xor__» :=
  entryFor_alias (id' := "frozenset.__xor__") (by kernel_rfl) rfl (by decide +kernel) (by kernel_rfl)
theorem entry_set_and : entryFor table "set.__and__" = some Builtin.«frozenset.__and__» :=
  entryFor_alias (id' := "frozenset.__and__") (by kernel_rfl) rfl (by decide +kernel) (by kernel_rfl)
section
variable {P : Program} {w : World} {A : Around} {E : Value → Shared → Prop} {s : Shared} {a : Addr} {S : Int → Bool} {n : Nat}
theorem set_typ (R : SetR w s.heap a S n) : s.TypeIs (.ref a) "set" := by
  obtain ⟨o, es, ep, t, ho, hx, _⟩ := R
  exact ⟨o, ho, hx.1⟩
theorem any_set {Q : Bool → Shared → Prop} (hT : s.TypeIs (.ref a) "set") (h : Q true s) : wpAny (model P w) A (Builtin.Frozenset.isAnySet (.ref a)) Q E s := by
  unfold Builtin.Frozenset.isAnySet
  refine wpAny_bind (wpAny_isInstance hT sub_set_self ?_)
  exact wpAny_pure h
theorem base_set {Q : Value → Shared → Prop} (hT : s.TypeIs (.ref a) "set") (h : Q (.type "set") s) : wpAny (model P w) A (Builtin.Frozenset.baseOf a) Q E s := by
  unfold Builtin.Frozenset.baseOf
  refine wpAny_bind (wpAny_isInstance hT sub_set_self ?_)
  exact wpAny_pure h
theorem new_set {Q : Value → Shared → Prop} (h : Q (.ref s.heap.objs.size) { s with heap := s.heap.push { cls := .type "set", dict := none, data := .set #[] 0 (.fresh 0 0 (!w.params.followText "set-order")) } }) :
    wpAny (model P w) A (newSet (.type "set")) Q E s := by
  unfold newSet
  refine wpAny_bind (wpAny_byText ?_)
  dsimp only
  simp only [newObj]
  refine wpAny_bind (wpAny_alloc (wpAny_pure ?_))
  exact h
theorem flip_one {k : Int} {tk : Tok} {Q : Unit → Shared → Prop} (R : SetR w s.heap a S n) (room : n + 1 < scanBound)
    (hQ : ∀ h' m, m ≤ n + 1 → Heap.SameBut a s.heap h' → SetR w h' a (fun j => xor (S j) (decide (j = k))) m → Q () { s with heap := h' }) :
    wpAny (model P w) A (holding [.int k tk] (do
      if !(← setDiscardHashed a (.int k tk) ((intKind P w).hash k)) then
        let _ ← setAddHashed a (.int k tk) ((intKind P w).hash k))) Q E s := by
  refine wpAny_holding (wpAny_bind (discard_hashed R fun h1 m hm sb1 R1 => ?_))
  cases hk : S k with
  | true =>
    refine wp_if_neg (by simp) ?_
    refine wpAny_pure (hQ h1 m (by omega) sb1 (R1.congr fun j => ?_))
    by_cases e : j = k
    · subst e
      rw [hk]
      simp
    · simp [e]
  | false =>
    refine wp_if_pos (by simp) ?_
    refine wpAny_bind (setR_add_hashed (s := { s with heap := h1 }) R1 (by omega) fun h2 sb2 R2 => ?_)
    refine wpAny_pure (hQ h2 _ (by split <;> omega) (sb1.trans sb2) (R2.congr fun j => ?_))
    by_cases e : j = k
    · subst e
      rw [hk]
      simp
    · simp [e]
theorem flip_all {body : Int × Value → PUnit → Sem (ForInStep PUnit)} {o : Addr} {oo : Obj} (hne : o ≠ a)
    (hb : ∀ (e : Int × Value) (s : Shared) (S : Int → Bool) (n : Nat) (Q : ForInStep PUnit → Shared → Prop), GoodE e → s.heap.get? o = some oo → SetR w s.heap a S n → n + 1 < scanBound →
      (∀ h' m, m ≤ n + 1 → Heap.SameBut a s.heap h' → SetR w h' a (fun j => xor (S j) (decide (j = keyOf e))) m → Q (.yield ⟨⟩) { s with heap := h' }) → wpAny (model P w) A (body e ⟨⟩) Q E s) :
    ∀ (l : List (Int × Value)) (s : Shared) (S : Int → Bool) (n : Nat) (Q : PUnit → Shared → Prop), (∀ e ∈ l, GoodE e) → (l.map keyOf).Nodup → s.heap.get? o = some oo → SetR w s.heap a S n → n + l.length + 1 < scanBound →
      (∀ h' m, Heap.SameBut a s.heap h' → SetR w h' a (fun j => xor (S j) (decide (j ∈ l.map keyOf))) m → Q ⟨⟩ { s with heap := h' }) → wpAny (model P w) A (forIn l ⟨⟩ body) Q E s
  | [], s, S, n, Q, _, _, _, R, _, hQ => by
    rw [List.forIn_nil]
    exact wpAny_pure (hQ s.heap n (Heap.SameBut.refl a s.heap) (R.congr fun j => by simp))
  | e :: l, s, S, n, Q, g, nd, Ro, R, room, hQ => by
    rw [List.forIn_cons]
    simp only [List.length_cons] at room
    refine wpAny_bind (hb e s S n _ (g e (List.mem_cons_self ..)) Ro R (by omega) fun h1 m hm sb1 R1 => ?_)
    have nd' := List.nodup_cons.mp (show (keyOf e :: l.map keyOf).Nodup from nd)
    refine flip_all hne hb l { s with heap := h1 } _ m Q (fun x hx => g x (List.mem_cons_of_mem _ hx)) nd'.2 ((sb1.2 o hne).trans Ro) R1 (by omega) fun h2 m2 sb2 R2 => ?_
    refine hQ h2 m2 (sb1.trans sb2) (R2.congr fun j => ?_)
    show xor (S j) (decide (j ∈ keyOf e :: l.map keyOf)) = xor (xor (S j) (decide (j = keyOf e))) (decide (j ∈ l.map keyOf))
    by_cases e1 : j = keyOf e
    · have : j ∉ l.map keyOf := fun z => nd'.1 (e1 ▸ z)
      have hin : j ∈ keyOf e :: l.map keyOf := by
        rw [e1]
        exact List.mem_cons_self ..
      rw [decide_eq_true hin, decide_eq_true e1, decide_eq_false this]
      simp
    · by_cases e2 : j ∈ l.map keyOf
      · rw [decide_eq_true (List.mem_cons_of_mem _ e2), decide_eq_true e2, decide_eq_false e1]
        simp
      · have hout : j ∉ keyOf e :: l.map keyOf := fun z => by
          rcases List.mem_cons.mp z with z | z
          · exact e1 z
          · exact e2 z
        rw [decide_eq_false hout, decide_eq_false e2, decide_eq_false e1]
        simp
def symOf (id : String) (l : Addr) (r : Value) : Sem Value := do
  let result ← Builtin.Frozenset.newFrom id (← Builtin.Frozenset.baseOf l) r
  holding [result] (Builtin.Frozenset.symmetricDifferenceUpdate id (← Builtin.Frozenset.addrOf result) (.ref l))
  return result
theorem call_xor {b : Addr} {T : Int → Bool} {m : Nat} {Q : Value → Shared → Prop} (Ra : SetR w s.heap a S n) (Rb : SetR w s.heap b T m) (hS : ∀ k, S k = true → Cell k) (hT : ∀ k, T k = true → Cell k)
    (hQ : ∀ h' c, (∀ x u, s.heap.get? x = some u → h'.get? x = some u) → SetR w h' s.heap.objs.size (fun k => xor (S k) (T k)) c → c ≤ 40 → Q (.ref s.heap.objs.size) { s with heap := h' }) :
    wpAny (model P w) A (call (.builtin "set.__xor__") [.ref a, .ref b]) Q E s := by
  have ta : s.TypeIs (.ref a) "set" := set_typ Ra
  have tb : s.TypeIs (.ref b) "set" := set_typ Rb
  have la := Ra.lt
  have lb := Rb.lt
  refine wpAny_call_entry F.slot_set_xor ta entry_set_xor ?_ (F.args_set_xor_2 _ _)
  unfold Builtin.«frozenset.__xor__»
  show wpAny _ _ (do
    let (self, other) ← Builtin.Frozenset.slot1 "__xor__" ⟨[.ref a, .ref b], []⟩
    let (l, r) := if false = true then (other, self) else (self, other)
    if !(← Builtin.Frozenset.isAnySet l <&&> Builtin.Frozenset.isAnySet r) then rule s!"frozenset.{"__xor__"}.declined"; return ← ret .notImplemented
    ret (← symOf s!"frozenset.{"__xor__"}" (← Builtin.Frozenset.addrOf l) r)) _ _ s
  refine wpAny_bind (wpAny_of_eq (a := (Value.ref a, Value.ref b)) (by rfl) ?_)
  dsimp only
  rw [if_neg Bool.false_ne_true]
  dsimp only
  refine wpAny_bind (wpAny_bind (any_set ta ?_))
  show wpAny _ _ (Builtin.Frozenset.isAnySet (.ref b)) _ _ s
  refine any_set tb ?_
  refine wp_if_neg (by simp) ?_
  refine wpAny_bind (m := Builtin.Frozenset.addrOf (.ref a)) (wpAny_pure ?_)
  refine wpAny_bind ?_
  unfold symOf
  refine wpAny_bind (base_set ta ?_)
  refine wpAny_bind ?_
  unfold Builtin.Frozenset.newFrom
  refine wpAny_bind (new_set ?_)
  generalize hr : s.heap.objs.size = r at *
  have hget : (s.heap.push { cls := .type "set", dict := none, data := .set #[] 0 (.fresh 0 0 (!w.params.followText "set-order")) }).get? s.heap.objs.size = some { cls := .type "set", dict := none, data := .set #[] 0 (.fresh 0 0 (!w.params.followText "set-order")) } := Heap.get?_push_size _ rfl
  generalize hg : s.heap.push { cls := .type "set", dict := none, data := .set #[] 0 (.fresh 0 0 (!w.params.followText "set-order")) } = g at *
  have keep : ∀ x u, s.heap.get? x = some u → g.get? x = some u := fun x u e => by
    rw [← hg]
    exact Heap.get?_push_of_some _ e
  have Ra1 : SetR w g a S n := Ra.at fun u e => keep a u e
  have Rb1 : SetR w g b T m := Rb.at fun u e => keep b u e
  refine wpAny_bind (m := Builtin.Frozenset.addrOf (.ref r)) (wpAny_pure ?_)
  refine wpAny_bind (wpAny_holding ?_)
  unfold Builtin.Frozenset.updateFrom
  refine wpAny_bind (any_set (s := { s with heap := g }) (set_typ Rb1) ?_)
  refine wp_if_pos rfl ?_
  refine wpAny_bind (m := Builtin.Frozenset.addrOf (.ref b)) (wpAny_pure ?_)
  unfold Builtin.Frozenset.merge
  obtain ⟨ob, esb, epb, tb2, hob, hxb, hdb, _, _, _, _, hfb, _⟩ := id Rb1
  refine wpAny_bind (wpAny_setEpoch_of hob hdb hfb ?_)
  rw [hr] at hget
  refine merge_new (s := { s with heap := g }) hget Rb1 (Nat.ne_of_gt lb) hT fun h1 sb1 R1 => ?_
  refine wpAny_pure ?_
  refine wpAny_bind (m := Builtin.Frozenset.addrOf (.ref r)) (wpAny_pure ?_)
  refine wpAny_bind (wpAny_holding ?_)
  have hra : a ≠ r := Nat.ne_of_lt la
  have Ra2 : SetR w h1 a S n := Ra1.at fun u e => (sb1.2 a hra).trans e
  unfold Builtin.Frozenset.symmetricDifferenceUpdate
  refine wp_if_neg (by simpa using hra) ?_
  try refine wpAny_bind (wpAny_pure ?_)
  dsimp only
  refine wpAny_bind (wpAny_typeOf (s := { s with heap := h1 }) (set_typ Ra2) ?_)
  refine wp_if_neg (by decide) ?_
  try refine wpAny_bind (wpAny_pure ?_)
  refine wpAny_bind (any_set (s := { s with heap := h1 }) (set_typ Ra2) ?_)
  refine wp_if_pos rfl ?_
  refine wpAny_bind (wpAny_pure ?_)
  refine wpAny_bind (m := Builtin.Frozenset.addrOf (.ref a)) (wpAny_pure ?_)
  obtain ⟨oa, esa, epa, ta2, hoa, hxa, hda, _, _, _, _, hfa, _⟩ := id Ra2
  refine wpAny_bind (wpAny_setEpoch_of hoa hda hfa ?_)
  refine wpAny_holding ?_
  refine wpAny_bind (walk_unseen (s := { s with heap := h1 }) (f := r) Ra2 (fun x hx => by rw [List.mem_singleton.mp hx]; exact ⟨T, m, R1⟩) R1 fun l h2 sb2 R2 gl => ?_)
  obtain ⟨gl1, gl2, gl3, gl4⟩ := gl
  have n40 : n ≤ 40 := SetR.few (s := { s with heap := h1 }) Ra2 hS
  have m40 : m ≤ 40 := SetR.few (s := { s with heap := h1 }) R1 hT
  rw [← Array.forIn_toList]
  refine wpAny_bind (flip_all (a := r) (o := a) (oo := oa) hra ?_ l.toList { s with heap := h2 } T m _ gl1 gl2 ((sb2.2 a hra).trans hoa) R2 (by rw [Array.length_toList, gl4]; unfold scanBound; omega) fun h3 c sb3 R3 => ?_)
  · intro e s0 S0 n0 Q0 ge ho0 R0 room q0
    obtain ⟨k, tk, e1, e2⟩ := ge
    obtain ⟨eh, ev⟩ := e
    dsimp only at e1 e2
    subst e1
    subst e2
    refine wpAny_bind (flip_one R0 room fun h' m' hm' sb' R' => ?_)
    refine wpAny_bind ?_
    unfold Builtin.Frozenset.unchanged
    refine wpAny_bind (wpAny_setEpoch_of ((sb'.2 a hra).trans ho0) hda hfa ?_)
    refine wp_if_neg (by simp) ?_
    exact wpAny_pure (wpAny_pure (q0 h' m' hm' sb' R'))
  refine wpAny_pure (wpAny_pure (wpAny_pure ⟨_, rfl, ?_⟩))
  have Rf : SetR w h3 r (fun k => xor (S k) (T k)) c := R3.congr fun k => by
    have : S k = decide (k ∈ l.toList.map keyOf) := by
      cases h : S k with
      | true => rw [decide_eq_true ((gl3 k).1 h)]
      | false =>
        have : k ∉ l.toList.map keyOf := fun z => by
          have := (gl3 k).2 z
          rw [h] at this
          cases this
        rw [decide_eq_false this]
    rw [this]
    exact Bool.xor_comm _ _
  refine hQ h3 c (fun x u e => ?_) Rf (SetR.few (s := { s with heap := h3 }) Rf fun k hk => ?_)
  · have hxr : x ≠ r := by
      rw [← hr]
      exact Nat.ne_of_lt (Heap.lt_size e)
    exact (sb3.2 x hxr).trans ((sb2.2 x hxr).trans ((sb1.2 x hxr).trans (keep x u e)))
  · cases h : S k with
    | true => exact hS k h
    | false =>
      rw [h] at hk
      exact hT k (by simpa using hk)
end
end Par
namespace Par
open PySem PySem.Spec PyProof.Rows L2
section
variable {X : Cx}
/-- set(t), t a tuple of ints -/
def rSetTup (K : PySem.W.Frag) (w : World) : List V → Hp → VK → Prop := fun xs H Q => ∃ (l : Addr) (ns : List Int), xs = [V.ref l] ∧ SqT K H l (ns.map V.int) ∧ ns.length ≤ 4000 ∧
  ∀ p c, H p = none → Q (.ref p) (upd H p (SetO w p (fun j => decide (j ∈ ns)) c))
theorem cr_setTup (hc : X.calm = true) : CallR X (.type "set") (rSetTup X.K X.w) := by
  intro pins s σ H xs us Q I r h
  obtain ⟨l, ns, rfl, hq, hl, q⟩ := h
  rw [Vals.ref1 r]
  obtain ⟨its, rv, tup, hz⟩ := I.tuple hq
  refine L2.call_set_tupI ns (I.ok.hd hc) tup (by simpa using numbers_of rv) (by unfold scanBound; omega) ?_
  intro h' tk c hS hcn hk
  exact ⟨.ref _, _, I.laid (t' := tk) hk (Nat.le_refl _) (setO_new hS), rfl, q _ c (I.hok.fresh (Nat.le_refl _))⟩
/-- one ^ other, sets of cells -/
def rXor (w : World) : V → V → Hp → VK → Prop := fun x y H Q => ∃ (a b : Addr) (S T : Int → Bool) (n m : Nat), x = V.ref a ∧ y = V.ref b ∧ H a = some (SetO w a S n) ∧ H b = some (SetO w b T m) ∧
  (∀ k, S k = true → Cell k) ∧ (∀ k, T k = true → Cell k) ∧ ∀ p c, H p = none → c ≤ 40 → Q (.ref p) (upd H p (SetO w p (fun k => xor (S k) (T k)) c))
theorem op_xorS : OpR X (binaryOp .BitXor) (rXor X.w) := by
  intro pins s σ H x y v u Q I rx ry h
  obtain ⟨a, b, S, T, n, m, rfl, rfl, ha, hb, hS, hT, q⟩ := h
  cases rx
  cases ry
  have Ra := setO_get I ha
  have Rb := setO_get I hb
  refine wpAny_binaryOp_same (op := .BitXor) (T := "set") (set_typ Ra) (set_typ Rb) F.fills_set_xor F.slot_set_xor ?_
  refine call_xor Ra Rb hS hT fun h' c k R c40 => ⟨by simp, ?_⟩
  exact ⟨.ref _, _, I.laid (t' := s.toks) k (Nat.le_refl _) (setO_new R), rfl, q _ c (I.hok.fresh (Nat.le_refl _)) c40⟩
end
end Par
namespace Par
open PySem PySem.Spec PyProof.Rows L2
section
variable {prog : Program} {w : World} {A : Around} {E : Value → Shared → Prop} {s : Shared}
theorem collect_tup {tp : Addr} {vs : List Value} {Q : List Value → Shared → Prop} (htp : IsTup s.heap tp vs.toArray)
    (h : Q vs { s with heap := (s.heap.push (seqObj "list" #[] 0)).update s.heap.objs.size (Obj.mapSeq (· ++ vs.toArray)) })
    (len : vs.length ≤ sizeLine) : wpAny (model prog w) A (collect (.ref tp)) Q E s := by
  obtain ⟨o, hob, hcl, n, hdt⟩ := id htp
  unfold collect
  refine wpAny_bind (wpAny_runValue ?_)
  refine codeAny_builtin entry_proto_collect' ?_
  show wpAny _ _ (do again (.builtin "list.__iadd__" ⟨[← newList [], .ref tp], []⟩)) _ _ s
  refine wpAny_bind (wpAny_newList (wpAny_pure ?_))
  refine ⟨Code.quiet_builtin _ (by decide +kernel), codeAny_builtin entry_list_iadd' ?_⟩
  show wpAny _ _ (Builtin.List.listExtendWith (.ref s.heap.objs.size) (.ref tp) (.ref s.heap.objs.size)) _ _ { s with heap := s.heap.push (seqObj "list" #[] 0) }
  unfold Builtin.List.listExtendWith -- a tuple's items go over at once
  have ho2 : (s.heap.push (seqObj "list" #[] 0)).get? tp = some o := Heap.get?_push_of_some _ hob
  refine wpAny_bind (wpAny_typeOf (T := "tuple") ⟨o, ho2, hcl⟩ ?_)
  have ht : (Value.type "tuple" == Value.type "tuple") = true := by rfl
  rw [if_pos (by simp [ht])]
  refine wpAny_bind (listItems_at ho2 hdt ?_)
  refine wpAny_bind (listItems_at (n := 0) (xs := #[]) (Heap.get?_push_size _ rfl) rfl ?_)
  rw [if_neg (by simp)]
  have room : (#[] ++ vs.toArray).size ≤ sizeLine + 1 := by
    simp only [Array.size_append, List.size_toArray, List.length_nil]
    omega
  refine wpAny_bind (listUpdate_at (xs := #[]) (n := 0) (Heap.get?_push_size _ rfl) rfl ?_ (Nat.zero_le _) room)
  refine wpAny_pure ?_
  have flat : ((#[] : Array Value) ++ vs.toArray).toList = vs := by simp
  refine wpAny_bind (wpAny_load (get?_update_seq (Heap.get?_push_size s.heap rfl) _) ?_)
  show wpAny _ _ (pure (#[] ++ vs.toArray).toList) Q E _
  rw [flat]
  exact wpAny_pure h
theorem sorted_tupOrd {tp : Addr} {vs : List Value} {ltv : Value → Value → Bool} {Q : Value → Shared → Prop} (O : SrtO.Swo ltv) (htp : IsTup s.heap tp vs.toArray) (hz : vs.length ≤ sizeLine)
    (can : 2 ≤ vs.length → ∀ (h1 : Heap) (a : Addr), h1.get? a = some (seqObj "list" vs.toArray 0) → (∀ b o, s.heap.get? b = some o → b ≠ a ∧ h1.get? b = some o) → SrtO.SortableO prog w A.in1.in1 { s with heap := h1 } a vs ltv)
    (h : ∀ out : List Value, SrtO.Srtd ltv out → SrtO.Stb ltv out vs → Q (.ref (s.heap.objs.size + 1)) { s with heap := sortedAll s.heap vs out.toArray }) :
    wpAny (model prog w) A (call (.builtin "sorted") [.ref tp]) Q E s := by
  refine Calls.call_function_entry kind_sorted plain_sorted entry_sorted (args_sorted1 (.ref tp)) ?_
  unfold Builtin.«sorted»
  refine wpAny_bind (m := checkCount "sorted" 1 1 _) ?_
  refine wpAny_pure ?_
  refine wpAny_bind (collect_tup htp ?_ hz)
  refine wpAny_bind (wpAny_newList (s := _) ?_ hz)
  generalize eg : (s.heap.push (seqObj "list" #[] 0)).update s.heap.objs.size (Obj.mapSeq (· ++ vs.toArray)) = g
  have hsz : g.objs.size = s.heap.objs.size + 1 := by rw [← eg, Heap.size_update, size_push']
  have hoL : (g.push (seqObj "list" vs.toArray 0)).get? (s.heap.objs.size + 1) = some (seqObj "list" vs.toArray 0) := by
    rw [← hsz]
    exact Heap.get?_push_size g rfl
  have keep : ∀ b o, s.heap.get? b = some o → b ≠ s.heap.objs.size + 1 ∧ (g.push (seqObj "list" vs.toArray 0)).get? b = some o := by
    intro b o q
    have hbl : b < s.heap.objs.size := Heap.lt_size q
    refine ⟨Nat.ne_of_lt (Nat.lt_succ_of_lt hbl), Heap.get?_push_of_some (seqObj "list" vs.toArray 0) ?_⟩
    rw [← eg, Heap.get?_update_ne _ _ _ _ (Nat.ne_of_lt hbl)]
    exact Heap.get?_push_of_some (seqObj "list" #[] 0) q
  show wpAny _ _ _ _ _ { s with heap := g.push (seqObj "list" vs.toArray 0) }
  rw [hsz]
  refine wpAny_bind (wpAny_holding (wpAny_call_entry slot_list_sort ⟨_, hoL, rfl⟩ entry_list_sort (SrtO.list_sort_ord O hoL hz (fun h2 => can h2 _ _ hoL keep) ?_) (args_list_sort _)))
  intro out hs hb
  refine ⟨_, rfl, ?_⟩
  subst eg
  exact wpAny_pure ⟨.ref (s.heap.objs.size + 1), rfl, h out hs hb⟩
end
/-- sorted(t), t a tuple of ints -/
theorem cr_sortedTup {X : Cx} : CallR X (.builtin "sorted") (fun vs H Q => ∃ (a : Addr) (ns : List Int), vs = [V.ref a] ∧ SqT X.K H a (ns.map V.int) ∧
    ∀ (ms : List Int) (p : Addr), ms.Perm ns → ms.Pairwise (· ≤ ·) → H p = none → Q (.ref p) (upd H p (.lst (ms.map V.int)))) := by
  intro pins s σ H vs us Q I r h
  obtain ⟨a, ns, rfl, hs, q⟩ := h
  obtain ⟨its, rv, htp, hz⟩ := I.tuple hs
  rw [Vals.ref1 r]
  have hi := rv.ints
  refine sorted_tupOrd SrtO.swo_int htp (by rw [← rv.length]; exact hz) (fun h2 h1 a2 _ _ => SrtO.ints_sortable hi h2) ?_
  intro out h1 h2
  obtain ⟨o1, o2, o3⟩ := SrtO.ints_out hi h1 h2
  obtain ⟨ep, he⟩ := PyProof.Rows.sortedAll_at s.heap its out.toArray
  have hshort : ((out.map SrtO.iv).map V.int).length ≤ sizeLine := by
    rw [List.length_map, o2.length_eq]
    rw [List.length_map] at hz
    exact hz
  have lay := I.laid (t' := s.toks) (a := s.heap.objs.size + 1) (o := .lst ((out.map SrtO.iv).map V.int)) (fun _ _ => PyProof.Rows.sortedAll_old) (Nat.le_succ _)
    ⟨hshort, out, ep, vals_of_ints o1, he⟩
  exact ⟨.ref _, _, lay, rfl, q _ _ o2 o3 (I.hok.fresh (Nat.le_succ _))⟩
end Par
namespace Par
open PySem PySem.Spec PyProof.Rows L2
theorem meets_enumT (l : Addr) (items : Array Value) :
    Meets (Builtin.«enumerate.__new__» ⟨[.type "enumerate", .ref l], []⟩) (fun _ R s => s.heap.IsTuple l items ∧
      R (.ok (.ret (.ref (s.heap.push { cls := .type "tuple_iterator", data := .fields #[.ref l, .int 0 0] }).objs.size)))
        { s with heap := (s.heap.push { cls := .type "tuple_iterator", data := .fields #[.ref l, .int 0 0] }).push { cls := .type "enumerate", data := .fields #[.none, .bool false, .ref s.heap.objs.size, rawInt 0, .none, .none] } }) := by
  refine .of_wp ?_
  rintro prog w A R ⟨hp, g, d, tk, os⟩ ⟨h1, h⟩
  have sub1 := sub_enumerate
  have it1 : ∀ {B : Around} {E : Value → Shared → Prop} {Q : Value → Shared → Prop},
      Q (.ref hp.objs.size) ⟨hp.push { cls := .type "tuple_iterator", data := .fields #[.ref l, .int 0 0] }, g, d, tk, os⟩ → wpAny (model prog w) B (pyIter (.ref l)) Q E ⟨hp, g, d, tk, os⟩ :=
    fun q => (begins_tuple l items).iter prog w _ _ ⟨hp, g, d, tk, os⟩ _ h1 q
  wp_walk using it1
  refine wpAny_stack_any (fun st => wpAny_pure ?_)
  split
  · rename_i c _ _ _ _ _
    cases (c == Value.type "enumerate") <;> (wp_walk using it1; exact ⟨_, rfl, h⟩)
  · wp_walk using it1
    exact ⟨_, rfl, h⟩
section
variable {prog : Program} {w : World} {A : Around} {E : Value → Shared → Prop} {s : Shared}
theorem call_enumT {l : Addr} {items : Array Value} {Q : Value → Shared → Prop} (hL : s.heap.IsTuple l items)
    (h : ∀ h', IsEnum h' (s.heap.objs.size + 1) s.heap.objs.size 0 .none → h'.IsTupleIter s.heap.objs.size l 0 → (∀ b o, s.heap.get? b = some o → h'.get? b = some o) →
      Q (.ref (s.heap.objs.size + 1)) { s with heap := h' }) : wpAny (model prog w) A (call (.type "enumerate") [.ref l]) Q E s := by
  refine callType_new F.called_enumerate (by decide) (F.typeCall_enumerate_1 _) (F.newCall_enumerate_1 _) (fun obj => F.args_object_init_2 obj _) F.entry_enumerate_new (meets_enumT l items) ⟨hL, ?_⟩
  generalize eg : s.heap.push { cls := .type "tuple_iterator", data := .fields #[.ref l, .int 0 0] } = g
  have hz : g.objs.size = s.heap.objs.size + 1 := by rw [← eg]; exact Heap.size_push ..
  have hi : g.get? s.heap.objs.size = some { cls := .type "tuple_iterator", data := .fields #[.ref l, .int 0 0] } := by rw [← eg]; exact Heap.get?_push_size _ rfl
  have hk : ∀ b o, s.heap.get? b = some o → g.get? b = some o := by rw [← eg]; exact fun b o x => Heap.get?_push_of_some _ x
  show _ ∧ _
  have he := Heap.get?_push_size g (o := { cls := .type "enumerate", data := .fields #[.none, .bool false, .ref s.heap.objs.size, rawInt 0, .none, .none] }) rfl
  rw [hz] at he ⊢
  exact ⟨⟨_, he, rfl⟩, h _ he ⟨_, Heap.get?_push_of_some _ hi, rfl, rfl⟩ fun b o x => Heap.get?_push_of_some _ (hk b o x)⟩
end
/-- the tuple at a, each item in a new pair -/
def ItEnT (K : PySem.W.Frag) (a : Addr) : It where
  go := fun i H => ∃ (xs : List V) (x : V), SqT K H a xs ∧ xs[i]? = some x
  yld := fun i H v H' => ∃ T x, v = .ref T ∧ H T = none ∧ H' = upd H T (.tup [.int (i : Nat), x]) ∧ ∀ xs, SqT K H a xs → xs[i]? = some x
  stop := fun i H => ∃ xs : List V, SqT K H a xs ∧ xs.length ≤ i
theorem turn_enumT {P : Program} {w : World} {K : PySem.W.Frag} {elts : List Expr} {kk : Nat} {tpos : Pos} (a e it : Addr) :
    Turn P w K (.Tuple elts kk tpos) (ItEnT K a) [e, it] e (fun i h => (∃ old, IsEnum h e it ((i : Nat) : Int) old) ∧ h.IsTupleIter it a i ∧ e ≠ it ∧ a ≠ it ∧ a ≠ e) where
  mem := by simp
  obj := by
    rintro i h ⟨⟨old, he⟩, ⟨o, ho, hc, hd⟩, _⟩ b hb
    rcases (show b = e ∨ b = it by simpa using hb) with rfl | rfl
    · exact ⟨_, he, fun v q => nomatch q⟩
    · exact ⟨o, ho, fun v q => by rw [hd] at q; cases q⟩
  keep := by
    rintro i h h' ⟨⟨old, he⟩, ⟨o, ho, r⟩, ne⟩ k
    exact ⟨⟨old, k e (by simp) _ he⟩, ⟨o, k it (by simp) o ho, r⟩, ne⟩
  item := by
    intro X hP hw hK hc i pins s σ H E I hf st hg
    subst hP hw hK
    obtain ⟨⟨old, he⟩, hit, hne, n1, n2⟩ := st
    obtain ⟨xs, x, hq, hx⟩ := hg
    obtain ⟨its, rv, p, hz⟩ := I.tuple hq
    obtain ⟨u, hu, ru⟩ := rv.get hx
    have hel : e < s.heap.objs.size := Heap.lt_size he
    have hil : it < s.heap.objs.size := let ⟨_, q, _⟩ := hit; Heap.lt_size q
    have hlt : i < its.toArray.size := by
      rcases Nat.lt_or_ge i its.length with z | z
      · simpa using z
      · rw [List.getElem?_eq_none z] at hu
        cases hu
    have hh : X.A.in1.handled = none := I.ok.hd hc
    refine wpAny_pyNext_enum_itemD (Draws.tuple hh it a n1 its.toArray) he ⟨hit, p⟩ hlt hne (by simp [hne, Ne.symm n2]) ?_
    intro y h1 tk hy ho hit1 hT hsz hk
    have ey : y = u := by
      have q : its.toArray[i]? = some u := by simpa using hu
      rw [hy] at q
      exact Option.some.inj q
    subst ey
    refine ⟨_, rfl, wpAny_letOwnedTupleGo_enum (s := { s with heap := h1, toks := tk + 1 }) ho ?_⟩
    intro h2 he2 sb
    have hT2 : h2.get? s.heap.objs.size = some { cls := .type "tuple", data := .seq #[.int i tk, y] } := (sb.2 _ (Nat.ne_of_gt hel)).trans hT
    have new : ObjOk X.prog X.w (upd H s.heap.objs.size (.tup [.int (i : Nat), x])) h2 s.heap.objs.size (.tup [.int (i : Nat), x]) :=
      ⟨by show 2 ≤ sizeLine; decide, [.int i tk, y], .cons ⟨_, rfl⟩ (.cons ru .nil), ⟨_, hT2, rfl, _, rfl⟩⟩
    have I1 : L2.Inv X pins σ (upd H s.heap.objs.size (.tup [.int (i : Nat), x])) { s with heap := h2, toks := tk + 1 } := by
      refine I.turnedNew (ch := [e, it]) ?_ hf (Nat.le_refl _) new
      intro b ob hb q
      have b1 : b ≠ e := fun z => hb (by simp [z])
      exact (sb.2 b b1).trans (hk b ob b1 (fun z => hb (by simp [z])) q)
    refine ⟨.ref s.heap.objs.size, _, I1, rfl, ⟨_, x, rfl, I.hok.fresh (Nat.le_refl _), rfl, ?_⟩, ⟨⟨y, ?_⟩, ?_, hne, n1, n2⟩, ?_⟩
    · intro ys hy
      rw [I.tuple_inj hy hq]
      exact hx
    · have e1 : ((i + 1 : Nat) : Int) = (i : Int) + 1 := by omega
      rw [e1]
      exact he2
    · obtain ⟨o, q, r⟩ := hit1.1
      exact ⟨o, (sb.2 it (Ne.symm hne)).trans q, r⟩
    · intro b hb
      have hb2 : b < s.heap.objs.size := by
        rcases (show b = e ∨ b = it by simpa using hb) with rfl | rfl
        · exact hel
        · exact hil
      rw [upd_ne (Nat.ne_of_lt hb2)]
      exact (hf b hb).1
  done := by
    intro X hP hw hK hc i pins s σ H E I hf st hg
    subst hP hw hK
    obtain ⟨⟨old, he⟩, hit, hne, n1, n2⟩ := st
    obtain ⟨xs, hq, hx⟩ := hg
    obtain ⟨its, rv, p, hz⟩ := I.tuple hq
    obtain ⟨f0, f1, f2, f3, f4, f5⟩ := hf it (by simp)
    have hh : X.A.in1.handled = none := I.ok.hd hc
    by_cases hi : i = its.toArray.size
    · subst hi
      refine wpAny_pyNext_enum_endD (Draws.tuple hh it a n1 its.toArray) he ⟨hit, p⟩ ?_
      intro h1 ex
      exact ⟨rfl, I.turned (t' := s.toks) (fun b o hb q => ex b o hb q) f0 f1 f3 f4 f5⟩
    · refine wpAny_bind (wpAny_attempt (wpAny_callSpecial?_slot (s := s) (name := Str.ofString "__next__") ⟨_, he, rfl⟩ F.slot_enumerate_next
        (wpAny_call_entry (s := s) F.slot_enumerate_next ⟨_, he, rfl⟩ F.entry_enumerate_next ?_ (F.args_enumerate_next_1 _))))
      show wpAny _ _ (field (Value.ref e) 2 >>= _) _ _ s
      refine wpAny_bind (wpAny_field (s := s) he rfl (x := .ref it) rfl ?_)
      refine wpAny_bind (wpAny_nextOf_tuple_end hh hit p (by simp; have := rv.length; omega) ?_)
      rintro h1 z ex ⟨o, ho, hcl⟩
      refine wpAny_bind (wpAny_isInstance (T := "StopIteration") (b := true) ⟨o, ho, hcl⟩ isSubtype_stop ?_)
      exact wpAny_pure ⟨rfl, I.turned (t' := s.toks) (fun b o hb q => ex b o hb q) f0 f1 f3 f4 f5⟩
  self := by
    rintro A i s Q E ⟨⟨_, he⟩, _⟩ h
    exact wpAny_pyIter_enum he h
def iEnumT (K : PySem.W.Frag) (ta : TA) : TI := fun σ H R => ta σ H fun vs H1 => ∃ a xs, vs = [.ref a] ∧ SqT K H1 a xs ∧ R (ItEnT K a) H1
/-- for i, x in enumerate(t), t a tuple -/
theorem pi_enumT {X : Cx} {e : Expr} {ta : TA} {p pos tpos : Pos} {elts : List Expr} {kk : Nat} (hg : Gl X "enumerate") (hm : X.mg "enumerate" = none) (ha : PA X [e] ta)
    (hs : starEach [e] X.env = [(false, eval e X.env)] := by rfl) : PI X (.Tuple elts kk tpos) (.Call (.Name "enumerate" p) [e] [] pos) (iEnumT X.K ta) := by
  constructor
  intro pins s σ H R I h
  refine Call_ (ld_blt I hg hm boot_enumerate (PyProof.Rows.callWith_type1 (thn (ha.run pos pins s σ H _ I h) ?_) hs rfl))
  rintro us s1 ⟨vs, H1, I1, r1, a, xs, rfl, hq, q⟩
  cases r1 with
  | cons r rr =>
    cases rr
    cases r
    obtain ⟨its, rv, pl, hz⟩ := I1.tuple hq
    refine call_enumT pl ?_
    intro h1 he hit hk
    refine wpAny_pyIter_enum he ?_
    have I2 : L2.Inv X pins σ H1 { s1 with heap := h1 } := I1.kept (t' := s1.toks) hk
    have al : a < s1.heap.objs.size := pl.lt
    refine ⟨s1.heap.objs.size + 1, [s1.heap.objs.size + 1, s1.heap.objs.size], _, _, H1, rfl, I2, turn_enumT a (s1.heap.objs.size + 1) s1.heap.objs.size,
      ⟨⟨.none, he⟩, hit, Nat.succ_ne_self _, Nat.ne_of_lt al, Nat.ne_of_lt (Nat.lt_succ_of_lt al)⟩, ?_, q⟩
    intro b hb
    have hle : s1.heap.objs.size ≤ b := by
      rcases (show b = s1.heap.objs.size + 1 ∨ b = s1.heap.objs.size by simpa using hb) with z | z
      · rw [z]
        exact Nat.le_succ _
      · rw [z]
        exact Nat.le_refl _
    exact I1.fpOk hle (I1.hok.fresh hle)
theorem walk_enumT {K : PySem.W.Frag} {a : Addr} {xs : List V} :
    Walk (ItEnT K a) xs.length (fun H => SqT K H a xs) (YPair (fun i => some (.int (i : Nat))) (fun i => xs[i]?)) where
  goes := fun i H hi h => ⟨xs, xs[i], h, by simp [hi]⟩
  stops := fun H h => ⟨xs, h, Nat.le_refl _⟩
  yields := by
    rintro i H v H' hi h ⟨T, x, rfl, hn, rfl, hx⟩
    exact ⟨T, _, x, rfl, hn, rfl, rfl, hx xs h⟩
end Par
namespace Par
open PySem PySem.Spec PyProof.Rows L2

section
variable {X : Cx} {CX : CXT} {k : Nat} {f : Addr} {fd : FuncData} {ps ks : List Str} {sp : Sp} {E : XK} {x : Str} {p pos : Pos} {kws : List Keyword} {tk : TA}
  {g : List Value → List Value → List Value} {gV : List V → List V → List V}
/-- f(k = v, ..), no positional argument -/
theorem pe_callN0 (F : FnOk X.prog X.w X.K X.mg X.base CX k f fd ps sp) (hr : Room k X.A) (hg : Gl X x) (hm : X.mg x = some (.ref f))
    (hk : PySem.W.keepIn X.K (.ref f) = true) (hb : KBn X.K fd ps 0 ks g gV) (hx : Passes CX X E) (hkw : PK X kws tk)
    (hall : (backToKw pos (keywordEach kws X.env)).all (·.1.isSome) = true := by rfl)
    (hks : (backToKw pos (keywordEach kws X.env)).filterMap (·.1) = ks := by rfl)
    (hdb : (x == ("__debug__" : Str)) = false := by decide)
    (hpl : ((backTo pos (starEach [] X.env)).any (·.1) || (backToKw pos (keywordEach kws X.env)).any (·.1.isNone)) = false := by rfl) :
    PE X (.Call (.Name x p) [] kws pos) (tCallN 0 ks.length sp gV E tNil tk) := by
  constructor
  intro pins s σ H Q I h
  refine wpAny_Call_Name_kw (ld_glob I hg hm ?_ hdb)
  refine PySem.W.callWith_KW0 (h₀ := X.base) I.ok.mod.kin hk hall ?_ hpl
  refine thn (hkw.run pos pins s σ H _ I h) ?_
  rintro ws s2 ⟨zs, H2, I2, rz, l1, l2, q2⟩
  refine ⟨I2.kIn, ?_⟩
  rw [hks]
  exact run_fnN F hr hb hx I2 .nil rz l1 l2 q2
end

/-! ### a new list whose place is not that of sys.modules -/
def tLstS (t : TA) : TE := fun σ H Q => t σ H fun xs H1 => xs.length ≤ sizeLine ∧ ∀ p, H1 p = none → p ≠ sysModules → Q (.ref p) (upd H1 p (.lst xs))
theorem new_ne_sys {X : Cx} {pins : List (Addr × Obj)} {σ : L2.St} {H : Hp} {s : Shared} (I : Inv X pins σ H s) : s.heap.objs.size ≠ sysModules := by
  obtain ⟨o, _, _, e, _⟩ := I.ok.mod.glob
  have h1 := Heap.lt_size (I.bk _ _ e)
  intro z
  rw [z] at h1
  exact absurd h1 (by decide)
theorem pe_lstS {X : Cx} {es : List Expr} {t : TA} {pos : Pos} (h : PA X es t) : PE X (.List es pos) (tLstS t) := by
  constructor
  intro pins s σ H Q I hq
  refine wpAny_List_spliced (thn (h.run pos pins s σ H _ I hq) ?_)
  rintro us s1 ⟨xs, H1, I1, r, z, q⟩
  refine ⟨by rw [← r.length]; exact z, ?_⟩
  have free : H1 s1.heap.objs.size = none := I1.hok.fresh (Nat.le_refl _)
  have lay := I1.laid (t' := s1.toks) (o := .lst xs) (h' := s1.heap.push { cls := .type "list", data := .seq us.toArray 0 })
    (fun b u e => Heap.get?_push_of_some _ e) (Nat.le_refl _) ⟨z, us, 0, r, Heap.get?_push_size _ rfl⟩
  exact ⟨V.ref s1.heap.objs.size, _, lay, rfl, q _ free (new_ne_sys I1)⟩

/-! ### repr -/
/-- a value that is no container, or a dict with keys and values that are none -/
inductive Fl (H : Hp) : V → PyData → Prop
  | non : Fl H .non .none
  | bl (b : Bool) : Fl H (.bl b) (.bool b)
  | int (i : Int) : Fl H (.int i) (.int i)
  | str (x : Str) : Fl H (.str x) (.str x)
  | dic0 {a : Addr} : H a = some (.dK []) → Fl H (.ref a) (.dict [])
  | dic1 {a : Addr} {i j : Int} : H a = some (.dK [(Sum.inl i, .int j)]) → Fl H (.ref a) (.dict [(.int i, .int j)])
inductive FlAll (H : Hp) : List V → List PyData → Prop
  | nil : FlAll H [] []
  | cons {v : V} {vs : List V} {d : PyData} {ds : List PyData} : Fl H v d → FlAll H vs ds → FlAll H (v :: vs) (d :: ds)
/-- what repr is asked of: data without a dict, a flat thing, a list of flat things -/
inductive Dx (K : PySem.W.Frag) (H : Hp) : V → PyData → Prop
  | dp {v : V} {d : PyData} : Dp K H v d → Dx K H v d
  | fl {v : V} {d : PyData} : Fl H v d → Dx K H v d
  | lst {a : Addr} {xs : List V} {ds : List PyData} : H a = some (.lst xs) → a ≠ sysModules → FlAll H xs ds → Dx K H (.ref a) (.list ds)

mutual
theorem dp_nodict {K : PySem.W.Frag} {H : Hp} : ∀ (d : PyData) (v : V), Dp K H v d → d.hasDict = false
  | .none, _, _ => rfl
  | .bool _, _, _ => rfl
  | .int _, _, _ => rfl
  | .str _, _, _ => rfl
  | .list ds, _, h => by
    cases h with
    | lst _ ha => exact dps_nodict ds _ ha
  | .tuple ds, _, h => by
    cases h with
    | tup _ ha => exact dps_nodict ds _ ha
  | .dict _, _, h => by cases h
theorem dps_nodict {K : PySem.W.Frag} {H : Hp} : ∀ (ds : List PyData) (vs : List V), DpAll K H vs ds → PyData.hasDictAll ds = false
  | [], _, _ => rfl
  | d :: ds, _, h => by
    cases h with
    | cons h1 h2 =>
      show (d.hasDict || PyData.hasDictAll ds) = false
      rw [dp_nodict d _ h1, dps_nodict ds _ h2]
      rfl
end

section
variable {X : Cx} {pins : List (Addr × Obj)} {σ : L2.St} {H : Hp} {s : Shared}
theorem fl_reads (I : Inv X pins σ H s) {v : V} {d : PyData} {u : Value} (h : Fl H v d) (r : RelV v u) : ∃ as, Reads s.heap u d as ∧ sysModules ∉ as := by
  cases h with
  | non =>
    cases r
    exact ⟨_, Reads.none, by simp⟩
  | bl b =>
    cases r
    exact ⟨_, Reads.bool b, by simp⟩
  | int i =>
    obtain ⟨t, rfl⟩ := r
    exact ⟨_, Reads.int i t, by simp⟩
  | str x =>
    obtain ⟨t, rfl⟩ := r
    exact ⟨_, Reads.str x t, by simp⟩
  | @dic0 a e =>
    cases r
    obtain ⟨_, ns, vs, kv, o, es, ep, ho, hx, hd, hk, hp, _⟩ := dk_of I.hok e
    cases kv
    have ne : sysModules ≠ a := fun z => by rw [← z] at ns; exact absurd ns (by decide)
    cases hes : es.toList with
    | cons e1 t1 => rw [hes] at hp; cases hp
    | nil =>
      refine ⟨_, Reads.dict (kvs := []) (as := []) (bs := []) ho hx.1 hd (by rw [hes]; exact ReadsAll.nil) (by rw [hes]; exact ReadsAll.nil), ?_⟩
      simpa using ne
  | @dic1 a i j e =>
    cases r
    obtain ⟨_, ns, vs, kv, o, es, ep, ho, hx, hd, hk, hp, _⟩ := dk_of I.hok e
    have ne : sysModules ≠ a := fun z => by rw [← z] at ns; exact absurd ns (by decide)
    cases kv with
    | @cons _ q _ _ k1 k2 =>
      cases k2
      obtain ⟨k, u⟩ := q
      obtain ⟨e1, t, e2⟩ := k1
      have e1' : Sum.inl i = k := e1
      have e2' : u = Value.int j t := e2
      subst e1' e2'
      cases hes : es.toList with
      | nil => rw [hes] at hp; cases hp
      | cons e1 t1 =>
        rw [hes] at hp
        cases hp with
        | cons p1 p3 p2 =>
          cases p2
          have p1' : keyIs (Sum.inl i) e1.key = true := p1
          rcases keyIs_shape p1' with ⟨i2, t2, w1, w2⟩ | ⟨x2, t2, w1, w2⟩
          · cases w1
            have p3' : e1.val = Value.int j t := p3
            refine ⟨_, Reads.dict (kvs := [(.int i, .int j)]) ho hx.1 hd (as := [] ++ []) (bs := [] ++ []) ?_ ?_, ?_⟩
            · rw [hes]
              show ReadsAll s.heap [e1.key] [PyData.int i] ([] ++ [])
              rw [w2]
              exact ReadsAll.cons (Reads.int i t2) ReadsAll.nil
            · rw [hes]
              show ReadsAll s.heap [e1.val] [PyData.int j] ([] ++ [])
              rw [p3']
              exact ReadsAll.cons (Reads.int j t) ReadsAll.nil
            · simpa using ne
          · cases w1
theorem flAll_reads (I : L2.Inv X pins σ H s) : ∀ {vs : List V} {ds : List PyData} {us : List Value}, FlAll H vs ds → Vals vs us → ∃ as, ReadsAll s.heap us ds as ∧ sysModules ∉ as
  | _, _, _, .nil, .nil => ⟨_, ReadsAll.nil, by simp⟩
  | _, _, _, .cons h1 h2, .cons r1 r2 => by
    obtain ⟨as, q1, n1⟩ := fl_reads I h1 r1
    obtain ⟨bs, q2, n2⟩ := flAll_reads I h2 r2
    refine ⟨_, ReadsAll.cons q1 q2, ?_⟩
    intro z
    rcases List.mem_append.mp z with z | z
    · exact n1 z
    · exact n2 z
theorem dx_reads (I : L2.Inv X pins σ H s) {v : V} {d : PyData} {u : Value} (h : Dx X.K H v d) (r : RelV v u) :
    ∃ as, Reads s.heap u d as ∧ (d.hasDict = true → sysModules ∉ as) := by
  cases h with
  | dp h =>
    obtain ⟨as, q⟩ := Dp.reads I d v u h r
    refine ⟨as, q, fun z => ?_⟩
    rw [dp_nodict d v h] at z
    cases z
  | fl h =>
    obtain ⟨as, q, n⟩ := fl_reads I h r
    exact ⟨as, q, fun _ => n⟩
  | @lst a xs ds e ne h =>
    cases r
    obtain ⟨its, rv, ⟨o, n, ho, hc, _, hd⟩, _⟩ := I.list (a := a) (xs := xs) (SqL.of e)
    obtain ⟨as, q, nn⟩ := flAll_reads I h rv
    refine ⟨_, Reads.list ho hc hd q, fun _ z => ?_⟩
    rcases List.mem_cons.mp z with z | z
    · exact ne z.symm
    · exact nn z
end

section
variable {X : Cx}
/-- repr(x) where the guards are none -/
theorem cr_repr (gs : X.A.guards = some []) (hu : X.A.units + 64 < cLine) : CallR X (.builtin "repr") (fun xs H Q => ∃ v d, xs = [v] ∧ Dx X.K H v d ∧
    d.showable = true ∧ d.depth ≤ 40 ∧ d.shown.length ≤ sizeLine ∧ Q (.str d.shown) H) := by
  intro pins s σ H xs us Q I r h
  obtain ⟨v, d, rfl, hd, sh, dep, len, q⟩ := h
  cases r with
  | @cons _ u _ _ r1 r2 =>
    cases r2
    obtain ⟨as, rd, ns⟩ := dx_reads I hd r1
    have fin : ∀ (h' : Heap) (tk u' : Nat), (∀ b o, s.heap.get? b = some o → h'.get? b = some o) → EP X pins σ Q (.str d.shown u') { s with heap := h', toks := tk } :=
      fun h' tk u' k => ⟨.str d.shown, H, I.un (t' := tk) (Un.kept k) (I.hok.kept k), ⟨_, rfl⟩, q⟩
    cases u with
    | ref a => exact repr_of_reads' rd sh ns gs (by omega) (fun _ _ z => z) (fun h' u tk k => fin h' tk u k) len
    | none => cases rd; exact PySem.P.repr_of_none (fin s.heap _ _ fun _ _ z => z)
    | bool b => cases rd; exact PySem.P.repr_of_bool (fin s.heap _ _ fun _ _ z => z)
    | int i t => cases rd; exact PySem.P.repr_of_int (by simpa [PyData.showable] using sh) (fin s.heap _ _ fun _ _ z => z)
    | str x t => cases rd; exact PySem.P.repr_of_str (fin s.heap _ _ fun _ _ z => z) len
    | _ => cases rd
end
end Par
namespace Par
open PySem PySem.Spec PyProof.Rows L2
/-! ### data stays data -/
theorem sqL_same {K : PySem.W.Frag} {H H' : Hp} {a : Addr} {xs : List V} (s : Same H H') (h : SqL K H a xs) : SqL K H' a xs := s.seq h
theorem sqT_same {K : PySem.W.Frag} {H H' : Hp} {a : Addr} {xs : List V} (s : Same H H') (h : SqT K H a xs) : SqT K H' a xs := by
  rcases h with (h | ⟨o, h⟩) | h
  · exact .inl (.inl (s _ _ h))
  · exact .inl (.inr ⟨o, s _ _ h⟩)
  · exact .inr h
mutual
theorem dp_same {K : PySem.W.Frag} {H H' : Hp} (s : Same H H') : ∀ (d : PyData) (v : V), Dp K H v d → Dp K H' v d
  | .none, _, h => by cases h; exact .non
  | .bool b, _, h => by cases h; exact .bl b
  | .int i, _, h => by cases h; exact .int i
  | .str x, _, h => by cases h; exact .str x
  | .list ds, _, h => by
    cases h with
    | lst q ha => exact .lst (sqL_same s q) (dps_same s ds _ ha)
  | .tuple ds, _, h => by
    cases h with
    | tup q ha => exact .tup (sqT_same s q) (dps_same s ds _ ha)
  | .dict _, _, h => by cases h
theorem dps_same {K : PySem.W.Frag} {H H' : Hp} (s : Same H H') : ∀ (ds : List PyData) (vs : List V), DpAll K H vs ds → DpAll K H' vs ds
  | [], _, h => by cases h; exact .nil
  | d :: ds, _, h => by
    cases h with
    | cons h1 h2 => exact .cons (dp_same s d _ h1) (dps_same s ds _ h2)
end
theorem fl_same {H H' : Hp} (s : Same H H') {v : V} {d : PyData} (h : Fl H v d) : Fl H' v d := by
  cases h with
  | non => exact .non
  | bl b => exact .bl b
  | int i => exact .int i
  | str x => exact .str x
  | dic0 e => exact .dic0 (s _ _ e)
  | dic1 e => exact .dic1 (s _ _ e)
/-- a thing that is handed in: flat, a dict, or a list or tuple of data -/
inductive Giv (K : PySem.W.Frag) (H : Hp) : V → PyData → Prop
  | fl {v : V} {d : PyData} : Fl H v d → Giv K H v d
  | lst {a : Addr} {xs : List V} {ds : List PyData} : H a = some (.lst xs) → DpAll K H xs ds → xs.length ≤ 200 → Giv K H (.ref a) (.list ds)
  | tup {a : Addr} {xs : List V} {ds : List PyData} : H a = some (.tup xs) → DpAll K H xs ds → xs.length ≤ 200 → Giv K H (.ref a) (.tuple ds)
theorem giv_same {K : PySem.W.Frag} {H H' : Hp} (s : Same H H') {v : V} {d : PyData} (h : Giv K H v d) : Giv K H' v d := by
  cases h with
  | fl f => exact .fl (fl_same s f)
  | lst e q l => exact .lst (s _ _ e) (dps_same s _ _ q) l
  | tup e q l => exact .tup (s _ _ e) (dps_same s _ _ q) l
theorem giv_dx {K : PySem.W.Frag} {H : Hp} {v : V} {d : PyData} (h : Giv K H v d) : Dx K H v d := by
  cases h with
  | fl f => exact .fl f
  | lst e q _ => exact .dp (.lst (SqL.of e) q)
  | tup e q _ => exact .dp (.tup (SqT.of e) q)
theorem dps_ints {K : PySem.W.Frag} {H : Hp} : ∀ ns : List Int, DpAll K H (ns.map V.int) (ns.map PyData.int)
  | [] => .nil
  | n :: ns => .cons (.int n) (dps_ints ns)
theorem dps_bools {K : PySem.W.Frag} {H : Hp} : ∀ bs : List Bool, DpAll K H (bs.map V.bl) (bs.map PyData.bool)
  | [] => .nil
  | n :: ns => .cons (.bl n) (dps_bools ns)
theorem dps_append {K : PySem.W.Frag} {H : Hp} : ∀ {xs ys : List V} {ds es : List PyData}, DpAll K H xs ds → DpAll K H ys es → DpAll K H (xs ++ ys) (ds ++ es)
  | _, _, _, _, .nil, h => h
  | _, _, _, _, .cons h1 h2, h => .cons h1 (dps_append h2 h)

/-! ### what is shown is short -/
def small (d : PyData) : Prop := d.showable = true ∧ d.depth ≤ 4 ∧ d.shown.length ≤ 200
def good (d : PyData) : Prop := d.showable = true ∧ d.depth ≤ 8 ∧ d.shown.length ≤ 200000
theorem log_lt {n k : Nat} (h : n < 2 ^ k) (hk : 0 < k) : n.log2 < k := by
  by_cases h0 : n = 0
  · subst h0
    exact hk
  · exact (Nat.log2_lt h0).mpr h
theorem small_int {i : Int} (h : i.natAbs < 2 ^ 100) : small (.int i) := by
  have h1 := log_lt h (by decide)
  refine ⟨?_, Nat.zero_le _, ?_⟩
  · show decide (i.natAbs.log2 < 1920) = true
    exact decide_eq_true (by omega)
  · show (Str.ofString (toString i)).length ≤ 200
    have h2 := int_text_length_le (a := i) (k := 100) (by decide) h1
    rw [PySem.ofString_length]
    omega
theorem small_bool (b : Bool) : small (.bool b) := by cases b <;> exact ⟨by decide, by decide, by decide +kernel⟩
theorem small_good {d : PyData} (h : small d) : good d := ⟨h.1, by have := h.2.1; omega, by have := h.2.2; omega⟩
theorem showAll {ds : List PyData} : (∀ d ∈ ds, d.showable = true) → PyData.showableAll ds = true := by
  induction ds with
  | nil => intro _; rfl
  | cons d ds ih =>
    intro h
    show (d.showable && PyData.showableAll ds) = true
    rw [h d (List.mem_cons_self ..), ih fun e he => h e (List.mem_cons_of_mem _ he)]
    rfl
theorem depthAll {ds : List PyData} {n : Nat} : (∀ d ∈ ds, d.depth ≤ n) → PyData.depthAll ds ≤ n := by
  induction ds with
  | nil => intro _; exact Nat.zero_le _
  | cons d ds ih =>
    intro h
    show max d.depth (PyData.depthAll ds) ≤ n
    have h1 := h d (List.mem_cons_self ..)
    have h2 := ih fun e he => h e (List.mem_cons_of_mem _ he)
    omega
theorem piledAll {ds : List PyData} {n : Nat} : (∀ d ∈ ds, d.shown.length ≤ n) → piled (PyData.shownAll ds) ≤ ds.length * (n + 2) := by
  induction ds with
  | nil => intro _; show 0 ≤ _; exact Nat.zero_le _
  | cons d ds ih =>
    intro h
    show piled (d.shown :: PyData.shownAll ds) ≤ _
    rw [piled_cons, List.length_cons, Nat.add_mul]
    have h1 := h d (List.mem_cons_self ..)
    have h2 := ih fun e he => h e (List.mem_cons_of_mem _ he)
    omega
theorem listText_le : ∀ ts : List Str, (listText ts).length ≤ piled ts + 2
  | [] => by
    rw [listText_nil]
    show Str.length (Str.ofString "[]") ≤ 2
    decide +kernel
  | t :: ts => by
    have h := textFrom_length_pos ts 1 (Str.ofString "[" ++ Str.ofString "" ++ t) (by decide)
    have e1 : (Str.ofString "[" ++ Str.ofString "" ++ t).length = 1 + t.length := by
      rw [strLen_append, strLen_append]
      rfl
    have e2 : (listText (t :: ts)).length = (textFrom 1 (Str.ofString "[" ++ Str.ofString "" ++ t) ts).length + 1 := strLen_append _ _
    rw [e2, h, e1, piled_cons]
    omega
theorem tupleText_le (ts : List Str) : (tupleText ts).length ≤ piled ts + 4 := by
  have e1 : (Str.ofString "(").length = 1 := by decide +kernel
  have e3 : (Str.ofString (if ts.length == 1 then ",)" else ")")).length ≤ 2 := by split <;> decide +kernel
  have e4 : (tupleText ts).length = (Str.ofString "(").length + (Str.join ", " ts).length + (Str.ofString (if ts.length == 1 then ",)" else ")")).length := by
    unfold tupleText
    rw [strLen_append, strLen_append]
  by_cases h : ts = []
  · subst h
    decide +kernel
  · have := join_length_add ts h
    omega
theorem good_list {ds : List PyData} (h : ∀ d ∈ ds, small d) (hl : ds.length ≤ 300) : good (.list ds) := by
  refine ⟨showAll fun d hd => (h d hd).1, ?_, ?_⟩
  · show PyData.depthAll ds + 1 ≤ 8
    have := depthAll (n := 4) fun d hd => (h d hd).2.1
    omega
  · show (listText (PyData.shownAll ds)).length ≤ 200000
    have h1 := listText_le (PyData.shownAll ds)
    have h2 := piledAll (n := 200) fun d hd => (h d hd).2.2
    have h3 : ds.length * (200 + 2) ≤ 300 * (200 + 2) := Nat.mul_le_mul_right _ hl
    omega
theorem good_tuple {ds : List PyData} (h : ∀ d ∈ ds, small d) (hl : ds.length ≤ 300) : good (.tuple ds) := by
  refine ⟨showAll fun d hd => (h d hd).1, ?_, ?_⟩
  · show PyData.depthAll ds + 1 ≤ 8
    have := depthAll (n := 4) fun d hd => (h d hd).2.1
    omega
  · show (tupleText (PyData.shownAll ds)).length ≤ 200000
    have h1 := tupleText_le (PyData.shownAll ds)
    have h2 := piledAll (n := 200) fun d hd => (h d hd).2.2
    have h3 : ds.length * (200 + 2) ≤ 300 * (200 + 2) := Nat.mul_le_mul_right _ hl
    omega
/-- a short list of good things can be shown -/
theorem shown_list {ds : List PyData} (h : ∀ d ∈ ds, good d) (hl : ds.length ≤ 8) : (PyData.list ds).showable = true ∧ (PyData.list ds).depth ≤ 40 ∧ (PyData.list ds).shown.length ≤ sizeLine := by
  refine ⟨showAll fun d hd => (h d hd).1, ?_, ?_⟩
  · show PyData.depthAll ds + 1 ≤ 40
    have := depthAll (n := 8) fun d hd => (h d hd).2.1
    omega
  · show (listText (PyData.shownAll ds)).length ≤ sizeLine
    have h1 := listText_le (PyData.shownAll ds)
    have h2 := piledAll (n := 200000) fun d hd => (h d hd).2.2
    have h3 : ds.length * (200000 + 2) ≤ 8 * (200000 + 2) := Nat.mul_le_mul_right _ hl
    rw [sizeLine_eq]
    omega
theorem shown_good {d : PyData} (h : good d) : d.showable = true ∧ d.depth ≤ 40 ∧ d.shown.length ≤ sizeLine := by
  obtain ⟨h1, h2, h3⟩ := h
  refine ⟨h1, by omega, ?_⟩
  rw [sizeLine_eq]
  omega
end Par
namespace Par
open PySem PySem.Spec PyProof.Rows L2
/-- a statement that is never reached -/
theorem ps_off {X : Cx} {st : Stmt} : PS X st (fun _ _ _ => False) := ⟨fun _ _ _ _ _ _ h => h.elim⟩
/-- o.m(k = v, ..) -/
def tMethK (C : Addr) (m : Str) (n : Nat) (sp : Sp) (gV : List V → List V → List V) (E : XK) (ta : TE) (tk : TA) : TE := fun σ H Q => ta σ H fun x H1 => ∃ a dx fs, x = .ref a ∧ H1 a = some (.ins C dx fs) ∧ fs.lookup m = none ∧
  tk σ H1 fun zs H2 => zs.length = n ∧ sp (gV [x] zs) H2 Q E
section
variable {X : Cx} {CX : CXT} {k : Nat} {f C : Addr} {fd : FuncData} {ps ks : List Str} {sp : Sp} {E : XK} {x m : Str} {p pos apos : Pos} {e o : Expr} {es : List Expr} {kws : List Keyword} {ta : TE} {t tk : TA}
  {g : List Value → List Value → List Value} {gV : List V → List V → List V}
theorem pe_methK {pl : Sem Bool} (he : PE X o ta) (c : Cls X.K C) (hm : Meth X.K C m f) (F : FnOk X.prog X.w X.K X.mg X.base CX k f fd ps sp) (hr : Room k X.A) (hb : KBn X.K fd ps 1 ks g gV) (hx : Passes CX X E) (hkw : PK X kws tk)
    (hall : (backToKw pos (keywordEach kws X.env)).all (·.1.isSome) = true := by rfl) (hks : (backToKw pos (keywordEach kws X.env)).filterMap (·.1) = ks := by rfl)
    (hpl : ((backTo pos (starEach [] X.env)).any (·.1) || (backToKw pos (keywordEach kws X.env)).any (·.1.isNone)) = false := by rfl)
    (ht : eval (.Call (.Attribute o m apos) [] kws pos) X.env = (do
      let ov ← eval o X.env
      standAt apos.atName
      let (f, first) ← holding [ov] (getMethod ov m pl)
      callWith pos f first (backTo pos (starEach [] X.env)) (backToKw pos (keywordEach kws X.env))) := by rfl) :
    PE X (.Call (.Attribute o m apos) [] kws pos) (tMethK C m ks.length sp gV E ta tk) := by
  refine ⟨fun pins s σ H Q I h => ?_⟩
  refine PySem.W.methodCall_KW (pl := pl) (thn (he.run pins s σ H _ I h) ?_) ht
  rintro u s1 ⟨x, H1, I1, rx, a, dx, fs, ex, ea, l, q⟩
  subst ex
  obtain rfl : u = Value.ref a := rx
  refine getmeth_ok I1 ea c hm l ?_
  refine PySem.W.callWith_KW0 (first := [.ref a]) (h₀ := X.base) I.ok.mod.kin hm.kp hall ?_ hpl
  refine thn (hkw.run pos pins s1 σ H1 _ I1 q) ?_
  rintro ws s2 ⟨zs, H2, I2, rz, l2, q2⟩
  refine ⟨I2.kIn, ?_⟩
  rw [hks]
  have r1 : Vals [V.ref a] ([.ref a] ++ []) := .cons rfl .nil
  refine wpAny_call (codeAny_mono (F.run X.A X.stack s2 H2 ⟨[.ref a] ++ [], ks.zip ws⟩ (g [.ref a] ws) (gV [.ref a] zs) Q E hr I2.env0
    (hb.to s2 [.ref a] ws I2.kIn rfl (rz.length.symm.trans l2)) (hb.rel r1 rz) q2) ?_)
  intro res s3 hq
  cases res with
  | error er => exact hx pins σ H2 s2 er s3 I2 hq
  | ok fl =>
    cases fl with
    | ret u => exact I2.after hq
    | next => exact False.elim hq
    | brk => exact False.elim hq
    | cont => exact False.elim hq
/-- len(o), o an own instance whose class has __len__ -/
theorem cr_lenOwn (c : PySem.W.findIn X.K (.ref C) "__len__" = some (some (.ref f))) (hf : PySem.W.isFn X.K (.ref f) = true) (F : FnOk X.prog X.w X.K X.mg X.base CX k f fd ps sp) (hr : Room (k + 1) X.A) (hb : Binds X.K fd ps []) (hx : Passes CX X E) :
    CallR X (.builtin "len") (fun vs H Q => ∃ a dx fs, vs = [.ref a] ∧ H a = some (.ins C dx fs) ∧ sp [.ref a] H (fun v H2 => ∃ n : Int, v = .int n ∧ 0 ≤ n ∧ n < 2 ^ 63 ∧ Q (.int n) H2) E) := by
  intro pins s σ H vs us Q I r h
  obtain ⟨a, dx, fs, rfl, ha, q⟩ := h
  rw [Vals.ref1 r]
  obtain ⟨mA, O, _⟩ := ins_get I.hok ha
  obtain ⟨od, J, hl⟩ := O.look
  refine Calls.call_function_entry kind_len plain_len entry_len (args_len1 _) ?_
  unfold Builtin.«len»
  refine wpAny_bind (m := oneArg "len" _) (wpAny_pure ?_)
  refine wpAny_bind (m := callSpecial? (.ref a) (Str.ofString "__len__")) (PySem.W.special_fn I.kIn J c (beq_iff_eq.mp hf) ?_)
  have hlen : ([Value.ref a] ++ []).length = ps.length := F.len _ _ _ _ q
  refine wpAny_call (codeAny_mono (F.run X.A.in1 X.stack s H ⟨[.ref a], []⟩ [.ref a] [.ref a] _ E hr.in1 I.env0.in1 (hb s [.ref a] I.kIn hlen) (.cons rfl .nil) q) ?_)
  intro res s3 hq
  cases res with
  | error er => exact hx pins σ H s er s3 I hq
  | ok fl =>
    cases fl with
    | next => exact False.elim hq
    | brk => exact False.elim hq
    | cont => exact False.elim hq
    | ret u =>
      obtain ⟨v, H3, I3, rv, n, rfl, n0, n1, q3⟩ := I.after hq
      obtain ⟨tk, rfl⟩ := rv
      refine wpAny_bind (wpAny_holding (wpAny_pure ?_))
      refine wpAny_bind (wpAny_letGo ?_)
      show wpAny _ _ (if n < 0 then _ else _) _ _ _
      rw [if_neg (by omega)]
      show wpAny _ _ (if n ≥ 2 ^ 63 then _ else _) _ _ _
      rw [if_neg (by omega)]
      exact wpAny_bind (wpAny_mkInt (wpAny_pure ⟨_, rfl, .int n, H3, I3.tok _, ⟨_, rfl⟩, q3⟩))
end
end Par
namespace K92
open PySem PySem.Spec PyProof.Rows L2 Par
def topS (i : Nat) : Stmt := PySem.Challenge.pw_paritycells_k92_whole_texts_spoilt.main.body.getD i (.Pass ⟨0, 0, 0, 0⟩)
abbrev sInteger : Stmt := topS 9
abbrev sBetween : Stmt := topS 10
abbrev sIsSize : Stmt := topS 13
abbrev sIsCell : Stmt := topS 14
abbrev sAre : Stmt := topS 15
abbrev sCells : Stmt := topS 16
abbrev sAdded : Stmt := topS 17
abbrev sPot : Stmt := topS 38
abbrev sDraw : Stmt := topS 39
abbrev sWidth : Stmt := topS 40
abbrev sSpots : Stmt := topS 41
abbrev sBits : Stmt := topS 43
abbrev sShare : Stmt := topS 18
abbrev sLaw : Stmt := topS 55
abbrev sPair : Stmt := topS 42
abbrev sWritten : Stmt := topS 19
abbrev slTextOf : Stmt := topS 44
abbrev slPairText : Stmt := topS 45
abbrev slBitsText : Stmt := topS 46
abbrev slAreCells : Stmt := topS 47
abbrev slOwnSpots : Stmt := topS 48
abbrev slIsFlip : Stmt := topS 49
abbrev slIsBoard : Stmt := topS 50
abbrev slRead : Stmt := topS 51
abbrev slTold : Stmt := topS 52
abbrev slDue : Stmt := topS 53
abbrev slBent : Stmt := topS 54
abbrev mInit : Stmt := inClass (topS 21) 0
abbrev mEq : Stmt := inClass (topS 21) 1
abbrev mLen : Stmt := inClass (topS 21) 2
abbrev mRepr : Stmt := inClass (topS 21) 3
abbrev mStr : Stmt := inClass (topS 21) 4
abbrev mSize : Stmt := inClass (topS 21) 5
abbrev mUps : Stmt := inClass (topS 21) 6
abbrev mIsUp : Stmt := inClass (topS 21) 7
abbrev mPar : Stmt := inClass (topS 21) 8
abbrev mTog : Stmt := inClass (topS 21) 9
abbrev gInit : Stmt := inClass (topS 23) 0
abbrev gEq : Stmt := inClass (topS 23) 1
abbrev gRepr : Stmt := inClass (topS 23) 2
abbrev gStr : Stmt := inClass (topS 23) 3
abbrev gTested : Stmt := inClass (topS 23) 4
abbrev gToggled : Stmt := inClass (topS 23) 5
abbrev gIdle : Stmt := inClass (topS 23) 6
abbrev gWidth : Stmt := inClass (topS 23) 7
/-- the built-in names that the module leaves alone -/
structure Bl (mg : Str → Option Value) : Prop where
  len : mg "len" = none
  abs : mg "abs" = none
  max : mg "max" = none
  min : mg "min" = none
  divmod : mg "divmod" = none
  list : mg "list" = none
  tuple : mg "tuple" = none
  range : mg "range" = none
  isinstance : mg "isinstance" = none
  bool : mg "bool" = none
  int : mg "int" = none
  sorted : mg "sorted" = none
  set : mg "set" = none
  all : mg "all" = none
  enumerate : mg "enumerate" = none
  repr : mg "repr" = none
  sum : mg "sum" = none

/-! ### the pot: two numbers that are not negative, the second one small -/
def PotAt (H : Hp) (p : Addr) : Prop := ∃ a b : Int, H p = some (.lst [.int a, .int b]) ∧ 0 ≤ a ∧ 0 ≤ b ∧ b < 2147483648
/-- all but what stands at p is as it was -/
def But (p : Addr) (H H' : Hp) : Prop := ∀ b o, b ≠ p → H b = some o → H' b = some o
theorem But.refl (p : Addr) (H : Hp) : But p H H := fun _ _ _ h => h
theorem But.trans {p : Addr} {H H1 H2 : Hp} (a : But p H H1) (b : But p H1 H2) : But p H H2 := fun c o n h => b c o n (a c o n h)
theorem But.upd {p : Addr} {H : Hp} (o : HO) : But p H (L2.upd H p o) := fun b u n h => by rw [upd_ne n]; exact h
theorem But.new {p q : Addr} {H : Hp} {o : HO} (n : H q = none) : But p H (L2.upd H q o) := fun b u _ h => by rw [upd_ne (ne_of_none h n)]; exact h
theorem But.same {p : Addr} {H H' : Hp} (h : Same H H') : But p H H' := fun b o _ e => h b o e
theorem PotAt.same {p : Addr} {H H' : Hp} (x : PotAt H p) (s : Same H H') : PotAt H' p := by
  obtain ⟨a, b, e, r⟩ := x
  exact ⟨a, b, s _ _ e, r⟩
theorem same_new {H : Hp} {q : Addr} {o : HO} (n : H q = none) : Same H (upd H q o) := fun b u h => by
  rw [upd_ne (ne_of_none h n)]
  exact h
theorem But.free {p q : Addr} {H H' : Hp} (h : But p H H') (x : PotAt H p) (n : H' q = none) (x' : PotAt H' p) : H q = none := by
  cases e : H q with
  | none => rfl
  | some o =>
    by_cases z : q = p
    · subst z
      obtain ⟨_, _, e', _⟩ := x'
      rw [n] at e'
      cases e'
    · rw [h q o z e] at n
      cases n

section
variable {P : Program} {w : World} {K : PySem.W.Frag} {mg : Str → Option Value} {base : Heap}

def spPot (K : PySem.W.Frag) : Sp := fun vs H Q _ => ∃ (a : Addr) (ns : List Int) (k : Nat), vs = [.ref a, .int (k : Int)] ∧ SqL K H a (ns.map V.int) ∧ k ≤ 1000 ∧
  ∀ p H', H p = none → Same H H' → PotAt H' p → Q (.ref p) H'
theorem scPot : FnScope ["_law_script", "_law_k", "_law_number"] ["_law_script", "_law_k"] (defScope sPot) := ⟨rfl, rfl, rfl, by decide +kernel, rfl, by decide +kernel, by decide +kernel⟩
theorem ok_pot {f : Addr} {fd : FuncData} (F : Fun K "_law_pot" "_law_pot" sPot f fd) (B : Bl mg) : FnOk P w K mg base CX0 2 f fd ["_law_script", "_law_k"] (spPot K) := by
  refine F.ok scPot (fun vs H Q E h => ?_) (fun cdv A outer s H vs Q E hr h => ?_)
  · obtain ⟨a, ns, k, rfl, _⟩ := h
    rfl
  · obtain ⟨a, ns, k, rfl, hS, hk, out⟩ := h
    refine ⟨_, pss_cons (ps_set (i := 2) scPot.nd rfl (Or.inl rfl) (pe_ifExp (pt_cmpR op_lt (pv 1) (pe_callB call_len_seq (by rfl) B.len PySem.boot_len (pa_cons (pv 0) pa_nil)) (nomark _)) (pe_ix ix_list (pv 0) (pv 1) (fun _ _ => rfl)) pe_int))
      (pss_one (ps_ret (pe_lst (pa_cons
        (pe_callB (call_max2 rfl) (by rfl) B.max (by decide +kernel) (pa_cons pe_int (pa_cons (pe_op op_sub (pe_callB call_abs (by rfl) B.abs (by decide +kernel) (pa_cons (pv 2) pa_nil)) (pe_op op_pow pe_int pe_int)) pa_nil)))
        (pa_cons (pe_op op_mod (pe_op op_add (pe_op op_add (pe_op op_mul (pe_op op_mod (pe_callB call_abs (by rfl) B.abs (by decide +kernel) (pa_cons (pv 2) pa_nil)) pe_int) pe_int) (pe_op op_mul pe_int (pv 1))) pe_int) pe_int) pa_nil))))), ?_⟩
    have hm : ∀ d : Int, (0 : Int) ≤ (if d < 0 then -d else d) % 2147483587 ∧ (if d < 0 then -d else d) % 2147483587 < 2147483587 := fun d => ⟨Int.emod_nonneg _ (by decide), Int.emod_lt_of_pos _ (by decide)⟩
    have two : ∀ x : Int, 0 ≤ (if x > 0 then x else 0) := fun x => by split <;> omega
    have fin : ∀ d : Int, ∀ p, H p = none → Q (.ref p) (upd H p (.lst [.int (if (if d < 0 then -d else d) - 10 ^ 18 > 0 then (if d < 0 then -d else d) - 10 ^ 18 else 0),
        .int (((if d < 0 then -d else d) % 2147483587 * 48271 + 60013 * (k : Int) + 29) % 2147483647)])) := by
      intro d p hp
      refine out p _ hp (same_new hp) ⟨_, _, upd_same, two _, Int.emod_nonneg _ (by decide), ?_⟩
      have := Int.emod_lt_of_pos ((if d < 0 then -d else d) % 2147483587 * 48271 + 60013 * (k : Int) + 29) (b := 2147483647) (by decide)
      omega
    refine ⟨_, rfl, _, rfl, a, _, rfl, .inl hS, _, _, rfl, rfl, _, rfl, ?_⟩
    refine ite2 (fun hlt => ?_) (fun _ => ?_)
    · have hlt2 : (k : Int) < ((ns.map V.int).length : Int) := of_decide_eq_true hlt
      rw [List.length_map] at hlt2
      have hk2 : k < ns.length := by omega
      refine ⟨_, rfl, _, rfl, a, _, _, .int ns[k], rfl, rfl, hS, atI_nat (by simp [hk2]), ?_⟩
      refine ⟨_, rfl, _, rfl, 10, 18, rfl, rfl, ⟨by decide, by decide, by decide⟩, _, _, rfl, rfl, 0, _, rfl, ?_⟩
      refine ⟨_, rfl, _, rfl, _, _, rfl, rfl, (by show (0 : Int) < _; decide), _, _, rfl, rfl, .inl ⟨by have := hm ns[k]; omega, by have := hm ns[k]; omega⟩, _, rfl, 60013, _, rfl, rfl, .inl ⟨by decide, by decide⟩, _, _, rfl, rfl, _, _, rfl, rfl, _, _, rfl, rfl, (by show (0 : Int) < _; decide), ?_⟩
      exact ⟨(by show 2 ≤ sizeLine; decide), fin ns[k]⟩
    · refine ⟨_, rfl, _, rfl, 10, 18, rfl, rfl, ⟨by decide, by decide, by decide⟩, _, _, rfl, rfl, 0, _, rfl, ?_⟩
      refine ⟨_, rfl, _, rfl, _, _, rfl, rfl, (by show (0 : Int) < _; decide), _, _, rfl, rfl, .inl ⟨by have := hm 0; omega, by have := hm 0; omega⟩, _, rfl, 60013, _, rfl, rfl, .inl ⟨by decide, by decide⟩, _, _, rfl, rfl, _, _, rfl, rfl, _, _, rfl, rfl, (by show (0 : Int) < _; decide), ?_⟩
      exact ⟨(by show 2 ≤ sizeLine; decide), fin 0⟩

/-- one draw: a digit below many; the pot goes on -/
def spDraw : Sp := fun vs H Q _ => ∃ (p : Addr) (m : Int), vs = [.ref p, .int m] ∧ PotAt H p ∧ 0 < m ∧ m < 1073741824 ∧
  ∀ d H', 0 ≤ d → d < m → But p H H' → PotAt H' p → Q (.int d) H'
theorem scDraw : FnScope ["_law_pot_here", "_law_many", "_law_digit"] ["_law_pot_here", "_law_many"] (defScope sDraw) := ⟨rfl, rfl, rfl, by decide +kernel, rfl, by decide +kernel, by decide +kernel⟩
theorem ok_draw {f : Addr} {fd : FuncData} (F : Fun K "_law_draw" "_law_draw" sDraw f fd) (B : Bl mg) : FnOk P w K mg base CX0 2 f fd ["_law_pot_here", "_law_many"] spDraw := by
  refine F.ok scDraw (fun vs H Q E h => ?_) (fun cdv A outer s H vs Q E hr h => ?_)
  · obtain ⟨p, m, rfl, _⟩ := h
    rfl
  · obtain ⟨p, m, rfl, ⟨a, b, hp, ha, hb, hb2⟩, hm, hm2, out⟩ := h
    refine ⟨_, pss_cons (ps_if (pt_cmpR op_gt (pe_ix ix_list (pv 0) pe_int (fun _ _ => rfl)) pe_int (nomark _))
        (pss_cons (ps_asg (pe_callB call_divmod (by rfl) B.divmod (by decide +kernel) (pa_cons (pe_ix ix_list (pv 0) pe_int (fun _ _ => rfl)) (pa_cons (pv 1) pa_nil))) (pg_tup rfl (pgs_cons (pg_sub (pv 0) pe_int set_list) (pgs_cons (pg_name (i := 2) scDraw.nd rfl (Or.inl rfl)) pgs_nil))))
          (pss_one (ps_ret (pv 2)))) pss_nil)
      (pss_cons (ps_asg (pe_op op_mod (pe_op op_add (pe_op op_mul (pe_ix ix_list (pv 0) pe_int (fun _ _ => rfl)) pe_int) pe_int) pe_int) (pg_sub (pv 0) pe_int set_list))
      (pss_one (ps_ret (pe_op op_mod (pe_op op_fdiv (pe_op op_mod (pe_op op_mul (pe_ix ix_list (pv 0) pe_int (fun _ _ => rfl)) (pe_ix ix_list (pv 0) pe_int (fun _ _ => rfl))) pe_int) pe_int) (pv 1))))), ?_⟩
    have hL : SqL K H p [.int a, .int b] := SqL.of hp
    refine ⟨_, rfl, p, _, 0, .int a, rfl, rfl, hL, rfl, a, 0, rfl, rfl, _, rfl, ?_⟩
    refine ite2 (fun hpos => ?_) (fun hneg => ?_)
    · refine ⟨_, rfl, p, _, 0, .int a, rfl, rfl, hL, rfl, _, rfl, a, m, rfl, ⟨hm, hm2⟩, fun q hq => ?_⟩
      have hne : p ≠ q := ne_of_none hp hq
      have hT : SqT K (upd H q (.tup [.int (a / m), .int (a % m)])) q [.int (a / m), .int (a % m)] := SqT.of upd_same
      have hp2 : (upd H q (.tup [.int (a / m), .int (a % m)])) p = some (.lst [.int a, .int b]) := by
        rw [upd_ne hne]
        exact hp
      refine ⟨q, _, rfl, hT, rfl, _, _, rfl, _, rfl, p, _, 0, 0, rfl, rfl, hp2, rfl, _, _, rfl, rfl, _, rfl, ?_⟩
      exact out (a % m) _ (Int.emod_nonneg _ (by omega)) (Int.emod_lt_of_pos _ hm) ((But.new hq).trans (But.upd _)) ⟨a / m, b, upd_same, Int.ediv_nonneg ha (by omega), hb, hb2⟩
    · have h0 : (0 : Int) ≤ (b * 39373 + 12227) % 2147483629 := Int.emod_nonneg _ (by decide)
      have h1 : (b * 39373 + 12227) % 2147483629 < 2147483629 := Int.emod_lt_of_pos _ (by decide)
      refine ⟨_, rfl, p, _, 1, .int b, rfl, rfl, hL, rfl, b, 39373, rfl, rfl, .inl ⟨by omega, by omega⟩, _, _, rfl, rfl, _, _, rfl, rfl, (by show (0 : Int) < _; decide), _, rfl, p, _, 1, 1, rfl, rfl, hp, rfl, ?_⟩
      have hL2 : SqL K (upd H p (.lst [.int a, .int ((b * 39373 + 12227) % 2147483629)])) p [.int a, .int ((b * 39373 + 12227) % 2147483629)] := SqL.of upd_same
      refine ⟨_, rfl, p, _, 1, _, rfl, rfl, hL2, rfl, _, rfl, p, _, 1, _, rfl, rfl, hL2, rfl, _, _, rfl, rfl, .inl ⟨by omega, by omega⟩, _, _, rfl, rfl, (by show (0 : Int) < _; decide), _, _, rfl, rfl, ⟨by decide, by decide⟩, _, rfl, _, m, rfl, rfl, hm, ?_⟩
      exact out _ _ (Int.emod_nonneg _ (by omega)) (Int.emod_lt_of_pos _ hm) (But.upd _) ⟨a, _, upd_same, ha, h0, by omega⟩
end
end K92
namespace K92
open PySem PySem.Spec PyProof.Rows L2 Par
section
variable {P : Program} {w : World} {K : PySem.W.Frag} {mg : Str → Option Value} {base : Heap}
/-- a def of the module that raises nothing -/
def Has (P : Program) (w : World) (K : PySem.W.Frag) (mg : Str → Option Value) (base : Heap) (x : Str) (lv : Nat) (ps : List Str) (sp : Sp) : Prop :=
  ∃ f fd, FnOk P w K mg base CX0 lv f fd ps sp ∧ mg x = some (.ref f) ∧ PySem.W.keepIn K (.ref f) = true ∧ Binds K fd ps []

/-- a new list of rising numbers from least to width - 1 -/
def spSpots : Sp := fun vs H Q _ => ∃ (p : Addr) (l m : Int), vs = [.ref p, .int l, .int m] ∧ PotAt H p ∧ 0 ≤ l ∧ l ≤ 1000 ∧ 0 ≤ m ∧ m ≤ 1000 ∧
  ∀ q (ns : List Int) H', H q = none → ns.Pairwise (· < ·) → (∀ n ∈ ns, l ≤ n ∧ n < m) → But p H H' → PotAt H' p → H' q = some (.lst (ns.map V.int)) → Q (.ref q) H'
abbrev nSpots : List Str := ["_law_pot_here", "_law_least", "_law_width_here", "_law_way", "_law_spot"]
theorem scSpots : FnScope nSpots ["_law_pot_here", "_law_least", "_law_width_here"] (defScope sSpots) := ⟨rfl, rfl, rfl, by decide +kernel, rfl, by decide +kernel, by decide +kernel⟩
theorem rgV_ints (a : Int) (n : Nat) : ∃ ns : List Int, rgV a (a + n) = ns.map V.int ∧ ns.Pairwise (· < ·) ∧ ∀ k ∈ ns, a ≤ k ∧ k < a + n := by
  refine ⟨(List.range n).map fun i => a + (i : Nat), ?_, ?_, ?_⟩
  · unfold rgV
    rw [List.map_map, show (a + (n : Int) - a).toNat = n by omega]
    rfl
  · rw [List.pairwise_map]
    exact List.pairwise_lt_range.imp (fun h => by omega)
  · intro k hk
    obtain ⟨i, hi, rfl⟩ := List.mem_map.mp hk
    have := List.mem_range.mp hi
    omega
theorem ok_spots {f : Addr} {fd : FuncData} (F : Fun K "_law_spots" "_law_spots" sSpots f fd) (B : Bl mg) (D : Has P w K mg base "_law_draw" 2 ["_law_pot_here", "_law_many"] spDraw) :
    FnOk P w K mg base CX0 3 f fd ["_law_pot_here", "_law_least", "_law_width_here"] spSpots := by
  obtain ⟨fD, fdD, GD, mD, kD, bD⟩ := D
  refine F.ok scSpots (fun vs H Q E h => ?_) (fun cdv A outer s H vs Q E hr h => ?_)
  · obtain ⟨p, l, m, rfl, _⟩ := h
    rfl
  · obtain ⟨p, l, m, rfl, hp, l0, l1, m0, m1, out⟩ := h
    refine ⟨_, pss_cons (ps_set (i := 3) scSpots.nd rfl (Or.inl rfl) (pe_call GD hr (by rfl) mD kD bD .nil pass0 (pa_cons (pv 0) (pa_cons pe_int pa_nil))))
      (pss_cons (ps_if (PW.pt (pw_or (pt_cmpR op_eq (pv 3) pe_int (nomark _)) (pw_or1 (pt_cmpR op_le (pv 2) (pv 1) (nomark _))))) (pss_one (ps_ret (pe_lst pa_nil))) pss_nil)
      (pss_cons (ps_if (pt_cmpR op_eq (pv 3) pe_int (nomark _)) (pss_one (ps_ret (pe_lst (pa_cons (pe_op op_add (pv 1) (pe_call GD hr (by rfl) mD kD bD .nil pass0 (pa_cons (pv 0) (pa_cons (pe_op op_sub (pv 2) (pv 1)) pa_nil)))) pa_nil)))) pss_nil)
      (pss_cons (ps_if (pt_cmpR op_eq (pv 3) pe_int (nomark _)) (pss_one (ps_ret (pe_listRg rfl (by rfl) B.list (prg_2 (by rfl) B.range (pv 1) (pv 2))))) pss_nil)
      (pss_one (ps_ret (pe_lc (own := [("_law_spot", 4)]) (g := gName 4) rfl scSpots.nd (pi_range2 (by rfl) B.range (pa_cons (pv 1) (pa_cons (pv 2) pa_nil))) (blkOk_by (own := [("_law_spot", 4)]) (N := nSpots) (sc := defScope sSpots) (by decide +kernel))
        (fun _ _ _ _ _ => pg_name (i := 4) scSpots.nd rfl (Or.inl rfl))
        (fun _ _ _ _ _ => pts_one (pt_cmpR op_eq (pe_call GD hr (by rfl) mD kD bD .nil pass0 (pa_cons (pv 0) (pa_cons pe_int pa_nil))) pe_int (nomark _)))
        (fun _ _ _ _ _ => pv 4))))))), ?_⟩
    refine ⟨_, rfl, p, 5, rfl, hp, by decide, by decide, ?_⟩
    intro d H1 d0 d1 b1 hp1
    have fr : ∀ q, H1 q = none → H q = none := fun q hq => b1.free hp hq hp1
    refine ⟨_, rfl, rfl, _, rfl, ?_⟩
    have nil : ∀ q, H1 q = none → Q (.ref q) (upd H1 q (.lst [])) := by
      intro q hq
      refine out q [] _ (fr q hq) List.Pairwise.nil (fun n hn => nomatch hn) (b1.trans (But.new hq)) (hp1.same (same_new hq)) upd_same
    refine ite2 (fun _ => ?_) (fun _ => ?_)
    · refine iteT ⟨by decide, nil⟩
    refine ⟨_, rfl, _, rfl, _, _, rfl, rfl, _, rfl, ?_⟩
    refine ite2 (fun _ => ?_) (fun hlt => ?_)
    · exact ⟨by decide, nil⟩
    have hlt2 : l < m := by
      have := of_decide_eq_false (by simpa using hlt : decide (m ≤ l) = false)
      omega
    refine ⟨_, rfl, rfl, _, rfl, ?_⟩
    refine ite2 (fun _ => ?_) (fun _ => ?_)
    · refine ⟨_, rfl, _, rfl, _, rfl, _, rfl, m, l, rfl, rfl, p, m - l, rfl, hp1, by omega, by omega, ?_⟩
      intro d2 H2 e0 e1 b2 hp2
      refine ⟨l, d2, rfl, rfl, (by show 1 ≤ sizeLine; decide), ?_⟩
      intro q hq
      refine out q [l + d2] _ (fr q (b2.free hp1 hq hp2)) (by simp) (fun n hn => by
        have : n = l + d2 := by simpa using hn
        omega) ((b1.trans b2).trans (But.new hq)) (hp2.same (same_new hq)) upd_same
    refine ⟨_, rfl, rfl, _, rfl, ?_⟩
    refine ite2 (fun _ => ?_) (fun _ => ?_)
    · refine ⟨_, rfl, _, rfl, l, m, rfl, rfl, RgOk.of_le l0 (by omega) (by omega) m0, ?_⟩
      intro q hq
      obtain ⟨ns, e, h1, h2⟩ := rgV_ints l (m - l).toNat
      have em : l + ((m - l).toNat : Int) = m := by omega
      rw [em] at e h2
      rw [e]
      exact out q ns _ (fr q hq) h1 h2 (b1.trans (But.new hq)) (hp1.same (same_new hq)) upd_same
    · refine ⟨_, rfl, _, rfl, l, m, rfl, ⟨by omega, by omega, by omega, by omega⟩, ?_⟩
      intro D hD
      have hDH := fr D hD
      have hDp : D ≠ p := fun z => by
        subst z
        obtain ⟨_, _, e, _⟩ := hp1
        rw [hD] at e
        cases e
      refine lc_range (lo := l) (n := (m - l).toNat) (fun i H' => ∃ ns : List Int, H' D = some (.lst (ns.map V.int)) ∧ ns.length ≤ i ∧ ns.Pairwise (· < ·) ∧ (∀ n ∈ ns, l ≤ n ∧ n < l + i) ∧ But p H H' ∧ PotAt H' p)
        ⟨[], upd_same, Nat.le_refl _, List.Pairwise.nil, fun n hn => (by cases hn), b1.trans (But.new hD), hp1.same (same_new hD)⟩ ?_ ?_
      · rintro i H2 hi ⟨ns, hns, hlen, pw, bd, b2, hp2⟩
        refine ⟨rfl, ?_⟩
        refine ⟨_, rfl, p, 2, rfl, hp2, by decide, by decide, ?_⟩
        intro d2 H3 e0 e1 b3 hp3
        have hD3 : H3 D = some (.lst (ns.map V.int)) := b3 D _ hDp hns
        refine ⟨rfl, _, rfl, ?_⟩
        refine ite2 (fun _ => ?_) (fun _ => ?_)
        · refine ⟨_, rfl, _, hD3, (by rw [List.length_map]; exact small1000 (by omega)), ns ++ [l + (i : Int)], ?_, ?_, ?_, ?_, ?_, ?_⟩
          · rw [upd_same, List.map_append]
            rfl
          · rw [List.length_append]
            show ns.length + 1 ≤ i + 1
            omega
          · refine List.pairwise_append.mpr ⟨pw, by simp, fun a ha b hb => ?_⟩
            have hb2 : b = l + (i : Int) := by simpa using hb
            have := bd a ha
            omega
          · intro n hn
            rcases List.mem_append.mp hn with hn | hn
            · have := bd n hn
              omega
            · have : n = l + (i : Int) := by simpa using hn
              omega
          · exact fun b o n e => by
              have e2 := b2.trans b3 b o n e
              rw [upd_ne (ne_of_none e hDH)]
              exact e2
          · obtain ⟨x, y, e, r⟩ := hp3
            exact ⟨x, y, by rw [upd_ne (Ne.symm hDp)]; exact e, r⟩
        · exact ⟨ns, hD3, by omega, pw, fun n hn => by have := bd n hn; omega, b2.trans b3, hp3⟩
      · rintro H2 ⟨ns, hns, hlen, pw, bd, b2, hp2⟩
        exact out D ns H2 hDH pw (fun n hn => by have := bd n hn; omega) b2 hp2 hns
end
end K92
namespace K92
open PySem PySem.Spec PyProof.Rows L2 Par
theorem perm_erase : ∀ {l : List Int} {i : Nat} {x : Int}, l[i]? = some x → (x :: l.eraseIdx i).Perm l
  | [], i, x, h => by simp at h
  | a :: l, 0, x, h => by
    have e : a = x := by simpa using h
    subst e
    exact List.Perm.refl _
  | a :: l, i + 1, x, h => by
    have h2 : l[i]? = some x := by simpa using h
    have ih := perm_erase h2
    show (x :: a :: l.eraseIdx i).Perm (a :: l)
    exact (List.Perm.swap a x _).trans (ih.cons a)
/-- what len of a list or tuple asks -/
def rLenQ (K : PySem.W.Frag) : List V → Hp → VK → Prop := fun xs H Q => ∃ p ys, xs = [.ref p] ∧ (SqL K H p ys ∨ SqT K H p ys) ∧ Q (.int ys.length) H
theorem map_eraseIdx : ∀ (l : List Int) (i : Nat), (l.map V.int).eraseIdx i = (l.eraseIdx i).map V.int
  | [], _ => rfl
  | _ :: _, 0 => rfl
  | a :: l, i + 1 => by
    show V.int a :: (l.map V.int).eraseIdx i = V.int a :: (l.eraseIdx i).map V.int
    rw [map_eraseIdx l i]
theorem yesT {σ : L2.St} {H : Hp} {A B : Hp → Prop} (h : A H) : tYes σ H (fun b H3 => if b = true then A H3 else B H3) := by
  unfold tYes
  show (if true = true then A H else B H)
  rw [if_pos rfl]
  exact h
section
variable {P : Program} {w : World} {K : PySem.W.Frag} {mg : Str → Option Value} {base : Heap}
end
end K92
namespace K92
open PySem PySem.Spec PyProof.Rows L2 Par
theorem sq_ty {K : PySem.W.Frag} {H : Hp} {a : Addr} {xs : List V} (h : SqL K H a xs) : TyX K H (.ref a) (.type "list") := by
  rcases h with (h | ⟨o, h⟩) | ⟨o, its, n, hk, hc, _⟩
  · exact .base (.lst h)
  · exact .base (.frz h)
  · exact .kList hk hc
theorem sqt_ty {K : PySem.W.Frag} {H : Hp} {a : Addr} {xs : List V} (h : SqT K H a xs) : TyX K H (.ref a) (.type "tuple") := by
  rcases h with (h | ⟨o, h⟩) | ⟨o, its, n, hk, hc, _⟩
  · exact .base (.tup h)
  · exact .fTuple h
  · exact .kTuple hk hc
/-- a list or tuple of xs -/
def Sq (K : PySem.W.Frag) (H : Hp) (a : Addr) (xs : List V) : Prop := SqL K H a xs ∨ SqT K H a xs
section
variable {P : Program} {w : World} {K : PySem.W.Frag} {mg : Str → Option Value} {base : Heap}
theorem kit_seq {n : String} (h : n = "list" ∨ n = "tuple") : PySem.W.kitAny K (.type n) [.type "list", .type "tuple"] = some true := by
  rcases h with rfl | rfl
  · exact kitAny_cons (b := true) (kit_ty (by decide +kernel)) (fun z => nomatch z) (fun _ => rfl)
  · exact kitAny_cons (b := false) (kit_ty (by decide +kernel)) (fun _ => kitAny_cons (b := true) (kit_ty (by decide +kernel)) (fun z => nomatch z) (fun _ => rfl)) (fun z => nomatch z)
theorem same_sq {H H' : Hp} {a : Addr} {xs : List V} (s : Same H H') (h : SqL K H a xs) : SqL K H' a xs := s.seq h
theorem same_sqt {H H' : Hp} {a : Addr} {xs : List V} (s : Same H H') (h : SqT K H a xs) : SqT K H' a xs := by
  rcases h with (h | ⟨o, h⟩) | h
  · exact .inl (.inl (s _ _ h))
  · exact .inl (.inr ⟨o, s _ _ h⟩)
  · exact .inr h
theorem same_tyx {H H' : Hp} {v : V} {t : Value} (s : Same H H') (h : TyX K H v t) : TyX K H' v t := by
  cases h with
  | base b =>
    refine .base ?_
    cases b with
    | non => exact .non
    | bl y => exact .bl y
    | int i => exact .int i
    | str y => exact .str y
    | flt y => exact .flt y
    | lst e => exact .lst (s _ _ e)
    | frz e => exact .frz (s _ _ e)
    | tup e => exact .tup (s _ _ e)
    | dK e => exact .dK (s _ _ e)
    | dT e => exact .dT (s _ _ e)
    | ins e cl ha hn htk hm => exact .ins (s _ _ e) cl ha hn htk hm
  | byt y => exact .byt y
  | set e => exact .set (s _ _ e)
  | kList e c => exact .kList e c
  | kTuple e c => exact .kTuple e c
  | kDict e c => exact .kDict e c
  | fTuple e => exact .fTuple (s _ _ e)
  | fDict e => exact .fDict (s _ _ e)
theorem Sq.same {H H' : Hp} {a : Addr} {xs : List V} (s : Same H H') (h : Sq K H a xs) : Sq K H' a xs := h.imp (same_sq s) (same_sqt s)
/-- is_integer -/
def spInteger : Sp := fun vs H Q _ => ∃ i : Int, vs = [.int i] ∧ Q (.bl true) H
theorem scInteger : FnScope ["thing"] ["thing"] (defScope sInteger) := ⟨rfl, rfl, rfl, by decide +kernel, rfl, by decide +kernel, by decide +kernel⟩
theorem ok_integer {f : Addr} {fd : FuncData} (F : Fun K "is_integer" "is_integer" sInteger f fd) (B : Bl mg) : FnOk P w K mg base CX0 1 f fd ["thing"] spInteger := by
  refine F.ok scInteger (fun vs H Q E h => ?_) (fun cdv A outer s H vs Q E hr h => ?_)
  · obtain ⟨i, rfl, _⟩ := h
    rfl
  · obtain ⟨i, rfl, out⟩ := h
    refine ⟨_, pss_one (ps_ret (pe_and (pe_callB call_isi (by rfl) B.isinstance (by decide +kernel) (pa_cons (pv 0) (pa_cons (pe_bltn (v := .ty "int") (by rfl) B.int (by decide +kernel) rfl) pa_nil))) (pe_one (pe_not (pe_callB call_isi (by rfl) B.isinstance (by decide +kernel) (pa_cons (pv 0) (pa_cons (pe_bltn (v := .ty "bool") (by rfl) B.bool (by decide +kernel) rfl) pa_nil))))))), ?_⟩
    refine ⟨_, rfl, _, _, _, _, true, rfl, .ty "int", .base (.int i), kit_ty (by decide +kernel), _, rfl, iteT ?_⟩
    exact ⟨_, rfl, _, _, _, _, false, rfl, .ty "bool", .base (.int i), kit_ty (by decide +kernel), _, rfl, out⟩
/-- is_integer_between, of whole numbers -/
def spBetween : Sp := fun vs H Q _ => ∃ i lo hi : Int, vs = [.int i, .int lo, .int hi] ∧ Q (.bl (decide (lo ≤ i) && decide (i ≤ hi))) H
theorem scBetween : FnScope ["thing", "low", "high"] ["thing", "low", "high"] (defScope sBetween) := ⟨rfl, rfl, rfl, by decide +kernel, rfl, by decide +kernel, by decide +kernel⟩
theorem ok_between {f : Addr} {fd : FuncData} (F : Fun K "is_integer_between" "is_integer_between" sBetween f fd) (B : Bl mg) (D : Has P w K mg base "is_integer" 1 ["thing"] spInteger) : FnOk P w K mg base CX0 2 f fd ["thing", "low", "high"] spBetween := by
  obtain ⟨fD, fdD, GD, mD, kD, bD⟩ := D
  refine F.ok scBetween (fun vs H Q E h => ?_) (fun cdv A outer s H vs Q E hr h => ?_)
  · obtain ⟨i, lo, hi, rfl, _⟩ := h
    rfl
  · obtain ⟨i, lo, hi, rfl, out⟩ := h
    refine ⟨_, pss_one (ps_ret (pe_and (pe_call GD hr (by rfl) mD kD bD .nil pass0 (pa_cons (pv 0) pa_nil)) (pe_one (pe_chain op_le op_le (pv 1) (pv 0) (pv 2))))), ?_⟩
    refine ⟨_, rfl, i, rfl, _, rfl, iteT ?_⟩
    refine ⟨_, rfl, _, rfl, lo, i, rfl, rfl, _, rfl, ite2 (fun h1 => ?_) (fun h1 => ?_)⟩
    · refine ⟨_, rfl, i, hi, rfl, rfl, ?_⟩
      rw [h1, Bool.true_and] at out
      exact out
    · have e : decide (lo ≤ i) = false := by simpa using h1
      rw [e, Bool.false_and] at out
      exact out
def spIsSize : Sp := fun vs H Q _ => ∃ i : Int, vs = [.int i] ∧ Q (.bl (decide (1 ≤ i) && decide (i ≤ 40))) H
theorem scIsSize : FnScope ["thing"] ["thing"] (defScope sIsSize) := ⟨rfl, rfl, rfl, by decide +kernel, rfl, by decide +kernel, by decide +kernel⟩
theorem ok_issize {f : Addr} {fd : FuncData} (F : Fun K "is_size" "is_size" sIsSize f fd) (hM : ∃ t, mg "MOST_CELLS" = some (.int 40 t)) (D : Has P w K mg base "is_integer_between" 2 ["thing", "low", "high"] spBetween) :
    FnOk P w K mg base CX0 3 f fd ["thing"] spIsSize := by
  obtain ⟨fD, fdD, GD, mD, kD, bD⟩ := D
  obtain ⟨tM, hM⟩ := hM
  refine F.ok scIsSize (fun vs H Q E h => ?_) (fun cdv A outer s H vs Q E hr h => ?_)
  · obtain ⟨i, rfl, _⟩ := h
    rfl
  · obtain ⟨i, rfl, out⟩ := h
    refine ⟨_, pss_one (ps_ret (pe_call GD hr (by rfl) mD kD bD .nil pass0 (pa_cons (pv 0) (pa_cons pe_int (pa_cons (pe_glob (v := .int 40) (by rfl) hM ⟨_, rfl⟩) pa_nil))))), ?_⟩
    exact ⟨_, rfl, i, 1, 40, rfl, out⟩
def spIsCell : Sp := fun vs H Q _ => ∃ i n : Int, vs = [.int i, .int n] ∧ Q (.bl (decide (0 ≤ i) && decide (i ≤ n - 1))) H
theorem scIsCell : FnScope ["thing", "size"] ["thing", "size"] (defScope sIsCell) := ⟨rfl, rfl, rfl, by decide +kernel, rfl, by decide +kernel, by decide +kernel⟩
theorem ok_iscell {f : Addr} {fd : FuncData} (F : FunD K "is_cell" "is_cell" (defArgs sIsCell) (defBody sIsCell) (defScope sIsCell) [] [("size", .int 40)] f fd)
    (D : Has P w K mg base "is_integer_between" 2 ["thing", "low", "high"] spBetween) : FnOk P w K mg base CX0 3 f fd ["thing", "size"] spIsCell := by
  obtain ⟨fD, fdD, GD, mD, kD, bD⟩ := D
  refine F.ok scIsCell (fun vs H Q E h => ?_) (fun cdv A outer s H vs Q E hr h => ?_)
  · obtain ⟨i, n, rfl, _⟩ := h
    rfl
  · obtain ⟨i, n, rfl, out⟩ := h
    refine ⟨_, pss_one (ps_ret (pe_call GD hr (by rfl) mD kD bD .nil pass0 (pa_cons (pv 0) (pa_cons pe_int (pa_cons (pe_op op_sub (pv 1) pe_int) pa_nil))))), ?_⟩
    exact ⟨_, rfl, _, rfl, n, 1, rfl, rfl, i, 0, n - 1, rfl, out⟩
/-- a def called with size = .. -/
def HasN (P : Program) (w : World) (K : PySem.W.Frag) (mg : Str → Option Value) (base : Heap) (x : Str) (lv : Nat) (y : Str) (sp : Sp) : Prop :=
  ∃ f fd, FnOk P w K mg base CX0 lv f fd [y, "size"] sp ∧ mg x = some (.ref f) ∧ PySem.W.keepIn K (.ref f) = true ∧ KBn K fd [y, "size"] 1 ["size"] (fun us ws => us ++ ws) (fun vs zs => vs ++ zs)
/-- are_cells of cells of this size -/
def spAre (K : PySem.W.Frag) : Sp := fun vs H Q _ => ∃ (a : Addr) (n : Int) (ns : List Int), vs = [.ref a, .int n] ∧ Sq K H a (ns.map V.int) ∧ ns.length ≤ 500 ∧ (∀ k ∈ ns, 0 ≤ k ∧ k < n) ∧ ns.Nodup ∧
  ∀ H', Same H H' → Q (.bl true) H'
abbrev nCells : List Str := ["things", "size", "thing"]
theorem scAre : FnScope nCells ["things", "size"] (defScope sAre) := ⟨rfl, rfl, rfl, by decide +kernel, rfl, by decide +kernel, by decide +kernel⟩
theorem all_true {l : List Bool} (h : ∀ b ∈ l, b = true) : l.all id = true := List.all_eq_true.mpr fun b hb => h b hb
theorem ok_are {f : Addr} {fd : FuncData} (F : Fun K "are_cells" "are_cells" sAre f fd) (B : Bl mg)
    (D : HasN P w K mg base "is_cell" 3 "thing" spIsCell) : FnOk P w K mg base CX0 4 f fd ["things", "size"] (spAre K) := by
  obtain ⟨fD, fdD, GD, mD, kD, bD⟩ := D
  refine F.ok scAre (fun vs H Q E h => ?_) (fun cdv A outer s H vs Q E hr h => ?_)
  · obtain ⟨a, n, ns, rfl, _⟩ := h
    rfl
  · obtain ⟨a, n, ns, rfl, hq, hl, hin, hnd, good⟩ := h
    rcases hq with hq | hq
    · refine ⟨_, pss_cons (ps_if (pt_not (pt_val (pe_callB call_isiT (by rfl) B.isinstance (by decide +kernel) (pa_cons (pv 0) (pa_cons (pe_tup (pa_cons (pe_bltn (v := .ty "list") (by rfl) B.list (by decide +kernel) rfl) (pa_cons (pe_bltn (v := .ty "tuple") (by rfl) B.tuple (by decide +kernel) rfl) pa_nil))) pa_nil))))) (pss_one ps_off) pss_nil)
      (pss_cons (ps_if (pt_not (pt_val (pe_callB (cr_all rfl) (by rfl) B.all (by decide +kernel) (pa_cons (pe_lc (own := [("thing", 2)]) (g := gName 2) (te := tCallN 1 (["size"] : List Str).length spIsCell (fun vs zs => vs ++ zs) E0 (tCons (tVar 2) tNil) (tCons (tVar 1) tNil)) rfl scAre.nd (pi_list (pv 0)) (blkOk_by (own := [("thing", 2)]) (N := nCells) (sc := defScope sAre) (by decide +kernel))
          (fun _ _ _ _ _ => pg_name (i := 2) scAre.nd rfl (Or.inl rfl)) (fun _ _ _ _ _ => pts_nil) (fun _ _ _ _ _ => by exact pe_callN (n := 1) (ks := ["size"]) GD hr (by rfl) mD kD bD pass0 (pa_cons (pv 2) pa_nil) (pk_cons (pv 1) pk_nil))) pa_nil)))) (pss_one ps_off) pss_nil)
      (pss_one (ps_ret (pe_cmpR op_eq (pe_lenSetQ (by rfl) B.len (by rfl) B.set (pv 0)) (pe_callB call_len_seq (by rfl) B.len PySem.boot_len (pa_cons (pv 0) pa_nil)) (nomark _))))), ?_⟩
      refine ⟨_, rfl, by decide, fun p hp => ?_⟩
      have s1 : Same H (upd H p (.tup [.ty "list", .ty "tuple"])) := same_new hp
      refine ⟨_, p, _, _, _, true, rfl, upd_same, .cons (.ty _) (.cons (.ty _) .nil), sq_ty (same_sq s1 hq), kit_seq (by simp), _, rfl, iteF ?_⟩
      refine ⟨_, rfl, a, rfl, ⟨_, same_sq s1 hq⟩, fun D hD => ?_⟩
      refine lc_list (K := K) (a := a) (xs := ns.map V.int) (fun i H' => Same H H' ∧ H' D = some (.lst ((ns.take i).map fun k => V.bl (decide (0 ≤ k) && decide (k ≤ n - 1))))) ⟨s1.trans (same_new hD), upd_same⟩ (fun i H' _ h => same_sq h.1 hq) ?_ ?_
      · rintro i x H2 hx ⟨s2, hD2⟩
        rw [List.getElem?_map] at hx
        obtain ⟨k, hk, rfl⟩ : ∃ k, ns[i]? = some k ∧ x = V.int k := by
          cases e : ns[i]? with
          | none => rw [e] at hx; cases hx
          | some k => rw [e] at hx; exact ⟨k, rfl, (Option.some.inj hx).symm⟩
        refine ⟨rfl, yesT ?_⟩
        refine ⟨_, rfl, _, rfl, rfl, rfl, k, n, rfl, _, hD2, ?_, ?_, ?_⟩
        · rw [List.length_map, List.length_take]
          exact small1000 (by omega)
        · intro b o e
          have hDb : H D = none := s1.free hD
          rw [upd_ne (ne_of_none e hDb)]
          exact s2 b o e
        · rw [upd_same, List.take_succ, hk, List.map_append]
          rfl
      rintro H2 ⟨s2, hD2⟩
      rw [List.length_map, List.take_length] at hD2
      refine ⟨D, ns.map fun k => decide (0 ≤ k) && decide (k ≤ n - 1), rfl, SqL.of (by rw [hD2, List.map_map]; rfl), _, rfl, ?_⟩
      have eall : (ns.map fun k => decide (0 ≤ k) && decide (k ≤ n - 1)).all id = true := by
        refine all_true fun b hb => ?_
        obtain ⟨k, hk, rfl⟩ := List.mem_map.mp hb
        obtain ⟨h1, h2⟩ := hin k hk
        have h3 : k ≤ n - 1 := by omega
        simp [h1, h3]
      rw [eall]
      refine iteF ⟨_, rfl, a, ns, rfl, .inl (same_sq s2 hq), by omega, fun c hc hiff => ?_⟩
      refine ⟨_, rfl, a, _, rfl, .inl (same_sq s2 hq), ?_⟩
      rw [List.length_map]
      have ec : c = ns.length := hiff.mpr hnd
      subst ec
      refine ⟨rfl, ?_⟩
      rw [decide_eq_true rfl]
      exact good H2 s2
    · refine ⟨_, pss_cons (ps_if (pt_not (pt_val (pe_callB call_isiT (by rfl) B.isinstance (by decide +kernel) (pa_cons (pv 0) (pa_cons (pe_tup (pa_cons (pe_bltn (v := .ty "list") (by rfl) B.list (by decide +kernel) rfl) (pa_cons (pe_bltn (v := .ty "tuple") (by rfl) B.tuple (by decide +kernel) rfl) pa_nil))) pa_nil))))) (pss_one ps_off) pss_nil)
      (pss_cons (ps_if (pt_not (pt_val (pe_callB (cr_all rfl) (by rfl) B.all (by decide +kernel) (pa_cons (pe_lc (own := [("thing", 2)]) (g := gName 2) (te := tCallN 1 (["size"] : List Str).length spIsCell (fun vs zs => vs ++ zs) E0 (tCons (tVar 2) tNil) (tCons (tVar 1) tNil)) rfl scAre.nd (pi_tup (pv 0)) (blkOk_by (own := [("thing", 2)]) (N := nCells) (sc := defScope sAre) (by decide +kernel))
          (fun _ _ _ _ _ => pg_name (i := 2) scAre.nd rfl (Or.inl rfl)) (fun _ _ _ _ _ => pts_nil) (fun _ _ _ _ _ => by exact pe_callN (n := 1) (ks := ["size"]) GD hr (by rfl) mD kD bD pass0 (pa_cons (pv 2) pa_nil) (pk_cons (pv 1) pk_nil))) pa_nil)))) (pss_one ps_off) pss_nil)
      (pss_one (ps_ret (pe_cmpR op_eq (pe_lenSetQ (by rfl) B.len (by rfl) B.set (pv 0)) (pe_callB call_len_seq (by rfl) B.len PySem.boot_len (pa_cons (pv 0) pa_nil)) (nomark _))))), ?_⟩
      refine ⟨_, rfl, by decide, fun p hp => ?_⟩
      have s1 : Same H (upd H p (.tup [.ty "list", .ty "tuple"])) := same_new hp
      refine ⟨_, p, _, _, _, true, rfl, upd_same, .cons (.ty _) (.cons (.ty _) .nil), sqt_ty (same_sqt s1 hq), kit_seq (by simp), _, rfl, iteF ?_⟩
      refine ⟨_, rfl, a, rfl, ⟨_, same_sqt s1 hq⟩, fun D hD => ?_⟩
      refine lc_tup (K := K) (a := a) (xs := ns.map V.int) (fun i H' => Same H H' ∧ H' D = some (.lst ((ns.take i).map fun k => V.bl (decide (0 ≤ k) && decide (k ≤ n - 1))))) ⟨s1.trans (same_new hD), upd_same⟩ (fun i H' _ h => same_sqt h.1 hq) ?_ ?_
      · rintro i x H2 hx ⟨s2, hD2⟩
        rw [List.getElem?_map] at hx
        obtain ⟨k, hk, rfl⟩ : ∃ k, ns[i]? = some k ∧ x = V.int k := by
          cases e : ns[i]? with
          | none => rw [e] at hx; cases hx
          | some k => rw [e] at hx; exact ⟨k, rfl, (Option.some.inj hx).symm⟩
        refine ⟨rfl, yesT ?_⟩
        refine ⟨_, rfl, _, rfl, rfl, rfl, k, n, rfl, _, hD2, ?_, ?_, ?_⟩
        · rw [List.length_map, List.length_take]
          exact small1000 (by omega)
        · intro b o e
          have hDb : H D = none := s1.free hD
          rw [upd_ne (ne_of_none e hDb)]
          exact s2 b o e
        · rw [upd_same, List.take_succ, hk, List.map_append]
          rfl
      rintro H2 ⟨s2, hD2⟩
      rw [List.length_map, List.take_length] at hD2
      refine ⟨D, ns.map fun k => decide (0 ≤ k) && decide (k ≤ n - 1), rfl, SqL.of (by rw [hD2, List.map_map]; rfl), _, rfl, ?_⟩
      have eall : (ns.map fun k => decide (0 ≤ k) && decide (k ≤ n - 1)).all id = true := by
        refine all_true fun b hb => ?_
        obtain ⟨k, hk, rfl⟩ := List.mem_map.mp hb
        obtain ⟨h1, h2⟩ := hin k hk
        have h3 : k ≤ n - 1 := by omega
        simp [h1, h3]
      rw [eall]
      refine iteF ⟨_, rfl, a, ns, rfl, .inr (same_sqt s2 hq), by omega, fun c hc hiff => ?_⟩
      refine ⟨_, rfl, a, _, rfl, .inr (same_sqt s2 hq), ?_⟩
      rw [List.length_map]
      have ec : c = ns.length := hiff.mpr hnd
      subst ec
      refine ⟨rfl, ?_⟩
      rw [decide_eq_true rfl]
      exact good H2 s2
/-- cell_tuple of cells of this size -/
def spCells (K : PySem.W.Frag) : Sp := fun vs H Q _ => ∃ (a : Addr) (n : Int) (ns : List Int), vs = [.ref a, .int n] ∧ Sq K H a (ns.map V.int) ∧ ns.length ≤ 500 ∧ (∀ k ∈ ns, 0 ≤ k ∧ k < n) ∧ ns.Nodup ∧
  ∀ p (ms : List Int) H', H p = none → Same H H' → ms.Perm ns → ms.Pairwise (· ≤ ·) → H' p = some (.tup (ms.map V.int)) → Q (.ref p) H'
theorem scCells : FnScope ["things", "size"] ["things", "size"] (defScope sCells) := ⟨rfl, rfl, rfl, by decide +kernel, rfl, by decide +kernel, by decide +kernel⟩
theorem ok_cells {f : Addr} {fd : FuncData} (F : FunD K "cell_tuple" "cell_tuple" (defArgs sCells) (defBody sCells) (defScope sCells) [] [("size", .int 40)] f fd) (B : Bl mg)
    (D : Has P w K mg base "are_cells" 4 ["things", "size"] (spAre K)) : FnOk P w K mg base CX0 5 f fd ["things", "size"] (spCells K) := by
  obtain ⟨fD, fdD, GD, mD, kD, bD⟩ := D
  refine F.ok scCells (fun vs H Q E h => ?_) (fun cdv A outer s H vs Q E hr h => ?_)
  · obtain ⟨a, n, ns, rfl, _⟩ := h
    rfl
  · obtain ⟨a, n, ns, rfl, hq, hl, hin, hnd, good⟩ := h
    rcases id hq with hq1 | hq1
    · refine ⟨_, pss_cons (ps_if (pt_not (pt_val (pe_call GD hr (by rfl) mD kD bD .nil pass0 (pa_cons (pv 0) (pa_cons (pv 1) pa_nil))))) (pss_one ps_off) pss_nil)
      (pss_one (ps_ret (pe_callTy call_tuple_of (by rfl) B.tuple (by decide +kernel) (pa_cons (pe_callB cr_sortedI (by rfl) B.sorted (by decide +kernel) (pa_cons (pv 0) pa_nil)) pa_nil)))), ?_⟩
      refine ⟨_, rfl, _, rfl, a, n, ns, rfl, hq, hl, hin, hnd, fun H2 s2 => ⟨_, rfl, iteF ?_⟩⟩
      refine ⟨_, rfl, a, ns, rfl, same_sq s2 hq1, fun ms p2 pm pw hp2 => ?_⟩
      refine ⟨p2, _, rfl, .inl ⟨SqL.of upd_same, fun l hl2 => ?_⟩⟩
      have hl3 : H l = none := s2.free ((same_new hp2).free hl2)
      exact good l ms _ hl3 ((s2.trans (same_new hp2)).trans (same_new hl2)) pm pw upd_same
    · refine ⟨_, pss_cons (ps_if (pt_not (pt_val (pe_call GD hr (by rfl) mD kD bD .nil pass0 (pa_cons (pv 0) (pa_cons (pv 1) pa_nil))))) (pss_one ps_off) pss_nil)
      (pss_one (ps_ret (pe_callTy call_tuple_of (by rfl) B.tuple (by decide +kernel) (pa_cons (pe_callB cr_sortedTup (by rfl) B.sorted (by decide +kernel) (pa_cons (pv 0) pa_nil)) pa_nil)))), ?_⟩
      refine ⟨_, rfl, _, rfl, a, n, ns, rfl, hq, hl, hin, hnd, fun H2 s2 => ⟨_, rfl, iteF ?_⟩⟩
      refine ⟨_, rfl, a, ns, rfl, same_sqt s2 hq1, fun ms p2 pm pw hp2 => ?_⟩
      refine ⟨p2, _, rfl, .inl ⟨SqL.of upd_same, fun l hl2 => ?_⟩⟩
      have hl3 : H l = none := s2.free ((same_new hp2).free hl2)
      exact good l ms _ hl3 ((s2.trans (same_new hp2)).trans (same_new hl2)) pm pw upd_same
/-- added_cells of two tuples of cells -/
def spAdded (K : PySem.W.Frag) : Sp := fun vs H Q _ => ∃ (a b : Addr) (ns ms : List Int), vs = [.ref a, .ref b] ∧ SqT K H a (ns.map V.int) ∧ SqT K H b (ms.map V.int) ∧ ns.length ≤ 500 ∧ ms.length ≤ 500 ∧ (∀ k ∈ ns, Cell k) ∧ (∀ k ∈ ms, Cell k) ∧
  ∀ p (ks : List Int) H', H p = none → Same H H' → ks.Pairwise (· < ·) → (∀ k, k ∈ ks ↔ xor (decide (k ∈ ns)) (decide (k ∈ ms)) = true) → H' p = some (.tup (ks.map V.int)) → Q (.ref p) H'
theorem scAdded : FnScope ["one", "other"] ["one", "other"] (defScope sAdded) := ⟨rfl, rfl, rfl, by decide +kernel, rfl, by decide +kernel, by decide +kernel⟩
theorem ok_added {f : Addr} {fd : FuncData} (F : Fun K "added_cells" "added_cells" sAdded f fd) (B : Bl mg) : FnOk P w K mg base CX0 2 f fd ["one", "other"] (spAdded K) := by
  refine F.ok scAdded (fun vs H Q E h => ?_) (fun cdv A outer s H vs Q E hr h => ?_)
  · obtain ⟨a, b, ns, ms, rfl, _⟩ := h
    rfl
  · obtain ⟨a, b, ns, ms, rfl, ha, hb, l1, l2, c1, c2, out⟩ := h
    refine ⟨_, pss_one (ps_ret (pe_callTy call_tuple_of (by rfl) B.tuple (by decide +kernel) (pa_cons (pe_callB (cr_sortedSet rfl) (by rfl) B.sorted (by decide +kernel) (pa_cons (pe_op op_xorS (pe_callTy (cr_setTup rfl) (by rfl) B.set (by decide +kernel) (pa_cons (pv 0) pa_nil)) (pe_callTy (cr_setTup rfl) (by rfl) B.set (by decide +kernel) (pa_cons (pv 1) pa_nil))) pa_nil)) pa_nil))), ?_⟩
    refine ⟨_, rfl, a, ns, rfl, ha, by omega, fun p1 n1 hp1 => ?_⟩
    have s1 := same_new (o := SetO w p1 (fun j => decide (j ∈ ns)) n1) hp1
    refine ⟨_, rfl, b, ms, rfl, same_sqt s1 hb, by omega, fun p2 n2 hp2 => ?_⟩
    have s2 := same_new (o := SetO w p2 (fun j => decide (j ∈ ms)) n2) hp2
    refine ⟨p1, p2, _, _, n1, n2, rfl, rfl, s2 _ _ upd_same, upd_same, fun k hk => c1 k (of_decide_eq_true hk), fun k hk => c2 k (of_decide_eq_true hk), fun p3 c hp3 hc => ?_⟩
    have s3 := same_new (o := SetO w p3 (fun k => xor (decide (k ∈ ns)) (decide (k ∈ ms))) c) hp3
    refine ⟨p3, _, c, rfl, upd_same, by omega, fun ks p4 pw hk hlen hp4 => ?_⟩
    refine ⟨p4, _, rfl, .inl ⟨SqL.of upd_same, fun l hl => ?_⟩⟩
    have s4 := same_new (o := .lst (ks.map V.int)) hp4
    have s5 := same_new (o := .tup (ks.map V.int)) hl
    have sm := ((s1.trans s2).trans s3).trans s4
    exact out l ks _ (sm.free hl) (sm.trans s5) pw hk upd_same
end
end K92
namespace K92
open PySem PySem.Spec PyProof.Rows L2 Par
/-! ### bits -/
def upF : Nat → List Int → List Int
  | _, [] => []
  | i, b :: bs => if b = 1 then (i : Int) :: upF (i + 1) bs else upF (i + 1) bs
theorem upF_snoc : ∀ (j : Nat) (l : List Int) (b : Int), upF j (l ++ [b]) = upF j l ++ (if b = 1 then [((j + l.length : Nat) : Int)] else [])
  | j, [], b => by
    show (if b = 1 then [(j : Int)] else []) = [] ++ _
    simp
  | j, a :: l, b => by
    have h := upF_snoc (j + 1) l b
    have e : j + 1 + l.length = j + (l.length + 1) := by omega
    show (if a = 1 then (j : Int) :: upF (j + 1) (l ++ [b]) else upF (j + 1) (l ++ [b])) = (if a = 1 then (j : Int) :: upF (j + 1) l else upF (j + 1) l) ++ _
    rw [h, e, List.length_cons]
    split <;> rfl
theorem upF_step {bs : List Int} {i : Nat} {b : Int} (h : bs[i]? = some b) : upF 0 (bs.take (i + 1)) = upF 0 (bs.take i) ++ (if b = 1 then [(i : Int)] else []) := by
  have hi : i < bs.length := (List.getElem?_eq_some_iff.mp h).1
  rw [List.take_succ, h]
  show upF 0 (bs.take i ++ [b]) = _
  rw [upF_snoc, List.length_take]
  have : 0 + min i bs.length = i := by omega
  rw [this]
theorem mem_upF : ∀ (j : Nat) (bs : List Int) (k : Int), k ∈ upF j bs ↔ ∃ i : Nat, bs[i]? = some 1 ∧ k = ((j + i : Nat) : Int)
  | j, [], k => by simp [upF]
  | j, b :: bs, k => by
    have ih := mem_upF (j + 1) bs k
    unfold upF
    constructor
    · intro h
      split at h
      · rename_i hb
        rcases List.mem_cons.mp h with e | e
        · exact ⟨0, by simp [hb], by simpa using e⟩
        · obtain ⟨i, h1, h2⟩ := ih.mp e
          exact ⟨i + 1, by simpa using h1, by omega⟩
      · obtain ⟨i, h1, h2⟩ := ih.mp h
        exact ⟨i + 1, by simpa using h1, by omega⟩
    · rintro ⟨i, h1, h2⟩
      cases i with
      | zero =>
        have hb : b = 1 := by simpa using h1
        rw [if_pos hb]
        rw [h2]
        exact List.mem_cons_self ..
      | succ i =>
        have h3 : k ∈ upF (j + 1) bs := ih.mpr ⟨i, by simpa using h1, by omega⟩
        split
        · exact List.mem_cons_of_mem _ h3
        · exact h3
theorem upF_up : ∀ (j : Nat) (bs : List Int), (upF j bs).Pairwise (· < ·)
  | j, [] => List.Pairwise.nil
  | j, b :: bs => by
    unfold upF
    split
    · refine List.pairwise_cons.mpr ⟨fun k hk => ?_, upF_up (j + 1) bs⟩
      obtain ⟨i, _, e⟩ := (mem_upF (j + 1) bs k).mp hk
      omega
    · exact upF_up (j + 1) bs
theorem nodup_lt_ {l : List Int} (h : l.Pairwise (· < ·)) : l.Nodup := h.imp (fun a e => by omega)
theorem upF_in {bs : List Int} {k : Int} (h : k ∈ upF 0 bs) : 0 ≤ k ∧ k < bs.length := by
  obtain ⟨i, h1, e⟩ := (mem_upF 0 bs k).mp h
  have := (List.getElem?_eq_some_iff.mp h1).1
  omega
theorem upF_len : ∀ (j : Nat) (bs : List Int), (upF j bs).length ≤ bs.length
  | j, [] => Nat.le_refl _
  | j, b :: bs => by
    have := upF_len (j + 1) bs
    unfold upF
    split
    · simp only [List.length_cons]; omega
    · simp only [List.length_cons]; omega
/-- the bits of a board of n cells, those of S up, cell 0 too -/
def mkB (n : Nat) (S : Int → Bool) : List Int := (List.range n).map fun (i : Nat) => if (decide (i = 0) || S (i : Int)) = true then 1 else 0
def flipB (bs ns : List Int) : List Int := (List.range bs.length).map fun (i : Nat) => if decide ((i : Int) ∈ ns) = true then 1 - bs.getD i 0 else bs.getD i 0
/-- what is a board's bits: zeros and ones, the first one 1, at most 40 -/
def OkB (bs : List Int) : Prop := (∀ x ∈ bs, x = 0 ∨ x = 1) ∧ bs[0]? = some 1 ∧ bs.length ≤ 40
theorem mkB_len (n : Nat) (S : Int → Bool) : (mkB n S).length = n := by simp [mkB]
theorem flipB_len (bs ns : List Int) : (flipB bs ns).length = bs.length := by simp [flipB]
theorem mkB_ok {n : Nat} {S : Int → Bool} (h1 : 1 ≤ n) (h2 : n ≤ 40) : OkB (mkB n S) := by
  refine ⟨fun x hx => ?_, ?_, by rw [mkB_len]; exact h2⟩
  · obtain ⟨i, _, rfl⟩ := List.mem_map.mp hx
    split <;> simp
  · unfold mkB
    rw [List.getElem?_map, List.getElem?_range (by omega)]
    simp
theorem bit_at {bs : List Int} (h : OkB bs) {i : Nat} (hi : i < bs.length) : bs.getD i 0 = 0 ∨ bs.getD i 0 = 1 := by
  rw [List.getD_eq_getElem?_getD, List.getElem?_eq_getElem hi]
  exact h.1 _ (List.getElem_mem hi)
theorem up_iff {bs : List Int} (i : Nat) (hi : i < bs.length) : ((i : Int) ∈ upF 0 bs) ↔ bs.getD i 0 = 1 := by
  rw [mem_upF, List.getD_eq_getElem?_getD, List.getElem?_eq_getElem hi]
  constructor
  · rintro ⟨j, h1, h2⟩
    have : i = j := by omega
    subst this
    rw [List.getElem?_eq_getElem hi] at h1
    exact Option.some.inj h1
  · intro h
    exact ⟨i, by rw [List.getElem?_eq_getElem hi]; exact congrArg some h, by omega⟩
theorem tog_eq {bs ns : List Int} (h : OkB bs) (h0 : ∀ k ∈ ns, 1 ≤ k) {S : Int → Bool} (hS : ∀ k, S k = xor (decide (k ∈ upF 0 bs)) (decide (k ∈ ns))) : mkB bs.length S = flipB bs ns := by
  unfold mkB flipB
  refine List.map_congr_left fun i hi => ?_
  have hi2 : i < bs.length := List.mem_range.mp hi
  rw [hS]
  by_cases z : i = 0
  · subst z
    have n0 : ¬ ((0 : Nat) : Int) ∈ ns := fun q => by have := h0 _ q; omega
    have b0 : bs.getD 0 0 = 1 := by
      rw [List.getD_eq_getElem?_getD, h.2.1]
      rfl
    rw [decide_eq_false n0, b0]
    simp
  · rw [decide_eq_false z, Bool.false_or]
    by_cases u : (i : Int) ∈ upF 0 bs
    · have b1 := (up_iff i hi2).mp u
      rw [decide_eq_true u, b1]
      by_cases m : (i : Int) ∈ ns
      · rw [decide_eq_true m]; simp
      · rw [decide_eq_false m]; simp
    · have b1 : bs.getD i 0 = 0 := (bit_at h hi2).resolve_right fun q => u ((up_iff i hi2).mpr q)
      rw [decide_eq_false u, b1]
      by_cases m : (i : Int) ∈ ns
      · rw [decide_eq_true m]; simp
      · rw [decide_eq_false m]; simp
theorem flip_ok {bs ns : List Int} (h : OkB bs) (h0 : ∀ k ∈ ns, 1 ≤ k) : OkB (flipB bs ns) := by
  have hl : 1 ≤ bs.length := by
    have := (List.getElem?_eq_some_iff.mp h.2.1).1
    omega
  rw [← tog_eq h h0 (S := fun k => xor (decide (k ∈ upF 0 bs)) (decide (k ∈ ns))) (fun _ => rfl)]
  exact mkB_ok hl h.2.2
theorem flip_flip {bs ns : List Int} : flipB (flipB bs ns) ns = bs := by
  refine List.ext_getElem (by rw [flipB_len, flipB_len]) fun i h1 h2 => ?_
  have e : ∀ (cs : List Int) (h : i < (flipB cs ns).length), (flipB cs ns)[i] = if decide ((i : Int) ∈ ns) = true then 1 - cs.getD i 0 else cs.getD i 0 := fun cs h => by
    unfold flipB
    simp
  rw [e]
  have g : (flipB bs ns).getD i 0 = (flipB bs ns)[i]'(by rw [flipB_len]; exact h2) := by
    rw [List.getD_eq_getElem?_getD, List.getElem?_eq_getElem]
    rfl
  rw [g, e]
  have g2 : bs.getD i 0 = bs[i] := by
    rw [List.getD_eq_getElem?_getD, List.getElem?_eq_getElem h2]
    rfl
  rw [g2]
  split
  · omega
  · rfl
end K92
namespace K92
open PySem PySem.Spec PyProof.Rows L2 Par
theorem in_ints (x : Int) (ns : List Int) : inV (.int x) (ns.map V.int) = decide (x ∈ ns) := by
  unfold inV
  rw [List.any_map]
  rw [Bool.eq_iff_iff, List.any_eq_true, decide_eq_true_eq]
  constructor
  · rintro ⟨y, hy, e⟩
    have e2 : (y == x) = true := e
    have e3 : y = x := by simpa using e2
    exact e3 ▸ hy
  · intro h
    refine ⟨x, h, ?_⟩
    show (x == x) = true
    simp
theorem flat_ints (ns : List Int) : (ns.map V.int).all flatV = true := by
  rw [List.all_map, List.all_eq_true]
  intro x _
  rfl
theorem perm_sum : ∀ {l m : List Int}, l.Perm m → l.sum = m.sum := by
  intro l m h
  induction h with
  | nil => rfl
  | cons x _ ih => rw [List.sum_cons, List.sum_cons, ih]
  | swap x y l =>
    simp only [List.sum_cons]
    omega
  | trans _ _ h1 h2 => exact h1.trans h2
theorem no_fld {m : Str} {v : V} (h : (m == ("states" : Str)) = false) : ([("states", v)] : List (Str × V)).lookup m = none := by
  simp [List.lookup, h]
theorem fld_ {v : V} : ([("states", v)] : List (Str × V)).lookup ("states" : Str) = some v := by
  simp [List.lookup]
/-- a board at b, with these bits -/
def Bd (C : Addr) (H : Hp) (b : Addr) (bs : List Int) : Prop := ∃ dx t, H b = some (.ins C dx [("states", .ref t)]) ∧ H t = some (.tup (bs.map V.int))
theorem Bd.same {C : Addr} {H H' : Hp} {b : Addr} {bs : List Int} (s : Same H H') (h : Bd C H b bs) : Bd C H' b bs := by
  obtain ⟨dx, t, h1, h2⟩ := h
  exact ⟨dx, t, s _ _ h1, s _ _ h2⟩
theorem Bd.but {C p : Addr} {H H' : Hp} {b : Addr} {bs : List Int} (hp : PotAt H p) (s : But p H H') (h : Bd C H b bs) : Bd C H' b bs := by
  obtain ⟨dx, t, h1, h2⟩ := h
  obtain ⟨x, y, e, _⟩ := hp
  have n1 : b ≠ p := fun z => by rw [z, e] at h1; cases h1
  have n2 : t ≠ p := fun z => by rw [z, e] at h2; cases h2
  exact ⟨dx, t, s _ _ n1 h1, s _ _ n2 h2⟩
structure BC (K : PySem.W.Frag) (mg : Str → Option Value) (C : Addr) : Prop where
  cl : Cls K C
  nS : NoAttr K C "states"
  mgC : mg "Board" = some (.ref C)
section
variable {P : Program} {w : World} {K : PySem.W.Frag} {mg : Str → Option Value} {base : Heap}
/-- a method that is called by places -/
def HasM (P : Program) (w : World) (K : PySem.W.Frag) (mg : Str → Option Value) (base : Heap) (C : Addr) (m : Str) (lv : Nat) (ps : List Str) (sp : Sp) : Prop :=
  ∃ f fd, FnOk P w K mg base CX0 lv f fd ps sp ∧ Meth K C m f ∧ Binds K fd ps []
/-- len(self.states) -/
def spSize (C : Addr) : Sp := fun vs H Q _ => ∃ (b : Addr) (bs : List Int), vs = [.ref b] ∧ Bd C H b bs ∧ Q (.int (bs.length : Nat)) H
theorem scSize : FnScope ["self"] ["self"] (defScope mSize) := ⟨rfl, rfl, rfl, by decide +kernel, rfl, by decide +kernel, by decide +kernel⟩
theorem scLen : FnScope ["self"] ["self"] (defScope mLen) := ⟨rfl, rfl, rfl, by decide +kernel, rfl, by decide +kernel, by decide +kernel⟩
theorem ok_size {f C : Addr} {fd : FuncData} (F : Fun K "size" "Board.size" mSize f fd) (B : Bl mg) (T : BC K mg C) : FnOk P w K mg base CX0 2 f fd ["self"] (spSize C) := by
  refine F.ok scSize (fun vs H Q E h => ?_) (fun cdv A outer s H vs Q E hr h => ?_)
  · obtain ⟨b, bs, rfl, _⟩ := h
    rfl
  · obtain ⟨b, bs, rfl, ⟨dx, t, h1, h2⟩, out⟩ := h
    refine ⟨_, pss_one (ps_ret (pe_callB call_len_seq (by rfl) B.len PySem.boot_len (pa_cons (pe_fld (pv 0) rfl) pa_nil))), ?_⟩
    refine ⟨_, rfl, b, C, dx, _, _, rfl, h1, T.cl, T.nS, fld_, t, _, rfl, .inr (SqT.of h2), ?_⟩
    rw [List.length_map]
    exact out
theorem ok_len {f C : Addr} {fd : FuncData} (F : Fun K "__len__" "Board.__len__" mLen f fd) (B : Bl mg) (T : BC K mg C) : FnOk P w K mg base CX0 2 f fd ["self"] (spSize C) := by
  refine F.ok scLen (fun vs H Q E h => ?_) (fun cdv A outer s H vs Q E hr h => ?_)
  · obtain ⟨b, bs, rfl, _⟩ := h
    rfl
  · obtain ⟨b, bs, rfl, ⟨dx, t, h1, h2⟩, out⟩ := h
    refine ⟨_, pss_one (ps_ret (pe_callB call_len_seq (by rfl) B.len PySem.boot_len (pa_cons (pe_fld (pv 0) rfl) pa_nil))), ?_⟩
    refine ⟨_, rfl, b, C, dx, _, _, rfl, h1, T.cl, T.nS, fld_, t, _, rfl, .inr (SqT.of h2), ?_⟩
    rw [List.length_map]
    exact out
/-- up -/
def spUps (C : Addr) : Sp := fun vs H Q _ => ∃ (b : Addr) (bs : List Int), vs = [.ref b] ∧ Bd C H b bs ∧ bs.length ≤ 40 ∧ ∀ p H', H p = none → Same H H' → H' p = some (.tup ((upF 0 bs).map V.int)) → Q (.ref p) H'
abbrev nUps : List Str := ["self", "cell", "state"]
theorem scUps : FnScope nUps ["self"] (defScope mUps) := ⟨rfl, rfl, rfl, by decide +kernel, rfl, by decide +kernel, by decide +kernel⟩
theorem ok_ups {f C : Addr} {fd : FuncData} (F : Fun K "up" "Board.up" mUps f fd) (B : Bl mg) (T : BC K mg C) : FnOk P w K mg base CX0 2 f fd ["self"] (spUps C) := by
  refine F.ok scUps (fun vs H Q E h => ?_) (fun cdv A outer s H vs Q E hr h => ?_)
  · obtain ⟨b, bs, rfl, _⟩ := h
    rfl
  · obtain ⟨b, bs, rfl, ⟨dx, t, h1, h2⟩, hl, out⟩ := h
    refine ⟨_, pss_one (ps_ret (pe_callTy call_tuple_of (by rfl) B.tuple (by decide +kernel) (pa_cons (pe_lc (own := [("cell", 1), ("state", 2)]) (g := gTup K 2 (gCons (gName 1) (gCons (gName 2) gNil))) rfl scUps.nd (pi_enumT (by rfl) B.enumerate (pa_cons (pe_fld (pv 0) rfl) pa_nil)) (blkOk_by (own := [("cell", 1), ("state", 2)]) (N := nUps) (sc := defScope mUps) (by decide +kernel))
        (fun _ _ _ _ _ => by exact pg_tup rfl (pgs_cons (pg_name (i := 1) scUps.nd rfl (Or.inl rfl)) (pgs_cons (pg_name (i := 2) scUps.nd rfl (Or.inl rfl)) pgs_nil)))
        (fun _ _ _ _ _ => pts_one (pt_cmpR op_eq (pv 2) pe_int (nomark _))) (fun _ _ _ _ _ => pv 1)) pa_nil))), ?_⟩
    refine ⟨_, rfl, b, C, dx, _, _, rfl, h1, T.cl, T.nS, fld_, t, _, rfl, SqT.of h2, fun D hD => ?_⟩
    refine lc_it walk_enumT (fun i H' => Same H H' ∧ H' D = some (.lst ((upF 0 (bs.take i)).map V.int))) ⟨same_new hD, upd_same⟩ (fun i H' _ h => SqT.of (h.1 _ _ h2)) ?_ ?_
    · rintro i x H3 H4 hi ⟨s3, hD3⟩ ⟨T1, x1, y1, rfl, hT, rfl, ex, ey⟩
      have hi2 : i < bs.length := by rw [List.length_map] at hi; exact hi
      have hbi : bs[i]? = some bs[i] := List.getElem?_eq_getElem hi2
      have ey2 : y1 = .int bs[i] := by
        have ey' : (bs.map V.int)[i]? = some y1 := ey
        rw [List.getElem?_map, hbi] at ey'
        exact (Option.some.inj ey').symm
      have ex2 : x1 = .int (i : Nat) := (Option.some.inj ex).symm
      subst ey2 ex2
      have s4 : Same H (upd H3 T1 (.tup [.int (i : Nat), .int bs[i]])) := s3.trans (same_new hT)
      have hD4 := (same_new (o := .tup [.int (i : Nat), .int bs[i]]) hT) _ _ hD3
      have st := upF_step hbi
      refine ⟨T1, _, rfl, SqT.of upd_same, rfl, _, _, rfl, _, _, rfl, rfl, rfl, _, rfl, rfl, _, rfl, ite2 (fun hb => ?_) (fun hb => ?_)⟩
      · have hb1 : bs[i] = 1 := by
          have := of_decide_eq_true hb
          injection this
        refine ⟨_, rfl, _, hD4, ?_, ?_, ?_⟩
        · have := upF_len 0 (bs.take i)
          rw [List.length_take] at this
          rw [List.length_map]
          exact small1000 (by omega)
        · intro z o e
          have hDH : H D = none := hD
          rw [upd_ne (ne_of_none e hDH)]
          exact s4 z o e
        · rw [upd_same, st, if_pos hb1, List.map_append]
          rfl
      · have hb1 : ¬ bs[i] = 1 := fun z => hb (decide_eq_true (by rw [z]))
        refine ⟨s4, ?_⟩
        rw [st, if_neg hb1, List.append_nil]
        exact hD4
    · rintro H3 ⟨s3, hD3⟩
      rw [List.length_map, List.take_length] at hD3
      refine ⟨D, _, rfl, .inl ⟨SqL.of hD3, fun l hl2 => ?_⟩⟩
      exact out l _ (s3.free hl2) (s3.trans (same_new hl2)) upd_same
/-- parity -/
def spPar (K : PySem.W.Frag) (C : Addr) : Sp := fun vs H Q _ => ∃ (b a : Addr) (bs ns : List Int), vs = [.ref b, .ref a] ∧ Bd C H b bs ∧ Sq K H a (ns.map V.int) ∧ ns.length ≤ 500 ∧ (∀ k ∈ ns, 0 ≤ k ∧ k < bs.length) ∧ ns.Nodup ∧
  ∀ H', Same H H' → Q (.int ((ns.map fun k => bs.getD k.toNat 0).sum % 2)) H'
abbrev nPar : List Str := ["self", "cells", "chosen", "cell"]
end
end K92
namespace K92
open PySem PySem.Spec PyProof.Rows L2 Par
section
variable {P : Program} {w : World} {K : PySem.W.Frag} {mg : Str → Option Value} {base : Heap}
/-- __init__ -/
def spInit (K : PySem.W.Frag) (C : Addr) : Sp := fun vs H Q _ => ∃ (b dx u : Addr) (n : Nat) (ns : List Int), vs = [.ref b, .int (n : Nat), .ref u] ∧ H b = some (.ins C dx []) ∧ Sq K H u (ns.map V.int) ∧ ns.length ≤ 500 ∧ 1 ≤ n ∧ n ≤ 40 ∧
  (∀ k ∈ ns, 0 ≤ k ∧ k < (n : Nat)) ∧ ns.Nodup ∧
  ∀ H' t, But b H H' → H' b = some (.ins C dx [("states", .ref t)]) → H' t = some (.tup ((mkB n fun k => decide (k ∈ ns)).map V.int)) → Q .non H'
abbrev nInit : List Str := ["self", "size", "up", "raised", "cell"]
theorem scInit : FnScope nInit ["self", "size", "up"] (defScope mInit) := ⟨rfl, rfl, rfl, by decide +kernel, rfl, by decide +kernel, by decide +kernel⟩
theorem ok_init {f C e : Addr} {fd : FuncData} (F : FunD K "__init__" "Board.__init__" (defArgs mInit) (defBody mInit) (defScope mInit) [] [("up", .ref e)] f fd) (B : Bl mg) (T : BC K mg C)
    (DZ : Has P w K mg base "is_size" 3 ["thing"] spIsSize) (DC : HasN P w K mg base "cell_tuple" 5 "things" (spCells K)) : FnOk P w K mg base CX0 6 f fd ["self", "size", "up"] (spInit K C) := by
  obtain ⟨fZ, fdZ, GZ, mZ, kZ, bZ⟩ := DZ
  obtain ⟨fD, fdD, GD, mD, kD, bD⟩ := DC
  refine F.ok scInit (fun vs H Q E h => ?_) (fun cdv A outer s H vs Q E hr h => ?_)
  · obtain ⟨b, dx, u, n, ns, rfl, _⟩ := h
    rfl
  · obtain ⟨b, dx, u, n, ns, rfl, hb, hq, hl, n1, n2, hin, hnd, out⟩ := h
    have r2 : Room 3 _ := hr.mono (by decide)
    refine ⟨_, pss_cons (ps_if (pt_not (pt_val (pe_call GZ r2 (by rfl) mZ kZ bZ .nil pass0 (pa_cons (pv 1) pa_nil)))) (pss_one ps_off) pss_nil)
      (pss_cons (ps_set (i := 3) scInit.nd rfl (Or.inr rfl) (pe_callN (n := 1) (ks := ["size"]) GD hr (by rfl) mD kD bD pass0 (pa_cons (pv 2) pa_nil) (pk_cons (pv 1) pk_nil)))
      (pss_one (ps_fld (pv 0) (pe_callTy call_tuple_of (by rfl) B.tuple (by decide +kernel) (pa_cons (pe_lc (own := [("cell", 4)]) (g := gName 4) (te := tIf (tOr (tTest (tOp rEq (tVar 4) (tC (.int 0)))) (tTest (tOp (rIn K false) (tVar 4) (tVar 3)))) (tC (.int 1)) (tC (.int 0))) rfl scInit.nd (pi_range1 (by rfl) B.range (pa_cons (pv 1) pa_nil)) (blkOk_by (own := [("cell", 4)]) (N := nInit) (sc := defScope mInit) (by decide +kernel))
        (fun _ _ _ _ _ => pg_name (i := 4) scInit.nd rfl (Or.inl rfl)) (fun _ _ _ _ _ => pts_nil)
        (fun _ _ _ _ _ => by exact pe_ifExp (PW.pt (pw_or (pt_cmpR op_eq (pv 4) pe_int (nomark _)) (pw_or1 (pt_cmpR op_in_seq (pv 4) (pv 3) (by rfl))))) pe_int pe_int)) pa_nil)) rfl))), ?_⟩
    refine ⟨_, rfl, (n : Nat), rfl, _, rfl, ?_⟩
    have e1 : decide ((1 : Int) ≤ (n : Nat)) = true := decide_eq_true (by omega)
    have e2 : decide (((n : Nat) : Int) ≤ 40) = true := decide_eq_true (by omega)
    rw [e1, e2]
    refine iteF ?_
    refine ⟨_, rfl, _, rfl, rfl, rfl, u, (n : Nat), ns, rfl, hq, hl, hin, hnd, ?_⟩
    intro p ms H1 hp s1 pm pw hp1
    refine ⟨_, rfl, _, rfl, by omega, by omega, fun D hD => ?_⟩
    rw [Int.toNat_natCast]
    have hms : ∀ k : Int, decide (k ∈ ms) = decide (k ∈ ns) := fun k => by
      by_cases z : k ∈ ns
      · rw [decide_eq_true z, decide_eq_true (pm.mem_iff.mpr z)]
      · rw [decide_eq_false z, decide_eq_false (fun q => z (pm.mem_iff.mp q))]
    refine lc_range (lo := 0) (n := n) (fun i H' => Same H1 H' ∧ H' D = some (.lst ((mkB i fun k => decide (k ∈ ns)).map V.int))) ⟨same_new hD, upd_same⟩ ?_ ?_
    · rintro i H2 hi ⟨s2, hD2⟩
      have e0 : (0 : Int) + (i : Nat) = (i : Nat) := by omega
      rw [e0]
      have step : ∀ x : Int, (if (decide (i = 0) || decide ((i : Int) ∈ ns)) = true then (1 : Int) else 0) = x → ∃ acc, H2 D = some (.lst acc) ∧ acc.length < sizeLine ∧
          Same H1 (upd H2 D (.lst (acc ++ [V.int x]))) ∧ (upd H2 D (.lst (acc ++ [V.int x]))) D = some (.lst ((mkB (i + 1) fun k => decide (k ∈ ns)).map V.int)) := by
        intro x hx
        refine ⟨_, hD2, by rw [List.length_map, mkB_len]; exact small1000 (by omega), ?_, ?_⟩
        · intro z o e
          rw [upd_ne (ne_of_none e hD)]
          exact s2 z o e
        · rw [upd_same]
          unfold mkB
          rw [List.range_succ, List.map_append, List.map_append]
          show some (HO.lst (_ ++ [V.int x])) = some (HO.lst (_ ++ [V.int (if (decide (i = 0) || decide ((i : Int) ∈ ns)) = true then (1 : Int) else 0)]))
          rw [hx]
      refine ⟨rfl, yesT ?_⟩
      refine ⟨_, rfl, rfl, _, rfl, ite2 (fun hz => iteT ?_) (fun hz => ?_)⟩
      · have hz1 : i = 0 := by
          have z := of_decide_eq_true hz
          have z2 : ((i : Nat) : Int) = 0 := by injection z
          omega
        exact step 1 (by rw [decide_eq_true hz1]; rfl)
      · have hz1 : ¬ i = 0 := fun z => hz (decide_eq_true (by rw [z]; rfl))
        refine ⟨_, rfl, _, rfl, p, _, rfl, .inr (SqT.of (s2 _ _ hp1)), rfl, flat_ints _, _, rfl, ?_⟩
        show if inV (V.int ((i : Nat) : Int)) (ms.map V.int) = true then _ else _
        rw [in_ints, hms]
        by_cases hm : ((i : Nat) : Int) ∈ ns
        · rw [decide_eq_true hm]
          exact iteT (step 1 (by rw [decide_eq_true hm, Bool.or_true]; rfl))
        · rw [decide_eq_false hm]
          exact iteF (step 0 (by rw [decide_eq_false hm, decide_eq_false hz1]; rfl))
    · rintro H2 ⟨s2, hD2⟩
      refine ⟨D, _, rfl, .inl ⟨SqL.of hD2, fun t ht => ?_⟩⟩
      have s3 := same_new (o := .tup ((mkB n fun k => decide (k ∈ ns)).map V.int)) ht
      have s123 : Same H _ := (s1.trans s2).trans s3
      have nb : t ≠ b := fun z => by
        have := (s1.trans s2) _ _ hb
        rw [← z, ht] at this
        cases this
      refine ⟨_, rfl, b, C, dx, [], rfl, s123 _ _ hb, T.cl, T.nS, (by show 0 < 1000; decide), ?_⟩
      refine out _ t (fun x o nx e => ?_) upd_same ?_
      · rw [upd_ne nx]
        exact s123 _ _ e
      · rw [upd_ne nb, upd_same]
/-- Board as a class whose __init__ keeps its promise -/
def HasIni (P : Program) (w : World) (K : PySem.W.Frag) (mg : Str → Option Value) (base : Heap) (C : Addr) : Prop :=
  ∃ f fd, FnOk P w K mg base CX0 6 f fd ["self", "size", "up"] (spInit K C) ∧ Mk K C f ∧ KBn K fd ["self", "size", "up"] 2 ["up"] (fun us ws => us ++ ws) (fun vs zs => vs ++ zs) ∧
    KBn K fd ["self", "size", "up"] 1 ["size", "up"] (fun us ws => us ++ ws) (fun vs zs => vs ++ zs) ∧ ∃ (e : Addr) (ds : List Value), (∀ H, SqT K H e []) ∧ Vals [V.ref e] ds ∧ Binds K fd ["self", "size", "up"] ds
/-- what Board(..) leads to -/
theorem made_board {C : Addr} {H : Hp} {n : Nat} {u : Addr} {ns : List Int} {W : Addr → Hp → Prop} (hq : Sq K H u (ns.map V.int)) (hl : ns.length ≤ 500) (n1 : 1 ≤ n) (n2 : n ≤ 40) (hin : ∀ k ∈ ns, 0 ≤ k ∧ k < (n : Nat)) (hnd : ns.Nodup)
    (out : ∀ x H', H x = none → Same H H' → Bd C H' x (mkB n fun k => decide (k ∈ ns)) → W x H') :
    ∀ x dx, H x = none → H dx = none → dx ≠ x → spInit K C [.ref x, .int (n : Nat), .ref u] (upd (upd H dx (.own x)) x (.ins C dx [])) (fun v H3 => v = .non ∧ W x H3) (fun _ _ _ => False) := by
  intro x dx hx hdx ne
  have s1 : Same H (upd (upd H dx (.own x)) x (.ins C dx [])) := fun z o e => by
    rw [upd_ne (ne_of_none e hx), upd_ne (ne_of_none e hdx)]
    exact e
  refine ⟨x, dx, u, n, ns, rfl, upd_same, hq.same s1, hl, n1, n2, hin, hnd, fun H' t bt h1 h2 => ⟨rfl, ?_⟩⟩
  refine out x H' hx (fun z o e => ?_) ⟨dx, t, h1, h2⟩
  exact bt z o (ne_of_none e hx) (s1 z o e)
/-- toggled -/
def spTog (K : PySem.W.Frag) (C : Addr) : Sp := fun vs H Q _ => ∃ (b a : Addr) (bs ns : List Int), vs = [.ref b, .ref a] ∧ Bd C H b bs ∧ OkB bs ∧ Sq K H a (ns.map V.int) ∧ ns.length ≤ 500 ∧ (∀ k ∈ ns, 1 ≤ k ∧ k < bs.length) ∧ ns.Nodup ∧
  ∀ q H', H q = none → Same H H' → Bd C H' q (flipB bs ns) → Q (.ref q) H'
abbrev nTog : List Str := ["self", "cells", "changed"]
end
end K92
namespace K92
open PySem PySem.Spec PyProof.Rows L2 Par
section
variable {P : Program} {w : World} {K : PySem.W.Frag} {mg : Str → Option Value} {base : Heap}
/-- a width from 1 to most -/
def spWidth : Sp := fun vs H Q _ => ∃ (p : Addr) (m : Int), vs = [.ref p, .int m] ∧ PotAt H p ∧ 5 ≤ m ∧ m ≤ 1000 ∧ ∀ (n : Nat) H', 1 ≤ n → (n : Int) ≤ m → But p H H' → PotAt H' p → Q (.int (n : Nat)) H'
theorem scWidth : FnScope ["_law_pot_here", "_law_most"] ["_law_pot_here", "_law_most"] (defScope sWidth) := ⟨rfl, rfl, rfl, by decide +kernel, rfl, by decide +kernel, by decide +kernel⟩
theorem ok_width {f : Addr} {fd : FuncData} (F : Fun K "_law_width" "_law_width" sWidth f fd) (B : Bl mg) (D : Has P w K mg base "_law_draw" 2 ["_law_pot_here", "_law_many"] spDraw) : FnOk P w K mg base CX0 3 f fd ["_law_pot_here", "_law_most"] spWidth := by
  obtain ⟨fD, fdD, GD, mD, kD, bD⟩ := D
  refine F.ok scWidth (fun vs H Q E h => ?_) (fun cdv A outer s H vs Q E hr h => ?_)
  · obtain ⟨p, m, rfl, _⟩ := h
    rfl
  · obtain ⟨p, m, rfl, hp, m1, m2, out⟩ := h
    refine ⟨_, pss_one (ps_ret (pe_ix ix_list (pe_lst (pa_cons (pe_callB (call_min2 rfl) (by rfl) B.min (by decide +kernel) (pa_cons pe_int (pa_cons (pv 1) pa_nil))) (pa_cons (pe_callB (call_min2 rfl) (by rfl) B.min (by decide +kernel) (pa_cons pe_int (pa_cons (pv 1) pa_nil)))
      (pa_cons (pe_op op_add pe_int (pe_call GD hr (by rfl) mD kD bD .nil pass0 (pa_cons (pv 0) (pa_cons (pv 1) pa_nil)))) pa_nil)))) (pe_call GD hr (by rfl) mD kD bD .nil pass0 (pa_cons (pv 0) (pa_cons pe_int pa_nil))) (fun _ _ => rfl))), ?_⟩
    refine ⟨_, rfl, 3, m, rfl, ?_⟩
    refine ⟨_, rfl, 5, m, rfl, ?_⟩
    refine ⟨_, rfl, _, rfl, p, m, rfl, hp, by omega, by omega, ?_⟩
    intro d H1 d0 d1 b1 hp1
    refine ⟨1, d, rfl, rfl, (by show 3 ≤ sizeLine; decide), fun q hq => ?_⟩
    have hp2 := hp1.same (same_new (o := .lst [.int (if m < 3 then m else 3), .int (if m < 5 then m else 5), .int (1 + d)]) hq)
    refine ⟨_, rfl, p, 3, rfl, hp2, by decide, by decide, ?_⟩
    intro e H2 e0 e1 b2 hp3
    have nq : q ≠ p := fun z => by
      obtain ⟨_, _, y, _⟩ := hp1
      rw [← z, hq] at y
      cases y
    have hq2 := b2 q _ nq upd_same
    have bb : But p H H2 := (b1.trans (But.new hq)).trans b2
    rcases (show e = 0 ∨ e = 1 ∨ e = 2 by omega) with rfl | rfl | rfl
    · refine ⟨q, _, 0, _, rfl, rfl, SqL.of hq2, rfl, ?_⟩
      rw [if_neg (by omega)]
      exact out 3 H2 (by decide) (by omega) bb hp3
    · refine ⟨q, _, 1, _, rfl, rfl, SqL.of hq2, rfl, ?_⟩
      rw [if_neg (by omega)]
      exact out 5 H2 (by decide) (by omega) bb hp3
    · refine ⟨q, _, 2, _, rfl, rfl, SqL.of hq2, rfl, ?_⟩
      have z := out (1 + d).toNat H2 (by omega) (by omega) bb hp3
      have y : (((1 + d).toNat : Nat) : Int) = 1 + d := by omega
      rw [y] at z
      exact z
/-- new bits -/
def spBits : Sp := fun vs H Q _ => ∃ (p : Addr) (n : Nat), vs = [.ref p, .int (n : Nat)] ∧ PotAt H p ∧ 1 ≤ n ∧ n ≤ 40 ∧ ∀ q (bs : List Int) H', H q = none → OkB bs → bs.length = n → But p H H' → PotAt H' p → H' q = some (.lst (bs.map V.int)) → Q (.ref q) H'
abbrev nBits : List Str := ["_law_pot_here", "_law_width_here", "_law_spot"]
theorem scBits : FnScope nBits ["_law_pot_here", "_law_width_here"] (defScope sBits) := ⟨rfl, rfl, rfl, by decide +kernel, rfl, by decide +kernel, by decide +kernel⟩
theorem ok_bits {f : Addr} {fd : FuncData} (F : Fun K "_law_bits" "_law_bits" sBits f fd) (B : Bl mg) (D : Has P w K mg base "_law_draw" 2 ["_law_pot_here", "_law_many"] spDraw) : FnOk P w K mg base CX0 3 f fd ["_law_pot_here", "_law_width_here"] spBits := by
  obtain ⟨fD, fdD, GD, mD, kD, bD⟩ := D
  refine F.ok scBits (fun vs H Q E h => ?_) (fun cdv A outer s H vs Q E hr h => ?_)
  · obtain ⟨p, n, rfl, _⟩ := h
    rfl
  · obtain ⟨p, n, rfl, hp, n1, n2, out⟩ := h
    refine ⟨_, pss_one (ps_ret (pe_op op_cat (pe_lst (pa_cons pe_int pa_nil)) (pe_lc (own := [("_law_spot", 2)]) (g := gName 2) (te := tCall spDraw [] E0 (tCons (tVar 0) (tCons (tC (.int 2)) tNil))) rfl scBits.nd (pi_range2 (by rfl) B.range (pa_cons pe_int (pa_cons (pv 1) pa_nil))) (blkOk_by (own := [("_law_spot", 2)]) (N := nBits) (sc := defScope sBits) (by decide +kernel))
        (fun _ _ _ _ _ => pg_name (i := 2) scBits.nd rfl (Or.inl rfl)) (fun _ _ _ _ _ => pts_nil) (fun _ _ _ _ _ => by exact pe_call GD hr (by rfl) mD kD bD .nil pass0 (pa_cons (pv 0) (pa_cons pe_int pa_nil)))))), ?_⟩
    refine ⟨by decide, fun q hq => ?_⟩
    have hp1 := hp.same (same_new (o := .lst [.int 1]) hq)
    have nq : q ≠ p := fun z => by
      obtain ⟨_, _, y, _⟩ := hp
      rw [← z, hq] at y
      cases y
    refine ⟨_, rfl, 1, (n : Nat), rfl, ⟨by omega, by omega, by omega, by omega⟩, fun D hD => ?_⟩
    have hDH : H D = none := (same_new hq).free hD
    have nD : D ≠ p := fun z => by
      obtain ⟨_, _, y, _⟩ := hp
      rw [← z, hDH] at y
      cases y
    have qD : q ≠ D := fun z => by
      rw [← z, upd_same] at hD
      cases hD
    have en : ((n : Nat) : Int) - 1 = ((n - 1 : Nat) : Int) := by omega
    rw [en, Int.toNat_natCast]
    refine lc_range (lo := 1) (n := n - 1) (fun i H' => ∃ cs : List Int, H' D = some (.lst (cs.map V.int)) ∧ cs.length = i ∧ (∀ c ∈ cs, c = 0 ∨ c = 1) ∧ H' q = some (.lst [.int 1]) ∧ But p H H' ∧ PotAt H' p)
      ⟨[], upd_same, rfl, by simp, by rw [upd_ne qD, upd_same], (But.new hq).trans (But.new hD), hp1.same (same_new hD)⟩ ?_ ?_
    · rintro i H2 hi ⟨cs, hc, hcl, hcb, hq2, b2, hp2⟩
      refine ⟨rfl, yesT ?_⟩
      refine ⟨_, rfl, p, 2, rfl, hp2, by decide, by decide, ?_⟩
      intro d H3 d0 d1 b3 hp3
      refine ⟨_, b3 D _ nD hc, (by rw [List.length_map]; exact small1000 (by omega)), cs ++ [d], ?_, ?_, ?_, ?_, ?_, ?_⟩
      · rw [upd_same, List.map_append]
        rfl
      · rw [List.length_append, hcl]
        rfl
      · intro c hc2
        rcases List.mem_append.mp hc2 with z | z
        · exact hcb c z
        · have : c = d := by simpa using z
          omega
      · rw [upd_ne qD]
        exact b3 q _ nq hq2
      · intro z o n3 e
        rw [upd_ne (ne_of_none e hDH)]
        exact b3 z o n3 (b2 z o n3 e)
      · obtain ⟨x, y, e, r⟩ := hp3
        exact ⟨x, y, by rw [upd_ne (Ne.symm nD)]; exact e, r⟩
    · rintro H2 ⟨cs, hc, hcl, hcb, hq2, b2, hp2⟩
      refine ⟨q, D, _, _, rfl, rfl, hq2, hc, (by rw [List.length_map]; show 1 + _ ≤ sizeLine; rw [sizeLine_eq]; omega), fun r hr2 => ?_⟩
      have hrH : H r = none := b2.free hp hr2 hp2
      refine out r (1 :: cs) _ hrH ⟨fun x hx => ?_, rfl, by rw [List.length_cons]; omega⟩ (by rw [List.length_cons]; omega) (b2.trans (But.new hr2)) (hp2.same (same_new hr2)) upd_same
      rcases List.mem_cons.mp hx with z | z
      · exact .inr z
      · exact hcb x z
/-- the sum of the bits at these places, by its rest -/
def parB (bs ns : List Int) : Int := (ns.map fun k => bs.getD k.toNat 0).sum % 2
end
end K92
namespace Par
open PySem PySem.Spec PyProof.Rows L2
section
variable {P : Program} {w : World} {A : Around} {E : Value → Shared → Prop} {s : Shared} {a : Addr} {S : Int → Bool} {n : Nat}
/-- how many members a set has -/
theorem SetR.count (R : SetR w s.heap a S n) {L : List Int} (hn : L.Nodup) (hm : ∀ k, k ∈ L ↔ S k = true) : n = L.length := by
  obtain ⟨o, es, ep, t, ho, hx, hd, g, nd, hs, hb, hf, hz, hr, hl⟩ := R
  have h1 := nodup_le nd (fun k hk => (hm k).mpr ((hs k).2 hk))
  have h2 := nodup_le hn (fun k hk => (hs k).1 ((hm k).mp hk))
  have h3 : (es.toList.map keyOf).length = n := by rw [List.length_map, Array.length_toList, hz]
  rw [h3] at h1 h2
  omega
theorem both_one {q : Addr} {T : Int → Bool} {nq : Nat} {k : Int} {tk : Tok} {Q : Unit → Shared → Prop} (Rq : SetR w s.heap q T nq) (R : SetR w s.heap a S n) (room : n + 1 < scanBound)
    (hQ : ∀ h' m, m ≤ n + 1 → Heap.SameBut a s.heap h' → SetR w h' a (fun j => S j || (T j && decide (j = k))) m → Q () { s with heap := h' }) :
    wpAny (model P w) A (holding [.int k tk] (do
      if (← setFind q (.int k tk) ((intKind P w).hash k)).isSome then
        let _ ← setAddHashed a (.int k tk) ((intKind P w).hash k))) Q E s := by
  refine wpAny_holding (wpAny_bind (wpAny_setFind_of (knd := intKind P w) (intKind_is P w k tk) rfl Rq.setOf fun r hr => ?_))
  cases hT : T k with
  | true =>
    rw [hT] at hr
    refine wp_if_pos hr ?_
    refine wpAny_bind (setR_add_hashed R room fun h2 sb2 R2 => ?_)
    refine wpAny_pure (hQ h2 _ (by split <;> omega) sb2 (R2.congr fun j => ?_))
    by_cases e : j = k
    · subst e
      rw [hT]
      simp
    · simp [e]
  | false =>
    rw [hT] at hr
    refine wp_if_neg (by rw [hr]; exact Bool.false_ne_true) ?_
    refine wpAny_pure (hQ s.heap n (by omega) (Heap.SameBut.refl a s.heap) (R.congr fun j => ?_))
    by_cases e : j = k
    · subst e
      rw [hT]
      simp
    · simp [e]
theorem both_all {body : Int × Value → PUnit → Sem (ForInStep PUnit)} {o q : Addr} {oo : Obj} {T : Int → Bool} {nq : Nat} (hne : o ≠ a) (hnq : q ≠ a)
    (hb : ∀ (e : Int × Value) (s : Shared) (S : Int → Bool) (n : Nat) (Q : ForInStep PUnit → Shared → Prop), GoodE e → s.heap.get? o = some oo → SetR w s.heap q T nq → SetR w s.heap a S n → n + 1 < scanBound →
      (∀ h' m, m ≤ n + 1 → Heap.SameBut a s.heap h' → SetR w h' a (fun j => S j || (T j && decide (j = keyOf e))) m → Q (.yield ⟨⟩) { s with heap := h' }) → wpAny (model P w) A (body e ⟨⟩) Q E s) :
    ∀ (l : List (Int × Value)) (s : Shared) (S : Int → Bool) (n : Nat) (Q : PUnit → Shared → Prop), (∀ e ∈ l, GoodE e) → s.heap.get? o = some oo → SetR w s.heap q T nq → SetR w s.heap a S n → n + l.length + 1 < scanBound →
      (∀ h' m, Heap.SameBut a s.heap h' → SetR w h' a (fun j => S j || (T j && decide (j ∈ l.map keyOf))) m → Q ⟨⟩ { s with heap := h' }) → wpAny (model P w) A (forIn l ⟨⟩ body) Q E s
  | [], s, S, n, Q, _, _, _, R, _, hQ => by
    rw [List.forIn_nil]
    exact wpAny_pure (hQ s.heap n (Heap.SameBut.refl a s.heap) (R.congr fun j => by simp))
  | e :: l, s, S, n, Q, g, Ro, Rq, R, room, hQ => by
    rw [List.forIn_cons]
    simp only [List.length_cons] at room
    refine wpAny_bind (hb e s S n _ (g e (List.mem_cons_self ..)) Ro Rq R (by omega) fun h1 m hm sb1 R1 => ?_)
    refine both_all hne hnq hb l { s with heap := h1 } _ m Q (fun x hx => g x (List.mem_cons_of_mem _ hx)) ((sb1.2 o hne).trans Ro) (Rq.at fun u e' => (sb1.2 q hnq).trans e') R1 (by omega) fun h2 m2 sb2 R2 => ?_
    refine hQ h2 m2 (sb1.trans sb2) (R2.congr fun j => ?_)
    show (S j || (T j && decide (j ∈ keyOf e :: l.map keyOf))) = ((S j || (T j && decide (j = keyOf e))) || (T j && decide (j ∈ l.map keyOf)))
    have hd : decide (j ∈ keyOf e :: l.map keyOf) = (decide (j = keyOf e) || decide (j ∈ l.map keyOf)) := by
      rw [Bool.eq_iff_iff]
      simp only [decide_eq_true_eq, Bool.or_eq_true, List.mem_cons]
    rw [hd]
    cases S j <;> cases T j <;> simp
theorem call_and {b : Addr} {T : Int → Bool} {m : Nat} {Q : Value → Shared → Prop} (Ra : SetR w s.heap a S n) (Rb : SetR w s.heap b T m) (nab : a ≠ b) (hS : ∀ k, S k = true → Cell k) (hT : ∀ k, T k = true → Cell k)
    (hQ : ∀ h' c, (∀ x u, s.heap.get? x = some u → h'.get? x = some u) → SetR w h' s.heap.objs.size (fun k => S k && T k) c → Q (.ref s.heap.objs.size) { s with heap := h' }) :
    wpAny (model P w) A (call (.builtin "set.__and__") [.ref a, .ref b]) Q E s := by
  have ta : s.TypeIs (.ref a) "set" := set_typ Ra
  have tb : s.TypeIs (.ref b) "set" := set_typ Rb
  have la := Ra.lt
  have lb := Rb.lt
  have n40 : n ≤ 40 := SetR.few Ra hS
  have m40 : m ≤ 40 := SetR.few Rb hT
  refine wpAny_call_entry F.slot_set_and ta entry_set_and ?_ (F.args_set_and_2 _ _)
  unfold Builtin.«frozenset.__and__»
  show wpAny _ _ (do
    let (self, other) ← Builtin.Frozenset.slot1 "__and__" ⟨[.ref a, .ref b], []⟩
    let (l, r) := if false = true then (other, self) else (self, other)
    if !(← Builtin.Frozenset.isAnySet l <&&> Builtin.Frozenset.isAnySet r) then rule s!"frozenset.{"__and__"}.declined"; return ← ret .notImplemented
    ret (← Builtin.Frozenset.intersection s!"frozenset.{"__and__"}" (← Builtin.Frozenset.addrOf l) r)) _ _ s
  refine wpAny_bind (wpAny_of_eq (a := (Value.ref a, Value.ref b)) (by rfl) ?_)
  dsimp only
  rw [if_neg Bool.false_ne_true]
  dsimp only
  refine wpAny_bind (wpAny_bind (any_set ta ?_))
  show wpAny _ _ (Builtin.Frozenset.isAnySet (.ref b)) _ _ s
  refine any_set tb ?_
  refine wp_if_neg (by simp) ?_
  refine wpAny_bind (m := Builtin.Frozenset.addrOf (.ref a)) (wpAny_pure ?_)
  refine wpAny_bind ?_
  unfold Builtin.Frozenset.intersection
  refine wp_if_neg (by simpa using Ne.symm nab) ?_
  try refine wpAny_bind (wpAny_pure ?_)
  refine wpAny_bind (base_set ta ?_)
  refine wpAny_bind (new_set ?_)
  have fr := setR_fresh (h := s.heap) w
  generalize hr : s.heap.objs.size = r at *
  generalize hg : s.heap.push { cls := .type "set", dict := none, data := .set #[] 0 (.fresh 0 0 (!w.params.followText "set-order")) } = g at *
  have keep : ∀ x u, s.heap.get? x = some u → g.get? x = some u := fun x u e => by
    rw [← hg]
    exact Heap.get?_push_of_some _ e
  have Ra1 : SetR w g a S n := Ra.at fun u e => keep a u e
  have Rb1 : SetR w g b T m := Rb.at fun u e => keep b u e
  have hra : a ≠ r := Nat.ne_of_lt la
  have hrb : b ≠ r := Nat.ne_of_lt lb
  refine wpAny_bind (m := Builtin.Frozenset.addrOf (.ref r)) (wpAny_pure ?_)
  refine wpAny_bind (wpAny_holding ?_)
  refine wpAny_bind (any_set (s := { s with heap := g }) (set_typ Rb1) ?_)
  refine wp_if_pos rfl ?_
  refine wpAny_bind (m := Builtin.Frozenset.addrOf (.ref b)) (wpAny_pure ?_)
  obtain ⟨oa, esa, epa, ta2, hoa, hxa, hda, _, _, _, _, hfa, hna, _⟩ := id Ra1
  obtain ⟨ob, esb, epb, tb2, hob, hxb, hdb, _, _, _, _, hfb, hnb, _⟩ := id Rb1
  refine wpAny_bind (m := Builtin.Frozenset.sizeOf b) ?_
  unfold Builtin.Frozenset.sizeOf
  refine wpAny_bind (wpAny_setEntries_of hob hdb hfb (wpAny_pure ?_))
  refine wpAny_bind (m := do return (← setEntries a).size) ?_
  refine wpAny_bind (wpAny_setEntries_of hoa hda hfa (wpAny_pure ?_))
  by_cases hc : esb.size > esa.size
  all_goals first | rw [if_pos hc] | rw [if_neg hc]
  · dsimp only
    refine wpAny_bind (wpAny_setEpoch_of hoa hda hfa ?_)
    refine wpAny_bind (walk_unseen (s := { s with heap := g }) (f := r) Ra1 (fun x hx => by
      rcases List.mem_cons.mp hx with z | z
      · rw [z]
        exact ⟨_, _, Rb1⟩
      · rw [List.mem_singleton.mp z]
        exact ⟨_, _, fr⟩) fr fun l h2 sb2 R2 gl => ?_)
    obtain ⟨gl1, gl2, gl3, gl4⟩ := gl
    rw [← Array.forIn_toList]
    refine wpAny_bind (both_all (a := r) (o := a) (q := b) (oo := oa) hra hrb ?_ l.toList { s with heap := h2 } (fun _ => false) 0 _ gl1 ((sb2.2 a hra).trans hoa) (Rb1.at fun u e => (sb2.2 b hrb).trans e) R2 (by rw [Array.length_toList, gl4]; unfold scanBound; omega) fun h3 c sb3 R3 => ?_)
    · intro e s0 S0 n0 Q0 ge ho0 Rq0 R0 room q0
      obtain ⟨k, tk, e1, e2⟩ := ge
      obtain ⟨eh, ev⟩ := e
      dsimp only at e1 e2
      subst e1
      subst e2
      refine wpAny_bind (both_one Rq0 R0 room fun h' m' hm' sb' R' => ?_)
      refine wpAny_bind ?_
      unfold Builtin.Frozenset.unchanged
      refine wpAny_bind (wpAny_setEpoch_of ((sb'.2 a hra).trans ho0) hda hfa ?_)
      refine wp_if_neg (by simp) ?_
      exact wpAny_pure (wpAny_pure (q0 h' m' hm' sb' R'))
    refine wpAny_pure (wpAny_pure (wpAny_pure ⟨_, rfl, ?_⟩))
    have Rf : SetR w h3 r (fun k => S k && T k) c := R3.congr fun k => by
      have : S k = decide (k ∈ l.toList.map keyOf) := by
        cases h : S k with
        | true => rw [decide_eq_true ((gl3 k).1 h)]
        | false =>
          have : k ∉ l.toList.map keyOf := fun z => by
            have := (gl3 k).2 z
            rw [h] at this
            cases this
          rw [decide_eq_false this]
      rw [this]
      show _ = (false || _)
      rw [Bool.false_or]
      exact Bool.and_comm _ _
    refine hQ h3 c (fun x u e => ?_) Rf
    have hxr : x ≠ r := by
      rw [← hr]
      exact Nat.ne_of_lt (Heap.lt_size e)
    exact (sb3.2 x hxr).trans ((sb2.2 x hxr).trans (keep x u e))
  · dsimp only
    refine wpAny_bind (wpAny_setEpoch_of hob hdb hfb ?_)
    refine wpAny_bind (walk_unseen (s := { s with heap := g }) (f := r) Rb1 (fun x hx => by
      rcases List.mem_cons.mp hx with z | z
      · rw [z]
        exact ⟨_, _, Ra1⟩
      · rw [List.mem_singleton.mp z]
        exact ⟨_, _, fr⟩) fr fun l h2 sb2 R2 gl => ?_)
    obtain ⟨gl1, gl2, gl3, gl4⟩ := gl
    rw [← Array.forIn_toList]
    refine wpAny_bind (both_all (a := r) (o := b) (q := a) (oo := ob) hrb hra ?_ l.toList { s with heap := h2 } (fun _ => false) 0 _ gl1 ((sb2.2 b hrb).trans hob) (Ra1.at fun u e => (sb2.2 a hra).trans e) R2 (by rw [Array.length_toList, gl4]; unfold scanBound; omega) fun h3 c sb3 R3 => ?_)
    · intro e s0 S0 n0 Q0 ge ho0 Rq0 R0 room q0
      obtain ⟨k, tk, e1, e2⟩ := ge
      obtain ⟨eh, ev⟩ := e
      dsimp only at e1 e2
      subst e1
      subst e2
      refine wpAny_bind (both_one Rq0 R0 room fun h' m' hm' sb' R' => ?_)
      refine wpAny_bind ?_
      unfold Builtin.Frozenset.unchanged
      refine wpAny_bind (wpAny_setEpoch_of ((sb'.2 b hrb).trans ho0) hdb hfb ?_)
      refine wp_if_neg (by simp) ?_
      exact wpAny_pure (wpAny_pure (q0 h' m' hm' sb' R'))
    refine wpAny_pure (wpAny_pure (wpAny_pure ⟨_, rfl, ?_⟩))
    have Rf : SetR w h3 r (fun k => S k && T k) c := R3.congr fun k => by
      have : T k = decide (k ∈ l.toList.map keyOf) := by
        cases h : T k with
        | true => rw [decide_eq_true ((gl3 k).1 h)]
        | false =>
          have : k ∉ l.toList.map keyOf := fun z => by
            have := (gl3 k).2 z
            rw [h] at this
            cases this
          rw [decide_eq_false this]
      rw [this]
      show _ = (false || _)
      rw [Bool.false_or]
      skip
    refine hQ h3 c (fun x u e => ?_) Rf
    have hxr : x ≠ r := by
      rw [← hr]
      exact Nat.ne_of_lt (Heap.lt_size e)
    exact (sb3.2 x hxr).trans ((sb2.2 x hxr).trans (keep x u e))
/-- len of a set -/
theorem cr_lenSet {X : Cx} : CallR X (.builtin "len") (fun vs H Q => ∃ (a : Addr) (S : Int → Bool) (n : Nat), vs = [.ref a] ∧ H a = some (SetO X.w a S n) ∧ n ≤ 4000 ∧ Q (.int (n : Nat)) H) := by
  intro pins s σ H vs us Q I r h
  obtain ⟨a, S, n, rfl, ha, hn, q⟩ := h
  rw [Vals.ref1 r]
  obtain ⟨o, es, ep, t, ho, hex, hd, _, _, _, _, hf, hz, _, _⟩ := setO_get I ha
  exact call_len_set ho hex hd hf (by rw [hz]; omega) ⟨.int (n : Nat), H, I.tok _, ⟨_, by rw [hz]⟩, q⟩
/-- one & other, sets of cells -/
def rAnd (w : World) : V → V → Hp → VK → Prop := fun x y H Q => ∃ (a b : Addr) (S T : Int → Bool) (n m : Nat), x = V.ref a ∧ y = V.ref b ∧ a ≠ b ∧ H a = some (SetO w a S n) ∧ H b = some (SetO w b T m) ∧
  (∀ k, S k = true → Cell k) ∧ (∀ k, T k = true → Cell k) ∧ ∀ p c, H p = none → (∀ L : List Int, L.Nodup → (∀ k, k ∈ L ↔ (S k && T k) = true) → c = L.length) → Q (.ref p) (upd H p (SetO w p (fun k => S k && T k) c))
theorem op_andS {X : Cx} : OpR X (binaryOp .BitAnd) (rAnd X.w) := by
  intro pins s σ H x y v u Q I rx ry h
  obtain ⟨a, b, S, T, n, m, rfl, rfl, nab, ha, hb, hS, hT, q⟩ := h
  cases rx
  cases ry
  have Ra := setO_get I ha
  have Rb := setO_get I hb
  refine wpAny_binaryOp_same (op := .BitAnd) (T := "set") (set_typ Ra) (set_typ Rb) F.fills_set_and F.slot_set_and ?_
  refine call_and Ra Rb nab hS hT fun h' c k R => ⟨by simp, ?_⟩
  exact ⟨.ref _, _, I.laid (t' := s.toks) k (Nat.le_refl _) (setO_new R), rfl, q _ c (I.hok.fresh (Nat.le_refl _)) fun L hn hm => SetR.count (s := { s with heap := h' }) R hn hm⟩
end
end Par
namespace Par
open PySem PySem.Spec PyProof.Rows L2
/-! ### max(t, default = d), t a tuple of ints -/
/-- M is the greatest of the first i numbers -/
def Top (val : Nat → Int) (i : Nat) (M : Int) : Prop := (∃ j, j < i ∧ val j = M) ∧ ∀ j, j < i → val j ≤ M
def Cur (val : Nat → Int) (i : Nat) : Option Value → Prop
  | none => i = 0
  | some v => ∃ M t, v = .int M t ∧ Top val i M
def pair2 : Option Value → Array Value
  | none => #[]
  | some v => #[v, v]
section
variable {prog : Program} {w : World} {A : Around} {E : Value → Shared → Prop} {R : Result → Shared → Prop} {I : Addr} {fp wr : List Addr} {n : Nat} {P : Nat → Value → Prop} {St : Nat → Heap → Prop}
theorem gt_two {a b : Int} {t u : Tok} {s : Shared} {Q : Value → Shared → Prop} (h : Q (.bool (decide (a > b))) s) : wpAny (model prog w) A (richCompare .Gt (.int a t) (.int b u)) Q E s :=
  (CmpOf.ints_gt (prog := prog) (w := w) (A := A) (P := fun i v => if i = 0 then v = .int a t else v = .int b u) (fun i => if i = 0 then a else b) (fun i v hv => by
    by_cases z : i = 0
    · rw [if_pos z] at hv ⊢
      exact ⟨t, hv⟩
    · rw [if_neg z] at hv ⊢
      exact ⟨u, hv⟩)) 0 1 _ _ s Q E rfl rfl h
theorem maxD_loop (W : Walks prog w A.in1 I fp wr n P St) (val : Nat → Int) (hval : ∀ i v, P i v → ∃ t, v = .int (val i) t) (S : Addr) (far : S ∉ fp) (d : Value) :
    ∀ (k i : Nat) (s : Shared) (cur : Option Value) (c : Nat), n - i = k → i ≤ n → St i s.heap → Cur val i cur →
    s.heap.get? S = some { cls := .type "list", dict := none, data := .seq (pair2 cur) c, slots := #[] } →
    (∀ v h' tk, (n = 0 → v = d) → (0 < n → ∃ M t, v = .int M t ∧ Top val n M) → (∀ b o, b ∉ wr → b ≠ S → s.heap.get? b = some o → h'.get? b = some o) → R (.ok (.ret v)) { s with heap := h', toks := tk }) →
    codeAny (model prog w) A (.builtin "max.loop" ⟨[.ref I, .none, .ref S], [("default", d)]⟩) R s := by
  have farw : S ∉ wr := fun h => far (W.sub _ h)
  have nm : (toString "max" ++ toString ".loop" : String) = "max.loop" := by decide
  intro k
  induction k with
  | zero =>
    intro i s cur c hk hi hst hc hS out
    have hin : i = n := by omega
    subst hin
    refine codeAny_builtin F.entry_max_loop ?_
    rw [Around.under_plainId F.plain_max_loop _]
    show wpAny _ A.in1 (seqItems? (.ref S) >>= _) _ _ s
    refine wpAny_bind (wpAny_seqItems hS rfl ?_)
    show wpAny _ A.in1 (tryCatch (pyNext (.ref I)) _ >>= _) _ _ s
    refine wpAny_bind (wpAny_tryCatch (W.done s _ _ hst fun h' tk kp => ?_))
    have hS2 := kp S _ farw hS
    cases cur with
    | none =>
      have h0 : i = 0 := hc
      refine wpAny_bind (wpAny_rule (wpAny_pure ?_))
      exact out d h' tk (fun _ => rfl) (fun z => absurd h0 (by omega)) fun b o hb _ e => kp b o hb e
    | some v =>
      obtain ⟨M, t, ev, top⟩ := hc
      show wpAny _ A.in1 (updateSeq S (fun _ => #[]) >>= _) _ _ _
      refine wpAny_bind ?_
      refine wpAny_updateSeq hS2 rfl (wpAny_bind (wpAny_letGo (wpAny_pure ?_))) (hz := by show 2 ≤ sizeLine; decide)
      have h0 : 0 < i := by
        obtain ⟨j, hj, _⟩ := top.1
        omega
      exact out v _ tk (fun z => absurd z (by omega)) (fun _ => ⟨M, t, ev, top⟩) fun b o hb nb e => (Heap.get?_update_other _ _ (Ne.symm nb)).trans (kp b o hb e)
  | succ k ih =>
    intro i s cur c hk hi hst hc hS out
    have hlt : i < n := by omega
    refine codeAny_builtin F.entry_max_loop ?_
    rw [Around.under_plainId F.plain_max_loop _]
    show wpAny _ A.in1 (seqItems? (.ref S) >>= _) _ _ s
    refine wpAny_bind (wpAny_seqItems hS rfl ?_)
    show wpAny _ A.in1 (tryCatch (pyNext (.ref I)) _ >>= _) _ _ s
    refine wpAny_bind (wpAny_tryCatch (W.item i s _ _ hlt hst fun v h' tk hP hst2 kp => ?_))
    have hS2 := kp S _ farw hS
    obtain ⟨u, rfl⟩ := hval i v hP
    have go : ∀ (nv : Value) (g : Heap) (c2 : Nat), g.get? S = some { cls := .type "list", dict := none, data := .seq #[nv, nv] c2, slots := #[] } → (∀ b o, b ≠ S → h'.get? b = some o → g.get? b = some o) →
        (∃ M t, nv = .int M t ∧ Top val (i + 1) M) → codeAny (model prog w) A (.builtin "max.loop" ⟨[.ref I, .none, .ref S], [("default", d)]⟩) R { s with heap := g, toks := tk } := by
      intro nv g c2 hg kg top
      refine ih (i + 1) { s with heap := g, toks := tk } (some nv) c2 (by omega) hlt (W.frame _ _ _ hst2 fun b hb o e => kg b o (fun z => far (z ▸ hb)) e) top hg fun v2 h2 tk2 z1 z2 k2 => ?_
      exact out v2 h2 tk2 z1 z2 fun b o hb nb e => k2 b o hb nb (kg b o nb (kp b o hb e))
    cases cur with
    | none =>
      have h0 : i = 0 := hc
      subst h0
      show wpAny _ A.in1 (updateSeq S (fun _ => #[Value.int (val 0) u, Value.int (val 0) u]) >>= _) _ _ _
      refine wpAny_bind ?_
      refine wpAny_updateSeq hS2 rfl ?_
      rw [nm]
      refine wpAny_pure ⟨plainId_quiet F.plain_max_loop _, go _ _ _ (Heap.get?_update_self _ hS2 rfl) (fun b o nb e => (Heap.get?_update_other _ _ (Ne.symm nb)).trans e) ⟨_, u, rfl, ⟨0, by omega, rfl⟩, fun j hj => ?_⟩⟩
      have : j = 0 := by omega
      rw [this]
      exact Int.le_refl _
    | some b0 =>
      obtain ⟨M, t, rfl, top⟩ := hc
      show wpAny _ A.in1 (tryCatch (holding [Value.int (val i) u, Value.int (val i) u] (richCompare .Gt (.int (val i) u) (.int M t) >>= _)) _ >>= _) _ _ _
      refine wpAny_bind (wpAny_tryCatch (wpAny_holding (wpAny_bind (gt_two ?_))))
      refine wpAny_bind (wpAny_holding (wpAny_truthy_bool ?_))
      refine wpAny_bind (wpAny_letGo (wpAny_pure ?_))
      by_cases hb : val i > M
      · rw [decide_eq_true hb]
        simp only [if_true]
        refine wpAny_bind ?_
        refine wpAny_updateSeq hS2 rfl (wpAny_bind (wpAny_letGo ?_)) (hz := by show 2 ≤ sizeLine; decide)
        rw [nm]
        refine wpAny_pure ⟨plainId_quiet F.plain_max_loop _, go _ _ _ (Heap.get?_update_self _ hS2 rfl) (fun b o nb e => (Heap.get?_update_other _ _ (Ne.symm nb)).trans e) ⟨_, u, rfl, ⟨i, by omega, rfl⟩, fun j hj => ?_⟩⟩
        rcases (show j < i ∨ j = i by omega) with z | z
        · have := top.2 j z
          omega
        · rw [z]
          exact Int.le_refl _
      · rw [decide_eq_false hb]
        simp only [Bool.false_eq_true, if_false]
        refine wpAny_bind (wpAny_letGo ?_)
        rw [nm]
        refine wpAny_pure ⟨plainId_quiet F.plain_max_loop _, go _ _ _ hS2 (fun b o nb e => e) ⟨M, t, rfl, ?_, fun j hj => ?_⟩⟩
        · obtain ⟨j, hj, e⟩ := top.1
          exact ⟨j, by omega, e⟩
        · rcases (show j < i ∨ j = i by omega) with z | z
          · exact top.2 j z
          · rw [z]
            omega
end
theorem args_maxD (a d : Value) : argsOk "max" ⟨[a], [("default", d)]⟩ := by
  unfold argsOk
  kernel_rfl
section
variable {prog : Program} {w : World} {A : Around} {E : Value → Shared → Prop} {s : Shared}
/-- a built-in function called with a keyword, its code going on in another one -/
theorem tree_kw {id : String} {b : Builtin} {us : List Value} {kw : List (Str × Value)} {Q : Value → Shared → Prop} (hk : builtinKind id = none) (hp : plainId id = true) (hb : entryFor table id = some b) (ok : argsOk id ⟨us, kw⟩)
    (run : wpAny (model prog w) A.in1 (b ⟨us, kw⟩) (fun fin s' => match fin with
      | .done f => (match (Except.ok f : Result) with | .ok (.ret v) => Q v s' | .ok _ => False | .error e => E e s')
      | .again c' => c'.quiet = true ∧ codeAny (model prog w) A c' (fun r s' => match r with | .ok (.ret v) => Q v s' | .ok _ => False | .error e => E e s') s') E s) :
    wpAny (model prog w) A (call (.builtin id) us kw) Q E s := by
  refine wpAny_call (codeAny_call_builtin hp hb ?_)
  simp only [checkBuiltinCall, hk]
  cases sg : Manifest.signature? id with
  | none => exact wpAny_pure run
  | some z =>
    simp only [argsOk, sg] at ok
    have ok2 : Bind.checkArgs id z ⟨us, kw⟩ = pure () := ok
    show wpAny _ A.in1 (Bind.checkArgs id z ⟨us, kw⟩) _ _ s
    rw [ok2]
    exact wpAny_pure run
theorem max_tupD {l : Addr} {its : List Value} {ns : List Int} {d : Value} {Q : Value → Shared → Prop} (hh : A.handled = none) (hl : s.heap.IsTuple l its.toArray) (hi : IntsAre its ns)
    (h : ∀ v h' tk, (ns = [] → v = d) → (ns ≠ [] → ∃ M t, v = .int M t ∧ M ∈ ns ∧ ∀ y ∈ ns, y ≤ M) → (∀ b o, s.heap.get? b = some o → h'.get? b = some o) → Q v { s with heap := h', toks := tk }) :
    wpAny (model prog w) A (call (.builtin "max") [.ref l] [("default", d)]) Q E s := by
  have nm : (toString "max" ++ toString ".loop" : String) = "max.loop" := by decide
  have len := IntsAre.length hi
  have lt : l < s.heap.objs.size := by
    obtain ⟨_, e, _⟩ := hl
    exact Heap.lt_size e
  refine tree_kw F.kind_max F.plain_max F.entry_max (args_maxD _ _) ?_
  show wpAny _ A.in1 (Builtin.Builtins.bindParams "max" ["key", "default"] 0 ⟨[], [("default", d)]⟩ >>= _) _ _ s
  refine wpAny_bind (wpAny_of_eq (show Builtin.Builtins.bindParams "max" ["key", "default"] 0 ⟨[], [("default", d)]⟩ = pure [none, some d] from rfl) ?_)
  refine wpAny_bind (wpAny_pure ?_)
  refine wpAny_bind (wpAny_pyIter_tuple hl ?_)
  refine wpAny_bind (wpAny_newObj_type ?_)
  rw [nm]
  have hne : l ≠ s.heap.objs.size := Nat.ne_of_lt lt
  have h1z : (s.heap.push { cls := .type "tuple_iterator", data := .fields #[.ref l, .int 0 0] }).objs.size = s.heap.objs.size + 1 := Heap.size_push ..
  have far : (s.heap.push { cls := .type "tuple_iterator", data := .fields #[.ref l, .int 0 0] }).objs.size ∉ [s.heap.objs.size, l] := by
    rw [h1z]
    intro z
    rcases List.mem_cons.mp z with z | z
    · exact absurd z (Nat.succ_ne_self _)
    · have z2 := List.mem_singleton.mp z
      rw [← z2] at lt
      exact Nat.lt_irrefl _ (Nat.lt_trans (Nat.lt_succ_self _) lt)
  refine wpAny_pure ⟨plainId_quiet F.plain_max_loop _, maxD_loop (W := Walks.tuple (A := A.in1) hh s.heap.objs.size l hne its.toArray) (fun i => ns.getD i 0) (fun i v hv => ?_) _ far d its.length 0 _ none 0 (by simp) (Nat.zero_le _) ⟨⟨_, Heap.get?_push_of_some _ (Heap.get?_push_size _ rfl), rfl, rfl⟩, (hl.push _).push _⟩ rfl (Heap.get?_push_size _ rfl) fun v h' tk z1 z2 kp => ?_⟩
  · obtain ⟨t, e⟩ := PyProof.Rows.IntsAre.int_at hi i v (by simpa using hv)
    exact ⟨t, e⟩
  · have esz : its.toArray.size = ns.length := by simpa using len
    rw [esz] at z1 z2
    refine h v h' tk (fun e => z1 (by rw [e]; rfl)) (fun ne => ?_) fun b o e => ?_
    · obtain ⟨M, t, ev, ⟨j, hj, ej⟩, up⟩ := z2 (List.length_pos_iff.mpr ne)
      refine ⟨M, t, ev, ?_, fun y hy => ?_⟩
      · have ej2 : ns.getD j 0 = M := ej
        rw [← ej2, List.getD_eq_getElem?_getD, List.getElem?_eq_getElem hj]
        exact List.getElem_mem hj
      · obtain ⟨k, hk, e⟩ := List.getElem_of_mem hy
        have : ns.getD k 0 ≤ M := up k hk
        rw [List.getD_eq_getElem?_getD, List.getElem?_eq_getElem hk] at this
        rw [← e]
        exact this
    · have lb := Heap.lt_size e
      refine kp b o (fun z => ?_) (fun z => ?_) (Heap.get?_push_of_some _ (Heap.get?_push_of_some _ e))
      · rw [List.mem_singleton.mp z] at lb
        exact Nat.lt_irrefl _ lb
      · rw [z, h1z] at lb
        exact Nat.lt_irrefl _ (Nat.lt_trans (Nat.lt_succ_self _) lb)
end
/-- max(t, default = d) -/
def rMaxD (K : PySem.W.Frag) : List V → List V → Hp → VK → Prop := fun xs zs H Q => ∃ (a : Addr) (ns : List Int) (d : Int), xs = [.ref a] ∧ zs = [.int d] ∧ SqT K H a (ns.map V.int) ∧
  ∀ M, (ns = [] → M = d) → (ns ≠ [] → M ∈ ns ∧ ∀ y ∈ ns, y ≤ M) → Q (.int M) H
theorem cr_maxD {X : Cx} (hc : X.calm = true) : CallRK X (.builtin "max") ["default"] (rMaxD X.K) := by
  intro pins s σ H xs zs us ws Q I r rz h
  obtain ⟨a, ns, d, rfl, rfl, hq, q⟩ := h
  obtain ⟨its, rv, tup, hz⟩ := I.tuple hq
  rw [Vals.ref1 r]
  cases rz with
  | cons r1 r2 =>
    cases r2
    obtain ⟨tk0, rfl⟩ := r1
    refine max_tupD (ns := ns) (d := .int d tk0) (I.ok.hd hc) tup (by simpa using numbers_of rv) fun v h' tk z1 z2 kp => ?_
    by_cases hn : ns = []
    · have ev := z1 hn
      subst ev
      exact ⟨.int d, H, I.kept kp, ⟨_, rfl⟩, q d (fun _ => rfl) (fun z => absurd hn z)⟩
    · obtain ⟨M, t, rfl, m1, m2⟩ := z2 hn
      exact ⟨.int M, H, I.kept kp, ⟨_, rfl⟩, q M (fun z => absurd z hn) (fun _ => ⟨m1, m2⟩)⟩
end Par
namespace K92
open PySem PySem.Spec PyProof.Rows L2 Par
/-- how many of the first stand in the second, too -/
def comm (ns ms : List Int) : List Int := ns.filter fun k => decide (k ∈ ms)
theorem mem_comm {ns ms : List Int} (k : Int) : k ∈ comm ns ms ↔ (decide (k ∈ ns) && decide (k ∈ ms)) = true := by
  unfold comm
  rw [List.mem_filter, Bool.and_eq_true, decide_eq_true_eq, decide_eq_true_eq]
theorem comm_perm {ns ns' ms ms' : List Int} (h1 : ns'.Perm ns) (h2 : ms'.Perm ms) : (comm ns' ms').length = (comm ns ms).length := by
  have e : (fun k => decide (k ∈ ms')) = (fun k => decide (k ∈ ms)) := funext fun k => by
    by_cases z : k ∈ ms
    · rw [decide_eq_true z, decide_eq_true (h2.mem_iff.mpr z)]
    · rw [decide_eq_false z, decide_eq_false (fun q => z (h2.mem_iff.mp q))]
  unfold comm
  rw [e]
  exact (h1.filter _).length_eq
section
variable {P : Program} {w : World} {K : PySem.W.Frag} {mg : Str → Option Value} {base : Heap}
/-- share_odd of two tuples of cells -/
def spShare (K : PySem.W.Frag) : Sp := fun vs H Q _ => ∃ (a b : Addr) (ns ms : List Int), vs = [.ref a, .ref b] ∧ SqT K H a (ns.map V.int) ∧ SqT K H b (ms.map V.int) ∧ ns.length ≤ 500 ∧ ms.length ≤ 500 ∧ (∀ k ∈ ns, Cell k) ∧ (∀ k ∈ ms, Cell k) ∧ ns.Nodup ∧
  ∀ H', Same H H' → Q (.bl (decide ((comm ns ms).length % 2 = 1))) H'
theorem scShare : FnScope ["one", "other"] ["one", "other"] (defScope sShare) := ⟨rfl, rfl, rfl, by decide +kernel, rfl, by decide +kernel, by decide +kernel⟩
theorem ok_share {f : Addr} {fd : FuncData} (F : Fun K "share_odd" "share_odd" sShare f fd) (B : Bl mg) : FnOk P w K mg base CX0 2 f fd ["one", "other"] (spShare K) := by
  refine F.ok scShare (fun vs H Q E h => ?_) (fun cdv A outer s H vs Q E hr h => ?_)
  · obtain ⟨a, b, ns, ms, rfl, _⟩ := h
    rfl
  · obtain ⟨a, b, ns, ms, rfl, ha, hb, l1, l2, c1, c2, nd, out⟩ := h
    refine ⟨_, pss_one (ps_ret (pe_cmpR op_eq (pe_op op_mod (pe_callB cr_lenSet (by rfl) B.len PySem.boot_len (pa_cons (pe_op op_andS (pe_callTy (cr_setTup rfl) (by rfl) B.set (by decide +kernel) (pa_cons (pv 0) pa_nil)) (pe_callTy (cr_setTup rfl) (by rfl) B.set (by decide +kernel) (pa_cons (pv 1) pa_nil))) pa_nil)) pe_int) pe_int (nomark _))), ?_⟩
    refine ⟨_, rfl, a, ns, rfl, ha, by omega, fun p1 n1 hp1 => ?_⟩
    have s1 := same_new (o := SetO w p1 (fun j => decide (j ∈ ns)) n1) hp1
    refine ⟨_, rfl, b, ms, rfl, same_sqt s1 hb, by omega, fun p2 n2 hp2 => ?_⟩
    have s2 := same_new (o := SetO w p2 (fun j => decide (j ∈ ms)) n2) hp2
    have ne : p1 ≠ p2 := fun z => by
      rw [← z, upd_same] at hp2
      cases hp2
    refine ⟨p1, p2, _, _, n1, n2, rfl, rfl, ne, s2 _ _ upd_same, upd_same, fun k hk => c1 k (of_decide_eq_true hk), fun k hk => c2 k (of_decide_eq_true hk), fun p3 c hp3 hc => ?_⟩
    have s3 := same_new (o := SetO w p3 (fun k => decide (k ∈ ns) && decide (k ∈ ms)) c) hp3
    have ec : c = (comm ns ms).length := hc _ (nd.sublist List.filter_sublist) mem_comm
    have lc : (comm ns ms).length ≤ ns.length := List.length_filter_le ..
    subst ec
    refine ⟨p3, _, _, rfl, upd_same, by omega, _, _, rfl, rfl, (by show (0 : Int) < 2; decide), rfl, ?_⟩
    have := out _ ((s1.trans s2).trans s3)
    have e : decide ((comm ns ms).length % 2 = 1) = decide (V.int ((((comm ns ms).length : Nat) : Int) % 2) = V.int 1) := by
      by_cases z : (comm ns ms).length % 2 = 1
      · rw [decide_eq_true z, decide_eq_true (by congr 1; omega)]
      · rw [decide_eq_false z, decide_eq_false (fun q => z (by injection q with q; omega))]
    rw [e] at this
    exact this
/-- a flip at f, with these cells -/
def Fp (C : Addr) (H : Hp) (f : Addr) (ts hs : List Int) : Prop := ∃ dx t1 t2, H f = some (.ins C dx [("tested_cells", .ref t1), ("toggled_cells", .ref t2)]) ∧ H t1 = some (.tup (ts.map V.int)) ∧ H t2 = some (.tup (hs.map V.int))
theorem Fp.same {C : Addr} {H H' : Hp} {f : Addr} {ts hs : List Int} (s : Same H H') (h : Fp C H f ts hs) : Fp C H' f ts hs := by
  obtain ⟨dx, t1, t2, h1, h2, h3⟩ := h
  exact ⟨dx, t1, t2, s _ _ h1, s _ _ h2, s _ _ h3⟩
structure FC (K : PySem.W.Frag) (mg : Str → Option Value) (C : Addr) : Prop where
  cl : Cls K C
  nT : NoAttr K C "tested_cells"
  nG : NoAttr K C "toggled_cells"
  mgC : mg "Flip" = some (.ref C)
theorem fld1 {v u : V} : ([("tested_cells", v), ("toggled_cells", u)] : List (Str × V)).lookup ("tested_cells" : Str) = some v := by
  simp [List.lookup]
theorem fld2 {v u : V} : ([("tested_cells", v), ("toggled_cells", u)] : List (Str × V)).lookup ("toggled_cells" : Str) = some u := by
  have e : (("toggled_cells" : Str) == ("tested_cells" : Str)) = false := by decide +kernel
  simp [List.lookup, e]
theorem no2 {m : Str} {v u : V} (h : (m == ("tested_cells" : Str)) = false) (h2 : (m == ("toggled_cells" : Str)) = false) : ([("tested_cells", v), ("toggled_cells", u)] : List (Str × V)).lookup m = none := by
  simp [List.lookup, h, h2]
theorem put2 {v u : V} : putF "toggled_cells" u ([("tested_cells", v)] : List (Str × V)) = ([("tested_cells", v), ("toggled_cells", u)] : List (Str × V)) := by
  have e : ¬ (("tested_cells" : Str) = "toggled_cells") := by decide +kernel
  show (if ("tested_cells" : Str) = "toggled_cells" then _ else (("tested_cells" : Str), v) :: putF "toggled_cells" u []) = _
  rw [if_neg e]
  rfl
def spTested (C : Addr) : Sp := fun vs H Q _ => ∃ (f : Addr) (ts hs : List Int), vs = [.ref f] ∧ Fp C H f ts hs ∧ ∀ t, H t = some (.tup (ts.map V.int)) → Q (.ref t) H
def spToggled (C : Addr) : Sp := fun vs H Q _ => ∃ (f : Addr) (ts hs : List Int), vs = [.ref f] ∧ Fp C H f ts hs ∧ ∀ t, H t = some (.tup (hs.map V.int)) → Q (.ref t) H
theorem scTested : FnScope ["self"] ["self"] (defScope gTested) := ⟨rfl, rfl, rfl, by decide +kernel, rfl, by decide +kernel, by decide +kernel⟩
theorem scToggled : FnScope ["self"] ["self"] (defScope gToggled) := ⟨rfl, rfl, rfl, by decide +kernel, rfl, by decide +kernel, by decide +kernel⟩
theorem ok_tested {f C : Addr} {fd : FuncData} (F : Fun K "tested" "Flip.tested" gTested f fd) (T : FC K mg C) : FnOk P w K mg base CX0 2 f fd ["self"] (spTested C) := by
  refine F.ok scTested (fun vs H Q E h => ?_) (fun cdv A outer s H vs Q E hr h => ?_)
  · obtain ⟨b, ts, hs, rfl, _⟩ := h
    rfl
  · obtain ⟨b, ts, hs, rfl, ⟨dx, t1, t2, h1, h2, h3⟩, out⟩ := h
    refine ⟨_, pss_one (ps_ret (pe_fld (pv 0) rfl)), ?_⟩
    exact ⟨_, rfl, b, C, dx, _, _, rfl, h1, T.cl, T.nT, fld1, out t1 h2⟩
theorem ok_toggled {f C : Addr} {fd : FuncData} (F : Fun K "toggled" "Flip.toggled" gToggled f fd) (T : FC K mg C) : FnOk P w K mg base CX0 2 f fd ["self"] (spToggled C) := by
  refine F.ok scToggled (fun vs H Q E h => ?_) (fun cdv A outer s H vs Q E hr h => ?_)
  · obtain ⟨b, ts, hs, rfl, _⟩ := h
    rfl
  · obtain ⟨b, ts, hs, rfl, ⟨dx, t1, t2, h1, h2, h3⟩, out⟩ := h
    refine ⟨_, pss_one (ps_ret (pe_fld (pv 0) rfl)), ?_⟩
    exact ⟨_, rfl, b, C, dx, _, _, rfl, h1, T.cl, T.nG, fld2, out t2 h3⟩
/-- cell_tuple, called with its default size -/
def HasD (P : Program) (w : World) (K : PySem.W.Frag) (mg : Str → Option Value) (base : Heap) (x : Str) (lv : Nat) (y : Str) (sp : Sp) : Prop :=
  ∃ f fd ds, FnOk P w K mg base CX0 lv f fd [y, "size"] sp ∧ mg x = some (.ref f) ∧ PySem.W.keepIn K (.ref f) = true ∧ Vals [V.int 40] ds ∧ Binds K fd [y, "size"] ds
theorem Sq.updI {C b dx v : Addr} {H : Hp} {fs : List (Str × V)} {xs : List V} {o : HO} (hb : H b = some (.ins C dx fs)) (h : Sq K H v xs) : Sq K (upd H b o) v xs := by
  have ne : ∀ {u : HO}, H v = some u → (∀ C dx fs, u ≠ .ins C dx fs) → v ≠ b := fun {u} e n z => by
    rw [z, hb] at e
    exact n _ _ _ (Option.some.inj e).symm
  rcases h with (h | ⟨o2, h⟩) | (h | ⟨o2, h⟩)
  · rcases (show H v = some (.lst xs) ∨ ∃ o', H v = some (.frz o' (.lst xs)) from by first | exact .inl h | exact h) with h | ⟨o', h⟩
    · exact .inl (.inl (.inl (by rw [upd_ne (ne h (fun _ _ _ z => by cases z))]; exact h)))
    · exact .inl (.inl (.inr ⟨o', by rw [upd_ne (ne h (fun _ _ _ z => by cases z))]; exact h⟩))
  · exact .inl (.inr ⟨o2, h⟩)
  · rcases (show H v = some (.tup xs) ∨ ∃ o', H v = some (.frz o' (.tup xs)) from by first | exact .inl h | exact h) with h | ⟨o', h⟩
    · exact .inr (.inl (.inl (by rw [upd_ne (ne h (fun _ _ _ z => by cases z))]; exact h)))
    · exact .inr (.inl (.inr ⟨o', by rw [upd_ne (ne h (fun _ _ _ z => by cases z))]; exact h⟩))
  · exact .inr (.inr ⟨o2, h⟩)
/-- __init__ of a flip that can be made -/
def spFInit (K : PySem.W.Frag) (C : Addr) : Sp := fun vs H Q _ => ∃ (b dx u v : Addr) (ts hs : List Int), vs = [.ref b, .ref u, .ref v] ∧ H b = some (.ins C dx []) ∧ Sq K H u (ts.map V.int) ∧ Sq K H v (hs.map V.int) ∧ ts.length ≤ 500 ∧ hs.length ≤ 500 ∧
  (∀ k ∈ ts, 0 ≤ k ∧ k < 40) ∧ (∀ k ∈ hs, 1 ≤ k ∧ k < 40) ∧ ts.Nodup ∧ hs.Nodup ∧ (comm ts hs).length % 2 = 0 ∧
  ∀ H' (ts' hs' : List Int), But b H H' → ts'.Perm ts → hs'.Perm hs → ts'.Pairwise (· ≤ ·) → hs'.Pairwise (· ≤ ·) → Fp C H' b ts' hs' → Q .non H'
theorem scFInit : FnScope ["self", "tested", "toggled"] ["self", "tested", "toggled"] (defScope gInit) := ⟨rfl, rfl, rfl, by decide +kernel, rfl, by decide +kernel, by decide +kernel⟩
theorem ok_finit {f C : Addr} {fd : FuncData} (F : Fun K "__init__" "Flip.__init__" gInit f fd) (B : Bl mg) (T : FC K mg C) (DC : HasD P w K mg base "cell_tuple" 5 "things" (spCells K)) (DO : Has P w K mg base "share_odd" 2 ["one", "other"] (spShare K)) :
    FnOk P w K mg base CX0 6 f fd ["self", "tested", "toggled"] (spFInit K C) := by
  obtain ⟨fD, fdD, dsD, GD, mD, kD, hdD, bD⟩ := DC
  obtain ⟨fO, fdO, GO, mO, kO, bO⟩ := DO
  refine F.ok scFInit (fun vs H Q E h => ?_) (fun cdv A outer s H vs Q E hr h => ?_)
  · obtain ⟨b, dx, u, v, ts, hs, rfl, _⟩ := h
    rfl
  · obtain ⟨b, dx, u, v, ts, hs, rfl, hb, hu, hv, l1, l2, c1, c2, n1, n2, ev, out⟩ := h
    have r1 : Room 2 _ := hr.mono (by decide)
    refine ⟨_, pss_cons (ps_fld (pv 0) (pe_call GD hr (by rfl) mD kD bD hdD pass0 (pa_cons (pv 1) pa_nil)) rfl)
      (pss_cons (ps_fld (pv 0) (pe_call GD hr (by rfl) mD kD bD hdD pass0 (pa_cons (pv 2) pa_nil)) rfl)
      (pss_cons (ps_if (pt_cmpR op_in_seq pe_int (pe_fld (pv 0) rfl) (by rfl)) (pss_one ps_off) pss_nil)
      (pss_one (ps_if (pt_val (pe_call GO r1 (by rfl) mO kO bO .nil pass0 (pa_cons (pe_fld (pv 0) rfl) (pa_cons (pe_fld (pv 0) rfl) pa_nil)))) (pss_one ps_off) pss_nil)))), ?_⟩
    refine ⟨_, rfl, u, 40, ts, rfl, hu, l1, c1, n1, fun t1 ts' H1 ht1 s1 p1 w1 e1 => ?_⟩
    have nb1 : t1 ≠ b := fun z => by rw [z, hb] at ht1; cases ht1
    refine ⟨_, rfl, b, C, dx, [], rfl, s1 _ _ hb, T.cl, T.nT, (by show 0 < 1000; decide), ?_⟩
    have k2 : But b H (upd H1 b (.ins C dx [("tested_cells", .ref t1)])) := fun x o nx e => by
      rw [upd_ne nx]
      exact s1 _ _ e
    have hv2 : Sq K (upd H1 b (.ins C dx [("tested_cells", .ref t1)])) v (hs.map V.int) := (hv.same s1).updI (s1 _ _ hb)
    refine ⟨_, rfl, v, 40, hs, rfl, hv2, l2, fun k hk => by have := c2 k hk; omega, n2, fun t2 hs' H3 ht2 s3 p2 w2 e2 => ?_⟩
    have nb2 : t2 ≠ b := fun z => by rw [z, upd_same] at ht2; cases ht2
    have e13 : H3 t1 = some (.tup (ts'.map V.int)) := s3 _ _ (by rw [upd_ne nb1]; exact e1)
    refine ⟨_, rfl, b, C, dx, _, rfl, s3 _ _ upd_same, T.cl, T.nG, (by show 1 < 1000; decide), ?_⟩
    rw [show putF "toggled_cells" (V.ref t2) (putF "tested_cells" (V.ref t1) []) = ([("tested_cells", V.ref t1), ("toggled_cells", V.ref t2)] : List (Str × V)) from put2]
    have f1 : (upd H3 b (.ins C dx [("tested_cells", .ref t1), ("toggled_cells", .ref t2)])) t1 = some (.tup (ts'.map V.int)) := by
      rw [upd_ne nb1]
      exact e13
    have f2 : (upd H3 b (.ins C dx [("tested_cells", .ref t1), ("toggled_cells", .ref t2)])) t2 = some (.tup (hs'.map V.int)) := by
      rw [upd_ne nb2]
      exact e2
    refine ⟨_, rfl, b, C, dx, _, _, rfl, upd_same, T.cl, T.nG, fld2, t2, _, rfl, .inr (SqT.of f2), rfl, flat_ints _, _, rfl, ?_⟩
    have h0 : ¬ (0 : Int) ∈ hs' := fun z => by
      have := c2 0 (p2.mem_iff.mp z)
      omega
    show if inV (V.int 0) (hs'.map V.int) = true then _ else _
    rw [in_ints, decide_eq_false h0]
    refine iteF ?_
    refine ⟨_, rfl, b, C, dx, _, _, rfl, upd_same, T.cl, T.nT, fld1, _, rfl, b, C, dx, _, _, rfl, upd_same, T.cl, T.nG, fld2, t1, t2, ts', hs', rfl, SqT.of f1, SqT.of f2, by rw [p1.length_eq]; exact l1, by rw [p2.length_eq]; exact l2, ?_, ?_, p1.nodup_iff.mpr n1, fun H5 s5 => ⟨_, rfl, ?_⟩⟩
    · intro k hk
      have := c1 k (p1.mem_iff.mp hk)
      exact ⟨by omega, by omega⟩
    · intro k hk
      have := c2 k (p2.mem_iff.mp hk)
      exact ⟨by omega, by omega⟩
    have eo : decide ((comm ts' hs').length % 2 = 1) = false := decide_eq_false (by rw [comm_perm p1 p2]; omega)
    rw [eo]
    refine iteF ?_
    refine out H5 ts' hs' (fun x o nx e => ?_) p1 p2 w1 w2 ⟨dx, t1, t2, s5 _ _ upd_same, s5 _ _ f1, s5 _ _ f2⟩
    refine s5 _ _ ?_
    rw [upd_ne nx]
    exact s3 _ _ (k2 x o nx e)
end
end K92
namespace Par
open PySem PySem.Spec PyProof.Rows L2
/-- one + other, any two tuples: some tuple of all items, one of the two or a new one -/
def rCatB (K : PySem.W.Frag) : R2 := fun x y H Q => ∃ a b xs ys, x = .ref a ∧ y = .ref b ∧ SqT K H a xs ∧ SqT K H b ys ∧ xs.length + ys.length ≤ sizeLine ∧
  ∀ c H', Same H H' → SqT K H' c (xs ++ ys) → Q (.ref c) H'
theorem op_catB {X : Cx} : OpR X (binaryOp .Add) (rCatB X.K) := by
  intro pins s σ H x y v u Q I rx ry h
  obtain ⟨a, b, xs, ys, rfl, rfl, ha, hb, hz, q⟩ := h
  by_cases hx : xs = []
  · subst hx
    cases rx
    cases ry
    obtain ⟨its, r1, p1, _⟩ := I.tuple ha
    obtain ⟨its2, r2, p2, _⟩ := I.tuple hb
    cases r1
    obtain ⟨⟨c1, d1, da1, sl1⟩, ho, hc, n, hd⟩ := id p1
    obtain ⟨⟨c2, d2, da2, sl2⟩, ho2, hc2, n2, hd2⟩ := id p2
    simp only at hc hd hc2 hd2
    subst hc hd hc2 hd2
    exact concat_meets ⟨_, ho, rfl⟩ ⟨_, ho2, rfl⟩ noFill_tuple_add seq_tuple_add PySem.F.slot_tuple_add PySem.F.entry_tuple_add (PySem.F.args_tuple_add_2 _ _)
      (tuple_addW0 a b _ its2.toArray n n2 d1 d2 sl1 sl2 rfl) ⟨ho, ho2, ⟨.ref b, H, I, rfl, q b H (fun _ _ e => e) hb⟩⟩
  · refine op_catT pins s σ H (.ref a) (.ref b) v u Q I rx ry ⟨a, b, xs, ys, rfl, rfl, ha, hb, hx, hz, fun e => ?_, fun e p hp => ?_⟩
    · subst e
      exact q a H (fun _ _ e => e) (by rw [List.append_nil]; exact ha)
    · exact q p _ (fun z o e2 => by rw [upd_ne (ne_of_none e2 hp)]; exact e2) (SqT.of upd_same)
end Par
namespace K92
open PySem PySem.Spec PyProof.Rows L2 Par
section
variable {P : Program} {w : World} {K : PySem.W.Frag} {mg : Str → Option Value} {base : Heap}
/-- the least size that these cells fit -/
def Fits (ts hs : List Int) (M : Int) : Prop := (∀ k, k ∈ ts ∨ k ∈ hs → k < M) ∧ 1 ≤ M ∧ (M = 1 ∨ (M - 1) ∈ ts ∨ (M - 1) ∈ hs)
theorem Fits.one {ts hs : List Int} {M N : Int} (h1 : Fits ts hs M) (h2 : Fits ts hs N) : M = N := by
  have le : ∀ {M N : Int}, Fits ts hs M → Fits ts hs N → M ≤ N := fun {M N} a b => by
    rcases a.2.2 with z | z
    · have := b.2.1
      omega
    · have := b.1 _ z
      omega
  exact Int.le_antisymm (le h1 h2) (le h2 h1)
def spFWidth (C : Addr) : Sp := fun vs H Q _ => ∃ (f : Addr) (ts hs : List Int), vs = [.ref f] ∧ Fp C H f ts hs ∧ ts.length ≤ 500 ∧ hs.length ≤ 500 ∧ (∀ k ∈ ts, 0 ≤ k) ∧ (∀ k ∈ hs, 0 ≤ k) ∧ ∀ M H', Same H H' → Fits ts hs M → Q (.int M) H'
end
end K92
namespace Par
open PySem PySem.Spec PyProof.Rows L2
/-- f(e, .., k = v, ..), what is raised wished for at the slots -/
def tCallNS (n m : Nat) (sp : Sp) (gV : List V → List V → List V) (E : L2.St → XK) (t tk : TA) : TE := fun σ H Q =>
  t σ H fun vs H1 => tk σ H1 fun zs H2 => vs.length = n ∧ zs.length = m ∧ sp (gV vs zs) H2 Q (E σ)
section
variable {X : Cx} {CX : CXT} {k n : Nat} {f : Addr} {fd : FuncData} {ps ks : List Str} {sp : Sp} {E : L2.St → XK} {x : Str} {p pos : Pos} {e : Expr} {es : List Expr} {kws : List Keyword} {t tk : TA}
  {g : List Value → List Value → List Value} {gV : List V → List V → List V}
theorem pe_callNS (F : FnOk X.prog X.w X.K X.mg X.base CX k f fd ps sp) (hr : Room k X.A) (hg : Gl X x) (hm : X.mg x = some (.ref f)) (hk : PySem.W.keepIn X.K (.ref f) = true)
    (hb : KBn X.K fd ps n ks g gV) (hx : ∀ σ, PassesAt CX X σ (E σ)) (ha : PA X (e :: es) t) (hkw : PK X kws tk)
    (hall : (backToKw pos (keywordEach kws X.env)).all (·.1.isSome) = true := by rfl)
    (hks : (backToKw pos (keywordEach kws X.env)).filterMap (·.1) = ks := by rfl)
    (hdb : (x == ("__debug__" : Str)) = false := by decide)
    (he : starEach (e :: es) X.env = (false, eval e X.env) :: starEach es X.env := by rfl)
    (hpl : ((backTo pos (starEach (e :: es) X.env)).any (·.1) || (backToKw pos (keywordEach kws X.env)).any (·.1.isNone)) = false := by rfl) :
    PE X (.Call (.Name x p) (e :: es) kws pos) (tCallNS n ks.length sp gV E t tk) := by
  constructor
  intro pins s σ H Q I h
  refine wpAny_Call_Name_kw (ld_glob I hg hm ?_ hdb)
  refine PySem.W.callWith_KW (h₀ := X.base) I.ok.mod.kin hk hall (thn (ha.run pos pins s σ H _ I h) ?_) hpl he
  rintro us s1 ⟨vs, H1, I1, r, q⟩
  refine thn (hkw.run pos pins s1 σ H1 _ I1 q) ?_
  rintro ws s2 ⟨zs, H2, I2, rz, l1, l2, q2⟩
  refine ⟨I2.kIn, ?_⟩
  rw [hks]
  refine wpAny_call (codeAny_mono (F.run X.A X.stack s2 H2 ⟨us, ks.zip ws⟩ (g us ws) (gV vs zs) Q (E σ) hr I2.env0
    (hb.to s2 us ws I2.kIn (r.length.symm.trans l1) (rz.length.symm.trans l2)) (hb.rel r rz) q2) ?_)
  intro res s3 hq
  cases res with
  | error er => exact hx σ pins H2 s2 er s3 I2 hq
  | ok fl =>
    cases fl with
    | ret u => exact I2.after hq
    | next => exact False.elim hq
    | brk => exact False.elim hq
    | cont => exact False.elim hq
end
section
variable {X : Cx} {a D : Addr} {oe : Obj} {cls : Value} {d : Option Addr} {pn : List (Addr × Obj)}
theorem held_inst {pins : List (Addr × Obj)} {σ : L2.St} {H : Hp} {s : Shared} {dd : Addr} {fs : List (Str × V)} (hz : Zc cls d oe) (hf : ∃ vs, oe.data = .fields vs)
    (I : L2.Inv (X.suite a ((a, oe) :: pn)) pins σ H s) (ec : cls = .ref D) (ed : d = some dd) (ea : H dd = some (.xd fs)) : ∃ od, PySem.W.InstAt s.heap a oe D (some od) := by
  subst ec ed
  have ha := (I.pin (a, oe) (List.mem_append_left _ List.mem_cons_self)).1
  obtain ⟨vs, hd⟩ := hf
  obtain ⟨mA, hns, hr⟩ := (show ObjOk X.prog X.w H s.heap dd (.xd fs) from I.hok dd _ ea)
  obtain ⟨od, ho, hl⟩ := lookIn_ns hns
  exact ⟨od, ha, hz.1, by unfold PySem.W.notCls; rw [hd] <;> rfl, by rw [hz.2]; exact ho⟩
theorem kit_held (C : ExcC X.K D) {od : Option Obj} : PySem.W.KitX X.K (.ref a) (.ref D) (fun h => PySem.W.InstAt h a oe D od) := by
  refine PySem.W.kitx_exc ?_ C.hg C.hk C.hs C.ha C.hn C.ht C.hm
  obtain ⟨cd, hc, _⟩ := PySem.W.any_some C.hd
  rw [hc]
  rfl
/-- isinstance(e, c), e the error that the suite holds, with its own dict -/
theorem call_isX (C : ExcC X.K D) (hz : Zc cls d oe) (hf : ∃ vs, oe.data = .fields vs) : CallR (X.suite a ((a, oe) :: pn)) (.builtin "isinstance")
    (fun xs H Q => ∃ (c : V) (u : Value) (b : Bool) (dd : Addr) (fs : List (Str × V)), xs = [.ref a, c] ∧ cls = .ref D ∧ d = some dd ∧ H dd = some (.xd fs) ∧ ClsV c u ∧ PySem.W.kitOne X.K (.ref D) u = some b ∧ Q (.bl b) H) := by
  intro pins s σ H xs us Q I r h
  obtain ⟨c, u, b, dd, fs, rfl, ec, ed, ea, k, e, q⟩ := h
  obtain ⟨u1, u2, rfl, r1, r2⟩ := vals2 r
  cases (show u1 = Value.ref a from r1)
  have e2 := k.eq r2
  subst e2
  obtain ⟨od, J⟩ := held_inst hz hf I ec ed ea
  exact PySem.W.kia_one (kit_held C) I.kIn J e (fun z => nomatch z) fun tk => ⟨.bl b, H, I.tok tk, rfl, q⟩
theorem call_isXT (C : ExcC X.K D) (hz : Zc cls d oe) (hf : ∃ vs, oe.data = .fields vs) : CallR (X.suite a ((a, oe) :: pn)) (.builtin "isinstance")
    (fun xs H Q => ∃ (tp : Addr) (cs : List V) (ws : List Value) (b : Bool) (dd : Addr) (fs : List (Str × V)), xs = [.ref a, .ref tp] ∧ H tp = some (.tup cs) ∧ Paired ClsV cs ws ∧ cls = .ref D ∧ d = some dd ∧ H dd = some (.xd fs) ∧
      PySem.W.kitAny X.K (.ref D) ws = some b ∧ Q (.bl b) H) := by
  intro pins s σ H xs us Q I r h
  obtain ⟨tp, cs, ws, b, dd, fs, rfl, hT, k, ec, ed, ea, e, q⟩ := h
  obtain ⟨u1, u2, rfl, r1, r2⟩ := vals2 r
  cases (show u1 = Value.ref a from r1)
  cases (show u2 = Value.ref tp from r2)
  obtain ⟨od, J⟩ := held_inst hz hf I ec ed ea
  obtain ⟨_, its, rv, o, h1, h2, n, h3⟩ := (show ObjOk X.prog X.w H s.heap tp (.tup cs) from I.hok tp _ hT)
  have e3 := ClsV.all k rv
  subst e3
  obtain ⟨oc, ood, dt, sl⟩ := o
  simp only at h2 h3
  subst h2 h3
  exact PySem.W.kia_tup (kit_held C) I.kIn J h1 e (fun z => nomatch z) fun tk => ⟨.bl b, H, I.tok tk, rfl, q⟩
end
end Par
namespace Par
open PySem PySem.Spec PyProof.Rows L2
/-! ### errors over any built-in base -/
/-- own classes, then the base's own line -/
def Over (tail l : List Value) : Prop := tail ≠ [] ∧ ∃ cs : List Addr, l = cs.map Value.ref ++ tail
theorem Over.cons {tail l : List Value} (h : Over tail l) (c : Addr) : Over tail (.ref c :: l) := by
  obtain ⟨h1, cs, e⟩ := h
  exact ⟨h1, c :: cs, by rw [e]; rfl⟩
theorem Over.nonempty {tail l : List Value} (h : Over tail l) : l.isEmpty = false := by
  obtain ⟨h1, cs, e⟩ := h
  subst e
  cases cs with
  | cons c cs => rfl
  | nil =>
    cases tail with
    | nil => exact absurd rfl h1
    | cons _ _ => rfl
theorem Over.has {tail l : List Value} (h : Over tail l) (T : String) : l.contains (.type T) = tail.contains (.type T) := by
  obtain ⟨_, cs, e⟩ := h
  subst e
  induction cs with
  | nil => rfl
  | cons c cs ih =>
    show ((Value.type T == Value.ref c) || _) = _
    rw [show (Value.type T == Value.ref c) = false from rfl, Bool.false_or]
    exact ih
theorem Over.lets {tail l : List Value} (h : Over tail l) (ok : ∀ self, refuseLoop self "__setattr__" tail = pure ()) (self : Value) : refuseLoop self "__setattr__" l = pure () := by
  obtain ⟨_, cs, e⟩ := h
  subst e
  induction cs with
  | nil => exact ok self
  | cons c cs ih =>
    show refuseLoop self "__setattr__" (Value.ref c :: (cs.map Value.ref ++ tail)) = pure ()
    rw [refuseLoop_ref]
    exact ih
section
variable {prog : Program} {w : World} {A : Around} {R : Result → Shared → Prop} {hp : Heap} {g : Array GenState} {d : Drawn} {t : Nat} {os : OsState}
open Builtin Builtin.ObjectAttr PySem.W PySem.HandSPX in
/-- the first field of an error -/
theorem first_field {K : PySem.W.Frag} {fld : Str} {tk : Tok} {v : Value} {x C : Addr} {fv : Array Value} {cd : ClassData} {tail : List Value} (X : K.In hp)
    (at_ : hp.get? x = some { cls := .ref C, data := .fields fv }) (isC : clsIn K C = some cd) (ov : Over tail cd.mro) (objd : tail.contains (.type "object") = true)
    (ok : ∀ self, refuseLoop self "__setattr__" tail = pure ()) (own : cd.hasDict = true) (no : findIn K (.ref C) fld = some none)
    (out : ∀ h' tk' dx, (∀ b o, b ≠ x → hp.get? b = some o → h'.get? b = some o) → hp.objs.size ≤ dx → dx ≠ x → h'.get? x = some { cls := .ref C, dict := some dx, data := .fields fv } →
      h'.Ns1 dx (fun y => if y = fld then some v else none) → R (.ok (.ret .none)) ⟨h', g, d, tk', os⟩) :
    codeAny (model prog w) A (.call (.builtin "object.__setattr__") ⟨[.ref x, .str fld tk, v], []⟩) R ⟨hp, g, d, t, os⟩ := by
  have inst : InstAt hp x { cls := .ref C, data := .fields fv } C none := ⟨at_, rfl, rfl, trivial⟩
  have st := F.store_object
  have hObj : cd.mro.contains (.type "object") = true := (ov.has "object").trans objd
  have far : x ≠ hp.objs.size := Nat.ne_of_lt (Heap.lt_size at_)
  have isObj : Looks (model prog w) hp (isInstance (.ref x) (.type "object")) true :=
    inst.type.andThen (looks_mroIn X (by unfold mroIn; rw [isC, Option.bind_some, if_neg (by rw [ov.nonempty]; decide), hObj]))
  refine codeAny_call_builtin st.slot.plain st.entry (@check_slot (model prog w) _ _ ⟨hp, g, d, t, os⟩ "object.__setattr__" "object" "__setattr__"
    (.ref x) [.str fld tk, v] [] _ st.kind st.split isObj (st.args (.ref x) (.str fld tk) v) ?_)
  have lm : Looks (model prog w) hp (mroOf (.ref C)) cd.mro := (looks_clsIn X isC).andThen .now
  have ln : Looks (model prog w) hp (storeTaker? none) none := .now
  have lc : Looks (model prog w) hp (classData C) cd := looks_clsIn X isC
  rw [osa_eq, refuse_eq]
  refine wpAny_bind (wpAny_bind (inst.type.at (wpAny_bind (lm.at ?_))))
  rw [ov.lets ok]
  refine wpAny_pure (wpAny_bind (inst.type.at (wpAny_bind ((looks_findIn X no).at (wpAny_bind (ln.at ?_))))))
  show wpAny _ _ (storeInOwnDict (.ref x) (.ref C) (.str fld tk) fld v false) _ _ _
  obtain ⟨nm, bs, mro, ns, qn, hd, sn, sb, ab, col, dl⟩ := cd
  dsimp only at own
  subst own
  unfold storeInOwnDict ownDictForStores
  repeat (first | with_reducible refine store_in_new ?_ ?_ | with_reducible refine wpAny_loadPart_at at_ ?_ | with_reducible refine lc.at ?_ | wp_step)
  · exact ⟨_, #[], _, (Heap.get?_update_ne _ _ _ _ far.symm).trans (Heap.get?_push_at rfl rfl), rfl, fun e z => absurd z (by simp), fun _ => rfl⟩
  · intro h' tk' made kept
    have old : (hp.push { cls := .type "dict", data := .dict #[] }).get? x = some { cls := .ref C, data := .fields fv } := Heap.get?_push_of_some _ at_
    refine out h' tk' hp.objs.size (fun b o nb e => ?_) (Nat.le_refl _) far.symm ?_ made
    · exact (kept.2 b (Nat.ne_of_lt (Heap.lt_size e))).trans ((Heap.get?_update_ne _ _ _ _ nb).trans (Heap.get?_push_of_some _ e))
    · exact (kept.2 x far).trans (Heap.get?_update_self _ old rfl)
open Builtin Builtin.ObjectAttr PySem.W PySem.HandSPX PySem.OEX in
/-- a further field of an error -/
theorem more_field {K : PySem.W.Frag} {fld : Str} {tk : Tok} {v : Value} {x C dx : Addr} {fv : Array Value} {cd : ClassData} {tail : List Value} {m0 : Str → Option Value} {nl : List Str} (X : K.In hp)
    (at_ : hp.get? x = some { cls := .ref C, dict := some dx, data := .fields fv }) (names : hp.Ns1 dx m0) (win : Within m0 nl) (few : nl.length ≤ 1000) (isC : clsIn K C = some cd) (ov : Over tail cd.mro)
    (objd : tail.contains (.type "object") = true) (ok : ∀ self, refuseLoop self "__setattr__" tail = pure ()) (own : cd.hasDict = true) (no : findIn K (.ref C) fld = some none)
    (out : ∀ h' tk', (∀ b o, b ≠ dx → hp.get? b = some o → h'.get? b = some o) → h'.Ns1 dx (fun y => if y = fld then some v else m0 y) → R (.ok (.ret .none)) ⟨h', g, d, tk', os⟩) :
    codeAny (model prog w) A (.call (.builtin "object.__setattr__") ⟨[.ref x, .str fld tk, v], []⟩) R ⟨hp, g, d, t, os⟩ := by
  obtain ⟨od, esd, epd, atD, dtD, _⟩ := names.count win
  have inst : InstAt hp x { cls := .ref C, dict := some dx, data := .fields fv } C (some od) := ⟨at_, rfl, rfl, atD⟩
  have st := F.store_object
  have hObj : cd.mro.contains (.type "object") = true := (ov.has "object").trans objd
  have isObj : Looks (model prog w) hp (isInstance (.ref x) (.type "object")) true :=
    inst.type.andThen (looks_mroIn X (by unfold mroIn; rw [isC, Option.bind_some, if_neg (by rw [ov.nonempty]; decide), hObj]))
  refine codeAny_call_builtin st.slot.plain st.entry (@check_slot (model prog w) _ _ ⟨hp, g, d, t, os⟩ "object.__setattr__" "object" "__setattr__"
    (.ref x) [.str fld tk, v] [] _ st.kind st.split isObj (st.args (.ref x) (.str fld tk) v) ?_)
  have lm : Looks (model prog w) hp (mroOf (.ref C)) cd.mro := (looks_clsIn X isC).andThen .now
  have ln : Looks (model prog w) hp (storeTaker? none) none := .now
  have lc : Looks (model prog w) hp (classData C) cd := looks_clsIn X isC
  rw [osa_eq, refuse_eq]
  refine wpAny_bind (wpAny_bind (inst.type.at (wpAny_bind (lm.at ?_))))
  rw [ov.lets ok]
  refine wpAny_pure (wpAny_bind (inst.type.at (wpAny_bind ((looks_findIn X no).at (wpAny_bind (ln.at ?_))))))
  show wpAny _ _ (storeInOwnDict (.ref x) (.ref C) (.str fld tk) fld v false) _ _ _
  obtain ⟨nm, bs, mro, ns, qn, hd, sn, sb, ab, col, dl⟩ := cd
  dsimp only at own
  subst own
  unfold storeInOwnDict ownDictForStores
  repeat (first | with_reducible refine store_in_old names win few ?_ | with_reducible refine wpAny_loadPart_at at_ ?_ | with_reducible refine lc.at ?_ | wp_step)
  intro h' tk' made kept
  exact out h' tk' (fun b o nb e => (kept.2 b nb).trans e) made
end
/-- what is known of a built-in base -/
structure Bas (newId : String) (tail : List Value) : Prop where
  base : ∃ B initId, ExcBaseFacts B newId initId tail
  full : tail ≠ []
  objd : tail.contains (.type "object") = true
  lets : ∀ self, refuseLoop self "__setattr__" tail = pure ()
theorem bas_value : Bas "ValueError.__new__" [.type "ValueError", .type "Exception", .type "BaseException", .type "object"] := ⟨⟨_, _, F.excBase_ValueError⟩, by simp, by decide +kernel, F.store_ValueError.passes⟩
theorem bas_lookup : Bas "LookupError.__new__" [.type "LookupError", .type "Exception", .type "BaseException", .type "object"] := ⟨⟨_, _, F.excBase_LookupError⟩, by simp, by decide +kernel, F.store_LookupError.passes⟩
theorem bas_runtime : Bas "RuntimeError.__new__" [.type "RuntimeError", .type "Exception", .type "BaseException", .type "object"] := ⟨⟨_, _, F.excBase_RuntimeError⟩, by simp, by decide +kernel, F.store_RuntimeError.passes⟩
theorem bas_arith : Bas "ArithmeticError.__new__" [.type "ArithmeticError", .type "Exception", .type "BaseException", .type "object"] := ⟨⟨_, _, F.excBase_ArithmeticError⟩, by simp, by decide +kernel, F.store_ArithmeticError.passes⟩
/-- an own class of errors over such a base -/
structure ErrC (K : PySem.W.Frag) (C : Addr) : Prop where
  is : ∃ newId tail nm q N bs bm sn sub ab col dd k0 k1 k2 k3 k5, Bas newId tail ∧ K.lookup C = some (excClassObj nm q C N bs bm true sn sub ab col dd k0 k1 k2 k3 k5 newId) ∧ ∃ cs : List Addr, bm = cs.map Value.ref ++ tail
  sets : PySem.W.findIn K (.ref C) "__setattr__" = some (some (.builtin "object.__setattr__"))
  exc : PySem.W.subIn K (.ref C) (.type "BaseException") = some true
  typ : PySem.W.typeIn K (.ref C) = some (.type "type")
  kept : PySem.W.keepIn K (.ref C) = true
section
variable {X : Cx} {pins : List (Addr × Obj)} {σ : L2.St} {H : Hp} {s : Shared} {a C dx : Addr} {f : Str} {y : V} {u : Value} {fs : List (Str × V)} {Q : Unit → Shared → Prop} {E : Value → Shared → Prop} {A : Around}
theorem err_first (T : ErrC X.K C) (I : L2.Inv X pins σ H s) (e : H a = some (exo a C none)) (no : PySem.W.findIn X.K (.ref C) f = some none) (ry : RelV y u)
    (out : ∀ dx s', H dx = none → dx ≠ a → L2.Inv X pins σ (upd (upd H dx (exd dx [(f, y)])) a (exo a C (some dx))) s' → Q () s') : wpAny (model X.prog X.w) A (setAttr (.ref a) f u) Q E s := by
  obtain ⟨newId, tail, nm, q, N, bs, bm, sn, sub, ab, col, dd, k0, k1, k2, k3, k5, bas, atC, cs, ebm⟩ := T.is
  have isC : PySem.W.clsIn X.K C = some { name := nm, bases := bs, mro := .ref C :: bm, ns := N, qualname := q, hasDict := true, slotNames := sn, subclasses := sub, abstract := ab, collection := col, hasDel := false } := by
    unfold PySem.W.clsIn
    rw [atC]
  have ov : Over tail (.ref C :: bm) := Over.cons ⟨bas.full, cs, ebm⟩ C
  obtain ⟨t1, ho⟩ := exo_at I.hok e
  obtain ⟨hp, g, d, t, os⟩ := s
  refine PySem.W.set_plain I.kIn (ox := { cls := .ref C, dict := none, data := .fields #[.ref t1, .none, .none, .none, .bool false, .none] }) (od := none) ⟨ho, rfl, rfl, trivial⟩ T.sets ?_
  refine first_field I.kIn ho isC ov bas.objd bas.lets rfl no fun h' tk' dx k dn dne hx hn => ?_
  have free : H dx = none := I.hok.fresh dn
  have apart : ∀ {b : Addr} {o : Obj}, hp.get? b = some o → b ≠ dx := fun {b o} z => Nat.ne_of_lt (Nat.lt_of_lt_of_le (Heap.lt_size z) dn)
  have else_ : ∀ {b : Addr}, H b = none → b ≠ a := fun {b} n z => by
    rw [z, e] at n
    cases n
  have un : Un X.fs [] H (upd (upd H dx (exd dx [(f, y)])) a (exo a C (some dx))) hp h' := {
    keep := fun b o z n _ _ => k b o (else_ n) z
    slot := fun b o z n _ _ => ⟨o.slots, k b o (else_ n) z⟩
    free := fun b o z n _ => by
      rw [upd_ne (else_ n), upd_ne (apart z)]
      exact n
    there := fun b o z _ => by
      by_cases hb : b = a
      · exact ⟨_, by rw [hb]; exact hx⟩
      · exact ⟨o, k b o hb z⟩
    tups := fun b xs z => by
      rw [upd_ne (at_ne e z exo_tup), upd_ne (ne_of_none z free)]
      exact z
    frzs := fun b o v z => by
      rw [upd_ne (at_ne e z exo_frz), upd_ne (ne_of_none z free)]
      exact z
    tbls := fun b ps z => ⟨#[], by
      rw [upd_ne (at_ne e z exo_tbl), upd_ne (ne_of_none z free), z]
      simp⟩ }
  refine out dx _ free dne (I.un (t' := tk') un fun b o z => ?_)
  by_cases hb : b = a
  · subst hb
    rw [upd_same] at z
    cases z
    exact exo_ok hx
  · rw [upd_ne hb] at z
    by_cases hd : b = dx
    · subst hd
      rw [upd_same] at z
      cases z
      exact exd_ok hn (relO_put (fs := []) ry fun g => True.intro)
    · rw [upd_ne hd] at z
      refine (I.hok b o z).stay (fun c v hc z2 => k c v ?_ z2) (fun c hc => ?_) (fun c xs hc => ?_)
      · rcases hc with hc | hc
        · rw [hc]
          exact hb
        · exact at_ne e hc exo_own
      · rw [upd_ne (at_ne e hc exo_own), upd_ne (ne_of_none hc free)]
        exact hc
      · rw [upd_ne (at_ne e hc exo_tup), upd_ne (ne_of_none hc free)]
        exact hc
theorem err_more (T : ErrC X.K C) (I : L2.Inv X pins σ H s) (e : H a = some (exo a C (some dx))) (ed : H dx = some (exd dx fs)) (few : fs.length ≤ 900) (no : PySem.W.findIn X.K (.ref C) f = some none) (ry : RelV y u)
    (out : ∀ s', L2.Inv X pins σ (upd H dx (exd dx ((f, y) :: fs))) s' → Q () s') : wpAny (model X.prog X.w) A (setAttr (.ref a) f u) Q E s := by
  obtain ⟨newId, tail, nm, q, N, bs, bm, sn, sub, ab, col, dd, k0, k1, k2, k3, k5, bas, atC, cs, ebm⟩ := T.is
  have isC : PySem.W.clsIn X.K C = some { name := nm, bases := bs, mro := .ref C :: bm, ns := N, qualname := q, hasDict := true, slotNames := sn, subclasses := sub, abstract := ab, collection := col, hasDel := false } := by
    unfold PySem.W.clsIn
    rw [atC]
  have ov : Over tail (.ref C :: bm) := Over.cons ⟨bas.full, cs, ebm⟩ C
  obtain ⟨t1, ho⟩ := exo_at I.hok e
  obtain ⟨mA, names, rel⟩ := exd_at I.hok ed
  have win := within_of rel
  obtain ⟨hp, g, d, t, os⟩ := s
  obtain ⟨oD, _, _, atD, _, _⟩ := names.count win
  refine PySem.W.set_plain I.kIn (ox := { cls := .ref C, dict := some dx, data := .fields #[.ref t1, .none, .none, .none, .bool false, .none] }) (od := some oD) ⟨ho, rfl, rfl, atD⟩ T.sets ?_
  refine more_field I.kIn ho names win (by rw [List.length_map]; omega) isC ov bas.objd bas.lets rfl no fun h' tk' k hn => ?_
  have stands : ∃ o, h'.get? dx = some o := by
    obtain ⟨o, _, _, z, _⟩ := hn
    exact ⟨o, z⟩
  exact out _ (I.write (t' := tk') (x := dx) (e := dx) (o := exd dx ((f, y) :: fs)) (by rw [ed]; exact True.intro) (.inl rfl) k stands (exd_ok hn (relO_put ry rel)))
end
/-- self.f = e in an error's __init__ -/
def tErrS (K : PySem.W.Frag) (f : Str) (to te : TE) : TS := fun D σ H => te σ H fun y H1 => to σ H1 fun x H2 => ∃ a C : Addr, x = .ref a ∧ ErrC K C ∧ PySem.W.findIn K (.ref C) f = some none ∧
  ((H2 a = some (exo a C none) ∧ ∀ dx, H2 dx = none → dx ≠ a → D.nx σ (upd (upd H2 dx (exd dx [(f, y)])) a (exo a C (some dx)))) ∨
    ∃ (dx : Addr) (fs : List (Str × V)), H2 a = some (exo a C (some dx)) ∧ H2 dx = some (exd dx fs) ∧ fs.length ≤ 900 ∧ D.nx σ (upd H2 dx (exd dx ((f, y) :: fs))))
section
variable {X : Cx} {o e : Expr} {es : List Expr} {to te : TE} {ta : TA} {f : Str} {p p' pos : Pos}
theorem ps_errS (ho : PE X o to) (he : PE X e te) (hs : swapsWith e (some (.Attribute o f p')) pos.line X.env = pure false := by rfl) : PS X (.Assign [.Attribute o f p'] e pos) (tErrS X.K f to te) := by
  refine ⟨fun pins s σ H D I h => ?_⟩
  refine plainObj_wpAny_Assign_Attribute (thn (he.run pins s σ H _ I h) ?_) hs
  rintro v s1 ⟨y, H1, I1, r1, q1⟩
  refine thn (ho.run pins s1 σ H1 _ I1 q1) ?_
  rintro u s2 ⟨x, H2, I2, r2, a, C, ex, T, no, q⟩
  subst ex
  obtain rfl : u = Value.ref a := r2
  rcases q with ⟨ea, q⟩ | ⟨dx, fs, ea, ed, few, q⟩
  · exact err_first T I2 ea no r1 fun dx s' n ne J => ⟨σ, _, J, q dx n ne⟩
  · exact err_more T I2 ea ed few no r1 fun s' J => ⟨σ, _, J, q⟩
/-- C(e, ..) of an error whose own __init__ keeps its promise -/
theorem pmk_err {CX : CXT} {x : Str} {C fI : Addr} {k : Nat} {fd : FuncData} {ps : List Str} {sp : Sp} {ds : List Value} {dvs : List V} (T : ErrC X.K C) (ini : PySem.W.findIn X.K (.ref C) "__init__" = some (some (.ref fI)))
    (isF : PySem.W.typeIn X.K (.ref fI) = some (.type "function")) (G : FnOk X.prog X.w X.K X.mg X.base CX k fI fd ps sp) (hr : Room (k + 1) X.A) (hb : Binds X.K fd ps ds) (hd : Vals dvs ds) (hx : Passes CX X (fun _ _ _ => False))
    (hg : Gl X x) (hm : X.mg x = some (.ref C)) (ha : PA X (e :: es) ta)
    (hdb : (x == ("__debug__" : Str)) = false := by decide) (he : starEach (e :: es) X.env = (false, eval e X.env) :: starEach es X.env := by rfl) (hpl : (backTo pos (starEach es X.env)).any (·.1) = false := by rfl) :
    PMk X (.Call (.Name x p) (e :: es) [] pos) (tMkO C sp dvs ta) := by
  intro pins s σ H Q I h
  obtain ⟨newId, tail, nm, q, N, bs, bm, sn, sub, ab, col, dd, k0, k1, k2, k3, k5, bas, atC, cs, ebm⟩ := T.is
  obtain ⟨B, initId, facts⟩ := bas.base
  have ov : Over tail bm := ⟨bas.full, cs, ebm⟩
  refine wpAny_Call_Name_kw (ld_glob I hg hm ?_ hdb)
  refine PySem.W.callWith_K (h₀ := X.base) I.ok.mod.kin T.kept (thn (ha.run pos pins s σ H _ I h) ?_) he hpl
  rintro us s1 ⟨vs, H1, I1, r1, few, q1⟩
  refine ⟨I1.kIn, ?_⟩
  show wpAny _ _ (call (.ref C) us) _ _ _
  obtain ⟨hp, g, dr, tk, os⟩ := s1
  have up : hp.objs.size ≤ hp.objs.size + 1 := Nat.le_succ _
  have want := q1 (hp.objs.size + 1) (I1.hok.fresh up)
  have old : ∀ b o, hp.get? b = some o → ((hp.push (PySem.W.kdv_tup us)).push (PySem.HandSPX.excO C hp.objs.size)).get? b = some o := fun b o z => Heap.get?_push_of_some _ (Heap.get?_push_of_some _ z)
  have made : ((hp.push (PySem.W.kdv_tup us)).push (PySem.HandSPX.excO C hp.objs.size)).get? (hp.objs.size + 1) = some (PySem.HandSPX.excO C hp.objs.size) := by heap_get
  have I2 : L2.Inv X pins σ (upd H1 (hp.objs.size + 1) (exo (hp.objs.size + 1) C none)) ⟨(hp.push (PySem.W.kdv_tup us)).push (PySem.HandSPX.excO C hp.objs.size), g, dr, tk, os⟩ :=
    I1.laid (t' := tk) (a := hp.objs.size + 1) (o := exo (hp.objs.size + 1) C none) (h' := (hp.push (PySem.W.kdv_tup us)).push (PySem.HandSPX.excO C hp.objs.size)) old up (exo_ok made)
  have rel : Vals (V.ref (hp.objs.size + 1) :: (vs ++ dvs)) (Value.ref (hp.objs.size + 1) :: (us ++ ds)) := .cons rfl (r1.append hd)
  have len : (Value.ref (hp.objs.size + 1) :: us ++ ds).length = ps.length := by
    have z := rel.length
    rw [G.len _ _ _ _ want] at z
    exact z.symm
  have short : us.length ≤ sizeLine := by
    rw [← Paired.length r1, sizeLine_eq]
    omega
  refine wpAny_call (PySem.HandSPX.call_own facts (fun Y => ov.has Y) (I1.kIn _ _ atC) (PySem.W.looks_findIn I1.kIn ini) (fun self => PySem.W.bind_fn I1.kIn self isF) short (codeAny_mono
    (G.run _ X.stack _ _ ⟨Value.ref (hp.objs.size + 1) :: us, []⟩ (Value.ref (hp.objs.size + 1) :: (us ++ ds)) _ _ (fun _ _ _ => False) (hr.make C us []) (I2.env0.make C us []) (hb _ (Value.ref (hp.objs.size + 1) :: us) I2.kIn len) rel want) ?_))
  intro r s' z
  cases r with
  | error er => exact hx pins σ _ _ er s' I2 z
  | ok fl =>
    cases fl with
    | next => exact False.elim z
    | brk => exact False.elim z
    | cont => exact False.elim z
    | ret u =>
      obtain ⟨v, H2, os2, bare2, un2, hok2, rv, ev, d, fs, ea, ed, hd1, q2⟩ := z
      subst ev
      obtain ⟨h2, g2, d2, t2, os'⟩ := s'
      exact ⟨rv, mk_end (raises_own T.exc T.typ) I1 up old un2 hok2 os2 bare2 ea ed hd1 q2⟩
end
end Par
namespace K92
open PySem PySem.Spec PyProof.Rows L2 Par
/-- what the module says of TooWide -/
structure WC (K : PySem.W.Frag) (mg : Str → Option Value) (C : Addr) : Prop where
  gC : mg "TooWide" = some (.ref C)
  err : ErrC K C
  no : PySem.W.findIn K (.ref C) "needed" = some none
section
variable {P : Program} {w : World} {K : PySem.W.Frag} {mg : Str → Option Value} {base : Heap}
def spWIni (C : Addr) : Sp := fun vs H Q _ => ∃ (a : Addr) (v : V), vs = [.ref a, v] ∧ H a = some (exo a C none) ∧
  ∀ dx, H dx = none → dx ≠ a → Q .non (upd (upd H dx (exd dx [("needed", v)])) a (exo a C (some dx)))
def HasW (P : Program) (w : World) (K : PySem.W.Frag) (mg : Str → Option Value) (base : Heap) (C : Addr) : Prop :=
  ∃ f fd, FnOk P w K mg base CX0 2 f fd ["self", "needed"] (spWIni C) ∧ PySem.W.findIn K (.ref C) "__init__" = some (some (.ref f)) ∧ PySem.W.typeIn K (.ref f) = some (.type "function") ∧ Binds K fd ["self", "needed"] []
/-- what raise TooWide(v) leads to -/
theorem made_wide {C : Addr} {H : Hp} {v : V} {W : Value → Option Addr → Hp → Prop} (h : ∀ d H', H d = none → Same H H' → H' d = some (.xd [("needed", v)]) → W (.ref C) (some d) H') :
    ∀ a, H a = none → spWIni C (.ref a :: ([v] ++ [])) (upd H a (exo a C none)) (fun u H2 => u = .non ∧ ∃ (d : Addr) (fs : List (Str × V)), H2 a = some (exo a C (some d)) ∧ H2 d = some (exd d fs) ∧ H d = none ∧
      W (.ref C) (some d) (upd (del H2 a) d (.xd fs))) (fun _ _ _ => False) := by
  intro a ha
  refine ⟨a, v, rfl, upd_same, fun dx hd ne => ?_⟩
  rw [upd_ne ne] at hd
  refine ⟨rfl, dx, [("needed", v)], upd_same, by rw [upd_ne ne, upd_same], hd, ?_⟩
  refine h dx _ hd (fun b o e => ?_) upd_same
  have n1 := ne_of_none e hd
  have n2 := ne_of_none e ha
  rw [upd_ne n1, del_ne n2, upd_ne n2, upd_ne n1, upd_ne n2]
  exact e
/-- cells that a flip may have -/
def OkF (ts hs : List Int) : Prop := (∀ k ∈ ts, 0 ≤ k ∧ k < 40) ∧ (∀ k ∈ hs, 1 ≤ k ∧ k < 40) ∧ ts.Nodup ∧ hs.Nodup ∧ ts.length ≤ 40 ∧ hs.length ≤ 40
def aftB (bs ts hs : List Int) : List Int := if decide (parB bs ts = 1) = true then flipB bs hs else bs
/-- check_fit -/
def spFit (CF CW : Addr) : Sp := fun vs H Q E => ∃ (f : Addr) (ts hs : List Int) (n : Int), vs = [.ref f, .int n] ∧ Fp CF H f ts hs ∧ OkF ts hs ∧
  (∀ M, Fits ts hs M → M ≤ n → ∀ H', Same H H' → Q .non H') ∧
  (∀ M, Fits ts hs M → n < M → ∀ d H', H d = none → Same H H' → H' d = some (.xd [("needed", .int M)]) → E (.ref CW) (some d) H')
def HasFit (P : Program) (w : World) (K : PySem.W.Frag) (mg : Str → Option Value) (base : Heap) (CF CW : Addr) : Prop :=
  ∃ f fd, FnOk P w K mg base (L2.CX P w) 4 f fd ["flip", "size"] (spFit CF CW) ∧ mg "check_fit" = some (.ref f) ∧ PySem.W.keepIn K (.ref f) = true ∧ Binds K fd ["flip", "size"] []
def spApply (C CF CW : Addr) : Sp := fun vs H Q E => ∃ (b f : Addr) (bs ts hs : List Int), vs = [.ref b, .ref f] ∧ Bd C H b bs ∧ OkB bs ∧ Fp CF H f ts hs ∧ OkF ts hs ∧
  (∀ M, Fits ts hs M → M ≤ bs.length → ∀ q H', H q = none → Same H H' → Bd C H' q (aftB bs ts hs) → Q (.ref q) H') ∧
  (∀ M, Fits ts hs M → bs.length < M → ∀ d H', H d = none → Same H H' → H' d = some (.xd [("needed", .int M)]) → E (.ref CW) (some d) H')
theorem flip_nil (bs : List Int) : flipB bs [] = bs := by
  refine List.ext_getElem (by rw [flipB_len]) fun i h1 h2 => ?_
  unfold flipB
  simp [List.getElem?_eq_getElem h2]
abbrev nApply : List Str := ["board", "flip", "changed"]
end
end K92
namespace K92
open PySem PySem.Spec PyProof.Rows L2 Par
theorem up_cons {bs : List Int} (h : OkB bs) : ∃ t, bs = 1 :: t ∧ upF 0 bs = 0 :: upF 1 t := by
  cases bs with
  | nil => cases h.2.1
  | cons b t =>
    have e : b = 1 := by simpa using h.2.1
    subst e
    exact ⟨t, rfl, rfl⟩
theorem mk_all {bs : List Int} (h : OkB bs) : (mkB bs.length fun k => decide (k ∈ upF 0 bs)) = bs := by
  refine List.ext_getElem (mkB_len _ _) fun i h1 h2 => ?_
  have e : (mkB bs.length fun k => decide (k ∈ upF 0 bs))[i] = if (decide (i = 0) || decide ((i : Int) ∈ upF 0 bs)) = true then 1 else 0 := by
    unfold mkB
    simp
  rw [e]
  have g : bs.getD i 0 = bs[i] := by
    rw [List.getD_eq_getElem?_getD, List.getElem?_eq_getElem h2]
    rfl
  by_cases z : i = 0
  · subst z
    rw [decide_eq_true rfl, Bool.true_or, if_pos rfl, ← g, List.getD_eq_getElem?_getD, h.2.1]
    rfl
  · rw [decide_eq_false z, Bool.false_or]
    by_cases u : (i : Int) ∈ upF 0 bs
    · rw [decide_eq_true u, if_pos rfl, ← g]
      exact ((up_iff i h2).mp u).symm
    · rw [decide_eq_false u, if_neg Bool.false_ne_true, ← g]
      exact ((bit_at h h2).resolve_right fun q => u ((up_iff i h2).mpr q)).symm
theorem parB_perm {bs ns ms : List Int} (h : ns.Perm ms) : parB bs ns = parB bs ms := by
  unfold parB
  rw [perm_sum (h.map _)]
theorem flip_perm {bs ns ms : List Int} (h : ns.Perm ms) : flipB bs ns = flipB bs ms := by
  unfold flipB
  refine List.map_congr_left fun i _ => ?_
  have e : decide ((i : Int) ∈ ns) = decide ((i : Int) ∈ ms) := by
    by_cases z : (i : Int) ∈ ms
    · rw [decide_eq_true z, decide_eq_true (h.mem_iff.mpr z)]
    · rw [decide_eq_false z, decide_eq_false (fun q => z (h.mem_iff.mp q))]
  rw [e]
theorem aft_perm {bs ts hs ts' hs' : List Int} (h1 : ts'.Perm ts) (h2 : hs'.Perm hs) : aftB bs ts' hs' = aftB bs ts hs := by
  unfold aftB
  rw [parB_perm h1, flip_perm h2]
section
variable {P : Program} {w : World} {K : PySem.W.Frag} {mg : Str → Option Value} {base : Heap}
/-- two lists of cells that make a flip, in a tuple -/
def Pr (K : PySem.W.Frag) (H : Hp) (p : Addr) (ts hs : List Int) : Prop := ∃ t h, SqT K H p [.ref t, .ref h] ∧ H t = some (.lst (ts.map V.int)) ∧ H h = some (.lst (hs.map V.int))
theorem Pr.same {H H' : Hp} {p : Addr} {ts hs : List Int} (s : Same H H') (h : Pr K H p ts hs) : Pr K H' p ts hs := by
  obtain ⟨t, g, h1, h2, h3⟩ := h
  exact ⟨t, g, same_sqt s h1, s _ _ h2, s _ _ h3⟩
/-- Flip as a class whose __init__ keeps its promise -/
def HasFI (P : Program) (w : World) (K : PySem.W.Frag) (mg : Str → Option Value) (base : Heap) (C : Addr) : Prop :=
  ∃ f fd, FnOk P w K mg base CX0 6 f fd ["self", "tested", "toggled"] (spFInit K C) ∧ Mk K C f ∧ Binds K fd ["self", "tested", "toggled"] []
end
end K92
namespace K92
open PySem PySem.Spec PyProof.Rows L2 Par
theorem pot_ne {H : Hp} {p q : Addr} (h : PotAt H p) (hq : H q = none) : q ≠ p := fun z => by
  obtain ⟨_, _, y, _⟩ := h
  rw [← z, hq] at y
  cases y
theorem filter_one {l : List Int} {g : Int} (hn : l.Nodup) (hg : g ∈ l) : (l.filter fun k => decide (¬ k = g)).length + 1 = l.length := by
  induction l with
  | nil => cases hg
  | cons a l ih =>
    obtain ⟨h1, h2⟩ := List.nodup_cons.mp hn
    by_cases e : a = g
    · subst e
      have same : (l.filter fun k => decide (¬ k = a)) = l := List.filter_eq_self.mpr fun k hk => decide_eq_true fun z => h1 (z ▸ hk)
      rw [List.filter_cons_of_neg (by simp), same, List.length_cons]
    · have hg2 : g ∈ l := by
        rcases List.mem_cons.mp hg with z | z
        · exact absurd z.symm e
        · exact z
      rw [List.filter_cons_of_pos (by simp [e]), List.length_cons, List.length_cons, ih h2 hg2]
theorem comm_left {ts hs : List Int} (g : Int) : comm (ts.filter fun k => decide (¬ k = g)) hs = (comm ts hs).filter fun k => decide (¬ k = g) := by
  unfold comm
  rw [List.filter_filter, List.filter_filter]
  congr 1
  funext k
  exact Bool.and_comm _ _
theorem comm_right {ts hs : List Int} (g : Int) : comm ts (hs.filter fun k => decide (¬ k = g)) = (comm ts hs).filter fun k => decide (¬ k = g) := by
  unfold comm
  rw [List.filter_filter]
  congr 1
  funext k
  by_cases z : k = g
  · subst z
    simp
  · simp [List.mem_filter, z]
theorem filt_step {l : List Int} {f : Int → Bool} {i : Nat} {k : Int} (h : l[i]? = some k) : (l.take (i + 1)).filter f = (l.take i).filter f ++ (if f k = true then [k] else []) := by
  rw [List.take_succ, h, List.filter_append]
  congr 1
  by_cases z : f k = true
  · simp [z]
  · simp [z]
section
variable {P : Program} {w : World} {K : PySem.W.Frag} {mg : Str → Option Value} {base : Heap}
/-- a tuple of two lists, none of them at p -/
def PrP (p : Addr) (H : Hp) (q : Addr) (ts hs : List Int) : Prop := ∃ t h, t ≠ p ∧ h ≠ p ∧ H q = some (.tup [.ref t, .ref h]) ∧ H t = some (.lst (ts.map V.int)) ∧ H h = some (.lst (hs.map V.int))
theorem PrP.pr {p q : Addr} {H : Hp} {ts hs : List Int} (h : PrP p H q ts hs) : Pr K H q ts hs := by
  obtain ⟨t, g, _, _, h1, h2, h3⟩ := h
  exact ⟨t, g, SqT.of h1, h2, h3⟩
theorem PrP.same {p q : Addr} {H H' : Hp} {ts hs : List Int} (s : Same H H') (h : PrP p H q ts hs) : PrP p H' q ts hs := by
  obtain ⟨t, g, n1, n2, h1, h2, h3⟩ := h
  exact ⟨t, g, n1, n2, s _ _ h1, s _ _ h2, s _ _ h3⟩
theorem PrP.but {p q : Addr} {H H' : Hp} {ts hs : List Int} (hp : PotAt H p) (s : But p H H') (h : PrP p H q ts hs) : PrP p H' q ts hs := by
  obtain ⟨t, g, n1, n2, h1, h2, h3⟩ := h
  have nq : q ≠ p := fun z => by
    obtain ⟨_, _, e, _⟩ := hp
    rw [z, e] at h1
    cases h1
  exact ⟨t, g, n1, n2, s _ _ nq h1, s _ _ n1 h2, s _ _ n2 h3⟩
/-- two lists that make a flip of this width -/
def spPairL : Sp := fun vs H Q _ => ∃ (p : Addr) (m : Nat), vs = [.ref p, .int (m : Nat)] ∧ PotAt H p ∧ 1 ≤ m ∧ m ≤ 40 ∧
  ∀ q (ts hs : List Int) H', H q = none → But p H H' → PotAt H' p → PrP p H' q ts hs → OkF ts hs → (∀ k ∈ ts, k < m) → (∀ k ∈ hs, k < m) → (comm ts hs).length % 2 = 0 → ts.Pairwise (· < ·) → hs.Pairwise (· < ·) → Q (.ref q) H'
abbrev nPair : List Str := ["_law_pot_here", "_law_width_here", "_law_tests", "_law_hits", "_law_both", "_law_gone", "_law_spot"]
theorem scPair : FnScope nPair ["_law_pot_here", "_law_width_here"] (defScope sPair) := ⟨rfl, rfl, rfl, by decide +kernel, rfl, by decide +kernel, by decide +kernel⟩
theorem ok_pair {f : Addr} {fd : FuncData} (F : Fun K "_law_pair" "_law_pair" sPair f fd) (B : Bl mg) (DD : Has P w K mg base "_law_draw" 2 ["_law_pot_here", "_law_many"] spDraw) (DS : Has P w K mg base "_law_spots" 3 ["_law_pot_here", "_law_least", "_law_width_here"] spSpots) :
    FnOk P w K mg base CX0 4 f fd ["_law_pot_here", "_law_width_here"] spPairL := by
  obtain ⟨fD, fdD, GD, mD, kD, bD⟩ := DD
  obtain ⟨fS, fdS, GS, mS, kS, bS⟩ := DS
  refine F.ok scPair (fun vs H Q E h => ?_) (fun cdv A outer s H vs Q E hr h => ?_)
  · obtain ⟨p, m, rfl, _⟩ := h
    rfl
  · obtain ⟨p, m, rfl, hp, m1, m2, out⟩ := h
    have r1 : Room 2 _ := hr.mono (by decide)
    refine ⟨_, pss_cons (ps_asg (pe_tup (pa_cons (pe_call GS hr (by rfl) mS kS bS .nil pass0 (pa_cons (pv 0) (pa_cons pe_int (pa_cons (pv 1) pa_nil)))) (pa_cons (pe_call GS hr (by rfl) mS kS bS .nil pass0 (pa_cons (pv 0) (pa_cons pe_int (pa_cons (pv 1) pa_nil)))) pa_nil))) (pg_tup rfl (pgs_cons (pg_name (i := 2) scPair.nd rfl (Or.inl rfl)) (pgs_cons (pg_name (i := 3) scPair.nd rfl (Or.inr rfl)) pgs_nil))))
      (pss_cons (ps_setLc (i := 4) (own := [("_law_spot", 6)]) (g := gName 6) (tt := tTest (tOp (rIn K false) (tVar 6) (tVar 3))) rfl scPair.nd rfl rfl (sw_true rfl rfl rfl (by decide +kernel)) (pi_list (pv 2)) (blkOk_by (own := [("_law_spot", 6)]) (N := nPair) (sc := defScope sPair) (by decide +kernel))
          (fun _ _ _ _ _ => pg_name (i := 6) scPair.nd rfl (Or.inl rfl)) (fun _ _ _ _ _ => by exact pts_one (pt_cmpR op_in_seq (pv 6) (pv 3) (by rfl))) (fun _ _ _ _ _ => pv 6))
      (pss_cons (ps_if (pt_cmpR op_eq (pe_op op_mod (pe_callB call_len_seq (by rfl) B.len PySem.boot_len (pa_cons (pv 4) pa_nil)) pe_int) pe_int (nomark _)) (pss_one (ps_ret (pe_tup (pa_cons (pv 2) (pa_cons (pv 3) pa_nil))))) pss_nil)
      (pss_cons (ps_set (i := 5) scPair.nd rfl (Or.inr rfl) (pe_ix ix_list (pv 4) (pe_call GD r1 (by rfl) mD kD bD .nil pass0 (pa_cons (pv 0) (pa_cons (pe_callB call_len_seq (by rfl) B.len PySem.boot_len (pa_cons (pv 4) pa_nil)) pa_nil))) (fun _ _ => rfl)))
      (pss_cons (ps_if (pt_cmpR op_eq (pe_call GD r1 (by rfl) mD kD bD .nil pass0 (pa_cons (pv 0) (pa_cons pe_int pa_nil))) pe_int (nomark _)) (pss_one (ps_ret (pe_tup (pa_cons (pe_lc (own := [("_law_spot", 6)]) (g := gName 6) rfl scPair.nd (pi_list (pv 2)) (blkOk_by (own := [("_law_spot", 6)]) (N := nPair) (sc := defScope sPair) (by decide +kernel)) (fun _ _ _ _ _ => pg_name (i := 6) scPair.nd rfl (Or.inl rfl)) (fun _ _ _ _ _ => pts_one (pt_cmpR op_ne (pv 6) (pv 5) (nomark _))) (fun _ _ _ _ _ => pv 6)) (pa_cons (pv 3) pa_nil))))) pss_nil)
      (pss_one (ps_ret (pe_tup (pa_cons (pv 2) (pa_cons (pe_lc (own := [("_law_spot", 6)]) (g := gName 6) rfl scPair.nd (pi_list (pv 3)) (blkOk_by (own := [("_law_spot", 6)]) (N := nPair) (sc := defScope sPair) (by decide +kernel)) (fun _ _ _ _ _ => pg_name (i := 6) scPair.nd rfl (Or.inl rfl)) (fun _ _ _ _ _ => pts_one (pt_cmpR op_ne (pv 6) (pv 5) (nomark _))) (fun _ _ _ _ _ => pv 6)) pa_nil))))))))), ?_⟩
    refine ⟨_, rfl, _, rfl, p, 0, (m : Nat), rfl, hp, by decide, by decide, by omega, by omega, fun a1 ts GA1 ha1 w1 i1 b1 pot1 e1 => ?_⟩
    refine ⟨_, rfl, _, rfl, p, 1, (m : Nat), rfl, pot1, by decide, by decide, by omega, by omega, fun a2 hs GA2 ha2 w2 i2 b2 pot2 e2 => ?_⟩
    have na1 := pot_ne hp ha1
    have na2 := pot_ne pot1 ha2
    have nd1 := nodup_lt_ w1
    have nd2 := nodup_lt_ w2
    have len1 : ts.length ≤ 40 := cells_few nd1 fun k hk => by
      have := i1 k hk
      exact ⟨by omega, by omega⟩
    have len2 : hs.length ≤ 40 := cells_few nd2 fun k hk => by
      have := i2 k hk
      exact ⟨by omega, by omega⟩
    have b02 : But p H GA2 := b1.trans b2
    have e12 : GA2 a1 = some (.lst (ts.map V.int)) := b2 a1 _ na1 e1
    refine ⟨(by show 2 ≤ sizeLine; decide), fun T hT => ⟨T, _, rfl, SqT.of upd_same, rfl, _, _, rfl, _, _, rfl, rfl, ?_⟩⟩
    have s3 := same_new (o := .tup [.ref a1, .ref a2]) hT
    -- both
    refine ⟨_, rfl, a1, rfl, ⟨_, SqL.of (s3 _ _ e12)⟩, fun D hD => ?_⟩
    have hDH2 : GA2 D = none := s3.free hD
    refine lc_list (K := K) (a := a1) (xs := ts.map V.int) (fun i H' => Same (upd GA2 T (.tup [.ref a1, .ref a2])) H' ∧ H' D = some (.lst (((ts.take i).filter fun k => decide (k ∈ hs)).map V.int))) ⟨same_new hD, upd_same⟩ (fun i H' _ h => SqL.of (h.1 _ _ (s3 _ _ e12))) ?_ ?_
    · rintro i x GA4 hx ⟨s4, hD4⟩
      rw [List.getElem?_map] at hx
      obtain ⟨k, hk, rfl⟩ : ∃ k, ts[i]? = some k ∧ x = V.int k := by
        cases e : ts[i]? with
        | none => rw [e] at hx; cases hx
        | some k => rw [e] at hx; exact ⟨k, rfl, (Option.some.inj hx).symm⟩
      have st := filt_step (f := fun k => decide (k ∈ hs)) hk
      refine ⟨rfl, ?_⟩
      refine ⟨_, rfl, _, rfl, a2, _, rfl, .inl (SqL.of (s4 _ _ (s3 _ _ e2))), rfl, flat_ints _, _, rfl, ?_⟩
      show if inV (V.int k) (hs.map V.int) = true then _ else _
      rw [in_ints]
      by_cases hm : k ∈ hs
      · rw [decide_eq_true hm] at st ⊢
        refine iteT ⟨_, rfl, _, hD4, ?_, ?_, ?_⟩
        · have := List.length_filter_le (fun k => decide (k ∈ hs)) (ts.take i)
          rw [List.length_take] at this
          rw [List.length_map]
          exact small1000 (by omega)
        · intro y o e
          rw [upd_ne (ne_of_none e hD)]
          exact s4 y o e
        · rw [upd_same, st, if_pos rfl, List.map_append]
          rfl
      · rw [decide_eq_false hm] at st ⊢
        refine iteF ⟨s4, ?_⟩
        rw [st, if_neg Bool.false_ne_true, List.append_nil]
        exact hD4
    rintro GA4 ⟨s4, hD4⟩
    rw [List.length_map, List.take_length] at hD4
    have hD4' : GA4 D = some (.lst ((comm ts hs).map V.int)) := hD4
    have s24 : Same GA2 GA4 := s3.trans s4
    have nD := pot_ne pot2 hDH2
    have pot4 := pot2.same s24
    have c1 : GA4 a1 = some (.lst (ts.map V.int)) := s24 _ _ e12
    have c2 : GA4 a2 = some (.lst (hs.map V.int)) := s24 _ _ e2
    have ndc : (comm ts hs).Nodup := nd1.sublist List.filter_sublist
    have lenc : (comm ts hs).length ≤ ts.length := List.length_filter_le ..
    -- what is returned
    have fin : ∀ (ts' hs' : List Int) (x1 x2 : Addr) (GA6 : Hp), But p H GA6 → PotAt GA6 p → x1 ≠ p → x2 ≠ p → GA6 x1 = some (.lst (ts'.map V.int)) → GA6 x2 = some (.lst (hs'.map V.int)) → (∀ k ∈ ts', k ∈ ts) → (∀ k ∈ hs', k ∈ hs) →
        ts'.Pairwise (· < ·) → hs'.Pairwise (· < ·) → ts'.length ≤ 40 → hs'.length ≤ 40 → (comm ts' hs').length % 2 = 0 → ∀ q, GA6 q = none → Q (.ref q) (upd GA6 q (.tup [.ref x1, .ref x2])) := by
      intro ts' hs' x1 x2 GA6 b6 pot6 n1 n2 g1 g2 m1' m2' v1 v2 l1 l2 ev q hq
      have d1 := nodup_lt_ v1
      have d2 := nodup_lt_ v2
      have sq := same_new (o := .tup [.ref x1, .ref x2]) hq
      refine out q ts' hs' _ (b6.free hp hq pot6) (b6.trans (But.same sq)) (pot6.same sq) ⟨x1, x2, n1, n2, upd_same, sq _ _ g1, sq _ _ g2⟩ ⟨fun k hk => ?_, fun k hk => ?_, d1, d2, l1, l2⟩ (fun k hk => ?_) (fun k hk => ?_) ev v1 v2
      · have := i1 k (m1' k hk)
        omega
      · have := i2 k (m2' k hk)
        omega
      · exact (i1 k (m1' k hk)).2
      · exact (i2 k (m2' k hk)).2
    have b04 : But p H GA4 := b02.trans (But.same s24)
    refine ⟨_, rfl, D, _, rfl, .inl (SqL.of hD4'), _, _, rfl, rfl, (by show (0 : Int) < 2; decide), rfl, _, rfl, ite2 (fun heven => ?_) (fun hodd => ?_)⟩
    · have ev : (comm ts hs).length % 2 = 0 := by
        have z := of_decide_eq_true heven
        rw [List.length_map] at z
        have z2 : (((comm ts hs).length : Nat) : Int) % 2 = 0 := by injection z
        omega
      exact ⟨_, rfl, _, rfl, (by show 2 ≤ sizeLine; decide), fin ts hs a1 a2 GA4 b04 pot4 na1 na2 c1 c2 (fun _ h => h) (fun _ h => h) w1 w2 len1 len2 ev⟩
    · have od : (comm ts hs).length % 2 = 1 := by
        have z : ¬ (V.int (((((comm ts hs).map V.int).length : Nat) : Int) % 2) = V.int 0) := fun q => hodd (decide_eq_true q)
        rw [List.length_map] at z
        have z2 : ¬ (((comm ts hs).length : Nat) : Int) % 2 = 0 := fun q => z (by rw [q])
        omega
      refine ⟨_, rfl, _, rfl, _, rfl, D, _, rfl, .inl (SqL.of hD4'), p, _, rfl, pot4, ?_, ?_, fun d GA5 d0 d1 b5 pot5 => ?_⟩
      · rw [List.length_map]
        omega
      · rw [List.length_map]
        omega
      rw [List.length_map] at d1
      have dl : d.toNat < (comm ts hs).length := by omega
      obtain ⟨gone, eg⟩ : ∃ gone, (comm ts hs)[d.toNat]? = some gone := ⟨_, List.getElem?_eq_getElem dl⟩
      have gm : gone ∈ comm ts hs := List.mem_of_getElem? eg
      have hat : atI ((comm ts hs).map V.int) d = some (.int gone) := by
        have z : atI ((comm ts hs).map V.int) ((d.toNat : Nat) : Int) = some (.int gone) := atI_nat (by rw [List.getElem?_map, eg]; rfl)
        rwa [Int.toNat_of_nonneg d0] at z
      refine ⟨D, _, d, .int gone, rfl, rfl, SqL.of (b5 D _ nD hD4'), hat, ?_⟩
      refine ⟨_, rfl, p, 2, rfl, pot5, by decide, by decide, fun c GA6 c0 c1' b6 pot6 => ⟨rfl, _, rfl, ?_⟩⟩
      have b46 : But p GA4 GA6 := b5.trans b6
      have g1 : GA6 a1 = some (.lst (ts.map V.int)) := b46 a1 _ na1 c1
      have g2 : GA6 a2 = some (.lst (hs.map V.int)) := b46 a2 _ na2 c2
      have b06 : But p H GA6 := b04.trans b46
      have one := filter_one ndc gm
      refine ite2 (fun _ => ?_) (fun _ => ?_)
      · skip
        refine ⟨_, rfl, a1, rfl, ⟨_, SqL.of g1⟩, fun D2 hD2 => ?_⟩
        have hD2H : GA6 D2 = none := hD2
        have nD2 := pot_ne pot6 hD2
        refine lc_list (K := K) (a := a1) (xs := ts.map V.int) (fun i H' => Same GA6 H' ∧ H' D2 = some (.lst (((ts.take i).filter fun k => decide (¬ k = gone)).map V.int))) ⟨same_new hD2, upd_same⟩ (fun i H' _ h => SqL.of (h.1 _ _ g1)) ?_ ?_
        · rintro i x GA7 hx ⟨s7, hD7⟩
          rw [List.getElem?_map] at hx
          obtain ⟨k, hk, rfl⟩ : ∃ k, ts[i]? = some k ∧ x = V.int k := by
            cases e : ts[i]? with
            | none => rw [e] at hx; cases hx
            | some k => rw [e] at hx; exact ⟨k, rfl, (Option.some.inj hx).symm⟩
          have st := filt_step (f := fun k => decide (¬ k = gone)) hk
          refine ⟨rfl, ?_⟩
          refine ⟨_, rfl, _, rfl, rfl, _, rfl, ?_⟩
          by_cases hm : k = gone
          · subst hm
            refine iteNS rfl ⟨s7, ?_⟩
            rw [st, if_neg (by simp), List.append_nil]
            exact hD7
          · have hv : ¬ V.int k = V.int gone := fun z => hm (by injection z)
            rw [decide_eq_false hv]
            refine iteT ⟨_, rfl, _, hD7, ?_, ?_, ?_⟩
            · have := List.length_filter_le (fun k => decide (¬ k = gone)) (ts.take i)
              rw [List.length_take] at this
              rw [List.length_map]
              exact small1000 (by omega)
            · intro y o e
              rw [upd_ne (ne_of_none e hD2)]
              exact s7 y o e
            · rw [upd_same, st, if_pos (by simp [hm]), List.map_append]
              rfl
        rintro GA7 ⟨s7, hD7⟩
        rw [List.length_map, List.take_length] at hD7
        refine ⟨_, rfl, (by show 2 ≤ sizeLine; decide), fin (ts.filter fun k => decide (¬ k = gone)) hs D2 a2 GA7 (b06.trans (But.same s7)) (pot6.same s7) nD2 na2 hD7 (s7 _ _ g2) (fun k hk => (List.mem_filter.mp hk).1) (fun _ h => h) (w1.sublist List.filter_sublist) w2 (Nat.le_trans (List.length_filter_le ..) len1) len2 ?_⟩
        rw [comm_left]
        omega
      · refine ⟨_, rfl, _, rfl, a2, rfl, ⟨_, SqL.of g2⟩, fun D2 hD2 => ?_⟩
        have hD2H : GA6 D2 = none := hD2
        have nD2 := pot_ne pot6 hD2
        refine lc_list (K := K) (a := a2) (xs := hs.map V.int) (fun i H' => Same GA6 H' ∧ H' D2 = some (.lst (((hs.take i).filter fun k => decide (¬ k = gone)).map V.int))) ⟨same_new hD2, upd_same⟩ (fun i H' _ h => SqL.of (h.1 _ _ g2)) ?_ ?_
        · rintro i x GA7 hx ⟨s7, hD7⟩
          rw [List.getElem?_map] at hx
          obtain ⟨k, hk, rfl⟩ : ∃ k, hs[i]? = some k ∧ x = V.int k := by
            cases e : hs[i]? with
            | none => rw [e] at hx; cases hx
            | some k => rw [e] at hx; exact ⟨k, rfl, (Option.some.inj hx).symm⟩
          have st := filt_step (f := fun k => decide (¬ k = gone)) hk
          refine ⟨rfl, ?_⟩
          refine ⟨_, rfl, _, rfl, rfl, _, rfl, ?_⟩
          by_cases hm : k = gone
          · subst hm
            refine iteNS rfl ⟨s7, ?_⟩
            rw [st, if_neg (by simp), List.append_nil]
            exact hD7
          · have hv : ¬ V.int k = V.int gone := fun z => hm (by injection z)
            rw [decide_eq_false hv]
            refine iteT ⟨_, rfl, _, hD7, ?_, ?_, ?_⟩
            · have := List.length_filter_le (fun k => decide (¬ k = gone)) (hs.take i)
              rw [List.length_take] at this
              rw [List.length_map]
              exact small1000 (by omega)
            · intro y o e
              rw [upd_ne (ne_of_none e hD2)]
              exact s7 y o e
            · rw [upd_same, st, if_pos (by simp [hm]), List.map_append]
              rfl
        rintro GA7 ⟨s7, hD7⟩
        rw [List.length_map, List.take_length] at hD7
        refine ⟨(by show 2 ≤ sizeLine; decide), fin ts (hs.filter fun k => decide (¬ k = gone)) a1 D2 GA7 (b06.trans (But.same s7)) (pot6.same s7) na1 nD2 (s7 _ _ g1) hD7 (fun _ h => h) (fun k hk => (List.mem_filter.mp hk).1) w1 (w2.sublist List.filter_sublist) len1 (Nat.le_trans (List.length_filter_le ..) len2) ?_⟩
        rw [comm_right]
        omega
end
end K92
namespace Par
open PySem PySem.Spec PyProof.Rows L2
/-- a class of the text's own with an own ==, no own != -/
structure EqC (K : PySem.W.Frag) (C f : Addr) : Prop where
  is : ∃ nm q N bs hd sn sub ab col dd k0 k1 k2 k3 k5 newId, K.lookup C = some (excClassObj nm q C N bs [.type "object"] hd sn sub ab col dd k0 k1 k2 k3 k5 newId) ∧ PySem.W.nsOkIn K N = true ∧ PySem.W.nsIn K N "__eq__" = some (some (.ref f)) ∧ PySem.W.nsIn K N "__ne__" = some none
  eq : PySem.W.findIn K (.ref C) "__eq__" = some (some (.ref f))
  fn : PySem.W.isFn K (.ref f) = true
theorem look_eq : typeLookup (.type "object") "__eq__" = pure (some (.builtin "object.__eq__")) := by
  rw [typeLookup_type, builtinLookup_eq_fast]
  kernel_rfl
theorem ns_some_of {K : PySem.W.Frag} {h : Heap} {N : Addr} {mg : Str → Option Value} {n : Str} {v : Value} (X : K.In h) (G : h.Ns N mg) (e : PySem.W.nsIn K N n = some (some v)) : mg n = some v := by
  obtain ⟨o, es, ep, ho, hd, _, hf⟩ := G
  unfold PySem.W.nsIn at e
  split at e
  · rename_i c d es' n' sl q
    have := X _ _ q
    rw [ho] at this
    cases this
    cases hd
    split at e
    · rename_i x he
      rw [← hf]
      unfold nsFind findBy
      rw [← Array.find?_toList, he]
      simpa using e
    · split at e <;> cases e
  · cases e
theorem fn_at {K : PySem.W.Frag} {h : Heap} {f : Addr} (X : K.In h) (e : PySem.W.isFn K (.ref f) = true) : ∃ o : Obj, h.get? f = some o ∧ o.cls = .type "function" := by
  unfold PySem.W.isFn PySem.W.typeIn at e
  cases q : K.lookup f with
  | none => simp [q] at e
  | some o =>
    simp [q] at e
    exact ⟨o, X _ _ q, e⟩
section
variable {X : Cx} {C f : Addr} {CX : CXT} {n : Nat} {fd : FuncData} {ps : List Str} {sp : Sp} {E : XK}
/-- the own ==, or !=, of two instances of the class -/
def rOwn (C : Addr) (sp : Sp) (E : XK) (neg : Bool) : R2 := fun x y H Q => ∃ a b dx dy fs gs, x = .ref a ∧ y = .ref b ∧ H a = some (.ins C dx fs) ∧ H b = some (.ins C dy gs) ∧
  sp [.ref a, .ref b] H (fun v H' => ∃ r : Bool, v = .bl r ∧ Q (.bl (xor neg r)) H') E
theorem own_call {pins : List (Addr × Obj)} {s : Shared} {σ : L2.St} {H : Hp} {a b : Addr} {A : Around} {Q : V → Hp → Prop} (I : Inv X pins σ H s) (F : FnOk X.prog X.w X.K X.mg X.base CX n f fd ps sp) (hr : Room n A) (hA : A.frames = X.A.frames) (hb : Binds X.K fd ps []) (hx : Passes CX X E)
    (h : sp [.ref a, .ref b] H Q E) : wpAny (model X.prog X.w) A (call (.ref f) [.ref a, .ref b]) (fun v s' => ∃ u H', Inv X pins σ H' s' ∧ RelV u v ∧ Q u H') X.xe s := by
  have e0 : Env0 X.prog X.w X.K X.mg X.base A X.stack s H := by
    have e := I.env0
    exact ⟨by rw [hA]; exact e.frames, e.mod, e.bs, e.bsz, e.funs, e.frf, e.hok, e.bare⟩
  have hl := F.len _ _ _ _ h
  have r2 : Vals [V.ref a, V.ref b] [Value.ref a, Value.ref b] := .cons rfl (.cons rfl .nil)
  refine wpAny_call (codeAny_mono (F.run A X.stack s H ⟨[.ref a, .ref b], []⟩ [.ref a, .ref b] [.ref a, .ref b] Q E hr e0 (by
    have := hb s [.ref a, .ref b] I.kIn (by simpa using hl)
    simpa using this) r2 h) fun r s' hq => ?_)
  cases r with
  | error e => exact hx pins σ H s e s' I hq
  | ok fl =>
    cases fl with
    | ret w =>
      obtain ⟨z, H', I', rz, q⟩ := I.after hq
      exact ⟨z, H', I', rz, q⟩
    | next => exact False.elim hq
    | brk => exact False.elim hq
    | cont => exact False.elim hq
theorem op_ownNe (T : EqC X.K C f) (F : FnOk X.prog X.w X.K X.mg X.base CX n f fd ps sp) (hr : Room (n + 1) X.A) (hb : Binds X.K fd ps []) (hx : Passes CX X E) : OpR X (compareOp .NotEq) (rOwn C sp E true) := by
  intro pins s σ H x y v u Q I rx ry h
  obtain ⟨a, b, dx, dy, fs, gs, rfl, rfl, ha, hb', h⟩ := h
  cases rx
  cases ry
  obtain ⟨mA, J, _⟩ := ins_get I.hok ha
  obtain ⟨mB, J', _⟩ := ins_get I.hok hb'
  obtain ⟨oda, Ja, _⟩ := J.look
  obtain ⟨odb, Jb, _⟩ := J'.look
  obtain ⟨nm, q, N, bs, hd, sn, sub, ab, col, dd, k0, k1, k2, k3, k5, newId, hC, hN, hE, hNe⟩ := T.is
  obtain ⟨of, h1, h2⟩ := fn_at I.kIn T.fn
  have G : s.heap.Ns N (s.heap.nsMap N) := .of_isNs (PySem.W.isNs_of_in I.kIn hN)
  have O : s.heap.OwnEqNoNe a C f "object" [.type "object"] := ⟨_, of, nm, q, N, bs, hd, sn, sub, ab, col, dd, k0, k1, k2, k3, k5, newId, _, _, Ja.at_, Ja.cls, I.kIn _ _ hC, G, ns_some_of I.kIn G hE, h1, h2, PySem.F.cmp_object.mro, look_eq, PySem.W.ns_none_of I.kIn G hNe⟩
  refine compareOp_ne_ownEq PySem.F.cmp_object O Jb.at_ Jb.cls (by have := hr.units; omega) ?_
  refine wpAny_mono (own_call I F hr.in1 rfl hb hx h) (fun v s' hv => ?_) fun _ _ e => e
  obtain ⟨z, H', I', rz, r, rfl, q⟩ := hv
  cases rz
  exact ⟨r, rfl, .bl (!r), H', I', rfl, by simpa using q⟩
theorem op_ownEq (T : EqC X.K C f) (F : FnOk X.prog X.w X.K X.mg X.base CX n f fd ps sp) (hr : Room n X.A) (hb : Binds X.K fd ps []) (hx : Passes CX X E) : OpR X (compareOp .Eq) (rOwn C sp E false) := by
  intro pins s σ H x y v u Q I rx ry h
  obtain ⟨a, b, dx, dy, fs, gs, rfl, rfl, ha, hb', h⟩ := h
  cases rx
  cases ry
  obtain ⟨mA, J, _⟩ := ins_get I.hok ha
  obtain ⟨mB, J', _⟩ := ins_get I.hok hb'
  obtain ⟨oda, Ja, _⟩ := J.look
  obtain ⟨odb, Jb, _⟩ := J'.look
  obtain ⟨m, hF⟩ := I.fr
  show wpAny (model X.prog X.w) X.A (richCompare .Eq (.ref a) (.ref b)) (EP X pins σ Q) X.xe s
  refine PySem.W.cmp_K (op := .Eq) (tb := .ref C) hr.units0 hF I.ok.mod.kin Ja Jb.type (by simp [PySem.W.notFirst]) T.eq T.fn ?_
  refine wpAny_mono (own_call I F hr rfl hb hx h) (fun v s' hv => ?_) fun _ _ e => e
  obtain ⟨z, H', I', rz, r, rfl, q⟩ := hv
  cases rz
  exact ⟨.bl r, H', I', rfl, by simpa using q⟩
end
end Par
namespace Par
open PySem PySem.Spec PyProof.Rows L2
section
variable {X : Cx} {C f : Addr} {CX : CXT} {n : Nat} {fd : FuncData} {ps : List Str} {sp : Sp} {E : XK}
/-- str(o), repr(o): by the own method -/
def rTxtOwn (C : Addr) (sp : Sp) (E : XK) : List V → Hp → VK → Prop := fun xs H Q => ∃ a dx fs, xs = [.ref a] ∧ H a = some (.ins C dx fs) ∧ sp [.ref a] H (fun v H' => ∃ t : Str, v = .str t ∧ Q (.str t) H') E
theorem one_call {pins : List (Addr × Obj)} {s : Shared} {σ : L2.St} {H : Hp} {a : Addr} {A : Around} {Q : V → Hp → Prop} (I : Inv X pins σ H s) (F : FnOk X.prog X.w X.K X.mg X.base CX n f fd ps sp) (hr : Room n A) (hA : A.frames = X.A.frames) (hb : Binds X.K fd ps []) (hx : Passes CX X E)
    (h : sp [.ref a] H Q E) : wpAny (model X.prog X.w) A (call (.ref f) [.ref a]) (fun v s' => ∃ u H', Inv X pins σ H' s' ∧ RelV u v ∧ Q u H') X.xe s := by
  have e0 : Env0 X.prog X.w X.K X.mg X.base A X.stack s H := by
    have e := I.env0
    exact ⟨by rw [hA]; exact e.frames, e.mod, e.bs, e.bsz, e.funs, e.frf, e.hok, e.bare⟩
  have hl := F.len _ _ _ _ h
  refine wpAny_call (codeAny_mono (F.run A X.stack s H ⟨[.ref a], []⟩ [.ref a] [.ref a] Q E hr e0 (by
    have := hb s [.ref a] I.kIn (by simpa using hl)
    simpa using this) (.cons rfl .nil) h) fun r s' hq => ?_)
  cases r with
  | error e => exact hx pins σ H s e s' I hq
  | ok fl =>
    cases fl with
    | ret w =>
      obtain ⟨z, H', I', rz, q⟩ := I.after hq
      exact ⟨z, H', I', rz, q⟩
    | next => exact False.elim hq
    | brk => exact False.elim hq
    | cont => exact False.elim hq
theorem one_callG {pins : List (Addr × Obj)} {s : Shared} {σ : L2.St} {H : Hp} {a : Addr} {A : Around} {Q : V → Hp → Prop} (I : Inv X pins σ H s) (F : FnG X.prog X.w X.K X.mg X.base CX n f fd ps sp) (gs : A.guards = some []) (hr : Room n A) (hA : A.frames = X.A.frames) (hb : Binds X.K fd ps []) (hx : Passes CX X E)
    (h : sp [.ref a] H Q E) : wpAny (model X.prog X.w) A (call (.ref f) [.ref a]) (fun v s' => ∃ u H', Inv X pins σ H' s' ∧ RelV u v ∧ Q u H') X.xe s := by
  have e0 : Env0 X.prog X.w X.K X.mg X.base A X.stack s H := by
    have e := I.env0
    exact ⟨by rw [hA]; exact e.frames, e.mod, e.bs, e.bsz, e.funs, e.frf, e.hok, e.bare⟩
  have hl := F.arity _ _ _ _ h
  refine wpAny_call (codeAny_mono (F.go A X.stack s H ⟨[.ref a], []⟩ [.ref a] [.ref a] Q E gs hr e0 (by
    have := hb s [.ref a] I.kIn (by simpa using hl)
    simpa using this) (.cons rfl .nil) h) fun r s' hq => ?_)
  cases r with
  | error e => exact hx pins σ H s e s' I hq
  | ok fl =>
    cases fl with
    | ret w =>
      obtain ⟨z, H', I', rz, q⟩ := I.after hq
      exact ⟨z, H', I', rz, q⟩
    | next => exact False.elim hq
    | brk => exact False.elim hq
    | cont => exact False.elim hq
theorem cr_reprOwn (c : PySem.W.findIn X.K (.ref C) "__repr__" = some (some (.ref f))) (hf : PySem.W.isFn X.K (.ref f) = true) (F : FnG X.prog X.w X.K X.mg X.base CX n f fd ps sp) (gs : X.A.guards = some []) (hr : Room (n + 1) X.A) (hb : Binds X.K fd ps []) (hx : Passes CX X E) :
    CallR X (.builtin "repr") (rTxtOwn C sp E) := by
  intro pins s σ H xs us Q I r h
  obtain ⟨a, dx, fs, rfl, ha, h⟩ := h
  cases r with
  | @cons _ u _ _ r1 r2 =>
    cases r2
    cases r1
    obtain ⟨mA, J, _⟩ := ins_get I.hok ha
    obtain ⟨oda, Ja, _⟩ := J.look
    obtain ⟨m, hF⟩ := I.fr
    refine PySem.W.repr_K (hr.in1).units0 hF I.ok.mod.kin Ja c hf ?_
    refine wpAny_mono (one_callG I F gs hr.in1 rfl hb hx h) (fun v s' hv => ?_) fun _ _ e => e
    obtain ⟨z, H', I', rz, t, rfl, q⟩ := hv
    obtain ⟨tk, rfl⟩ := rz
    exact ⟨.str t, H', I', ⟨_, rfl⟩, q⟩
theorem cr_strOwn (c : PySem.W.findIn X.K (.ref C) "__str__" = some (some (.ref f))) (hf : PySem.W.isFn X.K (.ref f) = true) (F : FnOk X.prog X.w X.K X.mg X.base CX n f fd ps sp) (hr : Room (n + 2) X.A) (hb : Binds X.K fd ps []) (hx : Passes CX X E) :
    CallR X (.type "str") (rTxtOwn C sp E) := by
  intro pins s σ H xs us Q I r h
  obtain ⟨a, dx, fs, rfl, ha, h⟩ := h
  cases r with
  | @cons _ u _ _ r1 r2 =>
    cases r2
    cases r1
    obtain ⟨mA, J, _⟩ := ins_get I.hok ha
    obtain ⟨oda, Ja, _⟩ := J.look
    refine PySem.W.kso_call (hr.in1.in1).units0 I.kIn Ja c hf ?_
    refine wpAny_mono (one_call I F hr.in1.in1 rfl hb hx h) (fun v s' hv => ?_) fun _ _ e => e
    obtain ⟨z, H', I', rz, t, rfl, q⟩ := hv
    obtain ⟨tk, rfl⟩ := rz
    exact ⟨.str t, H', I', ⟨_, rfl⟩, q⟩
/-- {x!r}, x a list or tuple of data, where the guards are none -/
def tFmtD (K : PySem.W.Frag) (te : TE) : TE := fun σ H Q => te σ H fun x H1 => ∃ (a : Addr) (d : PyData), x = .ref a ∧ Dp K H1 x d ∧ d.showable = true ∧ d.depth ≤ 40 ∧ d.shown.length ≤ sizeLine ∧ Q (.str d.shown) H1
theorem pe_fmtD {e : Expr} {te : TE} {pos : Pos} (gs : X.A.guards = some []) (hu : X.A.units + 64 < cLine) (he : PE X e te) : PE X (.FormattedValue e 114 none pos) (tFmtD X.K te) := by
  refine ⟨fun pins s σ H Q I h => ?_⟩
  refine wpAny_FormattedValue_repr (thn (he.run pins s σ H _ I h) fun w1 t1 got => ?_)
  obtain ⟨x, H1, I1, r1, a, d, rfl, hd, sh, dep, len, q⟩ := got
  cases r1
  obtain ⟨as, rd⟩ := Dp.reads I1 d _ _ hd rfl
  refine pyReprObj_of_reads rd sh (fun z => by rw [dp_nodict d _ hd] at z; cases z) gs (by omega) (fun _ _ z => z) ?_ len
  intro h' tk u k
  exact wpAny_formatField_str ⟨.str d.shown, H1, I1.un (Un.kept k) (I1.hok.kept k), ⟨_, rfl⟩, q⟩ ⟨.str d.shown, H1, I1.un (Un.kept k) (I1.hok.kept k), ⟨_, rfl⟩, q⟩ len
end
end Par
namespace K92
open PySem PySem.Spec PyProof.Rows L2 Par
theorem flip_at {bs hs : List Int} {i : Nat} (hi : i < bs.length) : (flipB bs hs).getD i 0 = if decide ((i : Int) ∈ hs) = true then 1 - bs.getD i 0 else bs.getD i 0 := by
  rw [List.getD_eq_getElem?_getD]
  unfold flipB
  rw [List.getElem?_map, List.getElem?_range hi]
  rfl
theorem sum_flip {bs hs : List Int} : ∀ (ts : List Int), (∀ k ∈ ts, 0 ≤ k ∧ k < bs.length) →
    ((ts.map fun k => (flipB bs hs).getD k.toNat 0).sum - (ts.map fun k => bs.getD k.toNat 0).sum - ((comm ts hs).length : Int)) % 2 = 0
  | [], _ => by simp [comm]
  | k :: ts, h => by
    have ih := sum_flip (bs := bs) (hs := hs) ts fun x hx => h x (List.mem_cons_of_mem _ hx)
    obtain ⟨h0, h1⟩ := h k (List.mem_cons_self ..)
    have e := flip_at (bs := bs) (hs := hs) (i := k.toNat) (by omega)
    rw [Int.toNat_of_nonneg h0] at e
    rw [List.map_cons, List.map_cons, List.sum_cons, List.sum_cons, e]
    by_cases z : k ∈ hs
    · have ec : comm (k :: ts) hs = k :: comm ts hs := by
        unfold comm
        rw [List.filter_cons_of_pos (by simp [z])]
      rw [ec, List.length_cons, decide_eq_true z, if_pos rfl]
      omega
    · have ec : comm (k :: ts) hs = comm ts hs := by
        unfold comm
        rw [List.filter_cons_of_neg (by simp [z])]
      rw [ec, decide_eq_false z, if_neg Bool.false_ne_true]
      omega
theorem par_flip {bs ts hs : List Int} (h : ∀ k ∈ ts, 0 ≤ k ∧ k < bs.length) (ev : (comm ts hs).length % 2 = 0) : parB (flipB bs hs) ts = parB bs ts := by
  have := sum_flip (bs := bs) (hs := hs) ts h
  unfold parB
  omega
theorem aft_len (bs ts hs : List Int) : (aftB bs ts hs).length = bs.length := by
  unfold aftB
  split
  · exact flipB_len _ _
  · rfl
theorem aft_ok {bs ts hs : List Int} (h : OkB bs) (h0 : ∀ k ∈ hs, 1 ≤ k) : OkB (aftB bs ts hs) := by
  unfold aftB
  split
  · exact flip_ok h h0
  · exact h
theorem aft_par {bs ts hs : List Int} (h : ∀ k ∈ ts, 0 ≤ k ∧ k < bs.length) (ev : (comm ts hs).length % 2 = 0) : parB (aftB bs ts hs) ts = parB bs ts := by
  unfold aftB
  split
  · exact par_flip h ev
  · rfl
theorem aft_back {bs ts hs : List Int} (h : ∀ k ∈ ts, 0 ≤ k ∧ k < bs.length) (ev : (comm ts hs).length % 2 = 0) : aftB (aftB bs ts hs) ts hs = bs := by
  have e := aft_par h ev
  unfold aftB at e ⊢
  by_cases z : parB bs ts = 1
  · rw [decide_eq_true z, if_pos rfl] at e ⊢
    rw [e, decide_eq_true z, if_pos rfl]
    exact flip_flip
  · rw [decide_eq_false z, if_neg Bool.false_ne_true] at e ⊢
    rw [decide_eq_false z, if_neg Bool.false_ne_true]
theorem fits_le {ts hs : List Int} {M : Int} {n : Nat} (f : Fits ts hs M) (h1 : ∀ k ∈ ts, k < n) (h2 : ∀ k ∈ hs, k < n) (h3 : 1 ≤ n) : M ≤ n := by
  rcases f.2.2 with z | z | z
  · omega
  · have := h1 _ z
    omega
  · have := h2 _ z
    omega
theorem par01 (bs t : List Int) : parB bs t = 0 ∨ parB bs t = 1 := by
  unfold parB
  omega
theorem aft_at {bs t h : List Int} {i : Nat} (hi : i < bs.length) : (aftB bs t h).getD i 0 = if parB bs t = 1 ∧ (i : Int) ∈ h then 1 - bs.getD i 0 else bs.getD i 0 := by
  unfold aftB
  by_cases z : parB bs t = 1
  · rw [decide_eq_true z, if_pos rfl, flip_at hi]
    by_cases y : (i : Int) ∈ h
    · rw [decide_eq_true y, if_pos rfl, if_pos ⟨z, y⟩]
    · rw [decide_eq_false y, if_neg Bool.false_ne_true, if_neg fun q => y q.2]
  · rw [decide_eq_false z, if_neg Bool.false_ne_true, if_neg fun q => z q.1]
theorem par_aft {bs t1 h1 t2 : List Int} (h : ∀ k ∈ t2, 0 ≤ k ∧ k < bs.length) : parB (aftB bs t1 h1) t2 = if parB bs t1 = 1 ∧ (comm t2 h1).length % 2 = 1 then 1 - parB bs t2 else parB bs t2 := by
  have f := sum_flip (bs := bs) (hs := h1) t2 h
  have p := par01 bs t2
  unfold aftB
  by_cases z : parB bs t1 = 1
  · rw [decide_eq_true z, if_pos rfl]
    by_cases y : (comm t2 h1).length % 2 = 1
    · rw [if_pos ⟨z, y⟩]
      unfold parB at p ⊢
      omega
    · rw [if_neg fun q => y q.2]
      unfold parB at p ⊢
      omega
  · rw [decide_eq_false z, if_neg Bool.false_ne_true, if_neg fun q => z q.1]
theorem depth_ints : ∀ ns : List Int, PyData.depthAll (ns.map PyData.int) = 0
  | [] => rfl
  | n :: ns => by
    show max 0 (PyData.depthAll (ns.map PyData.int)) = 0
    rw [depth_ints ns]
    rfl
theorem lay_ints : ∀ ns : List Int, (PyData.list (ns.map PyData.int)).canLay0 = true := by
  intro ns
  induction ns with
  | nil => rfl
  | cons n ns ih => exact ih
theorem shaped_ints (ns : List Int) : SeqAt.shaped (.list (ns.map PyData.int)) = true := by
  unfold SeqAt.shaped
  rw [lay_ints]
  have : (PyData.list (ns.map PyData.int)).depth = 1 := by
    show PyData.depthAll (ns.map PyData.int) + 1 = 1
    rw [depth_ints]
  rw [this]
  rfl
theorem sort_same {ns ms : List Int} (h : ms.Perm ns) (w1 : ms.Pairwise (· ≤ ·)) (w2 : ns.Pairwise (· < ·)) : ms = ns :=
  List.Perm.eq_of_pairwise (fun a b _ _ h1 h2 => Int.le_antisymm h1 h2) w1 (w2.imp (fun h => by omega)) h
/-- what isinstance asks of an own class -/
structure IsC (K : PySem.W.Frag) (C : Addr) : Prop where
  ha : PySem.W.findIn K (.ref C) "__class__" = some (some (.builtin "object.__class__"))
  hn : PySem.W.specialIn K (.builtin "object.__class__") "__get__" = some (some (.builtin "getset_descriptor.__get__"))
  ht : PySem.W.takesIn K (.builtin "object.__class__") = some true
  hm : PySem.W.mroIn K C (.type "object") = some true
theorem kit_self {K : PySem.W.Frag} {C : Addr} : PySem.W.kitOne K (.ref C) (.ref C) = some true := by
  show (if (Value.ref C == Value.ref C) = true then some true else _) = some true
  rw [if_pos (by simp)]
/-- what stands in just one of both -/
def symm (ns ms : List Int) : List Int := (ns.filter fun k => !decide (k ∈ ms)) ++ (ms.filter fun k => !decide (k ∈ ns))
theorem mem_symm {ns ms : List Int} (k : Int) : k ∈ symm ns ms ↔ xor (decide (k ∈ ns)) (decide (k ∈ ms)) = true := by
  unfold symm
  by_cases a : k ∈ ns <;> by_cases b : k ∈ ms <;> simp [List.mem_append, List.mem_filter, a, b]
theorem symm_nodup {ns ms : List Int} (h1 : ns.Nodup) (h2 : ms.Nodup) : (symm ns ms).Nodup := by
  unfold symm
  refine List.nodup_append.mpr ⟨h1.sublist List.filter_sublist, h2.sublist List.filter_sublist, fun a ha b hb e => ?_⟩
  subst e
  have z := (List.mem_filter.mp ha).2
  have y := (List.mem_filter.mp hb).1
  simp [y] at z
/-- the cells moved past a flip -/
def moved (ns ts hs : List Int) : List Int := if (comm ns hs).length % 2 = 1 then symm ns ts else ns
theorem up_same {l m : List Int} (h1 : l.Pairwise (· < ·)) (h2 : m.Pairwise (· < ·)) (h : ∀ k, k ∈ l ↔ k ∈ m) : l = m := by
  have n1 : l.Nodup := nodup_lt_ h1
  have n2 : m.Nodup := nodup_lt_ h2
  exact List.Perm.eq_of_pairwise (fun a b _ _ h1 h2 => by omega) h1 h2 ((List.perm_ext_iff_of_nodup n1 n2).mpr h)
theorem sum_part (f : Int → Int) (p : Int → Bool) : ∀ l : List Int, ((l.filter p).map f).sum + ((l.filter fun k => !p k).map f).sum = (l.map f).sum
  | [] => rfl
  | a :: l => by
    have ih := sum_part f p l
    by_cases z : p a = true
    · rw [List.filter_cons_of_pos z, List.filter_cons_of_neg (by simp [z]), List.map_cons, List.map_cons, List.sum_cons, List.sum_cons]
      omega
    · rw [List.filter_cons_of_neg z, List.filter_cons_of_pos (by simp [z]), List.map_cons, List.map_cons, List.sum_cons, List.sum_cons]
      omega
theorem sum_symm (f : Int → Int) {ns ms : List Int} (h1 : ns.Nodup) (h2 : ms.Nodup) : ((symm ns ms).map f).sum % 2 = ((ns.map f).sum + (ms.map f).sum) % 2 := by
  have a := sum_part f (fun k => decide (k ∈ ms)) ns
  have b := sum_part f (fun k => decide (k ∈ ns)) ms
  have pm : (ns.filter fun k => decide (k ∈ ms)).Perm (ms.filter fun k => decide (k ∈ ns)) := by
    refine (List.perm_ext_iff_of_nodup (h1.sublist List.filter_sublist) (h2.sublist List.filter_sublist)).mpr fun k => ?_
    simp [List.mem_filter, and_comm]
  have c := perm_sum (pm.map f)
  unfold symm
  rw [List.map_append, List.sum_append]
  omega
theorem comm_sum (ns ms : List Int) : ((comm ns ms).length : Int) = (ns.map fun k => if k ∈ ms then (1 : Int) else 0).sum := by
  induction ns with
  | nil => rfl
  | cons a l ih =>
    unfold comm at ih ⊢
    rw [List.map_cons, List.sum_cons, ← ih]
    by_cases z : a ∈ ms
    · rw [List.filter_cons_of_pos (by simp [z]), List.length_cons, if_pos z]
      omega
    · rw [List.filter_cons_of_neg (by simp [z]), if_neg z]
      omega
theorem comm_swap {ns ms : List Int} (h1 : ns.Nodup) (h2 : ms.Nodup) : (comm ns ms).length = (comm ms ns).length := by
  have pm : (comm ns ms).Perm (comm ms ns) := by
    unfold comm
    refine (List.perm_ext_iff_of_nodup (h1.sublist List.filter_sublist) (h2.sublist List.filter_sublist)).mpr fun k => ?_
    simp [List.mem_filter, and_comm]
  exact pm.length_eq
theorem comm_symm_l {a b c : List Int} (h1 : a.Nodup) (h2 : b.Nodup) : (comm (symm a b) c).length % 2 = ((comm a c).length + (comm b c).length) % 2 := by
  have z := sum_symm (fun k => if k ∈ c then (1 : Int) else 0) h1 h2
  rw [← comm_sum, ← comm_sum, ← comm_sum] at z
  omega
theorem comm_symm_r {a b c : List Int} (h1 : a.Nodup) (h2 : b.Nodup) (h3 : c.Nodup) : (comm a (symm b c)).length % 2 = ((comm a b).length + (comm a c).length) % 2 := by
  rw [comm_swap h1 (symm_nodup h2 h3), comm_symm_l h2 h3, comm_swap h2 h1, comm_swap h3 h1]
theorem par_symm {bs ns ms : List Int} (h1 : ns.Nodup) (h2 : ms.Nodup) : parB bs (symm ns ms) = (parB bs ns + parB bs ms) % 2 := by
  have a := sum_part (fun k => bs.getD k.toNat 0) (fun k => decide (k ∈ ms)) ns
  have b := sum_part (fun k => bs.getD k.toNat 0) (fun k => decide (k ∈ ns)) ms
  have pm : (ns.filter fun k => decide (k ∈ ms)).Perm (ms.filter fun k => decide (k ∈ ns)) := by
    refine (List.perm_ext_iff_of_nodup (h1.sublist List.filter_sublist) (h2.sublist List.filter_sublist)).mpr fun k => ?_
    simp [List.mem_filter, and_comm]
  have c := perm_sum (pm.map fun k => bs.getD k.toNat 0)
  unfold parB symm
  rw [List.map_append, List.sum_append]
  omega
/-- the parity before is the parity of the moved cells after -/
theorem par_moved {bs ns ts hs : List Int} (h1 : ∀ k ∈ ns, 0 ≤ k ∧ k < bs.length) (h2 : ∀ k ∈ ts, 0 ≤ k ∧ k < bs.length) (n1 : ns.Nodup) (n2 : ts.Nodup) (ev : (comm ts hs).length % 2 = 0) : parB (aftB bs ts hs) (moved ns ts hs) = parB bs ns := by
  have a := par_aft (bs := bs) (t1 := ts) (h1 := hs) (t2 := ns) h1
  have b := aft_par (bs := bs) h2 ev
  have p := par01 bs ns
  have q := par01 bs ts
  unfold moved
  by_cases z : (comm ns hs).length % 2 = 1
  · rw [if_pos z, par_symm n1 n2, b]
    by_cases y : parB bs ts = 1
    · rw [if_pos ⟨y, z⟩] at a
      omega
    · rw [if_neg fun c => y c.1] at a
      omega
  · rw [if_neg z, a, if_neg fun c => z c.2]
theorem le_lt {l : List Int} (h : l.Pairwise (· ≤ ·)) (n : l.Nodup) : l.Pairwise (· < ·) := (h.and n).imp fun ⟨a, b⟩ => by omega
end K92
namespace K92
open PySem PySem.Spec PyProof.Rows L2 Par
theorem lay_tints : ∀ ns : List Int, (PyData.tuple (ns.map PyData.int)).canLay0 = true := by
  intro ns
  induction ns with
  | nil => rfl
  | cons n ns ih => exact ih
theorem shaped_tints (ns : List Int) : SeqAt.shaped (.tuple (ns.map PyData.int)) = true := by
  unfold SeqAt.shaped
  rw [lay_tints]
  have : (PyData.tuple (ns.map PyData.int)).depth = 1 := by
    show PyData.depthAll (ns.map PyData.int) + 1 = 1
    rw [depth_ints]
  rw [this]
  rfl
theorem eqv_ints : ∀ ns ms : List Int, PyData.eqvAll (ns.map PyData.int) (ms.map PyData.int) = decide (ns = ms)
  | [], [] => by simp [PyData.eqvAll]
  | [], _ :: _ => by simp [PyData.eqvAll]
  | _ :: _, [] => by simp [PyData.eqvAll]
  | n :: ns, m :: ms => by
    have ih := eqv_ints ns ms
    show ((n == m) && PyData.eqvAll (ns.map PyData.int) (ms.map PyData.int)) = _
    rw [ih]
    by_cases z : n = m <;> by_cases y : ns = ms <;> simp [z, y]
theorem eqv_tints (ns ms : List Int) : PyData.eqv (.tuple (ns.map PyData.int)) (.tuple (ms.map PyData.int)) = decide (ns = ms) := eqv_ints ns ms
theorem len2 : ∀ n : Nat, n < 40 → (Str.ofString (toString ((n : Nat) : Int))).length ≤ 2 := by decide +kernel
theorem lenK {k : Int} (h : 0 ≤ k ∧ k < 40) : (Str.ofString (toString k)).length ≤ 2 := by
  have := len2 k.toNat (by omega)
  rwa [Int.toNat_of_nonneg h.1] at this
/-- the text of cells -/
def cellsT (ns : List Int) : Str := if ns.isEmpty = true then "-" else Txt.join "," (ns.map fun k => Str.ofString (toString k))
theorem join_len (y : Str) : ∀ parts : List Str, (Str.join y parts).length ≤ (parts.map (·.length)).sum + parts.length * y.length
  | [] => Nat.zero_le _
  | [x] => by
    show x.length ≤ _
    simp
  | x :: z :: r => by
    have ih := join_len y (z :: r)
    have e : (Str.join y (x :: z :: r)).length = x.length + y.length + (Str.join y (z :: r)).length := by
      show (x ++ y ++ Str.join y (z :: r)).length = _
      simp [Str.length, Str.cps_append]
      omega
    have f : (r.length + 1 + 1) * y.length = (r.length + 1) * y.length + y.length := Nat.succ_mul _ _
    simp only [List.map_cons, List.sum_cons, List.length_cons] at ih ⊢
    omega
theorem two_sum : ∀ {ns : List Int}, (∀ k ∈ ns, 0 ≤ k ∧ k < 40) → ((ns.map fun k => Str.ofString (toString k)).map (·.length)).sum ≤ 2 * ns.length
  | [], _ => by simp
  | k :: ns, h => by
    have ih := two_sum fun x hx => h x (List.mem_cons_of_mem _ hx)
    have := lenK (h k (List.mem_cons_self ..))
    simp only [List.map_cons, List.sum_cons, List.length_cons] at ih ⊢
    omega
theorem cellsT_len {ns : List Int} (h : ∀ k ∈ ns, 0 ≤ k ∧ k < 40) (l : ns.length ≤ 40) : (cellsT ns).length ≤ 200 := by
  unfold cellsT
  split
  · decide +kernel
  · have a := join_len "," (ns.map fun k => Str.ofString (toString k))
    rw [← TL.join_eq] at a
    have b := two_sum h
    rw [List.length_map] at a
    have c : (Str.ofString ",").length = 1 := by decide +kernel
    rw [c] at a
    omega
section
variable {P : Program} {w : World} {K : PySem.W.Frag} {mg : Str → Option Value} {base : Heap}
def spFlipS (K : PySem.W.Frag) (C : Addr) : Sp := fun vs H Q _ => ∃ (p : Addr) (ts hs : List Int), vs = [.ref p] ∧ Pr K H p ts hs ∧ OkF ts hs ∧ (comm ts hs).length % 2 = 0 ∧
  ∀ q (ts' hs' : List Int) H', H q = none → Same H H' → ts'.Perm ts → hs'.Perm hs → ts'.Pairwise (· ≤ ·) → hs'.Pairwise (· ≤ ·) → Fp C H' q ts' hs' → Q (.ref q) H'
/-- written_cells -/
def spWritten (K : PySem.W.Frag) : Sp := fun vs H Q _ => ∃ (a : Addr) (ns : List Int), vs = [.ref a] ∧ SqT K H a (ns.map V.int) ∧ ns.length ≤ 40 ∧ (∀ k ∈ ns, 0 ≤ k ∧ k < 40) ∧ ∀ H', Same H H' → Q (.str (cellsT ns)) H'
abbrev nWritten : List Str := ["cells", "cell"]
theorem scWritten : FnScope nWritten ["cells"] (defScope sWritten) := ⟨rfl, rfl, rfl, by decide +kernel, rfl, by decide +kernel, by decide +kernel⟩
theorem ok_written {f : Addr} {fd : FuncData} (F : Fun K "written_cells" "written_cells" sWritten f fd) (hS : mg "str" = none) : FnOk P w K mg base CX0 2 f fd ["cells"] (spWritten K) := by
  refine F.ok scWritten (fun vs H Q E h => ?_) (fun cdv A outer s H vs Q E hr h => ?_)
  · obtain ⟨a, ns, rfl, _⟩ := h
    rfl
  · obtain ⟨a, ns, rfl, ha, l1, hin, out⟩ := h
    refine ⟨_, pss_cons (ps_if (pt_not (pt_truth (pv 0) (fun _ => rfl))) (pss_one (ps_ret pe_str)) pss_nil)
      (pss_one (ps_ret (pe_join pe_str (pe_lc (own := [("cell", 1)]) (g := gName 1) rfl scWritten.nd (pi_tup (pv 0)) (blkOk_by (own := [("cell", 1)]) (N := nWritten) (sc := defScope sWritten) (by decide +kernel))
        (fun _ _ _ _ _ => pg_name (i := 1) scWritten.nd rfl (Or.inl rfl)) (fun _ _ _ _ _ => pts_nil) (fun _ _ _ _ _ => by exact pe_callTy call_str_int (by rfl) hS (by decide +kernel) (pa_cons (pv 1) pa_nil)))))), ?_⟩
    refine ⟨_, rfl, !(ns.map V.int).isEmpty, .inr (.inl ⟨_, ha, rfl⟩), ite2 (fun z => ?_) (fun z => ?_)⟩
    · have e : ns.isEmpty = true := by
        cases ns with
        | nil => rfl
        | cons _ _ => simp at z
      have := out H (Same.refl _)
      unfold cellsT at this
      rw [if_pos e] at this
      exact this
    · have e : ¬ ns.isEmpty = true := by
        cases ns with
        | nil => simp at z
        | cons _ _ => simp
      refine ⟨⟨_, rfl⟩, _, rfl, a, rfl, ⟨_, ha⟩, fun D hD => ?_⟩
      refine lc_tup (K := K) (a := a) (xs := ns.map V.int) (fun i H' => Same H H' ∧ H' D = some (.lst (((ns.take i).map fun k => Str.ofString (toString k)).map V.str))) ⟨same_new hD, upd_same⟩ (fun i H' _ h => same_sqt h.1 ha) ?_ ?_
      · rintro i x GA2 hx ⟨s2, hD2⟩
        rw [List.getElem?_map] at hx
        obtain ⟨k, hk, rfl⟩ : ∃ k, ns[i]? = some k ∧ x = V.int k := by
          cases e : ns[i]? with
          | none => rw [e] at hx; cases hx
          | some k => rw [e] at hx; exact ⟨k, rfl, (Option.some.inj hx).symm⟩
        have kb := hin k (List.mem_of_getElem? hk)
        refine ⟨rfl, yesT ?_⟩
        refine ⟨_, rfl, k, rfl, ?_, _, hD2, ?_, ?_, ?_⟩
        · have : k.natAbs < 2 ^ 6 := by omega
          exact Nat.lt_of_lt_of_le (log_lt this (by decide)) (by decide)
        · rw [List.length_map, List.length_map, List.length_take]
          exact small1000 (by omega)
        · intro b o e
          rw [upd_ne (ne_of_none e hD)]
          exact s2 b o e
        · rw [upd_same, List.take_succ, hk, List.map_append, List.map_append]
          rfl
      · rintro GA2 ⟨s2, hD2⟩
        rw [List.length_map, List.take_length] at hD2
        refine ⟨_, D, ns.map fun k => Str.ofString (toString k), rfl, rfl, .inl (SqL.of hD2), ?_, ?_⟩
        · have b := two_sum hin
          have c : (Str.ofString ",").length = 1 := by decide +kernel
          rw [List.length_map, c]
          omega
        · have := out GA2 s2
          unfold cellsT at this
          rw [if_neg e] at this
          exact this
end
end K92
namespace K92
open PySem PySem.Spec PyProof.Rows L2 Par
theorem app_len (a b : Str) : (a ++ b).length = a.length + b.length := by simp [Str.length, Str.cps_append]
/-- the texts of a flip -/
def flipT (ts hs : List Int) : Str := cellsT ts ++ ">" ++ cellsT hs
def shownL (ns : List Int) : Str := (PyData.list (ns.map .int)).shown
def reprT (ts hs : List Int) : Str := "Flip(tested=" ++ shownL ts ++ ", toggled=" ++ shownL hs ++ ")"
theorem good_cells {ns : List Int} (h : ∀ k ∈ ns, 0 ≤ k ∧ k < 40) (l : ns.length ≤ 40) : good (.list (ns.map PyData.int)) := good_list (fun d hd => by
  obtain ⟨k, hk, rfl⟩ := List.mem_map.mp hd
  have := h k hk
  exact small_int (by omega)) (by rw [List.length_map]; omega)
theorem good_cellsT {ns : List Int} (h : ∀ k ∈ ns, 0 ≤ k ∧ k < 40) (l : ns.length ≤ 40) : good (.tuple (ns.map PyData.int)) := good_tuple (fun d hd => by
  obtain ⟨k, hk, rfl⟩ := List.mem_map.mp hd
  have := h k hk
  exact small_int (by omega)) (by rw [List.length_map]; omega)
theorem okF_in {ts hs : List Int} (h : OkF ts hs) : (∀ k ∈ ts, 0 ≤ k ∧ k < 40) ∧ (∀ k ∈ hs, 0 ≤ k ∧ k < 40) ∧ ts.length ≤ 40 ∧ hs.length ≤ 40 := ⟨h.1, fun k hk => by have := h.2.1 k hk; omega, h.2.2.2.2.1, h.2.2.2.2.2⟩
section
variable {P : Program} {w : World} {K : PySem.W.Frag} {mg : Str → Option Value} {base : Heap}
def spStrF (C : Addr) : Sp := fun vs H Q _ => ∃ (f : Addr) (ts hs : List Int), vs = [.ref f] ∧ Fp C H f ts hs ∧ OkF ts hs ∧ ∀ H', Same H H' → Q (.str (flipT ts hs)) H'
theorem scStrF : FnScope ["self"] ["self"] (defScope gStr) := ⟨rfl, rfl, rfl, by decide +kernel, rfl, by decide +kernel, by decide +kernel⟩
theorem ok_strF {f C : Addr} {fd : FuncData} (F : Fun K "__str__" "Flip.__str__" gStr f fd) (T : FC K mg C) (D : Has P w K mg base "written_cells" 2 ["cells"] (spWritten K)) : FnOk P w K mg base CX0 3 f fd ["self"] (spStrF C) := by
  obtain ⟨fD, fdD, GD, mD, kD, bD⟩ := D
  refine F.ok scStrF (fun vs H Q E h => ?_) (fun cdv A outer s H vs Q E hr h => ?_)
  · obtain ⟨f, ts, hs, rfl, _⟩ := h
    rfl
  · obtain ⟨f, ts, hs, rfl, ⟨dx, t1, t2, f1, f2, f3⟩, ok, out⟩ := h
    obtain ⟨i1, i2, l1, l2⟩ := okF_in ok
    have c1 := cellsT_len i1 l1
    have c2 := cellsT_len i2 l2
    have c3 : (Str.ofString ">").length = 1 := by decide +kernel
    refine ⟨_, pss_one (ps_ret (pe_joined (.cons (pe_fmt (pe_call GD hr (by rfl) mD kD bD .nil pass0 (pa_cons (pe_fld (pv 0) rfl) pa_nil))) (.cons pe_str (.cons (pe_fmt (pe_call GD hr (by rfl) mD kD bD .nil pass0 (pa_cons (pe_fld (pv 0) rfl) pa_nil))) .nil))))), ?_⟩
    refine ⟨_, rfl, f, C, dx, _, _, rfl, f1, T.cl, T.nT, fld1, t1, ts, rfl, SqT.of f2, l1, i1, fun GA1 s1 => .inl ⟨_, rfl, by rw [sizeLine_eq]; omega, _, rfl, ?_, ?_⟩⟩
    · rw [Str.empty_append, sizeLine_eq]
      omega
    refine ⟨_, rfl, ?_, ?_⟩
    · rw [Str.empty_append, app_len, c3, sizeLine_eq]
      omega
    refine ⟨_, rfl, f, C, dx, _, _, rfl, s1 _ _ f1, T.cl, T.nG, fld2, t2, hs, rfl, SqT.of (s1 _ _ f3), l2, i2, fun GA2 s2 => .inl ⟨_, rfl, by rw [sizeLine_eq]; omega, _, rfl, ?_, ?_⟩⟩
    · rw [Str.empty_append, app_len, app_len, c3, sizeLine_eq]
      omega
    rw [Str.empty_append]
    exact out GA2 (s1.trans s2)
def spReprF (C : Addr) : Sp := fun vs H Q _ => ∃ (f : Addr) (ts hs : List Int), vs = [.ref f] ∧ Fp C H f ts hs ∧ OkF ts hs ∧ ∀ H', Same H H' → Q (.str (reprT ts hs)) H'
theorem scReprF : FnScope ["self"] ["self"] (defScope gRepr) := ⟨rfl, rfl, rfl, by decide +kernel, rfl, by decide +kernel, by decide +kernel⟩
theorem ok_reprF {f C : Addr} {fd : FuncData} (F : Fun K "__repr__" "Flip.__repr__" gRepr f fd) (B : Bl mg) (T : FC K mg C) : FnG P w K mg base CX0 2 f fd ["self"] (spReprF C) := by
  refine fnG_of F scReprF (fun vs H Q E h => ?_) (fun cdv A outer s H vs Q E gs hr h => ?_)
  · obtain ⟨f, ts, hs, rfl, _⟩ := h
    rfl
  · obtain ⟨f, ts, hs, rfl, ⟨dx, t1, t2, f1, f2, f3⟩, ok, out⟩ := h
    obtain ⟨i1, i2, l1, l2⟩ := okF_in ok
    have hu := hr.units
    obtain ⟨g1, g2, g3⟩ := good_cells i1 l1
    obtain ⟨g4, g5, g6⟩ := good_cells i2 l2
    have b1 : (shownL ts).length ≤ 200000 := g3
    have b2 : (shownL hs).length ≤ 200000 := g6
    have c1 : (Str.ofString "Flip(tested=").length = 12 := by decide +kernel
    have c2 : (Str.ofString ", toggled=").length = 10 := by decide +kernel
    have c3 : (Str.ofString ")").length = 1 := by decide +kernel
    obtain ⟨sh1, dp1, ln1⟩ := shown_good (good_cells i1 l1)
    obtain ⟨sh2, dp2, ln2⟩ := shown_good (good_cells i2 l2)
    refine ⟨_, pss_one (ps_ret (pe_joined (.cons pe_str (.cons (pe_fmtD gs hu (pe_callTy call_list_of (by rfl) B.list (by decide +kernel) (pa_cons (pe_fld (pv 0) rfl) pa_nil))) (.cons pe_str (.cons (pe_fmtD gs hu (pe_callTy call_list_of (by rfl) B.list (by decide +kernel) (pa_cons (pe_fld (pv 0) rfl) pa_nil))) (.cons pe_str .nil))))))), ?_⟩
    refine ⟨_, rfl, ?_, ?_⟩
    · rw [Str.empty_append, c1, sizeLine_eq]
      omega
    refine ⟨_, rfl, f, C, dx, _, _, rfl, f1, T.cl, T.nT, fld1, t1, _, rfl, .inr (SqT.of f2), fun La hLa => ?_⟩
    have s1 := same_new (o := .lst (ts.map V.int)) hLa
    refine ⟨La, .list (ts.map .int), rfl, .lst (SqL.of upd_same) (dps_ints ts), sh1, dp1, ln1, _, rfl, ?_, ?_⟩
    · rw [Str.empty_append, app_len, c1, sizeLine_eq]
      show _ + (shownL ts).length ≤ _
      omega
    refine ⟨_, rfl, ?_, ?_⟩
    · rw [Str.empty_append, app_len, app_len, c1, c2, sizeLine_eq]
      show _ + (shownL ts).length + _ ≤ _
      omega
    refine ⟨_, rfl, f, C, dx, _, _, rfl, s1 _ _ f1, T.cl, T.nG, fld2, t2, _, rfl, .inr (SqT.of (s1 _ _ f3)), fun Lb hLb => ?_⟩
    have s2 := same_new (o := .lst (hs.map V.int)) hLb
    refine ⟨Lb, .list (hs.map .int), rfl, .lst (SqL.of upd_same) (dps_ints hs), sh2, dp2, ln2, _, rfl, ?_, ?_⟩
    · rw [Str.empty_append, app_len, app_len, app_len, c1, c2, sizeLine_eq]
      show _ + (shownL ts).length + _ + (shownL hs).length ≤ _
      omega
    refine ⟨_, rfl, ?_, ?_⟩
    · rw [Str.empty_append, app_len, app_len, app_len, app_len, c1, c2, c3, sizeLine_eq]
      show _ + (shownL ts).length + _ + (shownL hs).length + _ ≤ _
      omega
    rw [Str.empty_append]
    exact out _ (s1.trans s2)
def spEqF (C : Addr) : Sp := fun vs H Q _ => ∃ (a b : Addr) (t1 h1 t2 h2 : List Int), vs = [.ref a, .ref b] ∧ Fp C H a t1 h1 ∧ Fp C H b t2 h2 ∧ Q (.bl (decide (t1 = t2) && decide (h1 = h2))) H
theorem scEqF : FnScope ["self", "other"] ["self", "other"] (defScope gEq) := ⟨rfl, rfl, rfl, by decide +kernel, rfl, by decide +kernel, by decide +kernel⟩
theorem ok_eqF {f C : Addr} {fd : FuncData} (F : Fun K "__eq__" "Flip.__eq__" gEq f fd) (B : Bl mg) (T : FC K mg C) (TI : IsC K C) : FnOk P w K mg base CX0 2 f fd ["self", "other"] (spEqF C) := by
  refine F.ok scEqF (fun vs H Q E h => ?_) (fun cdv A outer s H vs Q E hr h => ?_)
  · obtain ⟨a, b, t1, h1, t2, h2, rfl, _⟩ := h
    rfl
  · obtain ⟨a, b, t1, h1, t2, h2, rfl, ⟨dx, x1, x2, e1, e2, e3⟩, ⟨dy, y1, y2, g1, g2, g3⟩, out⟩ := h
    have hu := hr.units
    refine ⟨_, pss_one (ps_ret (pe_and (pe_callB call_isi (by rfl) B.isinstance (by decide +kernel) (pa_cons (pv 1) (pa_cons (pe_glob (v := .ref C) (by rfl) T.mgC rfl) pa_nil)))
      (pe_and (pe_cmpR (op_eqD hu) (pe_fld (pv 0) rfl) (pe_fld (pv 1) rfl) (nomark _)) (pe_one (pe_cmpR (op_eqD hu) (pe_fld (pv 0) rfl) (pe_fld (pv 1) rfl) (nomark _)))))), ?_⟩
    refine ⟨_, rfl, _, _, _, _, true, rfl, .own C, .base (.ins g1 T.cl TI.ha TI.hn TI.ht TI.hm), kit_self, _, rfl, iteT ?_⟩
    refine ⟨_, rfl, a, C, dx, _, _, rfl, e1, T.cl, T.nT, fld1, _, rfl, b, C, dy, _, _, rfl, g1, T.cl, T.nT, fld1, ?_⟩
    refine ⟨.tuple (t1.map PyData.int), .tuple (t2.map PyData.int), .tup (SqT.of e2) (dps_ints _), .tup (SqT.of g2) (dps_ints _), shaped_tints _, shaped_tints _, _, rfl, ?_⟩
    rw [eqv_tints]
    refine ite2 (fun z => ?_) (fun z => ?_)
    · refine ⟨_, rfl, a, C, dx, _, _, rfl, e1, T.cl, T.nG, fld2, _, rfl, b, C, dy, _, _, rfl, g1, T.cl, T.nG, fld2, ?_⟩
      refine ⟨.tuple (h1.map PyData.int), .tuple (h2.map PyData.int), .tup (SqT.of e3) (dps_ints _), .tup (SqT.of g3) (dps_ints _), shaped_tints _, shaped_tints _, ?_⟩
      rw [eqv_tints]
      rw [z, Bool.true_and] at out
      exact out
    · have zf : decide (t1 = t2) = false := by simpa using z
      rw [zf, Bool.false_and] at out
      exact out
end
end K92
namespace Par
open PySem PySem.Spec PyProof.Rows L2
/-! ### an own object beside a thing of another kind: == and != on either side -/
inductive Oth (H : Hp) : V → String → Prop where
  | non : Oth H .non "NoneType"
  | int (i : Int) : Oth H (.int i) "int"
  | str (x : Str) : Oth H (.str x) "str"
  | lst {a : Addr} {xs : List V} : H a = some (.lst xs) → Oth H (.ref a) "list"
  | tup {a : Addr} {xs : List V} : H a = some (.tup xs) → Oth H (.ref a) "tuple"
  | dic {a : Addr} {kvs : List (Key × V)} : H a = some (.dK kvs) → Oth H (.ref a) "dict"
theorem Oth.same {H H' : Hp} {v : V} {T : String} (s : Same H H') (h : Oth H v T) : Oth H' v T := by
  cases h with
  | non => exact .non
  | int i => exact .int i
  | str x => exact .str x
  | lst e => exact .lst (s _ _ e)
  | tup e => exact .tup (s _ _ e)
  | dic e => exact .dic (s _ _ e)
/-- the class is none of these -/
structure NoB (K : PySem.W.Frag) (C : Addr) : Prop where
  no : ∀ T, T = "NoneType" ∨ T = "int" ∨ T = "str" ∨ T = "list" ∨ T = "tuple" ∨ T = "dict" → PySem.W.subIn K (.ref C) (.type T) = some false
theorem not_sub {K : PySem.W.Frag} {C : Addr} {T : String} (h : T = "NoneType" ∨ T = "int" ∨ T = "str" ∨ T = "list" ∨ T = "tuple" ∨ T = "dict") : PySem.W.subIn K (.type T) (.ref C) = some false := by
  rcases h with rfl | rfl | rfl | rfl | rfl | rfl <;> rfl
section
variable {X : Cx} {pins : List (Addr × Obj)} {s : Shared} {σ : L2.St} {H : Hp}
theorem Oth.six {v : V} {T : String} (h : Oth H v T) : T = "NoneType" ∨ T = "int" ∨ T = "str" ∨ T = "list" ∨ T = "tuple" ∨ T = "dict" := by cases h <;> simp
theorem Oth.is {v : V} {u : Value} {T : String} (I : Inv X pins σ H s) (r : RelV v u) (h : Oth H v T) : s.TypeIs u T := by
  cases h with
  | non => cases r; rfl
  | int i => obtain ⟨t, rfl⟩ := r; rfl
  | str x => obtain ⟨t, rfl⟩ := r; rfl
  | lst e =>
    cases r
    obtain ⟨_, _, n, _, h1⟩ := I.hok _ _ e
    exact ⟨_, h1, rfl⟩
  | tup e =>
    cases r
    obtain ⟨_, _, _, o, h1, h2, _⟩ := I.hok _ _ e
    exact ⟨o, h1, h2⟩
  | dic e =>
    cases r
    obtain ⟨_, _, vs, _, o, es, ep, h1, h2, _⟩ := I.hok _ _ e
    exact ⟨o, h1, h2.1⟩
theorem looks_of {M : Model} {u : Value} {T : String} (h : s.TypeIs u T) : PySem.W.Looks M s.heap (typeOf u) (.type T) := by
  cases u with
  | ref a =>
    obtain ⟨o, ho, hc⟩ := h
    exact hc ▸ (PySem.W.Looks.ld ho).andThen .now
  | _ => exact PySem.W.Looks.of_pure h
variable {C f : Addr} {CX : CXT} {n : Nat} {fd : FuncData} {ps : List Str} {sp : Sp} {E : XK}
theorem own_callV {a : Addr} {y : V} {u : Value} {A : Around} {Q : V → Hp → Prop} (I : Inv X pins σ H s) (ry : RelV y u) (F : FnOk X.prog X.w X.K X.mg X.base CX n f fd ps sp) (hr : Room n A) (hA : A.frames = X.A.frames) (hb : Binds X.K fd ps []) (hx : Passes CX X E)
    (h : sp [.ref a, y] H Q E) : wpAny (model X.prog X.w) A (call (.ref f) [.ref a, u]) (fun v s' => ∃ z H', Inv X pins σ H' s' ∧ RelV z v ∧ Q z H') X.xe s := by
  have e0 : Env0 X.prog X.w X.K X.mg X.base A X.stack s H := by
    have e := I.env0
    exact ⟨by rw [hA]; exact e.frames, e.mod, e.bs, e.bsz, e.funs, e.frf, e.hok, e.bare⟩
  have hl := F.len _ _ _ _ h
  have r2 : Vals [V.ref a, y] [Value.ref a, u] := .cons rfl (.cons ry .nil)
  refine wpAny_call (codeAny_mono (F.run A X.stack s H ⟨[.ref a, u], []⟩ [.ref a, u] [.ref a, y] Q E hr e0 (by
    have := hb s [.ref a, u] I.kIn (by simpa using hl)
    simpa using this) r2 h) fun r s' hq => ?_)
  cases r with
  | error e => exact hx pins σ H s e s' I hq
  | ok fl =>
    cases fl with
    | ret w =>
      obtain ⟨z, H', I', rz, q⟩ := I.after hq
      exact ⟨z, H', I', rz, q⟩
    | next => exact False.elim hq
    | brk => exact False.elim hq
    | cont => exact False.elim hq
/-- own == other -/
def rOwnL (C : Addr) (sp : Sp) (E : XK) (neg : Bool) : R2 := fun x y H Q => ∃ a dx fs T, x = .ref a ∧ H a = some (.ins C dx fs) ∧ Oth H y T ∧ sp [.ref a, y] H (fun v H' => ∃ r : Bool, v = .bl r ∧ Q (.bl (xor neg r)) H') E
/-- other == own -/
def rOwnR (C : Addr) (sp : Sp) (E : XK) : R2 := fun x y H Q => ∃ b dx fs T, y = .ref b ∧ H b = some (.ins C dx fs) ∧ Oth H x T ∧ sp [.ref b, x] H (fun v H' => ∃ r : Bool, v = .bl r ∧ Q (.bl r) H') E
theorem op_ownEqL (T : EqC X.K C f) (F : FnOk X.prog X.w X.K X.mg X.base CX n f fd ps sp) (hr : Room n X.A) (hb : Binds X.K fd ps []) (hx : Passes CX X E) : OpR X (compareOp .Eq) (rOwnL C sp E false) := by
  intro pins s σ H x y v u Q I rx ry h
  obtain ⟨a, dx, fs, T', rfl, ha, o, h⟩ := h
  cases rx
  obtain ⟨mA, J, _⟩ := ins_get I.hok ha
  obtain ⟨od, Ja, _⟩ := J.look
  obtain ⟨m, hF⟩ := I.fr
  show wpAny (model X.prog X.w) X.A (richCompare .Eq (.ref a) u) (EP X pins σ Q) X.xe s
  refine PySem.W.cmp_K (op := .Eq) (tb := .type T') hr.units0 hF I.ok.mod.kin Ja (looks_of (o.is I ry)) (by simp [PySem.W.notFirst, not_sub o.six]) T.eq T.fn ?_
  refine wpAny_mono (own_callV I ry F hr rfl hb hx h) (fun w s' hw => ?_) fun _ _ e => e
  obtain ⟨z, H', I', rz, b, rfl, q⟩ := hw
  cases rz
  rw [Bool.false_xor] at q
  exact ⟨.bl b, H', I', rfl, q⟩
end
section
open PySem.Builtin
open AutoSeq1 (wpAny_loadPart')
variable {prog : Program} {w : World} {A : Around} {R : Result → Shared → Prop} {s : Shared} {l b : Addr} {ob : Obj}
theorem int_no (i : Int) (t : Tok) {C dx : Addr} (hb : s.heap.get? b = some (PySem.W.instObj C dx)) (h : R (.ok (.ret .notImplemented)) s) :
    wpAny (model prog w) A.in1 (Builtin.«int.__eq__» ⟨[.int i t, .ref b], []⟩) (GQ.FinOf prog w A R) (fun e s' => R (.error e) s') s := by
  obtain ⟨hp, g, d, tk, os⟩ := s
  wp_walk using wpAny_loadPart' hb, wpAny_load hb
  exact h
theorem str_no (x : Str) (t : Tok) {C dx : Addr} (hb : s.heap.get? b = some (PySem.W.instObj C dx)) (h : R (.ok (.ret .notImplemented)) s) :
    wpAny (model prog w) A.in1 (Builtin.«str.__eq__» ⟨[.str x t, .ref b], []⟩) (GQ.FinOf prog w A R) (fun e s' => R (.error e) s') s := by
  obtain ⟨hp, g, d, tk, os⟩ := s
  wp_walk using wpAny_loadPart' hb, wpAny_load hb
  exact h
theorem none_no (h : R (.ok (.ret .notImplemented)) s) :
    wpAny (model prog w) A.in1 (Builtin.«NoneType.__eq__» ⟨[.none, .ref b], []⟩) (GQ.FinOf prog w A R) (fun e s' => R (.error e) s') s := by
  obtain ⟨hp, g, d, tk, os⟩ := s
  wp_walk
  exact h
theorem list_no (hi : ∀ (Q : Bool → Shared → Prop), Q false s → wpAny (model prog w) A.in1 (isInstance (.ref b) (.type "list")) Q (fun e s' => R (.error e) s') s) (h : R (.ok (.ret .notImplemented)) s) :
    wpAny (model prog w) A.in1 (Builtin.«list.__eq__» ⟨[.ref l, .ref b], []⟩) (GQ.FinOf prog w A R) (fun e s' => R (.error e) s') s := by
  refine wpAny_bind (m := slotArgs "__eq__" 1 ⟨[.ref l, .ref b], []⟩) (wpAny_pure ?_)
  refine wpAny_bind (m := isInstance (.ref b) (.type "list")) (hi _ ?_)
  exact wpAny_pure h
theorem tuple_no (hi : ∀ (Q : Bool → Shared → Prop), Q false s → wpAny (model prog w) A.in1 (isInstance (.ref b) (.type "tuple")) Q (fun e s' => R (.error e) s') s) (h : R (.ok (.ret .notImplemented)) s) :
    wpAny (model prog w) A.in1 (Builtin.«tuple.__eq__» ⟨[.ref l, .ref b], []⟩) (GQ.FinOf prog w A R) (fun e s' => R (.error e) s') s := by
  refine wpAny_bind (m := slotArgs "__eq__" 1 ⟨[.ref l, .ref b], []⟩) (wpAny_pure ?_)
  refine wpAny_bind (m := isInstance (.ref b) (.type "tuple")) (hi _ ?_)
  exact wpAny_pure h
theorem dict_no (hl : s.TypeIs (.ref l) "dict") (hi : ∀ (Q : Bool → Shared → Prop), Q false s → wpAny (model prog w) A.in1 (isInstance (.ref b) (.type "dict")) Q (fun e s' => R (.error e) s') s) (h : R (.ok (.ret .notImplemented)) s) :
    wpAny (model prog w) A.in1 (Builtin.«dict.__eq__» ⟨[.ref l, .ref b], []⟩) (GQ.FinOf prog w A R) (fun e s' => R (.error e) s') s := by
  refine wpAny_bind (m := Builtin.Dict.dictSlotArgs "__eq__" ⟨[.ref l, .ref b], []⟩) ?_
  unfold Builtin.Dict.dictSlotArgs
  refine wpAny_bind (wpAny_notOrdered_dict hl ?_)
  refine wpAny_bind (m := slotArgs "__eq__" 1 ⟨[.ref l, .ref b], []⟩) (wpAny_pure ?_)
  refine wpAny_pure ?_
  refine wpAny_bind (m := isInstance (.ref b) (.type "dict")) (hi _ ?_)
  exact wpAny_bind (wpAny_rule (wpAny_pure h))
end
section
variable {X : Cx} {pins : List (Addr × Obj)} {s : Shared} {σ : L2.St} {H : Hp} {C f : Addr} {CX : CXT} {n : Nat} {fd : FuncData} {ps : List Str} {sp : Sp} {E : XK}
theorem inst_no {M : Model} {A : Around} {E : Value → Shared → Prop} {b dx : Addr} {T : String} {K : PySem.W.Frag} (KX : K.In s.heap) (hb : s.heap.get? b = some (PySem.W.instObj C dx)) (e : PySem.W.subIn K (.ref C) (.type T) = some false) (Q : Bool → Shared → Prop) (h : Q false s) :
    wpAny M A (isInstance (.ref b) (.type T)) Q E s := by
  have t : PySem.W.Looks M s.heap (typeOf (.ref b)) (.ref C) := (PySem.W.Looks.ld hb).andThen .now
  unfold isInstance
  exact wpAny_bind (t.here ((PySem.W.looks_subIn KX e).here h))
theorem Oth.declines {v : V} {u : Value} {T : String} {b dx : Addr} {A : Around} {Q : Option Value → Shared → Prop} (I : Inv X pins σ H s) (r : RelV v u) (o : Oth H v T) (N : NoB X.K C) (hb : s.heap.get? b = some (PySem.W.instObj C dx)) (h : Q none s) :
    wpAny (model X.prog X.w) A (tryCompare u (cmpInfo .Eq).2.1 (.ref b)) Q X.xe s := by
  have ty := o.is I r
  have no := N.no T o.six
  cases o with
  | non =>
    cases r
    exact wpAny_tryCompare_declines ty F.slot_NoneType_eq (GQ.call_here F.slot_NoneType_eq ty F.entry_NoneType_eq (F.args_NoneType_eq_2 _ _) (none_no ⟨rfl, h⟩))
  | int i =>
    obtain ⟨t, rfl⟩ := r
    exact wpAny_tryCompare_declines ty F.slot_int_eq (GQ.call_here F.slot_int_eq ty F.entry_int_eq (F.args_int_eq_2 _ _) (int_no i t hb ⟨rfl, h⟩))
  | str x =>
    obtain ⟨t, rfl⟩ := r
    exact wpAny_tryCompare_declines ty F.slot_str_eq (GQ.call_here F.slot_str_eq ty F.entry_str_eq (F.args_str_eq_2 _ _) (str_no x t hb ⟨rfl, h⟩))
  | lst e =>
    cases r
    exact wpAny_tryCompare_declines ty F.slot_list_eq (GQ.call_here F.slot_list_eq ty F.entry_list_eq (F.args_list_eq_2 _ _) (list_no (fun Q q => inst_no I.kIn hb no Q q) ⟨rfl, h⟩))
  | tup e =>
    cases r
    exact wpAny_tryCompare_declines ty F.slot_tuple_eq (GQ.call_here F.slot_tuple_eq ty F.entry_tuple_eq (F.args_tuple_eq_2 _ _) (tuple_no (fun Q q => inst_no I.kIn hb no Q q) ⟨rfl, h⟩))
  | dic e =>
    cases r
    exact wpAny_tryCompare_declines ty F.slot_dict_eq (GQ.call_here F.slot_dict_eq ty F.entry_dict_eq (F.args_dict_eq_2 _ _) (dict_no ty (fun Q q => inst_no I.kIn hb no Q q) ⟨rfl, h⟩))
theorem op_ownEqR (T : EqC X.K C f) (N : NoB X.K C) (F : FnOk X.prog X.w X.K X.mg X.base CX n f fd ps sp) (hr : Room n X.A) (hb : Binds X.K fd ps []) (hx : Passes CX X E) : OpR X (compareOp .Eq) (rOwnR C sp E) := by
  intro pins s σ H x y v u Q I rx ry h
  obtain ⟨b, dx, fs, T', rfl, hb', o, h⟩ := h
  cases ry
  obtain ⟨mA, J, _⟩ := ins_get I.hok hb'
  obtain ⟨od, Jb, _⟩ := J.look
  obtain ⟨_, _, _, hat, _⟩ := (show ObjOk X.prog X.w H s.heap b (.ins C dx fs) from I.hok b _ hb')
  have ty := o.is I rx
  show wpAny (model X.prog X.w) X.A (richCompare .Eq v (.ref b)) (EP X pins σ Q) X.xe s
  unfold richCompare
  simp only [ty.oneThing_none]
  refine wpAny_holding (wpAny_bind (wpAny_cRoomFor hr.units0 ?_))
  refine wpAny_bind ((looks_of ty).here (wpAny_bind (Jb.type.here ?_)))
  have ne : (Value.type T' != Value.ref C) = true := rfl
  simp only [ne, if_true]
  refine wpAny_bind ((PySem.W.looks_subIn I.kIn (N.no T' o.six)).here ?_)
  simp only [Bool.false_eq_true, if_false, Bool.not_false, if_true]
  refine wpAny_bind (o.declines I rx N hat ?_)
  have one : wpAny (model X.prog X.w) X.A (tryCompare (.ref b) (cmpInfo .Eq).2.1 v) (fun r s' => ∃ w, r = some w ∧ EP X pins σ Q w s') X.xe s := by
    unfold tryCompare
    refine wpAny_bind (PySem.W.ifBound_K I.kIn Jb T.eq T.fn (wpAny_mono (own_callV I rx F hr rfl hb hx h) (fun w s' hw => ?_) fun _ _ e => e))
    obtain ⟨z, H', I', rz, r, rfl, q⟩ := hw
    cases rz
    exact wpAny_pure ⟨_, rfl, .bl r, H', I', rfl, q⟩
  refine wpAny_bind (m := tryCompare (.ref b) (cmpInfo .Eq).2.1 v) (wpAny_mono one (fun r s' z => ?_) fun _ _ e => e)
  obtain ⟨w, rfl, q⟩ := z
  exact wpAny_pure q
/-- own != other: by the own == -/
theorem ne_entry {A : Around} {a : Addr} {u : Value} {Q : Fin → Shared → Prop} {h : Heap} {g : Array GenState} {d : Drawn} {t : Nat} {os : OsState} {B : String} {bm : List Value} {Ex : Value → Shared → Prop} {prog : Program} {w : World} (O : h.OwnEqNoNe a C f B bm) (hu : A.units < cLine)
    (hc : wpAny (model prog w) A (call (.ref f) [.ref a, u]) (fun v s' => ∃ r, v = .bool r ∧ Q (.done (.ret (.bool (!r)))) s') Ex ⟨h, g, d, t, os⟩) :
    wpAny (model prog w) A (Builtin.«object.__ne__» ⟨[.ref a, u], []⟩) Q Ex ⟨h, g, d, t, os⟩ := by
  refine wpAny_bind (m := slotArgs "__ne__" 1 ⟨[.ref a, u], []⟩) (wpAny_pure ?_)
  refine wpAny_bind (wpAny_cRoomFor hu ?_)
  refine wpAny_bind (m := callSpecialIfBound? (.ref a) (Str.ofString "__eq__") [u]) (wpAny_callSpecialIfBound?_own O.ownEq (wpAny_mono hc (fun v s' q => ?_) fun _ _ e => e))
  obtain ⟨r, rfl, q⟩ := q
  exact wpAny_bind (m := truthy (.bool r)) (wpAny_truthy_bool (wpAny_pure q))
theorem op_ownNeL (T : EqC X.K C f) (F : FnOk X.prog X.w X.K X.mg X.base CX n f fd ps sp) (hr : Room (n + 1) X.A) (hb : Binds X.K fd ps []) (hx : Passes CX X E) : OpR X (compareOp .NotEq) (rOwnL C sp E true) := by
  intro pins s σ H x y v u Q I rx ry h
  obtain ⟨a, dx, fs, T', rfl, ha, o, h⟩ := h
  cases rx
  obtain ⟨mA, J, _⟩ := ins_get I.hok ha
  obtain ⟨oda, Ja, _⟩ := J.look
  obtain ⟨nm, q, N, bs, hd, sn, sub, ab, col, dd, k0, k1, k2, k3, k5, newId, hC, hN, hE, hNe⟩ := T.is
  obtain ⟨of, h1, h2⟩ := fn_at I.kIn T.fn
  have G : s.heap.Ns N (s.heap.nsMap N) := .of_isNs (PySem.W.isNs_of_in I.kIn hN)
  have none_ne := PySem.W.ns_none_of I.kIn G hNe
  have O : s.heap.OwnEqNoNe a C f "object" [.type "object"] := ⟨_, of, nm, q, N, bs, hd, sn, sub, ab, col, dd, k0, k1, k2, k3, k5, newId, _, _, Ja.at_, Ja.cls, I.kIn _ _ hC, G, ns_some_of I.kIn G hE, h1, h2, PySem.F.cmp_object.mro, look_eq, none_ne⟩
  have ty := o.is I ry
  have call := own_callV (A := X.A.in1) I ry F hr.in1 rfl hb hx h
  have hun := hr.units
  have hCh := I.kIn _ _ hC
  have cb := Ja.cls
  have at_ := Ja.at_
  have e1 : PySem.W.Looks (model X.prog X.w) s.heap (typeOf (.ref a)) (.ref C) := Ja.type
  have e2 := looks_of (M := model X.prog X.w) ty
  have e3 := PySem.W.looks_subIn (M := model X.prog X.w) I.kIn (not_sub (K := X.K) (C := C) o.six)
  show wpAny (model X.prog X.w) X.A (richCompare .NotEq (.ref a) u) (EP X pins σ Q) X.xe s
  unfold richCompare
  simp only [oneThing_ref]
  refine wpAny_holding (wpAny_bind (wpAny_cRoomFor hr.units0 ?_))
  refine wpAny_bind (e1.here (wpAny_bind (e2.here ?_)))
  have ne : (Value.ref C != Value.type T') = true := rfl
  simp only [ne, if_true]
  refine wpAny_bind (e3.here ?_)
  simp only [Bool.false_eq_true, if_false]
  have one : wpAny (model X.prog X.w) X.A (tryCompare (.ref a) (cmpInfo .NotEq).2.1 u) (fun r s' => ∃ w, r = some w ∧ EP X pins σ Q w s') X.xe s := by
    obtain ⟨hh, gg, dd', tt, os⟩ := s
    unfold tryCompare
    refine wpAny_bind (wpAny_callSpecialIfBound?_inst at_ cb hCh G none_ne PySem.F.cmp_object.mro PySem.F.cmp_object.ne (wpAny_call (codeAny_call_builtin PySem.F.cmp_object.ne.plain PySem.F.cmpEntry_ne
      (wpAny_check_slot_inst PySem.F.cmpKind_ne PySem.F.cmpSplit_ne (PySem.F.cmpArgs_ne _ _) PySem.F.cmp_object.hasObject at_ cb hCh
        (ne_entry (A := X.A.in1) O (by show X.A.units + 1 < cLine; omega) (wpAny_mono call (fun w s' hw => ?_) fun _ _ e => e))))))
    obtain ⟨z, H', I', rz, r, rfl, q⟩ := hw
    cases rz
    rw [Bool.true_xor] at q
    exact ⟨r, rfl, wpAny_pure ⟨_, rfl, .bl (!r), H', I', rfl, q⟩⟩
  refine wpAny_bind (m := tryCompare (.ref a) (cmpInfo .NotEq).2.1 u) (wpAny_mono one (fun r s' z => ?_) fun _ _ e => e)
  obtain ⟨w, rfl, q⟩ := z
  exact wpAny_pure q
end
end Par
namespace Par
open PySem PySem.Spec PyProof.Rows L2
section
variable {X : Cx}
/-- x != y of data without dicts, whatever the texts in it -/
def rNeP (K : PySem.W.Frag) : R2 := fun x y H Q => ∃ d e, Dp K H x d ∧ Dp K H y e ∧ d.plain = true ∧ e.plain = true ∧ min d.depth e.depth ≤ 64 ∧ Q (.bl (!PyData.eqv d e)) H
theorem op_neP (hu : X.A.units + 64 < cLine) : OpR X (compareOp .NotEq) (rNeP X.K) := by
  intro pins s σ H x y v u Q I rx ry h
  obtain ⟨d, e, hd, he, sd, se, hm, q⟩ := h
  obtain ⟨as, r1⟩ := Dp.reads I d x v hd rx
  obtain ⟨bs, r2⟩ := Dp.reads I e y u he ry
  exact SeqAt.ne_plain r1 r2 sd se (by omega) ⟨.bl _, H, I, rfl, q⟩
end
end Par
namespace K92
open PySem PySem.Spec PyProof.Rows L2 Par
theorem oth_ty {K : PySem.W.Frag} {H : Hp} {v : V} {T : String} (h : Oth H v T) : TyOf K H v (.type T) := by
  cases h with
  | non => exact .non
  | int i => exact .int i
  | str x => exact .str x
  | lst e => exact .lst e
  | tup e => exact .tup e
  | dic e => exact .dK e
theorem kit_oth {K : PySem.W.Frag} {C : Addr} {T : String} (hd : PySem.W.hasDictIn K C = true) (ty : PySem.W.typeIn K (.ref C) = some (.type "type")) (six : T = "NoneType" ∨ T = "int" ∨ T = "str" ∨ T = "list" ∨ T = "tuple" ∨ T = "dict") :
    PySem.W.kitOne K (.type T) (.ref C) = some false := by
  obtain ⟨cd, hc, _⟩ := PySem.W.any_some hd
  have e1 : (Value.type T == Value.ref C) = false := beq_eq_false_iff_ne.mpr fun z => nomatch z
  have e2 : ((PySem.W.clsIn K C).isSome && PySem.W.typeIn K (.ref C) == some (.type "type")) = true := by
    rw [hc, ty]
    rfl
  show (if (Value.type T == Value.ref C) = true then some true else if ((PySem.W.clsIn K C).isSome && PySem.W.typeIn K (.ref C) == some (.type "type")) = true then PySem.W.subIn K (.type T) (.ref C) else none) = some false
  rw [if_neg (by rw [e1]; simp), if_pos e2]
  exact not_sub six
def boardT (bs : List Int) : Str := "Board(" ++ Str.ofString (toString ((bs.length : Nat) : Int)) ++ ", up=" ++ shownL (upF 0 bs) ++ ")"
def bitsT (bs : List Int) : Str := Txt.join "" (bs.map fun k => Str.ofString (toString k))
theorem len3 : ∀ n : Nat, n ≤ 40 → (Str.ofString (toString ((n : Nat) : Int))).length ≤ 2 := by decide +kernel
theorem upF_len0 (bs : List Int) : (upF 0 bs).length ≤ bs.length := upF_len 0 bs
theorem upF_cells {bs : List Int} (h : bs.length ≤ 40) : ∀ k ∈ upF 0 bs, 0 ≤ k ∧ k < 40 := fun k hk => by
  have := upF_in hk
  omega
section
variable {P : Program} {w : World} {K : PySem.W.Frag} {mg : Str → Option Value} {base : Heap}
/-- == of a board and of a flip, whatever stands on the other side -/
def spEqB (C : Addr) : Sp := fun vs H Q _ => ∃ (a : Addr) (y : V) (bs : List Int), vs = [.ref a, y] ∧ Bd C H a bs ∧ ((∃ (b : Addr) (cs : List Int), y = .ref b ∧ Bd C H b cs ∧ Q (.bl (decide (bs = cs))) H) ∨ ∃ T, Oth H y T ∧ Q (.bl false) H)
theorem scEqB : FnScope ["self", "other"] ["self", "other"] (defScope mEq) := ⟨rfl, rfl, rfl, by decide +kernel, rfl, by decide +kernel, by decide +kernel⟩
theorem ok_eqB {f C : Addr} {fd : FuncData} (F : Fun K "__eq__" "Board.__eq__" mEq f fd) (B : Bl mg) (T : BC K mg C) (TI : IsC K C) (ty : PySem.W.typeIn K (.ref C) = some (.type "type")) : FnOk P w K mg base CX0 2 f fd ["self", "other"] (spEqB C) := by
  refine F.ok scEqB (fun vs H Q E h => ?_) (fun cdv A outer s H vs Q E hr h => ?_)
  · obtain ⟨a, y, bs, rfl, _⟩ := h
    rfl
  · obtain ⟨a, y, bs, rfl, ⟨dx, x1, e1, e2⟩, h⟩ := h
    have hu := hr.units
    refine ⟨_, pss_one (ps_ret (pe_and (pe_callB call_isi (by rfl) B.isinstance (by decide +kernel) (pa_cons (pv 1) (pa_cons (pe_glob (v := .ref C) (by rfl) T.mgC rfl) pa_nil)))
      (pe_one (pe_cmpR (op_eqD hu) (pe_fld (pv 0) rfl) (pe_fld (pv 1) rfl) (nomark _))))), ?_⟩
    rcases h with ⟨b, cs, rfl, ⟨dy, y1, g1, g2⟩, out⟩ | ⟨T', o, out⟩
    · refine ⟨_, rfl, _, _, _, _, true, rfl, .own C, .base (.ins g1 T.cl TI.ha TI.hn TI.ht TI.hm), kit_self, _, rfl, iteT ?_⟩
      refine ⟨_, rfl, a, C, dx, _, _, rfl, e1, T.cl, T.nS, fld_, _, rfl, b, C, dy, _, _, rfl, g1, T.cl, T.nS, fld_, ?_⟩
      refine ⟨.tuple (bs.map PyData.int), .tuple (cs.map PyData.int), .tup (SqT.of e2) (dps_ints _), .tup (SqT.of g2) (dps_ints _), shaped_tints _, shaped_tints _, ?_⟩
      rw [eqv_tints]
      exact out
    · exact ⟨_, rfl, _, _, _, _, false, rfl, .own C, .base (oth_ty o), kit_oth T.cl.hd ty o.six, _, rfl, iteF out⟩
def spEqV (C : Addr) : Sp := fun vs H Q _ => ∃ (a : Addr) (y : V) (t1 h1 : List Int), vs = [.ref a, y] ∧ Fp C H a t1 h1 ∧ ((∃ (b : Addr) (t2 h2 : List Int), y = .ref b ∧ Fp C H b t2 h2 ∧ Q (.bl (decide (t1 = t2) && decide (h1 = h2))) H) ∨ ∃ T, Oth H y T ∧ Q (.bl false) H)
theorem ok_eqV {f C : Addr} {fd : FuncData} (F : Fun K "__eq__" "Flip.__eq__" gEq f fd) (B : Bl mg) (T : FC K mg C) (TI : IsC K C) (ty : PySem.W.typeIn K (.ref C) = some (.type "type")) : FnOk P w K mg base CX0 2 f fd ["self", "other"] (spEqV C) := by
  refine F.ok scEqF (fun vs H Q E h => ?_) (fun cdv A outer s H vs Q E hr h => ?_)
  · obtain ⟨a, y, t1, h1, rfl, _⟩ := h
    rfl
  · obtain ⟨a, y, t1, h1, rfl, ⟨dx, x1, x2, e1, e2, e3⟩, h⟩ := h
    have hu := hr.units
    refine ⟨_, pss_one (ps_ret (pe_and (pe_callB call_isi (by rfl) B.isinstance (by decide +kernel) (pa_cons (pv 1) (pa_cons (pe_glob (v := .ref C) (by rfl) T.mgC rfl) pa_nil)))
      (pe_and (pe_cmpR (op_eqD hu) (pe_fld (pv 0) rfl) (pe_fld (pv 1) rfl) (nomark _)) (pe_one (pe_cmpR (op_eqD hu) (pe_fld (pv 0) rfl) (pe_fld (pv 1) rfl) (nomark _)))))), ?_⟩
    rcases h with ⟨b, t2, h2, rfl, ⟨dy, y1, y2, g1, g2, g3⟩, out⟩ | ⟨T', o, out⟩
    · refine ⟨_, rfl, _, _, _, _, true, rfl, .own C, .base (.ins g1 T.cl TI.ha TI.hn TI.ht TI.hm), kit_self, _, rfl, iteT ?_⟩
      refine ⟨_, rfl, a, C, dx, _, _, rfl, e1, T.cl, T.nT, fld1, _, rfl, b, C, dy, _, _, rfl, g1, T.cl, T.nT, fld1, ?_⟩
      refine ⟨.tuple (t1.map PyData.int), .tuple (t2.map PyData.int), .tup (SqT.of e2) (dps_ints _), .tup (SqT.of g2) (dps_ints _), shaped_tints _, shaped_tints _, _, rfl, ?_⟩
      rw [eqv_tints]
      refine ite2 (fun z => ?_) (fun z => ?_)
      · refine ⟨_, rfl, a, C, dx, _, _, rfl, e1, T.cl, T.nG, fld2, _, rfl, b, C, dy, _, _, rfl, g1, T.cl, T.nG, fld2, ?_⟩
        refine ⟨.tuple (h1.map PyData.int), .tuple (h2.map PyData.int), .tup (SqT.of e3) (dps_ints _), .tup (SqT.of g3) (dps_ints _), shaped_tints _, shaped_tints _, ?_⟩
        rw [eqv_tints]
        rw [z, Bool.true_and] at out
        exact out
      · have zf : decide (t1 = t2) = false := by simpa using z
        rw [zf, Bool.false_and] at out
        exact out
    · exact ⟨_, rfl, _, _, _, _, false, rfl, .own C, .base (oth_ty o), kit_oth T.cl.hd ty o.six, _, rfl, iteF out⟩
/-- repr of a board -/
def spReprB (C : Addr) : Sp := fun vs H Q _ => ∃ (b : Addr) (bs : List Int), vs = [.ref b] ∧ Bd C H b bs ∧ bs.length ≤ 40 ∧ ∀ H', Same H H' → Q (.str (boardT bs)) H'
theorem scReprB : FnScope ["self"] ["self"] (defScope mRepr) := ⟨rfl, rfl, rfl, by decide +kernel, rfl, by decide +kernel, by decide +kernel⟩
theorem ok_reprB {f C : Addr} {fd : FuncData} (F : Fun K "__repr__" "Board.__repr__" mRepr f fd) (B : Bl mg) (T : BC K mg C) (DU : HasM P w K mg base C "up" 2 ["self"] (spUps C)) : FnG P w K mg base CX0 3 f fd ["self"] (spReprB C) := by
  obtain ⟨fU, fdU, GU, mU, bU⟩ := DU
  refine fnG_of F scReprB (fun vs H Q E h => ?_) (fun cdv A outer s H vs Q E gs hr h => ?_)
  · obtain ⟨b, bs, rfl, _⟩ := h
    rfl
  · obtain ⟨b, bs, rfl, hB, h40, out⟩ := h
    obtain ⟨dx, t, e1, e2⟩ := id hB
    have hu := hr.units
    have ul := upF_len0 bs
    have gc := good_cells (upF_cells h40) (by omega)
    have b1 : (shownL (upF 0 bs)).length ≤ 200000 := gc.2.2
    have c1 : (Str.ofString "Board(").length = 6 := by decide +kernel
    have c2 : (Str.ofString ", up=").length = 5 := by decide +kernel
    have c3 : (Str.ofString ")").length = 1 := by decide +kernel
    have c4 := len3 bs.length h40
    have lg : ((bs.length : Nat) : Int).natAbs.log2 < 1920 := Nat.lt_trans (log_lt (n := ((bs.length : Nat) : Int).natAbs) (k := 100) (by omega) (by decide)) (by decide)
    obtain ⟨sh1, dp1, ln1⟩ := shown_good gc
    refine ⟨_, pss_one (ps_ret (pe_joined (.cons pe_str (.cons (pe_fmt (pe_callB call_len_seq (by rfl) B.len PySem.boot_len (pa_cons (pe_fld (pv 0) rfl) pa_nil))) (.cons pe_str (.cons (pe_fmtD gs hu (pe_callTy call_list_of (by rfl) B.list (by decide +kernel) (pa_cons (pe_meth0 (pv 0) T.cl mU GU hr bU .nil pass0) pa_nil))) (.cons pe_str .nil))))))), ?_⟩
    refine ⟨_, rfl, ?_, ?_⟩
    · rw [Str.empty_append, c1, sizeLine_eq]
      omega
    refine ⟨_, rfl, b, C, dx, _, _, rfl, e1, T.cl, T.nS, fld_, t, _, rfl, .inr (SqT.of e2), ?_⟩
    rw [List.length_map]
    refine .inr ⟨_, rfl, lg, _, rfl, ?_, ?_⟩
    · rw [Str.empty_append, app_len, c1, sizeLine_eq]
      omega
    refine ⟨_, rfl, ?_, ?_⟩
    · rw [Str.empty_append, app_len, app_len, c1, c2, sizeLine_eq]
      omega
    refine ⟨_, rfl, b, dx, _, rfl, e1, no_fld (by decide +kernel), b, bs, rfl, hB, h40, fun u GA1 hu1 s1 eu => ?_⟩
    refine ⟨u, _, rfl, .inr (SqT.of eu), fun La hLa => ?_⟩
    have s2 := same_new (o := .lst ((upF 0 bs).map V.int)) hLa
    refine ⟨La, .list ((upF 0 bs).map .int), rfl, .lst (SqL.of upd_same) (dps_ints _), sh1, dp1, ln1, _, rfl, ?_, ?_⟩
    · rw [Str.empty_append, app_len, app_len, app_len, c1, c2, sizeLine_eq]
      show _ + _ + _ + (shownL (upF 0 bs)).length ≤ _
      omega
    refine ⟨_, rfl, ?_, ?_⟩
    · rw [Str.empty_append, app_len, app_len, app_len, app_len, c1, c2, c3, sizeLine_eq]
      show _ + _ + _ + (shownL (upF 0 bs)).length + _ ≤ _
      omega
    rw [Str.empty_append]
    exact out _ (s1.trans s2)
end
end K92
namespace K92
open PySem PySem.Spec PyProof.Rows L2 Par
theorem okB_small {bs : List Int} (h : OkB bs) : ∀ k ∈ bs, 0 ≤ k ∧ k < 40 := fun k hk => by
  rcases h.1 k hk with rfl | rfl <;> decide
theorem join0_len {ns : List Int} (h : ∀ k ∈ ns, 0 ≤ k ∧ k < 40) (l : ns.length ≤ 40) (y : Str) (hy : y.length ≤ 1) : ((ns.map fun k => Str.ofString (toString k)).map (·.length)).sum + (ns.map fun k => Str.ofString (toString k)).length * y.length ≤ 16777216 := by
  have b := two_sum h
  have c : (ns.map fun k => Str.ofString (toString k)).length * y.length ≤ 40 * 1 := Nat.mul_le_mul (by rw [List.length_map]; exact l) hy
  omega
theorem bitsT_len {ns : List Int} (h : ∀ k ∈ ns, 0 ≤ k ∧ k < 40) (l : ns.length ≤ 40) : (bitsT ns).length ≤ 200 := by
  unfold bitsT
  have a := join_len "" (ns.map fun k => Str.ofString (toString k))
  rw [← TL.join_eq] at a
  have b := two_sum h
  have c : (Str.ofString "").length = 0 := by decide +kernel
  rw [c] at a
  omega
section
variable {P : Program} {w : World} {K : PySem.W.Frag} {mg : Str → Option Value} {base : Heap}
/-- str of a board -/
def spStrB (C : Addr) : Sp := fun vs H Q _ => ∃ (b : Addr) (bs : List Int), vs = [.ref b] ∧ Bd C H b bs ∧ OkB bs ∧ ∀ H', Same H H' → Q (.str (bitsT bs)) H'
abbrev nStrB : List Str := ["self", "state"]
theorem scStrB : FnScope nStrB ["self"] (defScope mStr) := ⟨rfl, rfl, rfl, by decide +kernel, rfl, by decide +kernel, by decide +kernel⟩
theorem ok_strB {f C : Addr} {fd : FuncData} (F : Fun K "__str__" "Board.__str__" mStr f fd) (hS : mg "str" = none) (T : BC K mg C) : FnOk P w K mg base CX0 2 f fd ["self"] (spStrB C) := by
  refine F.ok scStrB (fun vs H Q E h => ?_) (fun cdv A outer s H vs Q E hr h => ?_)
  · obtain ⟨b, bs, rfl, _⟩ := h
    rfl
  · obtain ⟨b, bs, rfl, ⟨dx, t, e1, e2⟩, hO, out⟩ := h
    have sm := okB_small hO
    have h40 := hO.2.2
    refine ⟨_, pss_one (ps_ret (pe_join pe_str (pe_lc (own := [("state", 1)]) (g := gName 1) rfl scStrB.nd (pi_tup (pe_fld (pv 0) rfl)) (blkOk_by (own := [("state", 1)]) (N := nStrB) (sc := defScope mStr) (by decide +kernel)) (fun _ _ _ _ _ => pg_name (i := 1) scStrB.nd rfl (Or.inl rfl)) (fun _ _ _ _ _ => pts_nil) (fun _ _ _ _ _ => by exact pe_callTy call_str_int (by rfl) hS (by decide +kernel) (pa_cons (pv 1) pa_nil))))), ?_⟩
    refine ⟨⟨_, rfl⟩, _, rfl, b, C, dx, _, _, rfl, e1, T.cl, T.nS, fld_, t, rfl, ⟨_, SqT.of e2⟩, fun D hD => ?_⟩
    refine lc_tup (K := K) (a := t) (xs := (bs).map V.int) (fun i H' => Same H H' ∧ H' D = some (.lst ((((bs).take i).map fun k => Str.ofString (toString k)).map V.str))) ⟨same_new hD, upd_same⟩ (fun i H' _ h => same_sqt h.1 (SqT.of e2)) ?_ ?_
    · rintro i x Hi hx ⟨si, hDi⟩
      rw [List.getElem?_map] at hx
      obtain ⟨k, hk, rfl⟩ : ∃ k, (bs)[i]? = some k ∧ x = V.int k := by
        cases e : (bs)[i]? with
        | none => rw [e] at hx; cases hx
        | some k => rw [e] at hx; exact ⟨k, rfl, (Option.some.inj hx).symm⟩
      have kb := sm k (List.mem_of_getElem? hk)
      have lnn : (bs).length ≤ 40 := h40
      refine ⟨rfl, yesT ?_⟩
      refine ⟨_, rfl, k, rfl, ?_, _, hDi, ?_, ?_, ?_⟩
      · have : k.natAbs < 2 ^ 6 := by omega
        exact Nat.lt_of_lt_of_le (log_lt this (by decide)) (by decide)
      · rw [List.length_map, List.length_map, List.length_take]
        exact small1000 (by omega)
      · intro b o e
        rw [upd_ne (ne_of_none e hD)]
        exact si b o e
      · rw [upd_same, List.take_succ, hk, List.map_append, List.map_append]
        rfl
    · rintro Hj ⟨sj, hDj⟩
      rw [List.length_map, List.take_length] at hDj
      refine ⟨_, D, bs.map fun k => Str.ofString (toString k), rfl, rfl, .inl (SqL.of hDj), join0_len sm h40 _ (by decide +kernel), ?_⟩
      exact out Hj sj
theorem plain_ints (ns : List Int) : (PyData.list (ns.map PyData.int)).plain = true := by
  show PyData.plainAll (ns.map PyData.int) = true
  induction ns with
  | nil => rfl
  | cons n ns ih =>
    show ((PyData.int n).plain && PyData.plainAll (ns.map PyData.int)) = true
    rw [ih]
    rfl
theorem eqv_nil (ns : List Int) : PyData.eqv (.list (ns.map PyData.int)) (.list []) = ns.isEmpty := by
  cases ns <;> rfl
/-- _law_is_written -/
def HasG (P : Program) (w : World) (K : PySem.W.Frag) (mg : Str → Option Value) (base : Heap) (x : Str) (lv : Nat) (ps : List Str) (sp : Sp) : Prop :=
  ∃ f fd, FnG P w K mg base CX0 lv f fd ps sp ∧ mg x = some (.ref f) ∧ PySem.W.keepIn K (.ref f) = true ∧ Binds K fd ps []
/-- a special method, by its name -/
def HasS (P : Program) (w : World) (K : PySem.W.Frag) (mg : Str → Option Value) (base : Heap) (C : Addr) (x : Str) (lv : Nat) (sp : Sp) : Prop :=
  ∃ f fd, FnOk P w K mg base CX0 lv f fd ["self"] sp ∧ PySem.W.findIn K (.ref C) x = some (some (.ref f)) ∧ PySem.W.isFn K (.ref f) = true ∧ Binds K fd ["self"] []
def HasSG (P : Program) (w : World) (K : PySem.W.Frag) (mg : Str → Option Value) (base : Heap) (C : Addr) (x : Str) (lv : Nat) (sp : Sp) : Prop :=
  ∃ f fd, FnG P w K mg base CX0 lv f fd ["self"] sp ∧ PySem.W.findIn K (.ref C) x = some (some (.ref f)) ∧ PySem.W.isFn K (.ref f) = true ∧ Binds K fd ["self"] []
end
end K92
namespace Par
open PySem PySem.Spec PyProof.Rows L2
/-! ### repr of a list of things, each of which can be shown by itself -/
inductive DxAll (K : PySem.W.Frag) (H : Hp) : List V → List PyData → Prop
  | nil : DxAll K H [] []
  | cons {v : V} {vs : List V} {d : PyData} {ds : List PyData} : Dx K H v d → DxAll K H vs ds → DxAll K H (v :: vs) (d :: ds)
/-- each item can be read by itself -/
inductive Each (h : Heap) : List Value → List PyData → Prop
  | nil : Each h [] []
  | cons {v : Value} {vs : List Value} {d : PyData} {ds : List PyData} {as : List Addr} : Reads h v d as → (d.hasDict = true → sysModules ∉ as) → Each h vs ds → Each h (v :: vs) (d :: ds)
theorem each_of {X : Cx} {pins : List (Addr × Obj)} {σ : L2.St} {H : Hp} {s : Shared} (I : L2.Inv X pins σ H s) : ∀ {vs : List V} {ds : List PyData} {us : List Value}, DxAll X.K H vs ds → Vals vs us → Each s.heap us ds
  | _, _, _, .nil, .nil => .nil
  | _, _, _, .cons h1 h2, .cons r1 r2 => by
    obtain ⟨as, q, n⟩ := dx_reads I h1 r1
    exact .cons q n (each_of I h2 r2)
theorem each_reads {h : Heap} : ∀ {vs : List Value} {ds : List PyData}, Each h vs ds → ∃ as, ReadsAll h vs ds as
  | _, _, .nil => ⟨_, ReadsAll.nil⟩
  | _, _, .cons q _ r => by
    obtain ⟨as, q2⟩ := each_reads r
    exact ⟨_, ReadsAll.cons q q2⟩
theorem each_shown {prog : Program} {w : World} {h : Heap} : ∀ {vs : List Value} {ds : List PyData}, Each h vs ds → PyData.showableAll ds = true → (∀ t ∈ PyData.shownAll ds, t.length ≤ sizeLine) →
    ∃ bs, ReadAtMost h (PyData.depthAll ds) bs ∧ ReprAllK prog w bs h (PyData.depthAll ds) vs (PyData.shownAll ds)
  | _, _, .nil, _, _ => ⟨[], (fun _ z => nomatch z), .nil⟩
  | _, _, .cons (d := d) (ds := ds) q n r, sh, hz => by
    have both : d.showable = true ∧ PyData.showableAll ds = true := by simpa [PyData.showableAll] using sh
    obtain ⟨b1, m1, k1⟩ := ReprK.of_reads (prog := prog) (w := w) q both.1 n (hz _ (by simp only [PyData.shownAll]; exact List.mem_cons_self ..))
    obtain ⟨b2, m2, k2⟩ := each_shown (prog := prog) (w := w) r both.2 fun t ht => hz t (by simp only [PyData.shownAll]; exact List.mem_cons_of_mem _ ht)
    have l1 : d.depth ≤ PyData.depthAll (d :: ds) := by simp only [PyData.depthAll]; omega
    have l2 : PyData.depthAll ds ≤ PyData.depthAll (d :: ds) := by simp only [PyData.depthAll]; omega
    refine ⟨b1 ++ b2, (m1.mono l1).append (m2.mono l2), ?_⟩
    simp only [PyData.shownAll]
    exact .cons ((k1.more fun b hb => List.mem_append_left _ hb).level_le l1) (k2.more_le (fun b hb => List.mem_append_right _ hb) l2)
section
variable {X : Cx}
/-- repr([..]), each item a thing that can be shown -/
def rReprL (K : PySem.W.Frag) : List V → Hp → VK → Prop := fun xs H Q => ∃ (a : Addr) (vs : List V) (ds : List PyData), xs = [.ref a] ∧ H a = some (.lst vs) ∧ DxAll K H vs ds ∧ vs ≠ [] ∧
  (PyData.list ds).showable = true ∧ (PyData.list ds).depth ≤ 40 ∧ (PyData.list ds).shown.length ≤ sizeLine ∧ Q (.str (PyData.list ds).shown) H
theorem cr_reprL (gs : X.A.guards = some []) (hu : X.A.units + 64 < cLine) : CallR X (.builtin "repr") (rReprL X.K) := by
  intro pins s σ H xs us Q I r h
  obtain ⟨a, vs, ds, rfl, e, hd, ne, sh, dep, len, q⟩ := h
  cases r with
  | @cons _ u _ _ r1 r2 =>
    cases r2
    cases r1
    obtain ⟨its, rv, ⟨o, n, ho, hc, _, hdt⟩, _⟩ := I.list (a := a) (xs := vs) (SqL.of e)
    have each := each_of I hd rv
    obtain ⟨as, all⟩ := each_reads each
    have len' : (listText (PyData.shownAll ds)).length ≤ sizeLine := by simpa only [PyData.shown] using len
    obtain ⟨bs, most, shows⟩ := each_shown (prog := X.prog) (w := X.w) each (by simpa [PyData.showable] using sh) fun t ht => Nat.le_trans (listText_mem_le ht) len'
    have out : a ∉ bs := not_mem_of_deeper (.list ho hc hdt all) (by simp only [PyData.depth]; omega) most
    simp only [PyData.depth] at dep
    have fin : ∀ (h' : Heap) (tk u' : Nat), (∀ b o, s.heap.get? b = some o → h'.get? b = some o) → EP X pins σ Q (.str (PyData.list ds).shown u') { s with heap := h', toks := tk } :=
      fun h' tk u' k => ⟨.str (PyData.list ds).shown, H, I.un (t' := tk) (Un.kept k) (I.hok.kept k), ⟨_, rfl⟩, q⟩
    cases its with
    | nil =>
      cases rv
      exact absurd rfl ne
    | cons x l =>
      refine call_repr_slot (by omega) ⟨o, ho, hc⟩ F.slot_list_repr.toG ?_
      refine call_list_reprK ho hc hdt out (by simpa using shows.length_eq) (fun i y ey => shows.item i y (by simpa using ey)) gs (fun b _ => Clear.nil b) (by show X.A.units + 1 + _ < cLine; omega) (fun _ _ z => z) ?_ len'
      intro h' u tk k
      exact ⟨_, _, rfl, by simpa only [PyData.shown] using fin h' tk u k⟩
end
/-- list != list: unlike lengths -/
def rNeLen : R2 := fun x y H Q => ∃ a b xs ys, x = .ref a ∧ y = .ref b ∧ H a = some (.lst xs) ∧ H b = some (.lst ys) ∧ xs.length ≠ ys.length ∧ Q (.bl true) H
theorem op_neLen {X : Cx} (hu : X.A.units < cLine) : OpR X (compareOp .NotEq) rNeLen := by
  intro pins s σ H x y v u Q I rx ry h
  obtain ⟨a, b, xs, ys, rfl, rfl, ha, hb, ne, q⟩ := h
  cases rx
  cases ry
  obtain ⟨its, rv, p1, _⟩ := I.list (a := a) (xs := xs) (SqL.of ha)
  obtain ⟨its2, rv2, p2, _⟩ := I.list (a := b) (xs := ys) (SqL.of hb)
  refine SeqAt.RcNeAt.lists_lengths p1.isList p2.isList ?_ hu X.prog X.w X.xe _ ⟨.bl true, H, I, rfl, q⟩
  have l1 := rv.length
  have l2 := rv2.length
  simp only [List.size_toArray, bne_iff_ne]
  omega
theorem opR_or {X : Cx} {f : Value → Value → Sem Value} {r1 r2 : R2} (h1 : OpR X f r1) (h2 : OpR X f r2) : OpR X f (fun x y H Q => r1 x y H Q ∨ r2 x y H Q) := by
  intro pins s σ H x y v u Q I rx ry h
  rcases h with h | h
  · exact h1 pins s σ H x y v u Q I rx ry h
  · exact h2 pins s σ H x y v u Q I rx ry h
end Par
namespace Par
open PySem PySem.Spec PyProof.Rows L2
/-- C(e, ..), what __init__ raises wished for at the slots -/
def tMakeS (C : Addr) (sp : Sp) (E : L2.St → XK) (t : TA) : TE := fun σ H Q => t σ H fun vs H1 =>
  ∀ y dy, H1 y = none → H1 dy = none → dy ≠ y → sp (.ref y :: vs) (upd (upd H1 dy (.own y)) y (.ins C dy [])) (fun v H2 => v = .non ∧ Q (.ref y) H2) (E σ)
section
variable {X : Cx} {CX : CXT} {k : Nat} {f C : Addr} {fd : FuncData} {ps : List Str} {sp : Sp} {E : L2.St → XK} {x : Str} {p pos : Pos} {e : Expr} {es : List Expr} {t : TA}
theorem run_makeS {pins : List (Addr × Obj)} {τ : L2.St} {G : Hp} {s0 : Shared} {Z : VK} {as : List Value} {xs : List V} (M : Mk X.K C f) (F : FnOk X.prog X.w X.K X.mg X.base CX k f fd ps sp)
    (hr : Room (k + 1) X.A) (hb : Binds X.K fd ps []) (hx : PassesAt CX X τ (E τ)) (J : L2.Inv X pins τ G s0) (rr : Vals xs as)
    (h : ∀ y dy, G y = none → G dy = none → dy ≠ y → sp (.ref y :: xs) (upd (upd G dy (.own y)) y (.ins C dy [])) (fun v H2 => v = .non ∧ Z (.ref y) H2) (E τ)) :
    wpAny (model X.prog X.w) X.A (call (.ref C) as) (EP X pins τ Z) X.xe s0 := by
  have here := h (s0.heap.objs.size + 1) s0.heap.objs.size (J.hok.fresh (by omega)) (J.hok.fresh (by omega)) (show s0.heap.objs.size ≠ s0.heap.objs.size + 1 by omega)
  have J2 := Inv.made (C := C) J
  have all : Vals (V.ref (s0.heap.objs.size + 1) :: xs) (Value.ref (s0.heap.objs.size + 1) :: as) := .cons rfl rr
  have len : (Value.ref (s0.heap.objs.size + 1) :: as).length = ps.length := by rw [← all.length]; exact F.len _ _ _ _ here
  have bd := hb _ (Value.ref (s0.heap.objs.size + 1) :: as) J2.kIn (by rw [List.append_nil]; exact len)
  rw [List.append_nil] at bd
  have ran := F.run _ X.stack _ _ ⟨Value.ref (s0.heap.objs.size + 1) :: as, []⟩ (Value.ref (s0.heap.objs.size + 1) :: as) _ _ (E τ) (hr.make C as []) (J2.env0.make C as []) bd all here
  refine wpAny_call (make_map (f := f) J.kIn M.makes M.init (beq_iff_eq.mp M.fn) (codeAny_mono ran ?_))
  intro res s1 got
  cases res with
  | error er => exact hx pins _ _ er s1 J2 got
  | ok fl =>
    cases fl with
    | ret u =>
      obtain ⟨v, G1, J3, rv, ev, z3⟩ := J2.after got
      subst ev
      exact ⟨rv, V.ref (s0.heap.objs.size + 1), G1, J3, rfl, z3⟩
    | next => exact got.elim
    | brk => exact got.elim
    | cont => exact got.elim
theorem pe_makeS (M : Mk X.K C f) (F : FnOk X.prog X.w X.K X.mg X.base CX k f fd ps sp) (hr : Room (k + 1) X.A) (hg : Gl X x) (hm : X.mg x = some (.ref C)) (hb : Binds X.K fd ps [])
    (hx : ∀ σ, PassesAt CX X σ (E σ)) (ha : PA X (e :: es) t) (hdb : (x == ("__debug__" : Str)) = false := by decide)
    (he : starEach (e :: es) X.env = (false, eval e X.env) :: starEach es X.env := by rfl) (hpl : (backTo pos (starEach es X.env)).any (·.1) = false := by rfl) :
    PE X (.Call (.Name x p) (e :: es) [] pos) (tMakeS C sp E t) := by
  constructor
  intro pins s σ H Q I h
  refine wpAny_Call_Name_kw (ld_glob I hg hm ?_ hdb)
  refine PySem.W.callWith_K (h₀ := X.base) I.ok.mod.kin M.kp (thn (ha.run pos pins s σ H _ I h) ?_) he hpl
  rintro us s1 ⟨vs, H1, I1, r, q⟩
  exact ⟨I1.kIn, run_makeS M F hr hb (hx σ) I1 r q⟩
end
/-- what the clauses 'except c as n', slot i being n's, wish of an error of the body, one after the other -/
def wSeq (K : PySem.W.Frag) (i : Nat) (Wout : WX) (D : Ends) : List (Value × (Addr → Value → Option Addr → TS)) → WX
  | [] => Wout
  | (c, ts) :: r => wAs K c i ts (wSeq K i Wout D r) D
inductive HdsAs (X : Cx) (n : Str) : List ExceptHandler → List (Value × (Addr → Value → Option Addr → TS)) → Prop
  | nil : HdsAs X n [] []
  | cons {x : Str} {c : Value} {ts : Addr → Value → Option Addr → TS} {st : Stmt} {sts : List Stmt} {np cp : Pos} {more : List ExceptHandler} {l : List (Value × (Addr → Value → Option Addr → TS))} (hc : Names X x c)
      (hsu : ∀ (a : Addr) (oe : Obj) (cls : Value) (d : Option Addr) (pn : List (Addr × Obj)), Zc cls d oe → (∃ vs, oe.data = .fields vs) → PSs (X.suite a ((a, oe) :: pn)) (st :: sts) (ts a cls d))
      (r : HdsAs X n more l) : HdsAs X n (.ExceptHandler (some (.Name x np)) (some n) (st :: sts) cp :: more) ((c, ts) :: l)
section
variable {X : Cx} {body : List Stmt} {g : ExceptHandler} {gs : List ExceptHandler} {l : List (Value × (Addr → Value → Option Addr → TS))} {pos : Pos} {tb : WX → TS} {Wout : WX} {n : Str} {i : Nat}
theorem ps_try_ases (hs : X.stack = X.env :: X.outer) (hf : X.env.frame = some X.env.locals) (hN : X.N.Nodup) (hi : X.N[i]? = some n) (hln : X.env.kindOf n = some .local) (tk : L2.Takes X Wout)
    (hb : ∀ (W : WX) (pn : List (Addr × Obj)) (xe : Value → Shared → Prop), L2.Takes (X.tr pn xe) W → PassesOwn (model X.prog X.w) X.A X.env xe → PSs (X.tr pn xe) body (tb W))
    (hh : HdsAs X n (g :: gs) l) : PS X (.Try body (g :: gs) [] [] pos) (fun D σ H => tb (wSeq X.K i Wout D l) D σ H) := by
  constructor
  intro pins s σ H D I h
  have okX := I.ok
  have frm : X.A.frames = some (X.env :: X.outer) := hs ▸ okX.frames
  have isLoc : Loc X.env.scope n := Or.inl hln
  refine wpAny_Try_except ?_
  let back : Value → Shared → Prop := fun e t1 => wpAny (model X.prog X.w) X.A (noteFrame e X.env) (fun _ t2 =>
    wpAny (model X.prog X.w) X.A (setFlight e none) (fun _ t3 => wpAny (model X.prog X.w) X.A (handleBy e X.env (g :: gs)) (SP X pins D) X.xe t3) X.xe t2) X.xe t1
  have caught : L2.Takes (X.tr (X.pn ++ pins) back) (wSeq X.K i Wout D l) := by
    intro u s' xx
    obtain ⟨a, B, t0, pins', τ, G, cls, d, rfl, J', nb, up, sky, na, os, ag, w⟩ := xx
    have J : L2.Inv X pins τ G t0 := J'.ofTry okX
    rw [show (X.tr (X.pn ++ pins) back).stack = X.env :: X.outer from hs] at sky
    refine Sky.land Zc.steady frm hf sky fun k3 fl3 up3 => ?_
    have J3 : L2.Inv X pins τ G { s' with heap := k3 } := J.landed nb fl3.1 (up.trans up3) os ag
    obtain ⟨oe3, vs3, he3, hz3, hd3⟩ := fl3.there
    have far : a ∉ frs (X.env :: X.outer) := by
      intro hm
      obtain ⟨_, o', e', hnf⟩ := fl3.2.2.1.mem hm
      rw [he3] at e'
      cases e'
      exact hnf _ hd3
    have nLoc : a ≠ X.env.locals := by
      intro z
      exact far (List.mem_filterMap.mpr ⟨X.env, List.mem_cons_self, by rw [hf, z]⟩)
    have nFs : a ∉ X.fs := by
      intro hm
      obtain ⟨e, he, q⟩ := List.mem_filterMap.mp hm
      exact far (List.mem_filterMap.mpr ⟨e, List.mem_cons_of_mem _ he, q⟩)
    have S3 := J3.suite he3 hd3 na nLoc nFs
    have go : ∀ {cs : List ExceptHandler} {m : List (Value × (Addr → Value → Option Addr → TS))}, HdsAs X n cs m → wSeq X.K i Wout D m cls d τ G →
        wpAny (model X.prog X.w) X.A (handleBy (.ref a) X.env cs) (SP X pins D) X.xe { s' with heap := k3 } := by
      intro cs m hk
      induction hk with
      | nil =>
        intro w
        refine wpAny_handleBy_nil ?_
        obtain ⟨_, _, _, oe, vs, T, oT, ts', he, hz, hd, h1, hr⟩ := id fl3
        unfold PySem.passOn
        refine wpAny_bind (wpAny_field he hd h1 ?_)
        have nn : ¬ ((Value.ref T == Value.none) = true) := by simp
        rw [if_neg nn]
        have on : wpAny (model X.prog X.w) X.A (setFlight (.ref a) X.env.frame) (fun _ t4 => wpAny (model X.prog X.w) X.A (throw (.ref a) : Sem Flow) (SP X pins D) X.xe t4) X.xe { s' with heap := k3 } := by
          rw [hf]
          refine HandSPX.setFlight_upZ fl3 fun k4 hh4 up4 => wpAny_throw (tk _ _ ?_)
          refine ⟨a, B, t0, pins, τ, G, cls, d, rfl, J, nb, (up.trans up3).trans up4, .inr (.inr ?_), na, os, ag, w⟩
          rw [hs]
          exact hh4
        first
          | exact wpAny_bind (wpAny_pure (wpAny_bind on))
          | exact wpAny_bind on
      | @cons x c ts st sts np cp more l2 hc hsu r ih =>
        intro w
        obtain ⟨b, hb1, hyes, hno⟩ := w
        refine wpAny_handleBy_cons (codeAny_handlers_test ?_) (by intro q; cases q)
        have LT : PySem.W.Looks (model X.prog X.w) k3 (typeOf (.ref a)) cls := by
          intro A Q E t kk q
          exact wpAny_typeOf_ref (kk _ _ he3) (by rw [hz3.1]; exact q)
        have LM := PySem.W.exm_one (M := model X.prog X.w) J3.kIn LT hb1
        have asks : ∀ {Q E : Value → Shared → Prop}, Q c { s' with heap := k3 } → wpAny (model X.prog X.w) (X.A.mark (some (.ref a))) (eval (.Name x np) X.env) Q E { s' with heap := k3 } := by
          intro Q E q
          obtain ⟨hg, hdbg, hm | ⟨hm, hv, hnn⟩⟩ := hc
          · exact ld_glob (X := X.suite a ((a, oe3) :: (X.pn ++ pins))) S3 hg hm q hdbg
          · exact ld_blt (X := X.suite a ((a, oe3) :: (X.pn ++ pins))) S3 hg hm hv q hnn hdbg
        refine asks (LM.here ?_)
        cases b with
        | true =>
          refine codeAny_handlers_suite_as ?_
          refine HandSPX.lands_againZ fl3 fun k4 fl4 up4 => ?_
          have J4 : L2.Inv X pins τ G { s' with heap := k4 } := J.landed nb fl4.1 ((up.trans up3).trans up4) os ag
          obtain ⟨oe4, vs4, he4, hz4, hd4⟩ := fl4.there
          have S4 := J4.suite he4 hd4 na nLoc nFs
          refine store_ok (X := X.suite a ((a, oe4) :: (X.pn ++ pins))) (v := .ref a) S4 hN hi isLoc rfl ?_ (.inr hln)
          intro s5 S5
          refine wpAny_mono ((hsu a oe4 cls d (X.pn ++ pins) hz4 ⟨_, hd4⟩).run [] s5 _ G _ S5 (hyes rfl a na)) ?_ (fun _ _ z => z.elim)
          intro fl s6 hsp
          have off : ∀ {σ6 : L2.St} {H6 : Hp} {Q : Shared → Prop}, L2.Inv (X.suite a ((a, oe4) :: (X.pn ++ pins))) [] σ6 H6 s6 → (∀ s7, L2.Inv X pins (σ6.set i none) H6 s7 → Q s7) →
              wpAny (model X.prog X.w) X.A (do bindName X.env n .none; unbindBehindTheSuite X.env n cp) (fun _ s7 => Q s7) X.xe s6 := by
            intro σ6 H6 Q S6 hq
            exact gone_ok (S6.unsuite okX) hN hi hln hq
          cases fl with
          | next =>
            obtain ⟨_, _, S6, q6⟩ := hsp
            exact off S6 fun _ J7 => ⟨_, _, J7, q6⟩
          | brk =>
            obtain ⟨_, _, S6, q6⟩ := hsp
            exact off S6 fun _ J7 => ⟨_, _, J7, q6⟩
          | cont =>
            obtain ⟨_, _, S6, q6⟩ := hsp
            exact off S6 fun _ J7 => ⟨_, _, J7, q6⟩
          | ret u =>
            obtain ⟨_, _, _, S6, r6, q6⟩ := hsp
            exact off S6 fun _ J7 => ⟨_, _, _, J7, r6, q6⟩
        | false =>
          show wpAny _ X.A (handleBy (.ref a) X.env more) _ _ _
          exact ih (hno rfl)
    exact go hh w
  refine wpAny_mono ((hb (wSeq X.K i Wout D l) (X.pn ++ pins) back caught PassesOwn.looking).run [] s σ H D (I.toTry _) h) ?_ (fun _ _ he => he)
  intro fl s1 hsp
  cases fl with
  | next =>
    obtain ⟨_, _, J', q⟩ := hsp
    exact wpAny_execs_nil ⟨_, _, J'.ofTry okX, q⟩
  | brk =>
    obtain ⟨_, _, J', q⟩ := hsp
    exact ⟨_, _, J'.ofTry okX, q⟩
  | cont =>
    obtain ⟨_, _, J', q⟩ := hsp
    exact ⟨_, _, J'.ofTry okX, q⟩
  | ret u =>
    obtain ⟨_, _, _, J', r, q⟩ := hsp
    exact ⟨_, _, _, J'.ofTry okX, r, q⟩
end
end Par
namespace Par
open PySem PySem.Spec PyProof.Rows L2
/-! ### a def that is handed the error that its caller's suite holds; it raises nothing -/
/-- what such a def promises: it may speak of the error, at p.1, and of its object, p.2 -/
structure FnP (P : Program) (w : World) (K : PySem.W.Frag) (mg : Str → Option Value) (base : Heap) (k : Nat) (f : Addr) (fd : FuncData) (ps : List Str) (sp : Addr × Obj → Sp) : Prop where
  len : ∀ p vs H Q E, sp p vs H Q E → vs.length = ps.length
  run : ∀ (A : Around) (outer : List Env) (s : Shared) (H : Hp) (args : Args) (us : List Value) (vs : List V) (Q : VK) (p : Addr × Obj), L2H.RoomH k A → L2H.PinOk outer H s p → Env0 P w K mg base A outer s H → BindsTo s fd args (ps.zip us) → Vals vs us → sp p vs H Q E0 →
    codeAny (model P w) A (.call (.ref f) args) (CR CX0 outer P w H s Q E0) s
section
variable {P : Program} {w : World} {K : PySem.W.Frag} {mg : Str → Option Value} {base : Heap}
theorem fnP_of {k : Nat} {x qual : Str} {st : Stmt} {f : Addr} {fd : FuncData} {N ps : List Str} {sp : Addr × Obj → Sp} (F : Fun K x qual st f fd) (S : FnScope N ps (defScope st))
    (len : ∀ p vs H Q E, sp p vs H Q E → vs.length = ps.length)
    (hbody : ∀ (cdv : Value) (A : Around) (outer : List Env) (s : Shared) (H : Hp) (vs : List V) (Q : VK) (p : Addr × Obj), L2H.RoomH k (A.deeper (envOfC qual (defScope st) s.heap.objs.size f cdv)) → sp p vs H Q E0 →
      ∃ t, PSs (L2H.cxH CX0 P w K mg base N qual (defScope st) f cdv A outer s H E0 p) (defBody st) t ∧ t { nx := fun _ H' => Q .non H', rt := Q } (L2.start N vs) H) :
    FnP P w K mg base (k + 1) f fd ps sp := by
  obtain ⟨oc, od, kV, doc, pm, an, cdv, ct, osl, efd, lk, hcd⟩ := F.ex
  subst efd
  refine ⟨len, fun A outer s H args us vs Q p hr hpin e0 hb r hsp => ?_⟩
  have hl := len _ _ _ _ _ hsp
  have KX : K.In s.heap := e0.mod.kin.keeps fun b o e => (e0.bs b o e).1
  have lim : s.heap.NoLimit := e0.mod.nolimit.keeps fun b o e => (e0.bs b o e).1
  have hkind : ∀ y ∈ ps.zip us, (defScope st).names.lookup y.1 = some .local ∨ ((defScope st).names.lookup y.1 = some .cell ∧ ((cellsFrom (s.heap.objs.size + 1) (defScope st).names []).lookup y.1).isSome = true) := fun ⟨n, v⟩ hy => by
    rcases S.par n (List.of_mem_zip hy).1 with q | q
    · exact .inl q
    · exact .inr ⟨q, PySem.W.cellsFrom_some _ _ _ (.inl q)⟩
  refine codeAny_call_function hr.depth (KX _ _ lk) rfl S.co S.gen rfl (PySem.W.codeRec_of KX hcd) (hb _ _ _ _ ?_)
  refine wpAny_newFunctionEnv_cells S.kind hkind fun env he s1 x => ?_
  subst he
  refine ⟨lim.keeps x.toInCall.keep, codeAny_func ?_⟩
  obtain ⟨t, ht, hq⟩ := hbody cdv A outer s H vs Q p (hr.deeper _) hsp
  have I := L2H.inv_startH (CX := CX0) (E := E0) S hpin e0 hl r x
  refine wpAny_mono (ht.run [] s1 (L2.start N vs) H _ I hq) (fun fl s' hs => ?_) fun e s' hs => hs
  cases fl with
  | ret u =>
    obtain ⟨v, σ', H', J, rv, q⟩ := hs
    exact ⟨v, H', J.os, J.bare, J.base, J.hok, rv, q⟩
  | next =>
    obtain ⟨σ', H', J, q⟩ := hs
    exact ⟨V.non, H', J.os, J.bare, J.base, J.hok, rfl, q⟩
  | brk =>
    obtain ⟨_, _, _, q⟩ := hs
    exact False.elim q
  | cont =>
    obtain ⟨_, _, _, q⟩ := hs
    exact False.elim q
end
section
variable {X : Cx} {k : Nat} {f a : Addr} {oe : Obj} {fd : FuncData} {q : Str} {sp : Addr × Obj → Sp} {x : Str} {p pos : Pos} {e : Expr} {te : TE} {pn : List (Addr × Obj)} {cls : Value} {d : Option Addr}
def tHeld (a : Addr) (cls : Value) (d : Option Addr) (sp : Addr × Obj → Sp) (te : TE) : TE := fun σ H Q => te σ H fun v H1 => v = .ref a ∧ ∀ oe : Obj, Zc cls d oe → (∃ vs, oe.data = .fields vs) → sp (a, oe) [.ref a] H1 Q E0
/-- f(e), where e is the error that the suite holds -/
theorem pe_callHeld (hz : Zc cls d oe) (hf : ∃ vs, oe.data = .fields vs) (F : FnP X.prog X.w X.K X.mg X.base k f fd [q] sp) (hr : Room k X.A) (hg : Gl X x) (hm : X.mg x = some (.ref f)) (hk : PySem.W.keepIn X.K (.ref f) = true)
    (hb : Binds X.K fd [q] []) (he : PE (X.suite a ((a, oe) :: pn)) e te) (hdb : (x == ("__debug__" : Str)) = false := by decide)
    (hst : starEach [e] X.env = (false, eval e X.env) :: starEach [] X.env := by rfl) (hpl : (backTo pos (starEach [] X.env)).any (·.1) = false := by rfl) :
    PE (X.suite a ((a, oe) :: pn)) (.Call (.Name x p) [e] [] pos) (tHeld a cls d sp te) := by
  constructor
  intro pins s σ H Q I h
  refine wpAny_Call_Name_kw (ld_glob (X := X.suite a ((a, oe) :: pn)) I hg hm ?_ hdb)
  have one : PA (X.suite a ((a, oe) :: pn)) [e] (tCons te tNil) := pa_cons he pa_nil (hs := hst)
  refine PySem.W.callWith_K (h₀ := X.base) I.ok.mod.kin hk (thn (one.run pos pins s σ H (fun vs H1 => match vs with
    | [v] => v = .ref a ∧ ∀ oe : Obj, Zc cls d oe → (∃ vs, oe.data = .fields vs) → sp (a, oe) [.ref a] H1 Q E0
    | _ => False) I h) ?_) hst hpl
  rintro us s1 ⟨vs, H1, I1, r, q0⟩
  obtain ⟨rfl, q1⟩ : vs = [.ref a] ∧ sp (a, oe) [.ref a] H1 Q E0 := by
    match vs, q0 with
    | [v], ⟨e, z⟩ => exact ⟨by rw [e], z oe hz hf⟩
  refine ⟨I1.kIn, ?_⟩
  obtain ⟨h1, h2, h3, h4, h5⟩ := I1.pin (a, oe) (List.mem_append_left _ List.mem_cons_self)
  have nfs : a ∉ frs X.stack := fun z => by
    rcases List.mem_cons.mp (I1.stkSub a z) with y | y
    · exact h3 y
    · exact h4 y
  have hl : us.length = 1 := r.length.symm
  have hbi := hb s1 us I1.kIn (by rw [List.append_nil]; exact hl)
  rw [List.append_nil] at hbi
  refine wpAny_call (codeAny_mono (F.run (X.A.mark (some (.ref a))) X.stack s1 H1 ⟨us, []⟩ us [.ref a] Q (a, oe) ⟨hr.dp, hr.un⟩ ⟨h1, h2, nfs, h5⟩ I1.env0 hbi r q1) ?_)
  intro res s' hq
  cases res with
  | error er => exact False.elim hq
  | ok fl =>
    cases fl with
    | next => exact False.elim hq
    | brk => exact False.elim hq
    | cont => exact False.elim hq
    | ret u => exact I1.after hq
end
section
variable {X : Cx}
/-- isinstance(e, c), e an error that was handed on -/
theorem call_isQ {p : Addr × Obj} (hp : p ∈ X.pn) : CallR X (.builtin "isinstance")
    (fun xs H Q => ∃ (D dd : Addr) (c : V) (u : Value) (b : Bool) (fs : List (Str × V)), xs = [.ref p.1, c] ∧ ExcC X.K D ∧ Zc (.ref D) (some dd) p.2 ∧ (∃ vs, p.2.data = .fields vs) ∧ H dd = some (.xd fs) ∧ ClsV c u ∧ PySem.W.kitOne X.K (.ref D) u = some b ∧ Q (.bl b) H) := by
  intro pins s σ H xs us Q I r h
  obtain ⟨D, dd, c, u, b, fs, rfl, C, hz, ⟨vs, hd⟩, ea, k, e, q⟩ := h
  obtain ⟨u1, u2, rfl, r1, r2⟩ := vals2 r
  cases (show u1 = Value.ref p.1 from r1)
  have e2 := k.eq r2
  subst e2
  have hg := (I.pin p (List.mem_append_left _ hp)).1
  obtain ⟨mA, hns, hr⟩ := (show ObjOk X.prog X.w H s.heap dd (.xd fs) from I.hok dd _ ea)
  obtain ⟨od, ho, hl⟩ := lookIn_ns hns
  have J : PySem.W.InstAt s.heap p.1 p.2 D (some od) := ⟨hg, hz.1, by unfold PySem.W.notCls; rw [hd] <;> rfl, by rw [hz.2]; exact ho⟩
  exact PySem.W.kia_one (kit_held C) I.kIn J e (fun z => nomatch z) fun tk => ⟨.bl b, H, I.tok tk, rfl, q⟩
/-- xs.count(y), flat items -/
def rCountV (K : PySem.W.Frag) : V → List V → Hp → VK → Prop := fun x xs H Q => ∃ (a : Addr) (ys : List V) (y : V), x = V.ref a ∧ xs = [y] ∧ SqL K H a ys ∧ flatV y = true ∧ ys.all flatV = true ∧ Q (.int ((ys.countP fun z => eqV z y : Nat) : Int)) H
theorem count_vals {y : V} : ∀ {ys : List V} {us : List Value}, Vals ys us → ys.all flatV = true → us.countP (eqU y) = ys.countP fun z => eqV z y
  | _, _, .nil, _ => rfl
  | _, _, .cons (a := v) r rs, f => by
    have f2 := List.all_eq_true.mp f v (List.mem_cons_self ..)
    have ih := count_vals (y := y) rs (List.all_eq_true.mpr fun z hz => List.all_eq_true.mp f z (List.mem_cons_of_mem _ hz))
    rw [List.countP_cons, List.countP_cons, ih, eqU_of r f2]
theorem mt_countV : MtR X "list.count" (rCountV X.K) := by
  intro pins s σ H x xs v us Q I rx rxs h
  obtain ⟨a, ys, y, rfl, rfl, hs, fy, fys, q⟩ := h
  cases rx
  cases rxs with
  | cons ry rt =>
    rename_i uy ut
    cases rt
    obtain ⟨its, rv, ⟨⟨cls, dd, data, sl⟩, n, ho, hc, hdn, hd⟩, hlen⟩ := I.list hs
    simp only at hc hd
    subst hc hd
    refine call_meets PySem.F.slot_list_count ⟨_, ho, rfl⟩ PySem.F.entry_list_count (PySem.F.args_list_count_2 _ _)
      (SeqAt.list_countAt a its.toArray n dd sl uy (eqU y)) ⟨ho, fun u' hu' => mem_eqAt ry fy rv fys u' (by simpa using hu'), ?_⟩
    have ec : its.toArray.toList.countP (eqU y) = ys.countP fun z => eqV z y := count_vals rv fys
    refine ⟨.int ((ys.countP fun z => eqV z y : Nat) : Int), H, I.tok _, ⟨s.toks, ?_⟩, q⟩
    show Value.int ((its.toArray.toList.countP (eqU y) : Nat) : Int) s.toks = Value.int ((ys.countP fun z => eqV z y : Nat) : Int) s.toks
    rw [ec]
end
end Par
namespace Par
open PySem PySem.Spec PyProof.Rows L2
/-! ### a def that makes lambdas: its code object is known by its address -/
structure FunC (K : PySem.W.Frag) (x qual : Str) (st : Stmt) (f c : Addr) (fd : FuncData) : Prop where
  at_ : ∃ (oc : Value) (od : Option Addr) (kV doc pm : Value) (an : Option Addr) (ct : Value) (sl : Array (Option Value)),
    fd = PySem.W.fnOf x qual (defArgs st) (defBody st) (defScope st) .none kV doc pm an (.ref c) ct ∧ K.lookup f = some ⟨oc, od, .func fd, sl⟩ ∧ PySem.W.codeIn K (.ref c) qual = true
section
variable {P : Program} {w : World} {K : PySem.W.Frag} {mg : Str → Option Value} {base : Heap}
theorem fnG_ofC {k : Nat} {x qual : Str} {st : Stmt} {f c : Addr} {fd : FuncData} {N ps : List Str} {sp : Sp}
    (F : FunC K x qual st f c fd) (S : FnScope N ps (defScope st))
    (arity : ∀ vs H Q E, sp vs H Q E → vs.length = ps.length)
    (body : ∀ (A : Around) (outer : List Env) (s : Shared) (H : Hp) (vs : List V) (Q : VK) (E : XK),
      A.guards = some [] → Room k (A.deeper (envOfC qual (defScope st) s.heap.objs.size f (.ref c))) → sp vs H Q E →
      ∃ t, PSs (cxOf CX0 P w K mg base N qual (defScope st) f (.ref c) A outer s H E).nox (defBody st) t ∧
        t { nx := fun _ H' => Q .non H', rt := Q } (start N vs) H) :
    FnG P w K mg base CX0 (k + 1) f fd ps sp := by
  obtain ⟨oc, od, kV, doc, pm, an, ct, sl, efd, lk, hcd⟩ := F.at_
  subst efd
  constructor
  · exact arity
  intro A outer s H args us vs Q E gs room e0 bound rel hsp
  have lens := arity _ _ _ _ hsp
  have kin : K.In s.heap := e0.mod.kin.keeps (fun b o z => (e0.bs b o z).1)
  have nolim : s.heap.NoLimit := e0.mod.nolimit.keeps (fun b o z => (e0.bs b o z).1)
  have kinds : ∀ y ∈ ps.zip us, (defScope st).names.lookup y.1 = some .local ∨ ((defScope st).names.lookup y.1 = some .cell ∧
      ((cellsFrom (s.heap.objs.size + 1) (defScope st).names []).lookup y.1).isSome = true) := by
    rintro ⟨n, v⟩ hy
    cases S.par n (List.of_mem_zip hy).1 with
    | inl q => exact Or.inl q
    | inr q => exact Or.inr ⟨q, PySem.W.cellsFrom_some _ _ _ (Or.inl q)⟩
  refine codeAny_call_function room.depth (kin _ _ lk) rfl S.co S.gen rfl (PySem.W.codeRec_of kin hcd) (bound _ _ _ _ ?_)
  refine wpAny_newFunctionEnv_cells S.kind kinds ?_
  intro env he s1 x1
  subst he
  refine ⟨nolim.keeps x1.toInCall.keep, codeAny_func ?_⟩
  obtain ⟨t, ht, hq⟩ := body A outer s H vs Q E gs (room.deeper _) hsp
  have I := inv_start (CX := CX0) (E := E) (w := w) S room.hd e0 lens rel x1
  refine wpAny_mono (ht.nox.run [] s1 (start N vs) H _ I hq) ?_ (fun e s' hs => hs)
  intro fl s' hs
  cases fl with
  | ret u =>
    obtain ⟨v, σ1, H1, J, rv, q⟩ := hs
    exact ⟨v, H1, J.os, J.bare, J.base, J.hok, rv, q⟩
  | next =>
    obtain ⟨σ1, H1, J, q⟩ := hs
    exact ⟨V.non, H1, J.os, J.bare, J.base, J.hok, rfl, q⟩
  | brk => exact (let ⟨_, _, _, q⟩ := hs; False.elim q)
  | cont => exact (let ⟨_, _, _, q⟩ := hs; False.elim q)
end
/-! ### the law's end, with the tables of these code objects -/
section
variable {P : Program} {w : World} {K : PySem.W.Frag} {mg mb : Str → Option Value} {k : Nat} {fa a : Addr} {tt : List (Addr × Addr)} {fd : FuncData} {x : Str} {sp : Sp} {s1 : Shared} {vs : List Value} {ns : List Int}
/-- what the heap at the law's entry says -/
structure Entry (K : PySem.W.Frag) (mg mb : Str → Option Value) (tt : List (Addr × Addr)) (a : Addr) (vs : List Value) (s1 : Shared) : Prop where
  kin : K.In s1.heap
  glob : s1.heap.Ns mainGlobals mg
  blt : s1.heap.Ns builtinsNs mb
  boot : ∀ x : Str, x ≠ "__name__" → mb x = bootBuiltins x
  lim : s1.heap.NoLimit
  gens : s1.gens = #[]
  tab : ∀ p ∈ tt, PySem.W.CodeHd s1.heap p.1 p.2 ∧ s1.heap.get? p.2 = some (PySem.W.tabObj #[]) ∧ K.lookup p.2 = none
  bm : ∃ (bm : Addr) (ob : Obj), mg "__builtins__" = some (.ref bm) ∧ bm ≠ builtinsNs ∧ s1.heap.get? bm = some ob ∧ ob.cls = .type "module" ∧ ob.dict = some builtinsNs ∧ ob.data = .plain
  script : s1.heap.get? a = some { cls := .type "list", data := .seq vs.toArray }
def tabsOf (tt : List (Addr × Addr)) : List Addr := tt.map (·.2)
theorem Entry.at_tab (X : Entry K mg mb tt a vs s1) {b : Addr} (hb : b ∈ tabsOf tt) : s1.heap.get? b = some (PySem.W.tabObj #[]) := by
  obtain ⟨p, hp, rfl⟩ := List.mem_map.mp hb
  exact (X.tab p hp).2.1
theorem Entry.not_tab (X : Entry K mg mb tt a vs s1) : a ∉ tabsOf tt := by
  intro hb
  have e := X.at_tab hb
  rw [X.script] at e
  injection e with e
  injection e with _ _ d _
  cases d
/-- nothing is tracked but the script and the tables -/
structure Just (H : Hp) (K : PySem.W.Frag) (tt : List (Addr × Addr)) (a : Addr) : Prop where
  tabs : ∀ p ∈ tt, H p.2 = some (.tbl #[])
  kinds : ∀ b, H b = none ∨ b ∈ tabsOf tt ∨ ∃ o xs, H b = some (.frz o (.lst xs))
  dom : ∀ b, H b ≠ none → b = a ∨ b ∈ tabsOf tt
  out : H a ≠ none → K.lookup a = none
theorem Just.none_of {H : Hp} (X : Entry K mg mb tt a vs s1) (J : Just H K tt a) {b : Addr} {o : Obj} (e : s1.heap.get? b = some o) (n1 : ∀ xs n, o.data ≠ .seq xs n) (n2 : o.data ≠ .fields #[]) : H b = none := by
  cases q : H b with
  | none => rfl
  | some u =>
    rcases J.dom b (by rw [q]; simp) with z | z
    · rw [z, X.script] at e
      cases e
      exact absurd rfl (n1 _ _)
    · rw [X.at_tab z] at e
      cases e
      exact absurd rfl n2
theorem Just.names {H : Hp} (X : Entry K mg mb tt a vs s1) (J : Just H K tt a) {b : Addr} {m : Str → Option Value} (h : s1.heap.Ns b m) : (hidT s1.heap H).Ns b m := by
  obtain ⟨o, es, ep, e, d, r⟩ := h
  refine ⟨o, es, ep, hidT_get e (J.none_of X e (fun xs n z => ?_) fun z => ?_), d, r⟩
  · rw [d] at z
    cases z
  · rw [d] at z
    cases z
theorem Just.mod {H : Hp} (X : Entry K mg mb tt a vs s1) (J : Just H K tt a) : L2.Mod K mg (hidT s1.heap H) := by
  obtain ⟨mc, h1, h2⟩ := X.lim
  refine ⟨fun b o e => hidT_get (X.kin b o e) ?_, J.names X X.glob, ⟨mb, J.names X X.blt, X.boot⟩, ⟨mc, J.names X h1, h2⟩⟩
  cases q : H b with
  | none => rfl
  | some u =>
    have some_b : H b ≠ none := by rw [q]; simp
    rcases J.dom b some_b with z | z
    · rw [z] at e some_b
      rw [J.out some_b] at e
      cases e
    · obtain ⟨p, hp, rfl⟩ := List.mem_map.mp z
      rw [(X.tab p hp).2.2] at e
      cases e
theorem Just.tabB {H : Hp} (X : Entry K mg mb tt a vs s1) (J : Just H K tt a) {p : Addr × Addr} (hp : p ∈ tt) : LamX.TabB (hidT s1.heap H) mg p.1 p.2 := by
  obtain ⟨hC, hT, _⟩ := X.tab p hp
  constructor
  · obtain ⟨o, us, file, tf, flags, tg, inF, text, t2, e1, r1, r2, r3, r⟩ := hC
    refine ⟨o, us, file, tf, flags, tg, inF, text, t2, hidT_get e1 (J.none_of X e1 (fun xs n z => ?_) fun z => ?_), r1, r2, r3, r⟩
    · rw [r2] at z
      cases z
    · rw [r2] at z
      cases z
      simp at r3
  · obtain ⟨bm, ob, b1, b2, b3, b4, b5, b6⟩ := X.bm
    have g1 : bm ≠ mainGlobals := by
      rintro rfl
      obtain ⟨o, es, ep, e, d, _⟩ := X.glob
      rw [e] at b3
      cases b3
      rw [d] at b6
      cases b6
    have g2 : bm ≠ p.2 := by
      rintro rfl
      rw [hT] at b3
      cases b3
      cases b6
    refine ⟨bm, ob, b1, b2, g1, g2, hidT_get b3 (J.none_of X b3 (fun xs n z => ?_) fun z => ?_), b4, b5, b6⟩
    · rw [b6] at z
      cases z
    · rw [b6] at z
      cases z
  · intro z
    obtain ⟨o, es, ep, e, d, _⟩ := X.glob
    rw [z, hT] at e
    cases e
    cases d
theorem law_core {H : Hp} (X : Entry K mg mb tt a vs s1) (J : Just H K tt a) (ok : HOk P w H s1.heap) (sq : SqL K H a (ns.map V.int)) (hr : Room k callerA)
    (F : ∀ base : Heap, K.In base → base.Ns mainGlobals mg → (∀ p ∈ tt, LamX.TabB base mg p.1 p.2) → FnG P w K mg base CX0 k fa fd [x] sp) (hbind : ∀ (s : Shared) (u : Value), BindsTo s fd ⟨[u], []⟩ [(x, u)])
    (hsp : sp [.ref a] H (fun v _ => v = .bl true) fun _ _ _ => False) :
    codeAny (model P w) callerA (.call (.ref fa) ⟨[.ref a], []⟩) (fun r s' => r = .ok (.ret (.bool true)) ∧ OldK s1.heap s'.heap ∧ s'.os = s1.os ∧ AllBare s'.gens) s1 := by
  have md := J.mod X
  have e0 : Env0 P w K mg (hidT s1.heap H) callerA [] s1 H := by
    refine ⟨rfl, md, fun b o e => of_hidT e, Nat.le_of_eq (hidT_size _ _), trivial, ?_, ok, .of_eq X.gens⟩
    intro b z
    exact absurd (show b ∈ ([] : List Addr) from z) (by simp)
  refine codeAny_mono ((F _ md.kin md.glob fun p hp => J.tabB X hp).go callerA [] s1 H ⟨[.ref a], []⟩ [.ref a] [.ref a] _ _ rfl hr e0 (hbind s1 (.ref a)) (.cons rfl .nil) hsp) ?_
  intro r s' h
  cases r with
  | error e => exact False.elim h
  | ok fl =>
    cases fl with
    | next => exact False.elim h
    | brk => exact False.elim h
    | cont => exact False.elim h
    | ret u =>
      obtain ⟨v, H1, os, bare, un, ok1, rel, q⟩ := h
      have q' : v = .bl true := q
      subst q'
      obtain rfl : u = Value.bool true := rel
      have stays : ∀ b o, b ∉ tabsOf tt → s1.heap.get? b = some o → s'.heap.get? b = some o := by
        intro b o nb e
        cases q : H b with
        | none => exact un.keep b o e q (fun z => absurd (show b ∈ ([] : List Addr) from z) (by simp)) (by simp)
        | some u =>
          rcases J.kinds b with z | z | ⟨ob, xs, z⟩
          · rw [q] at z
            cases z
          · exact absurd z nb
          · have e1 := (ok b _ z).1
            have e2 := (ok1 b _ (un.frzs b ob _ z)).1
            rw [e] at e1
            cases e1
            exact e2
      have grows : ∀ b ∈ tabsOf tt, ∃ more : Array Value, s'.heap.get? b = some (PySem.W.tabObj more) := by
        intro b hb
        obtain ⟨p, hp, rfl⟩ := List.mem_map.mp hb
        obtain ⟨more, z⟩ := un.tbls p.2 #[] (J.tabs p hp)
        exact ⟨_, ok1 p.2 _ z⟩
      refine ⟨rfl, ⟨fun b o e => ?_, fun b o e => ?_⟩, os, bare⟩
      · by_cases hb : b ∈ tabsOf tt
        · obtain ⟨more, hm⟩ := grows b hb
          obtain ⟨p, hp, rfl⟩ := List.mem_map.mp hb
          obtain ⟨hC, hT, _⟩ := X.tab p hp
          rw [hT] at e
          cases e
          exact .inr (.inl ⟨(hC.tab hT).isCodeTable, rfl, #[], more, rfl, by rw [Array.empty_append]; exact hm⟩)
        · exact .inl (stays b o hb e)
      · by_cases hb : b ∈ tabsOf tt
        · obtain ⟨more, hm⟩ := grows b hb
          exact ⟨_, hm⟩
        · exact ⟨o, stays b o hb e⟩
theorem law_callTG (X : Entry K mg mb tt a vs s1) (hi : IntsAre vs ns) (hl : ns.length ≤ sizeLine) (hr : Room k callerA)
    (F : ∀ base : Heap, K.In base → base.Ns mainGlobals mg → (∀ p ∈ tt, LamX.TabB base mg p.1 p.2) → FnG P w K mg base CX0 k fa fd [x] sp) (hbind : ∀ (s : Shared) (u : Value), BindsTo s fd ⟨[u], []⟩ [(x, u)])
    (hsp : ∀ H : Hp, (∀ p ∈ tt, H p.2 = some (.tbl #[])) → SqL K H a (ns.map V.int) → sp [.ref a] H (fun v _ => v = .bl true) fun _ _ _ => False) :
    codeAny (model P w) callerA (.call (.ref fa) ⟨[.ref a], []⟩) (fun r s' => r = .ok (.ret (.bool true)) ∧ OldK s1.heap s'.heap ∧ s'.os = s1.os ∧ AllBare s'.gens) s1 := by
  have rv := vals_ints hi
  have lenV := hi.length
  have mem2 : ∀ p ∈ tt, p.2 ∈ tabsOf tt := fun p hp => List.mem_map.mpr ⟨p, hp, rfl⟩
  have na := X.not_tab
  cases hk : K.lookup a with
  | some o =>
    have e := X.kin a o hk
    rw [X.script] at e
    cases e
    have tabs : ∀ p ∈ tt, (fun b => if b ∈ tabsOf tt then some (HO.tbl #[]) else none) p.2 = some (HO.tbl #[]) := fun p hp => if_pos (mem2 p hp)
    have sq : SqL K (fun b => if b ∈ tabsOf tt then some (HO.tbl #[]) else none) a (ns.map V.int) := .inr ⟨_, vs.toArray, _, hk, rfl, rfl, rfl, by rw [List.size_toArray, lenV]; exact hl, by simpa using rv⟩
    refine law_core X ⟨tabs, fun b => ?_, fun b z => ?_, fun z => absurd (if_neg na) z⟩ (fun b u z => ?_) sq hr F hbind (hsp _ tabs sq)
    · by_cases hb : b ∈ tabsOf tt
      · exact .inr (.inl hb)
      · exact .inl (if_neg hb)
    · by_cases hb : b ∈ tabsOf tt
      · exact .inr hb
      · exact absurd (if_neg hb) z
    · by_cases hb : b ∈ tabsOf tt
      · have z1 := (if_pos hb).symm.trans z
        cases z1
        exact X.at_tab hb
      · have z1 := (if_neg hb).symm.trans z
        cases z1
  | none =>
    have tabs : ∀ p ∈ tt, (fun b => if b = a then some (HO.frz { cls := .type "list", data := .seq vs.toArray } (.lst (ns.map V.int))) else if b ∈ tabsOf tt then some (HO.tbl #[]) else none) p.2 = some (HO.tbl #[]) := fun p hp =>
      (if_neg (show ¬ p.2 = a from fun z => na (z ▸ mem2 p hp))).trans (if_pos (mem2 p hp))
    have sq : SqL K (fun b => if b = a then some (HO.frz { cls := .type "list", data := .seq vs.toArray } (.lst (ns.map V.int))) else if b ∈ tabsOf tt then some (HO.tbl #[]) else none) a (ns.map V.int) := .inl (.inr ⟨_, if_pos rfl⟩)
    refine law_core X ⟨tabs, fun b => ?_, fun b z => ?_, fun _ => hk⟩ (fun b u z => ?_) sq hr F hbind (hsp _ tabs sq)
    · by_cases h1 : b = a
      · exact .inr (.inr ⟨_, _, if_pos h1⟩)
      · by_cases h2 : b ∈ tabsOf tt
        · exact .inr (.inl h2)
        · exact .inl ((if_neg h1).trans (if_neg h2))
    · by_cases h1 : b = a
      · exact .inl h1
      · by_cases h2 : b ∈ tabsOf tt
        · exact .inr h2
        · exact absurd ((if_neg h1).trans (if_neg h2)) z
    · by_cases h1 : b = a
      · have z1 := (if_pos h1).symm.trans z
        cases z1
        rw [h1]
        exact ⟨X.script, by rw [List.length_map]; exact hl, vs, _, rv, X.script⟩
      · have z1 := (if_neg h1).symm.trans z
        by_cases h2 : b ∈ tabsOf tt
        · have z2 := (if_pos h2).symm.trans z1
          cases z2
          exact X.at_tab h2
        · have z2 := (if_neg h2).symm.trans z1
          cases z2
end
/-- the defs of these names make lambdas: where their code objects and tables stand -/
def TabNames (q : Program) (K : PySem.W.Frag) (tt : List (Addr × Addr)) : Prop := ∀ p ∈ tt, ∃ (y : Str) (d : DefRec), (recsOf q).find? (fun e => e.name == y) = some d ∧ PySem.W.tabIn K y = some p ∧ K.lookup p.2 = none
theorem walkTG {l : PySem.W.OpenLaw} {n k : Nat} {q : Program} {loose : List Str} {XP : (Str → Option Value) → Heap → Prop} {YP : World → Heap → Prop} {d : DefRec} {K : Params → PySem.W.Frag} {sp : PySem.W.Frag → List (Addr × Addr) → Sp} {x : Str}
    (hn : l.most = some n) (hn2 : n ≤ sizeLine) (hdf : d.params.defaults = []) (hr : Room k callerA) (hY : ∀ (w : World) (h : Heap), YP w h → (K w.params).In h)
    (F : ∀ (w : World) (mg : Str → Option Value) (fa : Addr) (h : Heap), (K w.params).In h → h.Ns mainGlobals mg → mg d.name = some (.ref fa) →
      ∃ (fd : FuncData) (tt : List (Addr × Addr)), TabNames q (K w.params) tt ∧ (∀ (s : Shared) (u : Value), BindsTo s fd ⟨[u], []⟩ [(x, u)]) ∧
        ∀ base : Heap, (K w.params).In base → base.Ns mainGlobals mg → (∀ p ∈ tt, LamX.TabB base mg p.1 p.2) → FnG l.prog w (K w.params) mg base CX0 k fa fd [x] (sp (K w.params) tt))
    (hsp : ∀ (K : PySem.W.Frag) (tt : List (Addr × Addr)) (H : Hp) (a : Addr) (ns : List Int), ns.length ≤ n → (∀ p ∈ tt, H p.2 = some (.tbl #[])) → SqL K H a (ns.map V.int) → sp K tt [.ref a] H (fun v _ => v = .bl true) fun _ _ _ => False) :
    PySem.W.WalkO q loose XP YP l.row.toRowW d [] (fun f vs => PySem.call f vs) := by
  refine Att.attach_call hn hdf ?_
  intro w s0 s1 mg mb fa o pm cd doc a vs ns G Y ho hd hcd hmg hobj hints hlen hg
  have KX := hY w _ Y
  obtain ⟨fd, tt, names, hb, hF⟩ := F w mg fa _ KX G.T.g hmg
  refine law_callTG (mb := mb) ⟨KX, G.T.g, G.T.b, G.T.builtins, G.T.nolimit, hg, fun p hp => ?_, G.T.bmain, hobj⟩ hints (Nat.le_trans hlen hn2) hr hF hb (fun H hH hS => hsp _ tt H a ns hlen hH hS)
  obtain ⟨y, dy, hfind, htab, hno⟩ := names p hp
  obtain ⟨h1, h2⟩ := PySem.W.tab_of G.T KX hfind htab
  exact ⟨h1, h2, hno⟩
end Par
namespace K92
namespace X
open PySem PySem.Spec PyProof.Rows L2 Par
/-- is it a whole number from lo to hi -/
def isV (v : V) (lo hi : Int) : Bool := match v with
  | .int i => decide (lo ≤ i) && decide (i ≤ hi)
  | _ => false
/-- its type is known, and tells whether it is a bool, an int -/
def Typed (K : PySem.W.Frag) (H : Hp) (v : V) : Prop := (∃ b, v = .bl b) ∨ (∃ i, v = .int i) ∨
  (∃ n, TyX K H v (.type n) ∧ (n = "NoneType" ∨ n = "str" ∨ n = "list" ∨ n = "tuple" ∨ n = "dict") ∧ (∀ b, v ≠ .bl b) ∧ ∀ i, v ≠ .int i)
theorem isV_other {v : V} {lo hi : Int} (h : ∀ i, v ≠ .int i) : isV v lo hi = false := by
  unfold isV
  split
  · rename_i i
    exact absurd rfl (h i)
  · rfl
theorem sqA_ty {K : PySem.W.Frag} {H : Hp} {a : Addr} {xs : List V} (h : SqL K H a xs) : TyX K H (.ref a) (.type "list") := by
  rcases h with (h | ⟨o, h⟩) | ⟨o, its, n, hk, hc, _⟩
  · exact .base (.lst h)
  · exact .base (.frz h)
  · exact .kList hk hc
theorem sqtA_ty {K : PySem.W.Frag} {H : Hp} {a : Addr} {xs : List V} (h : SqT K H a xs) : TyX K H (.ref a) (.type "tuple") := by
  rcases h with (h | ⟨o, h⟩) | ⟨o, its, n, hk, hc, _⟩
  · exact .base (.tup h)
  · exact .fTuple h
  · exact .kTuple hk hc
theorem typed_dp {K : PySem.W.Frag} {H : Hp} {v : V} {d : PyData} (h : Dp K H v d) : Typed K H v := by
  cases h with
  | non => exact .inr (.inr ⟨_, .base .non, .inl rfl, by simp, by simp⟩)
  | bl b => exact .inl ⟨b, rfl⟩
  | int i => exact .inr (.inl ⟨i, rfl⟩)
  | str x => exact .inr (.inr ⟨_, .base (.str x), .inr (.inl rfl), by simp, by simp⟩)
  | lst hs _ => exact .inr (.inr ⟨_, sqA_ty hs, by simp, by simp, by simp⟩)
  | tup hs _ => exact .inr (.inr ⟨_, sqtA_ty hs, by simp, by simp, by simp⟩)
theorem typed_fl {K : PySem.W.Frag} {H : Hp} {v : V} {d : PyData} (h : Fl H v d) : Typed K H v := by
  cases h with
  | non => exact .inr (.inr ⟨_, .base .non, .inl rfl, by simp, by simp⟩)
  | bl b => exact .inl ⟨b, rfl⟩
  | int i => exact .inr (.inl ⟨i, rfl⟩)
  | str x => exact .inr (.inr ⟨_, .base (.str x), .inr (.inl rfl), by simp, by simp⟩)
  | dic0 e => exact .inr (.inr ⟨_, .base (.dK e), by simp, by simp, by simp⟩)
  | dic1 e => exact .inr (.inr ⟨_, .base (.dK e), by simp, by simp, by simp⟩)
section
variable {P : Program} {w : World} {K : PySem.W.Frag} {mg : Str → Option Value} {base : Heap}
theorem kit_bool {n : String} (h : n = "NoneType" ∨ n = "str" ∨ n = "list" ∨ n = "tuple" ∨ n = "dict") : PySem.W.kitOne K (.type n) (.type "bool") = some false := by
  rcases h with rfl | rfl | rfl | rfl | rfl <;> exact kit_ty (by decide +kernel)
theorem kit_int {n : String} (h : n = "NoneType" ∨ n = "str" ∨ n = "list" ∨ n = "tuple" ∨ n = "dict") : PySem.W.kitOne K (.type n) (.type "int") = some false := by
  rcases h with rfl | rfl | rfl | rfl | rfl <;> exact kit_ty (by decide +kernel)
/-- a whole number and no bool -/
def wholeV : V → Bool
  | .int _ => true
  | _ => false
theorem wholeV_other {v : V} (h : ∀ i, v ≠ .int i) : wholeV v = false := by
  cases v <;> first | rfl | exact absurd rfl (h _)
/-- is_integer -/
def spIntegerA (K : PySem.W.Frag) : Sp := fun vs H Q _ => ∃ v : V, vs = [v] ∧ Typed K H v ∧ Q (.bl (wholeV v)) H
theorem scIntegerA : FnScope ["thing"] ["thing"] (defScope sInteger) := ⟨rfl, rfl, rfl, by decide +kernel, rfl, by decide +kernel, by decide +kernel⟩
theorem ok_integerA {f : Addr} {fd : FuncData} (F : Fun K "is_integer" "is_integer" sInteger f fd) (B : Bl mg) : FnOk P w K mg base CX0 1 f fd ["thing"] (spIntegerA K) := by
  refine F.ok scIntegerA (fun vs H Q E h => ?_) (fun cdv A outer s H vs Q E hr h => ?_)
  · obtain ⟨v, rfl, _⟩ := h
    rfl
  · obtain ⟨v, rfl, hT, out⟩ := h
    refine ⟨_, pss_one (ps_ret (pe_and (pe_callB call_isi (by rfl) B.isinstance (by decide +kernel) (pa_cons (pv 0) (pa_cons (pe_bltn (v := .ty "int") (by rfl) B.int (by decide +kernel) rfl) pa_nil))) (pe_one (pe_not (pe_callB call_isi (by rfl) B.isinstance (by decide +kernel) (pa_cons (pv 0) (pa_cons (pe_bltn (v := .ty "bool") (by rfl) B.bool (by decide +kernel) rfl) pa_nil))))))), ?_⟩
    rcases hT with ⟨b, rfl⟩ | ⟨i, rfl⟩ | ⟨n, ty, hn, nb, ni⟩
    · refine ⟨_, rfl, _, _, _, _, true, rfl, .ty "int", .base (.bl b), kit_ty (by decide +kernel), _, rfl, iteT ?_⟩
      exact ⟨_, rfl, _, _, _, _, true, rfl, .ty "bool", .base (.bl b), kit_ty (by decide +kernel), _, rfl, out⟩
    · refine ⟨_, rfl, _, _, _, _, true, rfl, .ty "int", .base (.int i), kit_ty (by decide +kernel), _, rfl, iteT ?_⟩
      exact ⟨_, rfl, _, _, _, _, false, rfl, .ty "bool", .base (.int i), kit_ty (by decide +kernel), _, rfl, out⟩
    · rw [wholeV_other ni] at out
      refine ⟨_, rfl, _, _, _, _, false, rfl, .ty "int", ty, kit_int hn, _, rfl, iteF ?_⟩
      exact out
/-- is_integer_between -/
def spBetA (K : PySem.W.Frag) : Sp := fun vs H Q _ => ∃ (v : V) (lo hi : Int), vs = [v, .int lo, .int hi] ∧ Typed K H v ∧ Q (.bl (isV v lo hi)) H
theorem scBetA : FnScope ["thing", "low", "high"] ["thing", "low", "high"] (defScope sBetween) := ⟨rfl, rfl, rfl, by decide +kernel, rfl, by decide +kernel, by decide +kernel⟩
theorem ok_betA {f : Addr} {fd : FuncData} (F : Fun K "is_integer_between" "is_integer_between" sBetween f fd) (B : Bl mg) (D : Has P w K mg base "is_integer" 1 ["thing"] (spIntegerA K)) : FnOk P w K mg base CX0 2 f fd ["thing", "low", "high"] (spBetA K) := by
  obtain ⟨fD, fdD, GD, mD, kD, bD⟩ := D
  refine F.ok scBetA (fun vs H Q E h => ?_) (fun cdv A outer s H vs Q E hr h => ?_)
  · obtain ⟨v, lo, hi, rfl, _⟩ := h
    rfl
  · obtain ⟨v, lo, hi, rfl, hT, out⟩ := h
    refine ⟨_, pss_one (ps_ret (pe_and (pe_call GD hr (by rfl) mD kD bD .nil pass0 (pa_cons (pv 0) pa_nil)) (pe_one (pe_chain op_le op_le (pv 1) (pv 0) (pv 2))))), ?_⟩
    have hT0 := hT
    rcases hT with ⟨b, rfl⟩ | ⟨i, rfl⟩ | ⟨n, ty, hn, nb, ni⟩
    · exact ⟨_, rfl, _, rfl, hT0, _, rfl, iteF out⟩
    · refine ⟨_, rfl, _, rfl, hT0, _, rfl, iteT ?_⟩
      refine ⟨_, rfl, _, rfl, lo, i, rfl, rfl, _, rfl, ite2 (fun h1 => ?_) (fun h1 => ?_)⟩
      · refine ⟨_, rfl, i, hi, rfl, rfl, ?_⟩
        have e : isV (.int i) lo hi = decide (i ≤ hi) := by
          show (decide (lo ≤ i) && decide (i ≤ hi)) = _
          rw [h1]
          rfl
        rw [e] at out
        exact out
      · have e : isV (.int i) lo hi = false := by
          show (decide (lo ≤ i) && decide (i ≤ hi)) = _
          rw [show decide (lo ≤ i) = false by simpa using h1]
          rfl
        rw [e] at out
        exact out
    · rw [isV_other ni] at out
      refine ⟨_, rfl, _, rfl, hT0, ?_⟩
      rw [wholeV_other ni]
      exact ⟨_, rfl, iteF out⟩
/-- is_cell -/
def spCellA (K : PySem.W.Frag) : Sp := fun vs H Q _ => ∃ (v : V) (n : Int), vs = [v, .int n] ∧ Typed K H v ∧ Q (.bl (isV v 0 (n - 1))) H
theorem scCellA : FnScope ["thing", "size"] ["thing", "size"] (defScope sIsCell) := ⟨rfl, rfl, rfl, by decide +kernel, rfl, by decide +kernel, by decide +kernel⟩
theorem ok_cellA {f : Addr} {fd : FuncData} (F : FunD K "is_cell" "is_cell" (defArgs sIsCell) (defBody sIsCell) (defScope sIsCell) [] [("size", .int 40)] f fd)
    (D : Has P w K mg base "is_integer_between" 2 ["thing", "low", "high"] (spBetA K)) : FnOk P w K mg base CX0 3 f fd ["thing", "size"] (spCellA K) := by
  obtain ⟨fD, fdD, GD, mD, kD, bD⟩ := D
  refine F.ok scCellA (fun vs H Q E h => ?_) (fun cdv A outer s H vs Q E hr h => ?_)
  · obtain ⟨v, n, rfl, _⟩ := h
    rfl
  · obtain ⟨v, n, rfl, hT, out⟩ := h
    refine ⟨_, pss_one (ps_ret (pe_call GD hr (by rfl) mD kD bD .nil pass0 (pa_cons (pv 0) (pa_cons pe_int (pa_cons (pe_op op_sub (pv 1) pe_int) pa_nil))))), ?_⟩
    refine ⟨_, rfl, _, rfl, n, 1, rfl, rfl, v, 0, n - 1, rfl, hT, out⟩
end
end X
end K92
namespace K92
namespace X
open PySem PySem.Spec PyProof.Rows L2 Par
abbrev sCIni : Stmt := inClass (topS 4) 0
/-- what the module says of NoCells, at C, its __init__ at fI -/
structure CellsC (K : PySem.W.Frag) (mg : Str → Option Value) (C : Addr) : Prop where
  gC : mg "NoCells" = some (.ref C)
  ox : OexC K C
  no : PySem.W.findIn K (.ref C) "cells" = some none
section
variable {P : Program} {w : World} {K : PySem.W.Frag} {mg : Str → Option Value} {base : Heap}
def spIni (C : Addr) : Sp := fun vs H Q _ => ∃ (a : Addr) (v : V), vs = [.ref a, v] ∧ H a = some (exo a C none) ∧
  ∀ dx, H dx = none → dx ≠ a → Q .non (upd (upd H dx (exd dx [("cells", v)])) a (exo a C (some dx)))
theorem scIni : FnScope ["self", "cells"] ["self", "cells"] (defScope sCIni) := ⟨rfl, rfl, rfl, by decide +kernel, rfl, by decide +kernel, by decide +kernel⟩
theorem ok_ini {f C : Addr} {fd : FuncData} (F : Fun K "__init__" "NoCells.__init__" sCIni f fd) (T : CellsC K mg C) : FnOk P w K mg base CX0 2 f fd ["self", "cells"] (spIni C) := by
  refine F.ok scIni (fun vs H Q E h => ?_) (fun cdv A outer s H vs Q E hr h => ?_)
  · obtain ⟨a, v, rfl, _⟩ := h
    rfl
  · obtain ⟨a, v, rfl, ha, out⟩ := h
    refine ⟨_, pss_one (ps_ost (pv 0) (pv 1)), ?_⟩
    exact ⟨_, rfl, _, rfl, a, C, rfl, T.ox, T.no, .inl ⟨ha, out⟩⟩
/-- NoCells as a class whose __init__ keeps its promise -/
def HasCIni (P : Program) (w : World) (K : PySem.W.Frag) (mg : Str → Option Value) (base : Heap) (C : Addr) : Prop :=
  ∃ f fd, FnOk P w K mg base CX0 2 f fd ["self", "cells"] (spIni C) ∧ PySem.W.findIn K (.ref C) "__init__" = some (some (.ref f)) ∧ PySem.W.typeIn K (.ref f) = some (.type "function") ∧ Binds K fd ["self", "cells"] []
/-- what raise NoCells(v) leads to -/
theorem made_ini {C : Addr} {H : Hp} {v : V} {W : Value → Option Addr → Hp → Prop} (h : ∀ d H', H d = none → Same H H' → H' d = some (.xd [("cells", v)]) → W (.ref C) (some d) H') :
    ∀ a, H a = none → spIni C (.ref a :: ([v] ++ [])) (upd H a (exo a C none)) (fun u GA2 => u = .non ∧ ∃ (d : Addr) (fs : List (Str × V)), GA2 a = some (exo a C (some d)) ∧ GA2 d = some (exd d fs) ∧ H d = none ∧
      W (.ref C) (some d) (upd (del GA2 a) d (.xd fs))) (fun _ _ _ => False) := by
  intro a ha
  refine ⟨a, v, rfl, upd_same, fun dx hd ne => ?_⟩
  rw [upd_ne ne] at hd
  refine ⟨rfl, dx, [("cells", v)], upd_same, by rw [upd_ne ne, upd_same], hd, ?_⟩
  refine h dx _ hd (fun b o e => ?_) upd_same
  have n1 := ne_of_none e hd
  have n2 := ne_of_none e ha
  rw [upd_ne n1, del_ne n2, upd_ne n2, upd_ne n1, upd_ne n2]
  exact e

/-- it is neither a list nor a tuple -/
def NoSeq (K : PySem.W.Frag) (H : Hp) (v : V) : Prop := ∃ n, TyX K H v (.type n) ∧ (n = "NoneType" ∨ n = "bool" ∨ n = "int" ∨ n = "str" ∨ n = "dict")
theorem kit_noseq {n : String} (h : n = "NoneType" ∨ n = "bool" ∨ n = "int" ∨ n = "str" ∨ n = "dict") : PySem.W.kitAny K (.type n) [.type "list", .type "tuple"] = some false := by
  have h1 : PySem.W.kitOne K (.type n) (.type "list") = some false := by rcases h with rfl | rfl | rfl | rfl | rfl <;> exact kit_ty (by decide +kernel)
  have h2 : PySem.W.kitOne K (.type n) (.type "tuple") = some false := by rcases h with rfl | rfl | rfl | rfl | rfl <;> exact kit_ty (by decide +kernel)
  exact kitAny_cons h1 (fun _ => kitAny_cons h2 (fun _ => kitAny_nil) (fun z => nomatch z)) (fun z => nomatch z)
theorem kit_seq {n : String} (h : n = "list" ∨ n = "tuple") : PySem.W.kitAny K (.type n) [.type "list", .type "tuple"] = some true := by
  rcases h with rfl | rfl
  · exact kitAny_cons (b := true) (kit_ty (by decide +kernel)) (fun z => nomatch z) (fun _ => rfl)
  · exact kitAny_cons (b := false) (kit_ty (by decide +kernel)) (fun _ => kitAny_cons (b := true) (kit_ty (by decide +kernel)) (fun z => nomatch z) (fun _ => rfl)) (fun z => nomatch z)
/-- a list or tuple of xs -/
def Sq (K : PySem.W.Frag) (H : Hp) (a : Addr) (xs : List V) : Prop := SqL K H a xs ∨ SqT K H a xs
/-- the items as whole numbers from l to m - 1 -/
def AllOf (l m : Int) (xs : List V) : Bool := xs.all fun x => isV x l (m - 1)
/-- a list or tuple of these items, or none of both -/
def Desc (K : PySem.W.Frag) (H : Hp) (v : V) : Option (List V) → Prop
  | none => NoSeq K H v
  | some xs => ∃ a, v = .ref a ∧ Sq K H a xs ∧ xs.length ≤ 2500 ∧ ∀ x ∈ xs, Typed K H x
theorem desc_cases {H : Hp} {v : V} : ∀ {o : Option (List V)}, Desc K H v o → (o = none ∧ NoSeq K H v) ∨ ∃ a xs, o = some xs ∧ v = .ref a ∧ Sq K H a xs ∧ xs.length ≤ 2500 ∧ ∀ x ∈ xs, Typed K H x
  | none, h => .inl ⟨rfl, h⟩
  | some xs, ⟨a, e, r⟩ => .inr ⟨a, xs, rfl, e, r⟩
def Fine (l m : Int) (o : Option (List V)) (ns : List Int) : Prop := o = some (ns.map V.int) ∧ AllOf l m (ns.map V.int) = true ∧ ns.Nodup
def Foul (l m : Int) (o : Option (List V)) : Prop := o = none ∨ (∃ xs, o = some xs ∧ AllOf l m xs = false) ∨ ∃ ns : List Int, o = some (ns.map V.int) ∧ AllOf l m (ns.map V.int) = true ∧ ¬ ns.Nodup
/-- cell_tuple: the cells in order, or NoCells with the value -/
def spCells (K : PySem.W.Frag) (C : Addr) : Sp := fun vs H Q E => ∃ (v : V) (n : Int) (o : Option (List V)), vs = [v, .int n] ∧ Desc K H v o ∧
  (∀ ns, Fine 0 n o ns → ∀ p (ms : List Int) H', H p = none → Same H H' → ms.Perm ns → ms.Pairwise (· ≤ ·) → H' p = some (.tup (ms.map V.int)) → Q (.ref p) H') ∧
  (Foul 0 n o → ∀ d H', H d = none → Same H H' → H' d = some (.xd [("cells", v)]) → E (.ref C) (some d) H')
/-- are_cells of any value -/
def spAreC (K : PySem.W.Frag) : Sp := fun vs H Q _ => ∃ (v : V) (n : Int) (o : Option (List V)), vs = [v, .int n] ∧ Desc K H v o ∧ (∀ ns, Fine 0 n o ns → ∀ H', Same H H' → Q (.bl true) H') ∧ (Foul 0 n o → ∀ H', Same H H' → Q (.bl false) H')
abbrev nCells : List Str := ["things", "size", "thing"]
theorem scAreC : FnScope nCells ["things", "size"] (defScope sAre) := ⟨rfl, rfl, rfl, by decide +kernel, rfl, by decide +kernel, by decide +kernel⟩
theorem scCells : FnScope ["things", "size"] ["things", "size"] (defScope sCells) := ⟨rfl, rfl, rfl, by decide +kernel, rfl, by decide +kernel, by decide +kernel⟩
/-- is_cell by its callers: one positional, size by its name
-/
def HasCell (P : Program) (w : World) (K : PySem.W.Frag) (mg : Str → Option Value) (base : Heap) : Prop :=
  ∃ f fd, FnOk P w K mg base CX0 3 f fd ["thing", "size"] (spCellA K) ∧ mg "is_cell" = some (.ref f) ∧ PySem.W.keepIn K (.ref f) = true ∧
    KBn K fd ["thing", "size"] 1 ["size"] (fun us ws => us ++ ws) (fun vs zs => vs ++ zs)
theorem of_ints : ∀ {xs : List V} {l m : Int}, AllOf l m xs = true → ∃ ns : List Int, xs = ns.map V.int
  | [], _, _, _ => ⟨[], rfl⟩
  | x :: xs, l, m, h => by
    have h1 : isV x l (m - 1) = true ∧ AllOf l m xs = true := by simpa [AllOf] using h
    obtain ⟨ns, e⟩ := of_ints h1.2
    cases x with
    | int i => exact ⟨i :: ns, by rw [e]; rfl⟩
    | _ => exact absurd h1.1 (by simp [isV])
theorem same_sq {H H' : Hp} {a : Addr} {xs : List V} (s : Same H H') (h : SqL K H a xs) : SqL K H' a xs := s.seq h
theorem same_sqt {H H' : Hp} {a : Addr} {xs : List V} (s : Same H H') (h : SqT K H a xs) : SqT K H' a xs := by
  rcases h with (h | ⟨o, h⟩) | h
  · exact .inl (.inl (s _ _ h))
  · exact .inl (.inr ⟨o, s _ _ h⟩)
  · exact .inr h
theorem same_tyx {H H' : Hp} {v : V} {t : Value} (s : Same H H') (h : TyX K H v t) : TyX K H' v t := by
  cases h with
  | base b =>
    refine .base ?_
    cases b with
    | non => exact .non
    | bl y => exact .bl y
    | int i => exact .int i
    | str y => exact .str y
    | flt y => exact .flt y
    | lst e => exact .lst (s _ _ e)
    | frz e => exact .frz (s _ _ e)
    | tup e => exact .tup (s _ _ e)
    | dK e => exact .dK (s _ _ e)
    | dT e => exact .dT (s _ _ e)
    | ins e cl ha hn htk hm => exact .ins (s _ _ e) cl ha hn htk hm
  | byt y => exact .byt y
  | set e => exact .set (s _ _ e)
  | kList e c => exact .kList e c
  | kTuple e c => exact .kTuple e c
  | kDict e c => exact .kDict e c
  | fTuple e => exact .fTuple (s _ _ e)
  | fDict e => exact .fDict (s _ _ e)
theorem same_typed {H H' : Hp} {v : V} (s : Same H H') (h : Typed K H v) : Typed K H' v := by
  rcases h with h | h | ⟨n, ty, r⟩
  · exact .inl h
  · exact .inr (.inl h)
  · exact .inr (.inr ⟨n, same_tyx s ty, r⟩)
theorem ok_areC {f : Addr} {fd : FuncData} (F : Fun K "are_cells" "are_cells" sAre f fd) (B : Bl mg)
    (D : HasCell P w K mg base) : FnOk P w K mg base CX0 4 f fd ["things", "size"] (spAreC K) := by
  obtain ⟨fD, fdD, GD, mD, kD, bD⟩ := D
  refine F.ok scAreC (fun vs H Q E h => ?_) (fun cdv A outer s H vs Q E hr h => ?_)
  · obtain ⟨v, n, o, rfl, _⟩ := h
    rfl
  · obtain ⟨v, n, o, rfl, desc, good, bad⟩ := h
    rcases desc_cases desc with ⟨rfl, hno⟩ | ⟨a, xs, rfl, rfl, hq | hq, hl, hty⟩
    · refine ⟨_, pss_cons (ps_if (pt_not (pt_val (pe_callB call_isiT (by rfl) B.isinstance (by decide +kernel) (pa_cons (pv 0) (pa_cons (pe_tup (pa_cons (pe_bltn (v := .ty "list") (by rfl) B.list (by decide +kernel) rfl) (pa_cons (pe_bltn (v := .ty "tuple") (by rfl) B.tuple (by decide +kernel) rfl) pa_nil))) pa_nil))))) (pss_one (ps_ret pe_bl)) pss_nil)
      (pss_cons (ps_if (pt_not (pt_val (pe_callB (cr_all rfl) (by rfl) B.all (by decide +kernel) (pa_cons (pe_lc (own := [("thing", 2)]) (g := gName 2) (te := tCallN 1 (["size"] : List Str).length (spCellA K) (fun vs zs => vs ++ zs) E0 (tCons (tVar 2) tNil) (tCons (tVar 1) tNil)) rfl scAreC.nd (pi_list (pv 0)) (blkOk_by (own := [("thing", 2)]) (N := nCells) (sc := defScope sAre) (by decide +kernel))
          (fun _ _ _ _ _ => pg_name (i := 2) scAreC.nd rfl (Or.inl rfl)) (fun _ _ _ _ _ => pts_nil) (fun _ _ _ _ _ => by exact pe_callN (n := 1) (ks := ["size"]) GD hr (by rfl) mD kD bD pass0 (pa_cons (pv 2) pa_nil) (pk_cons (pv 1) pk_nil))) pa_nil)))) (pss_one (ps_ret pe_bl)) pss_nil)
      (pss_one (ps_ret (pe_cmpR op_eq (pe_lenSetQ (by rfl) B.len (by rfl) B.set (pv 0)) (pe_callB call_len_seq (by rfl) B.len PySem.boot_len (pa_cons (pv 0) pa_nil)) (nomark _))))), ?_⟩
      obtain ⟨nm, ty, hn⟩ := id hno
      refine ⟨_, rfl, by decide, fun p hp => ?_⟩
      refine ⟨_, p, _, _, _, false, rfl, upd_same, .cons (.ty _) (.cons (.ty _) .nil), same_tyx (same_new hp) ty, kit_noseq hn, _, rfl, iteT ?_⟩
      exact bad (.inl rfl) _ (same_new hp)
    · refine ⟨_, pss_cons (ps_if (pt_not (pt_val (pe_callB call_isiT (by rfl) B.isinstance (by decide +kernel) (pa_cons (pv 0) (pa_cons (pe_tup (pa_cons (pe_bltn (v := .ty "list") (by rfl) B.list (by decide +kernel) rfl) (pa_cons (pe_bltn (v := .ty "tuple") (by rfl) B.tuple (by decide +kernel) rfl) pa_nil))) pa_nil))))) (pss_one (ps_ret pe_bl)) pss_nil)
      (pss_cons (ps_if (pt_not (pt_val (pe_callB (cr_all rfl) (by rfl) B.all (by decide +kernel) (pa_cons (pe_lc (own := [("thing", 2)]) (g := gName 2) (te := tCallN 1 (["size"] : List Str).length (spCellA K) (fun vs zs => vs ++ zs) E0 (tCons (tVar 2) tNil) (tCons (tVar 1) tNil)) rfl scAreC.nd (pi_list (pv 0)) (blkOk_by (own := [("thing", 2)]) (N := nCells) (sc := defScope sAre) (by decide +kernel))
          (fun _ _ _ _ _ => pg_name (i := 2) scAreC.nd rfl (Or.inl rfl)) (fun _ _ _ _ _ => pts_nil) (fun _ _ _ _ _ => by exact pe_callN (n := 1) (ks := ["size"]) GD hr (by rfl) mD kD bD pass0 (pa_cons (pv 2) pa_nil) (pk_cons (pv 1) pk_nil))) pa_nil)))) (pss_one (ps_ret pe_bl)) pss_nil)
      (pss_one (ps_ret (pe_cmpR op_eq (pe_lenSetQ (by rfl) B.len (by rfl) B.set (pv 0)) (pe_callB call_len_seq (by rfl) B.len PySem.boot_len (pa_cons (pv 0) pa_nil)) (nomark _))))), ?_⟩
      refine ⟨_, rfl, by decide, fun p hp => ?_⟩
      have s1 : Same H (upd H p (.tup [.ty "list", .ty "tuple"])) := same_new hp
      refine ⟨_, p, _, _, _, true, rfl, upd_same, .cons (.ty _) (.cons (.ty _) .nil), sq_ty (same_sq s1 hq), kit_seq (by simp), _, rfl, iteF ?_⟩
      refine ⟨_, rfl, a, rfl, ⟨_, same_sq s1 hq⟩, fun D hD => ?_⟩
      refine lc_list (K := K) (a := a) (xs := xs) (fun i H' => Same H H' ∧ H' D = some (.lst ((xs.take i).map fun x => .bl (isV x 0 (n - 1))))) ⟨s1.trans (same_new hD), upd_same⟩ (fun i H' _ h => same_sq h.1 hq) ?_ ?_
      · rintro i x GA2 hx ⟨s2, hD2⟩
        have xm : x ∈ xs := List.mem_of_getElem? hx
        have xi : i < xs.length := by
          rcases Nat.lt_or_ge i xs.length with z | z
          · exact z
          · rw [List.getElem?_eq_none z] at hx
            cases hx
        refine ⟨rfl, yesT ?_⟩
        refine ⟨_, rfl, _, rfl, rfl, rfl, x, n, rfl, same_typed s2 (hty x xm), _, hD2, ?_, ?_, ?_⟩
        · rw [List.length_map, List.length_take]
          (rw [sizeLine_eq]; omega)
        · intro b o e
          have hDb : H D = none := s1.free hD
          rw [upd_ne (ne_of_none e hDb)]
          exact s2 b o e
        · rw [upd_same, List.take_succ, hx, List.map_append]
          rfl
      rintro GA2 ⟨s2, hD2⟩
      rw [List.take_length] at hD2
      refine ⟨D, xs.map fun x => isV x 0 (n - 1), rfl, SqL.of (by rw [hD2, List.map_map]; rfl), _, rfl, ?_⟩
      have eall : (xs.map fun x => isV x 0 (n - 1)).all id = AllOf 0 n xs := by simp [AllOf]
      rw [eall]
      cases hall : AllOf 0 n xs with
      | false =>
        exact iteT (bad (.inr (.inl ⟨xs, rfl, hall⟩)) _ s2)
      | true =>
        obtain ⟨ns, rfl⟩ := of_ints hall
        have hlen : ns.length ≤ 2500 := by rw [List.length_map] at hl; exact hl
        refine iteF ⟨_, rfl, a, ns, rfl, .inl (same_sq s2 hq), by omega, fun c hc hiff => ?_⟩
        refine ⟨_, rfl, a, _, rfl, .inl (same_sq s2 hq), ?_⟩
        rw [List.length_map]
        refine ⟨rfl, ?_⟩
        by_cases hnd : ns.Nodup
        · have ec : c = ns.length := hiff.mpr hnd
          subst ec
          rw [decide_eq_true rfl]
          exact good ns ⟨rfl, hall, hnd⟩ _ s2
        · have ec : ¬ (V.int (c : Nat) = V.int (ns.length : Nat)) := fun z => by
            have z2 : ((c : Nat) : Int) = ((ns.length : Nat) : Int) := by injection z
            exact hnd (hiff.mp (by omega))
          rw [decide_eq_false ec]
          exact bad (.inr (.inr ⟨ns, rfl, hall, hnd⟩)) _ s2
    · refine ⟨_, pss_cons (ps_if (pt_not (pt_val (pe_callB call_isiT (by rfl) B.isinstance (by decide +kernel) (pa_cons (pv 0) (pa_cons (pe_tup (pa_cons (pe_bltn (v := .ty "list") (by rfl) B.list (by decide +kernel) rfl) (pa_cons (pe_bltn (v := .ty "tuple") (by rfl) B.tuple (by decide +kernel) rfl) pa_nil))) pa_nil))))) (pss_one (ps_ret pe_bl)) pss_nil)
      (pss_cons (ps_if (pt_not (pt_val (pe_callB (cr_all rfl) (by rfl) B.all (by decide +kernel) (pa_cons (pe_lc (own := [("thing", 2)]) (g := gName 2) (te := tCallN 1 (["size"] : List Str).length (spCellA K) (fun vs zs => vs ++ zs) E0 (tCons (tVar 2) tNil) (tCons (tVar 1) tNil)) rfl scAreC.nd (pi_tup (pv 0)) (blkOk_by (own := [("thing", 2)]) (N := nCells) (sc := defScope sAre) (by decide +kernel))
          (fun _ _ _ _ _ => pg_name (i := 2) scAreC.nd rfl (Or.inl rfl)) (fun _ _ _ _ _ => pts_nil) (fun _ _ _ _ _ => by exact pe_callN (n := 1) (ks := ["size"]) GD hr (by rfl) mD kD bD pass0 (pa_cons (pv 2) pa_nil) (pk_cons (pv 1) pk_nil))) pa_nil)))) (pss_one (ps_ret pe_bl)) pss_nil)
      (pss_one (ps_ret (pe_cmpR op_eq (pe_lenSetQ (by rfl) B.len (by rfl) B.set (pv 0)) (pe_callB call_len_seq (by rfl) B.len PySem.boot_len (pa_cons (pv 0) pa_nil)) (nomark _))))), ?_⟩
      refine ⟨_, rfl, by decide, fun p hp => ?_⟩
      have s1 : Same H (upd H p (.tup [.ty "list", .ty "tuple"])) := same_new hp
      refine ⟨_, p, _, _, _, true, rfl, upd_same, .cons (.ty _) (.cons (.ty _) .nil), sqt_ty (same_sqt s1 hq), kit_seq (by simp), _, rfl, iteF ?_⟩
      refine ⟨_, rfl, a, rfl, ⟨_, same_sqt s1 hq⟩, fun D hD => ?_⟩
      refine lc_tup (K := K) (a := a) (xs := xs) (fun i H' => Same H H' ∧ H' D = some (.lst ((xs.take i).map fun x => .bl (isV x 0 (n - 1))))) ⟨s1.trans (same_new hD), upd_same⟩ (fun i H' _ h => same_sqt h.1 hq) ?_ ?_
      · rintro i x GA2 hx ⟨s2, hD2⟩
        have xm : x ∈ xs := List.mem_of_getElem? hx
        have xi : i < xs.length := by
          rcases Nat.lt_or_ge i xs.length with z | z
          · exact z
          · rw [List.getElem?_eq_none z] at hx
            cases hx
        refine ⟨rfl, yesT ?_⟩
        refine ⟨_, rfl, _, rfl, rfl, rfl, x, n, rfl, same_typed s2 (hty x xm), _, hD2, ?_, ?_, ?_⟩
        · rw [List.length_map, List.length_take]
          (rw [sizeLine_eq]; omega)
        · intro b o e
          have hDb : H D = none := s1.free hD
          rw [upd_ne (ne_of_none e hDb)]
          exact s2 b o e
        · rw [upd_same, List.take_succ, hx, List.map_append]
          rfl
      rintro GA2 ⟨s2, hD2⟩
      rw [List.take_length] at hD2
      refine ⟨D, xs.map fun x => isV x 0 (n - 1), rfl, SqL.of (by rw [hD2, List.map_map]; rfl), _, rfl, ?_⟩
      have eall : (xs.map fun x => isV x 0 (n - 1)).all id = AllOf 0 n xs := by simp [AllOf]
      rw [eall]
      cases hall : AllOf 0 n xs with
      | false =>
        exact iteT (bad (.inr (.inl ⟨xs, rfl, hall⟩)) _ s2)
      | true =>
        obtain ⟨ns, rfl⟩ := of_ints hall
        have hlen : ns.length ≤ 2500 := by rw [List.length_map] at hl; exact hl
        refine iteF ⟨_, rfl, a, ns, rfl, .inr (same_sqt s2 hq), by omega, fun c hc hiff => ?_⟩
        refine ⟨_, rfl, a, _, rfl, .inr (same_sqt s2 hq), ?_⟩
        rw [List.length_map]
        refine ⟨rfl, ?_⟩
        by_cases hnd : ns.Nodup
        · have ec : c = ns.length := hiff.mpr hnd
          subst ec
          rw [decide_eq_true rfl]
          exact good ns ⟨rfl, hall, hnd⟩ _ s2
        · have ec : ¬ (V.int (c : Nat) = V.int (ns.length : Nat)) := fun z => by
            have z2 : ((c : Nat) : Int) = ((ns.length : Nat) : Int) := by injection z
            exact hnd (hiff.mp (by omega))
          rw [decide_eq_false ec]
          exact bad (.inr (.inr ⟨ns, rfl, hall, hnd⟩)) _ s2
def HasAre (P : Program) (w : World) (K : PySem.W.Frag) (mg : Str → Option Value) (base : Heap) : Prop :=
  ∃ f fd, FnOk P w K mg base CX0 4 f fd ["things", "size"] (spAreC K) ∧ mg "are_cells" = some (.ref f) ∧ PySem.W.keepIn K (.ref f) = true ∧ Binds K fd ["things", "size"] []
theorem desc_fine {l m : Int} {o : Option (List V)} : (∃ ns, Fine l m o ns) ∨ Foul l m o := by
  cases o with
  | none => exact .inr (.inl rfl)
  | some xs =>
    cases hall : AllOf l m xs with
    | false => exact .inr (.inr (.inl ⟨xs, rfl, hall⟩))
    | true =>
      obtain ⟨ns, rfl⟩ := of_ints hall
      by_cases hnd : ns.Nodup
      · exact .inl ⟨ns, rfl, hall, hnd⟩
      · exact .inr (.inr (.inr ⟨ns, rfl, hall, hnd⟩))
theorem ok_cells {f C : Addr} {fd : FuncData} (F : FunD K "cell_tuple" "cell_tuple" (defArgs sCells) (defBody sCells) (defScope sCells) [] [("size", .int 40)] f fd) (B : Bl mg) (T : CellsC K mg C)
    (D : HasAre P w K mg base) (I : HasCIni P w K mg base C) : FnOk P w K mg base (L2.CX P w) 5 f fd ["things", "size"] (spCells K C) := by
  obtain ⟨fD, fdD, GD, mD, kD, bD⟩ := D
  obtain ⟨fI, fdI, GI, iI, tI, bI⟩ := I
  refine F.ok scCells (fun vs H Q E h => ?_) (fun cdv A outer s H vs Q E hr h => ?_)
  · obtain ⟨v, n, o, rfl, _⟩ := h
    rfl
  · obtain ⟨v, n, o, rfl, desc, good, bad⟩ := h
    have r2 : Room 3 _ := hr.mono (by decide)
    rcases desc_cases desc with ⟨rfl, hno⟩ | ⟨a, xs, rfl, rfl, hq | hq, hl, hty⟩
    · refine ⟨_, pss_cons (ps_if (pt_not (pt_val (pe_call GD hr (by rfl) mD kD bD .nil pass0 (pa_cons (pv 0) (pa_cons (pv 1) pa_nil))))) (pss_one (ps_raise rfl (takes_of rfl rfl rfl rfl) (pmk_oex T.ox iI tI GI r2 bI .nil pass0 (by rfl) T.gC (pa_cons (pv 0) pa_nil)))) pss_nil)
      (pss_one (ps_ret (pe_callTy call_tuple_of (by rfl) B.tuple (by decide +kernel) (pa_cons (pe_callB cr_sortedI (by rfl) B.sorted (by decide +kernel) (pa_cons (pv 0) pa_nil)) pa_nil)))), ?_⟩
      refine ⟨_, rfl, _, rfl, v, n, none, rfl, hno, (fun ns fi => nomatch fi.1), fun fo GA2 s2 => ⟨_, rfl, iteT ?_⟩⟩
      refine ⟨_, rfl, (by show 1 ≤ 1000; decide), made_ini fun d H' hd sm e => ?_⟩
      exact bad fo d H' (s2.free hd) (s2.trans sm) e
    · refine ⟨_, pss_cons (ps_if (pt_not (pt_val (pe_call GD hr (by rfl) mD kD bD .nil pass0 (pa_cons (pv 0) (pa_cons (pv 1) pa_nil))))) (pss_one (ps_raise rfl (takes_of rfl rfl rfl rfl) (pmk_oex T.ox iI tI GI r2 bI .nil pass0 (by rfl) T.gC (pa_cons (pv 0) pa_nil)))) pss_nil)
      (pss_one (ps_ret (pe_callTy call_tuple_of (by rfl) B.tuple (by decide +kernel) (pa_cons (pe_callB cr_sortedI (by rfl) B.sorted (by decide +kernel) (pa_cons (pv 0) pa_nil)) pa_nil)))), ?_⟩
      refine ⟨_, rfl, _, rfl, .ref a, n, some xs, rfl, desc, fun ns fi GA2 s2 => ⟨_, rfl, iteF ?_⟩, fun fo GA2 s2 => ⟨_, rfl, iteT ?_⟩⟩
      · have ex : xs = ns.map V.int := Option.some.inj fi.1
        subst ex
        refine ⟨_, rfl, a, ns, rfl, same_sq s2 hq, fun ms p2 pm pw hp2 => ?_⟩
        refine ⟨p2, _, rfl, .inl ⟨SqL.of upd_same, fun l hl2 => ?_⟩⟩
        have hl3 : H l = none := s2.free ((same_new hp2).free hl2)
        exact good ns fi l ms _ hl3 ((s2.trans (same_new hp2)).trans (same_new hl2)) pm pw upd_same
      · refine ⟨_, rfl, (by show 1 ≤ 1000; decide), made_ini fun d H' hd sm e => ?_⟩
        exact bad fo d H' (s2.free hd) (s2.trans sm) e
    · refine ⟨_, pss_cons (ps_if (pt_not (pt_val (pe_call GD hr (by rfl) mD kD bD .nil pass0 (pa_cons (pv 0) (pa_cons (pv 1) pa_nil))))) (pss_one (ps_raise rfl (takes_of rfl rfl rfl rfl) (pmk_oex T.ox iI tI GI r2 bI .nil pass0 (by rfl) T.gC (pa_cons (pv 0) pa_nil)))) pss_nil)
      (pss_one (ps_ret (pe_callTy call_tuple_of (by rfl) B.tuple (by decide +kernel) (pa_cons (pe_callB cr_sortedTup (by rfl) B.sorted (by decide +kernel) (pa_cons (pv 0) pa_nil)) pa_nil)))), ?_⟩
      refine ⟨_, rfl, _, rfl, .ref a, n, some xs, rfl, desc, fun ns fi GA2 s2 => ⟨_, rfl, iteF ?_⟩, fun fo GA2 s2 => ⟨_, rfl, iteT ?_⟩⟩
      · have ex : xs = ns.map V.int := Option.some.inj fi.1
        subst ex
        refine ⟨_, rfl, a, ns, rfl, same_sqt s2 hq, fun ms p2 pm pw hp2 => ?_⟩
        refine ⟨p2, _, rfl, .inl ⟨SqL.of upd_same, fun l hl2 => ?_⟩⟩
        have hl3 : H l = none := s2.free ((same_new hp2).free hl2)
        exact good ns fi l ms _ hl3 ((s2.trans (same_new hp2)).trans (same_new hl2)) pm pw upd_same
      · refine ⟨_, rfl, (by show 1 ≤ 1000; decide), made_ini fun d H' hd sm e => ?_⟩
        exact bad fo d H' (s2.free hd) (s2.trans sm) e
end
end X
end K92
namespace Par
open PySem PySem.Spec PyProof.Rows L2
/-- the text of a number -/
def numT (k : Int) : Str := Str.ofString (toString k)
theorem mem_joinL {S : List Nat} {c : Nat} : ∀ {ps : List (List Nat)}, c ∈ TL.joinL S ps → c ∈ S ∨ ∃ p ∈ ps, c ∈ p
  | [], h => by cases h
  | [p], h => .inr ⟨p, List.mem_cons_self .., h⟩
  | p :: q :: r, h => by
    have h2 : c ∈ p ++ (S ++ TL.joinL S (q :: r)) := h
    rcases List.mem_append.mp h2 with h3 | h3
    · exact .inr ⟨p, List.mem_cons_self .., h3⟩
    · rcases List.mem_append.mp h3 with h4 | h4
      · exact .inl h4
      · rcases mem_joinL h4 with h4 | ⟨u, hu, hc⟩
        · exact .inl h4
        · exact .inr ⟨u, List.mem_cons_of_mem _ hu, hc⟩
theorem tl_numT {k : Int} (h : 0 ≤ k) : TL.tl (numT k) = TL.numL k.toNat := by
  have e := TL.tl_num k.toNat
  rwa [Int.toNat_of_nonneg h] at e
theorem numT_free {k : Int} {c : Nat} (h : 0 ≤ k) (z : c < 48 ∨ 57 < c) : ¬ c ∈ TL.tl (numT k) := by
  rw [tl_numT h]
  exact TL.numL_free z
theorem tl_comma : TL.tl (Str.ofString ",") = [44] := by decide +kernel
theorem tl_gt : TL.tl (Str.ofString ">") = [62] := by decide +kernel
theorem comma_256 : ((Str.ofString ",").cps.all fun x => decide (x < 256)) = true := by decide +kernel
theorem gt_256 : ((Str.ofString ">").cps.all fun x => decide (x < 256)) = true := by decide +kernel
/-- the text of numbers, cut at its commas -/
theorem split_nums {ns : List Int} (h : ∀ k ∈ ns, 0 ≤ k) (ne : ns ≠ []) : Txt.split (Txt.join "," (ns.map numT)) "," = ns.map numT := by
  refine TL.split_join (s := 44) (S := []) tl_comma comma_256 (fun z => ne (List.map_eq_nil_iff.mp z)) ?_
  intro p hp
  obtain ⟨k, hk, rfl⟩ := List.mem_map.mp hp
  exact numT_free (h k hk) (.inl (by decide))
theorem nums_free {ns : List Int} {c : Nat} (h : ∀ k ∈ ns, 0 ≤ k) (z : c < 48 ∨ 57 < c) (n : c ≠ 44) : ¬ c ∈ TL.tl (Txt.join "," (ns.map numT)) := by
  intro m
  rw [TL.join_eq, TL.tl_join, tl_comma] at m
  rcases mem_joinL m with m | ⟨p, hp, m⟩
  · simp at m
    exact n m
  · obtain ⟨q, hq, rfl⟩ := List.mem_map.mp hp
    obtain ⟨k, hk, rfl⟩ := List.mem_map.mp hq
    exact numT_free (h k hk) z m
theorem split_two {a b : Str} (ha : ¬ 62 ∈ TL.tl a) (hb : ¬ 62 ∈ TL.tl b) : Txt.split (a ++ ">" ++ b) ">" = [a, b] := by
  have e : a ++ ">" ++ b = Txt.join ">" [a, b] := by
    rw [TL.join_eq]
    rfl
  rw [e]
  refine TL.split_join (s := 62) (S := []) tl_gt gt_256 (by simp) ?_
  intro p hp
  simp only [List.mem_cons, List.not_mem_nil, or_false] at hp
  rcases hp with rfl | rfl
  · exact ha
  · exact hb
theorem nums_ne_dash {ns : List Int} (h : ∀ k ∈ ns, 0 ≤ k) : Txt.join "," (ns.map numT) ≠ Str.ofString "-" := by
  intro e
  have : ¬ 45 ∈ TL.tl (Txt.join "," (ns.map numT)) := nums_free h (.inl (by decide)) (by decide)
  rw [e] at this
  exact this (by decide +kernel)
theorem int_numT {k : Int} (h : 0 ≤ k) (l : k < 10 ^ 30) : intText? (numT k) = some k := by
  have e := TL.int_num (n := k.toNat) (Nat.le_trans (TL.numL_len (k := 30) (by decide) (by omega)) (by decide))
  rwa [Int.toNat_of_nonneg h] at e
/-- what number_in asks of the signs of a number -/
theorem numT_all : ∀ n : Nat, n < 40 → 1 ≤ (numT (n : Nat)).length ∧ (numT (n : Nat)).length ≤ 2 ∧ ((numT (n : Nat)).cps.toList.all fun c => decide (c ∈ (Str.ofString "0123456789").cps.toList)) = true ∧
    ((numT (n : Nat)).cps.toList.head? = some 48 → numT (n : Nat) = Str.ofString "0") := by decide +kernel
end Par
namespace Par
open PySem PySem.Spec PyProof.Rows L2
theorem meets_enumS (z : Str) (t : Tok) :
    Meets (Builtin.«enumerate.__new__» ⟨[.type "enumerate", .str z t], []⟩) (fun _ R s => (z.cps.all fun x => decide (x < 128)) = true ∧
      R (.ok (.ret (.ref (s.heap.push { cls := .type "str_ascii_iterator", data := .fields #[.str z t, .int 0 0] }).objs.size)))
        { s with heap := (s.heap.push { cls := .type "str_ascii_iterator", data := .fields #[.str z t, .int 0 0] }).push { cls := .type "enumerate", data := .fields #[.none, .bool false, .ref s.heap.objs.size, rawInt 0, .none, .none] } }) := by
  refine .of_wp ?_
  rintro prog w A R ⟨hp, g, d, tk, os⟩ ⟨h1, h⟩
  have sub1 := sub_enumerate
  have it1 : ∀ {B : Around} {E : Value → Shared → Prop} {Q : Value → Shared → Prop},
      Q (.ref hp.objs.size) ⟨hp.push { cls := .type "str_ascii_iterator", data := .fields #[.str z t, .int 0 0] }, g, d, tk, os⟩ → wpAny (model prog w) B (pyIter (.str z t)) Q E ⟨hp, g, d, tk, os⟩ :=
    fun q => wpAny_pyIter_ascii h1 q
  wp_walk using it1
  refine wpAny_stack_any (fun st => wpAny_pure ?_)
  split
  · rename_i c _ _ _ _ _
    cases (c == Value.type "enumerate") <;> (wp_walk using it1; exact ⟨_, rfl, h⟩)
  · wp_walk using it1
    exact ⟨_, rfl, h⟩
section
variable {prog : Program} {w : World} {A : Around} {E : Value → Shared → Prop} {s : Shared}
theorem call_enumS {z : Str} {t : Tok} {Q : Value → Shared → Prop} (hz0 : (z.cps.all fun x => decide (x < 128)) = true)
    (h : ∀ h', IsEnum h' (s.heap.objs.size + 1) s.heap.objs.size 0 .none → h'.IsStrIter s.heap.objs.size "str_ascii_iterator" z t 0 → (∀ b o, s.heap.get? b = some o → h'.get? b = some o) →
      Q (.ref (s.heap.objs.size + 1)) { s with heap := h' }) : wpAny (model prog w) A (call (.type "enumerate") [.str z t]) Q E s := by
  refine callType_new F.called_enumerate (by decide) (F.typeCall_enumerate_1 _) (F.newCall_enumerate_1 _) (fun obj => F.args_object_init_2 obj _) F.entry_enumerate_new (meets_enumS z t) ⟨hz0, ?_⟩
  generalize eg : s.heap.push { cls := .type "str_ascii_iterator", data := .fields #[.str z t, .int 0 0] } = g
  have hz : g.objs.size = s.heap.objs.size + 1 := by rw [← eg]; exact Heap.size_push ..
  have hi : g.get? s.heap.objs.size = some { cls := .type "str_ascii_iterator", data := .fields #[.str z t, .int 0 0] } := by rw [← eg]; exact Heap.get?_push_size _ rfl
  have hk : ∀ b o, s.heap.get? b = some o → g.get? b = some o := by rw [← eg]; exact fun b o x => Heap.get?_push_of_some _ x
  show _ ∧ _
  have he := Heap.get?_push_size g (o := { cls := .type "enumerate", data := .fields #[.none, .bool false, .ref s.heap.objs.size, rawInt 0, .none, .none] }) rfl
  rw [hz] at he ⊢
  exact ⟨⟨_, he, rfl⟩, h _ he ⟨_, Heap.get?_push_of_some _ hi, rfl, rfl⟩ fun b o x => Heap.get?_push_of_some _ (hk b o x)⟩
end
/-- the signs of a text, each in a new pair -/
def ItEnS (z : Str) : It where
  go := fun i _ => i < z.cps.size
  yld := fun i H v H' => ∃ T c, v = .ref T ∧ H T = none ∧ H' = upd H T (.tup [.int (i : Nat), .str ⟨#[c]⟩]) ∧ z.cps[i]? = some c
  stop := fun i _ => z.cps.size ≤ i
theorem turn_enumS {P : Program} {w : World} {K : PySem.W.Frag} {elts : List Expr} {kk : Nat} {tpos : Pos} (z : Str) (t : Tok) (e it : Addr) :
    Turn P w K (.Tuple elts kk tpos) (ItEnS z) [e, it] e (fun i h => (∃ old, IsEnum h e it ((i : Nat) : Int) old) ∧ h.IsStrIter it "str_ascii_iterator" z t i ∧ e ≠ it) where
  mem := by simp
  obj := by
    rintro i h ⟨⟨old, he⟩, ⟨o, ho, hc, hd⟩, _⟩ b hb
    rcases (show b = e ∨ b = it by simpa using hb) with rfl | rfl
    · exact ⟨_, he, fun v q => nomatch q⟩
    · exact ⟨o, ho, fun v q => by rw [hd] at q; cases q⟩
  keep := by
    rintro i h h' ⟨⟨old, he⟩, ⟨o, ho, r⟩, ne⟩ k
    exact ⟨⟨old, k e (by simp) _ he⟩, ⟨o, k it (by simp) o ho, r⟩, ne⟩
  item := by
    intro X hP hw hK hc i pins s σ H E I hf st hg
    subst hP hw hK
    obtain ⟨⟨old, he⟩, hit, hne⟩ := st
    have hel : e < s.heap.objs.size := Heap.lt_size he
    have hil : it < s.heap.objs.size := let ⟨_, q, _⟩ := hit; Heap.lt_size q
    have hlt : i < z.cps.size := hg
    have hh : X.A.in1.handled = none := I.ok.hd hc
    refine wpAny_pyNext_enum_itemD (Draws.strAscii hh it z t) he hit hlt hne (by simp [hne]) ?_
    intro y h1 tk hy ho hit1 hT hsz hk
    obtain ⟨c, u, hcu, rfl⟩ := hy
    refine ⟨_, rfl, wpAny_letOwnedTupleGo_enum (s := { s with heap := h1, toks := tk + 1 }) ho ?_⟩
    intro h2 he2 sb
    have hT2 : h2.get? s.heap.objs.size = some { cls := .type "tuple", data := .seq #[.int i tk, .str ⟨#[c]⟩ u] } := (sb.2 _ (Nat.ne_of_gt hel)).trans hT
    have new : ObjOk X.prog X.w (upd H s.heap.objs.size (.tup [.int (i : Nat), .str ⟨#[c]⟩])) h2 s.heap.objs.size (.tup [.int (i : Nat), .str ⟨#[c]⟩]) :=
      ⟨by show 2 ≤ sizeLine; decide, [.int i tk, .str ⟨#[c]⟩ u], .cons ⟨_, rfl⟩ (.cons ⟨_, rfl⟩ .nil), ⟨_, hT2, rfl, _, rfl⟩⟩
    have I1 : L2.Inv X pins σ (upd H s.heap.objs.size (.tup [.int (i : Nat), .str ⟨#[c]⟩])) { s with heap := h2, toks := tk + 1 } := by
      refine I.turnedNew (ch := [e, it]) ?_ hf (Nat.le_refl _) new
      intro b ob hb q
      have b1 : b ≠ e := fun z => hb (by simp [z])
      exact (sb.2 b b1).trans (hk b ob b1 (fun z => hb (by simp [z])) q)
    refine ⟨.ref s.heap.objs.size, _, I1, rfl, ⟨_, c, rfl, I.hok.fresh (Nat.le_refl _), rfl, hcu⟩, ⟨⟨.str ⟨#[c]⟩ u, ?_⟩, ?_, hne⟩, ?_⟩
    · have e1 : ((i + 1 : Nat) : Int) = (i : Int) + 1 := by omega
      rw [e1]
      exact he2
    · obtain ⟨o, q, r⟩ := hit1
      exact ⟨o, (sb.2 it (Ne.symm hne)).trans q, r⟩
    · intro b hb
      have hb2 : b < s.heap.objs.size := by
        rcases (show b = e ∨ b = it by simpa using hb) with rfl | rfl
        · exact hel
        · exact hil
      rw [upd_ne (Nat.ne_of_lt hb2)]
      exact (hf b hb).1
  done := by
    intro X hP hw hK hc i pins s σ H E I hf st hg
    subst hP hw hK
    obtain ⟨⟨old, he⟩, hit, hne⟩ := st
    have hx : z.cps.size ≤ i := hg
    obtain ⟨f0, f1, f2, f3, f4, f5⟩ := hf it (by simp)
    have hh : X.A.in1.handled = none := I.ok.hd hc
    refine wpAny_bind (wpAny_attempt (wpAny_callSpecial?_slot (s := s) (name := Str.ofString "__next__") ⟨_, he, rfl⟩ F.slot_enumerate_next
      (wpAny_call_entry (s := s) F.slot_enumerate_next ⟨_, he, rfl⟩ F.entry_enumerate_next ?_ (F.args_enumerate_next_1 _))))
    show wpAny _ _ (field (Value.ref e) 2 >>= _) _ _ s
    refine wpAny_bind (wpAny_field (s := s) he rfl (x := .ref it) rfl ?_)
    refine wpAny_bind (wpAny_nextOf_ascii_end hh hit (by simp; omega) ?_)
    rintro h1 z ex ⟨o, ho, hcl⟩
    refine wpAny_bind (wpAny_isInstance (T := "StopIteration") (b := true) ⟨o, ho, hcl⟩ isSubtype_stop ?_)
    exact wpAny_pure ⟨rfl, I.turned (t' := s.toks) (fun b o hb q => ex b o hb q) f0 f1 f3 f4 f5⟩
  self := by
    rintro A i s Q E ⟨⟨_, he⟩, _⟩ h
    exact wpAny_pyIter_enum he h
def iEnumS (ta : TA) : TI := fun σ H R => ta σ H fun vs H1 => ∃ z : Str, vs = [.str z] ∧ (z.cps.all fun x => decide (x < 128)) = true ∧ R (ItEnS z) H1
/-- for i, x in enumerate(z), z a text of plain signs -/
theorem pi_enumS {X : Cx} {e : Expr} {ta : TA} {p pos tpos : Pos} {elts : List Expr} {kk : Nat} (hg : Gl X "enumerate") (hm : X.mg "enumerate" = none) (ha : PA X [e] ta)
    (hs : starEach [e] X.env = [(false, eval e X.env)] := by rfl) : PI X (.Tuple elts kk tpos) (.Call (.Name "enumerate" p) [e] [] pos) (iEnumS ta) := by
  constructor
  intro pins s σ H R I h
  refine Call_ (ld_blt I hg hm boot_enumerate (PyProof.Rows.callWith_type1 (thn (ha.run pos pins s σ H _ I h) ?_) hs rfl))
  rintro us s1 ⟨vs, H1, I1, r1, z, rfl, hz, q⟩
  cases r1 with
  | cons r rr =>
    cases rr
    obtain ⟨t, rfl⟩ := r
    refine call_enumS hz ?_
    intro h1 he hit hk
    refine wpAny_pyIter_enum he ?_
    have I2 : L2.Inv X pins σ H1 { s1 with heap := h1 } := I1.kept (t' := s1.toks) hk
    refine ⟨s1.heap.objs.size + 1, [s1.heap.objs.size + 1, s1.heap.objs.size], _, _, H1, rfl, I2, turn_enumS z t (s1.heap.objs.size + 1) s1.heap.objs.size,
      ⟨⟨.none, he⟩, hit, Nat.succ_ne_self _⟩, ?_, q⟩
    intro b hb
    have hle : s1.heap.objs.size ≤ b := by
      rcases (show b = s1.heap.objs.size + 1 ∨ b = s1.heap.objs.size by simpa using hb) with z | z
      · rw [z]
        exact Nat.le_succ _
      · rw [z]
        exact Nat.le_refl _
    exact I1.fpOk hle (I1.hok.fresh hle)
theorem walk_enumS {z : Str} :
    Walk (ItEnS z) z.cps.size (fun _ => True) (fun i H v H' => ∃ T c, v = .ref T ∧ H T = none ∧ H' = upd H T (.tup [.int (i : Nat), .str ⟨#[c]⟩]) ∧ z.cps[i]? = some c) where
  goes := fun i H hi h => hi
  stops := fun H h => Nat.le_refl _
  yields := by
    rintro i H v H' hi h ⟨T, c, rfl, hn, rfl, hx⟩
    exact ⟨T, c, rfl, hn, rfl, hx⟩
end Par
namespace Par
open PySem PySem.Spec PyProof.Rows L2
/-! ### x[::-1] of a text: some text of its signs that is no longer -/
def tRevS (te : TE) : TE := fun σ H Q => te σ H fun x H1 => ∃ z : Str, x = .str z ∧ z.length ≤ sizeLine ∧ ∀ y : Str, y.length ≤ z.length → (∀ c ∈ y.cps.toList, c ∈ z.cps.toList) → Q (.str y) H1
section
variable {X : Cx}
theorem rev_len (n : Nat) : (Builtin.Str.strSliceIndices none none (-1) n).length ≤ n := by
  unfold Builtin.Str.strSliceIndices sliceRange
  rw [List.length_map, List.length_range]
  simp
  split <;> omega
theorem pe_revS {e : Expr} {te : TE} {k : Nat} {p1 p2 p3 pos : Pos} (he : PE X e te) : PE X (.Subscript e (.Slice none none (some (.UnaryOp .USub (.Constant (.int 1) k p1) p2)) p3) pos) (tRevS te) := by
  constructor
  intro pins s σ H Q I h
  refine Subscript_ (thn (he.run pins s σ H (fun x H1 => ∃ z : Str, x = .str z ∧ z.length ≤ sizeLine ∧ ∀ y : Str, y.length ≤ z.length → (∀ c ∈ y.cps.toList, c ∈ z.cps.toList) → Q (.str y) H1) I h) ?_)
  rintro u s1 ⟨v, H1, I1, r, z, rfl, lz, q⟩
  obtain ⟨tz, rfl⟩ := r
  refine wpAny_Slice (thn ((po_none (X := X)).run pins s1 σ H1 (fun o H2 => o = none ∧ H2 = H1) I1 ⟨rfl, rfl⟩) ?_)
  rintro l s2 ⟨o, H2, I2, pl, rfl, rfl⟩
  refine thn ((po_none (X := X)).run pins s2 σ H2 (fun o H3 => o = none ∧ H3 = H2) I2 ⟨rfl, rfl⟩) ?_
  rintro u s3 ⟨o, H3, I3, pu, rfl, rfl⟩
  refine thn ((po_some (pe_un un_neg pe_int)).run pins s3 σ H3 (fun o H4 => o = some (-1) ∧ H4 = H3) I3 ⟨1, rfl, ⟨_, rfl, rfl, rfl⟩⟩) ?_
  rintro st s4 ⟨o, H4, I4, ps, rfl, rfl⟩
  cases pl
  cases pu
  cases ps with
  | int _ tk =>
  have I5 := I4.kept (h' := s4.heap.push { cls := .type "slice", data := .fields #[Value.none, Value.none, Value.int (-1) tk] }) (t' := s4.toks) fun b u e => Heap.get?_push_of_some _ e
  refine tail_any (typeIs_str _ _ _) F.slot_str_getitem.lookup ?_ rfl
  refine wpAny_getItem_str_slice (l := none) (u := none) (st := some (-1, tk)) (Heap.IsSliceOf.new _ _ _ _) rfl ?_
  unfold sliceMade
  split
  · exact ⟨.str z, _, I5, ⟨_, rfl⟩, q z (Nat.le_refl _) (fun _ h => h)⟩
  · have I6 := I5.tok (s4.toks + 1)
    have ll : (⟨(List.filterMap (fun x => z.cps[x]?) (slicePicked z none none (some (-1, tk)))).toArray⟩ : Str).length ≤ z.length := by
      show ((List.filterMap (fun x => z.cps[x]?) (Builtin.Str.strSliceIndices none none (-1) z.length)).toArray).size ≤ z.length
      rw [List.size_toArray]
      exact Nat.le_trans (List.length_filterMap_le _ _) (rev_len _)
    unfold Made.post
    exact ⟨Nat.le_trans ll lz, .str _, _, I6, ⟨_, rfl⟩, q _ ll fun c hc => by
      have hc : c ∈ (List.filterMap (fun x => z.cps[x]?) (slicePicked z none none (some (-1, tk)))).toArray.toList := hc
      rw [List.toList_toArray, List.mem_filterMap] at hc
      obtain ⟨i, _, e⟩ := hc
      have e2 : z.cps.toList[i]? = some c := by simpa using e
      exact List.mem_of_getElem? e2⟩
end
/-! ### words of digits -/
def digS : List Nat := (Str.ofString "0123456789").cps.toList
theorem digS_eq : digS = [48, 49, 50, 51, 52, 53, 54, 55, 56, 57] := by decide +kernel
theorem dig_mem (c : Nat) : c ∈ digS ↔ 48 ≤ c ∧ c ≤ 57 := by
  rw [digS_eq]
  simp
  omega
theorem zero_cps : (Str.ofString "0").cps.toList = [48] := by decide +kernel
theorem str_ext {y z : Str} (h : y.cps.toList = z.cps.toList) : y = z := by
  cases y
  cases z
  exact congrArg _ (Array.toList_inj.mp h)
/-- what a word of digits without zeros ahead is worth -/
def wv (w : Str) : Int := ((NumText.digitsVal w.cps.toList : Nat) : Int)
def allD (w : Str) : Bool := w.cps.toList.all fun c => decide (c ∈ digS)
def zeroB (w : Str) : Bool := decide (w.cps.toList.head? = some 48) && !decide (w = Str.ofString "0")
/-- a number in at most thirty digits, without zeros ahead -/
def numB (w : Str) : Bool := decide (1 ≤ w.length) && decide (w.length ≤ 30) && allD w && !zeroB w
theorem len_cps (w : Str) : w.length = w.cps.toList.length := by
  show w.cps.size = _
  simp
theorem allD_all {w : Str} (h : allD w = true) : NumText.AllDigits w.cps.toList := fun c hc => by
  have := List.all_eq_true.mp h c hc
  exact (dig_mem c).mp (of_decide_eq_true this)
theorem wv_nonneg (w : Str) : 0 ≤ wv w := Int.natCast_nonneg _
theorem int_wv {w : Str} (h : allD w = true) (n1 : 1 ≤ w.length) (n30 : w.length ≤ 640) : intText? w = some (wv w) := by
  refine intText_digits (allD_all h) (fun z => ?_) (by omega)
  rw [len_cps, z] at n1
  exact absurd n1 (by decide)
theorem foldl_up : ∀ (l : List Nat) (a : Nat), a ≤ l.foldl (fun acc c => acc * 10 + (c - 48)) a
  | [], _ => Nat.le_refl _
  | c :: l, a => Nat.le_trans (by omega) (foldl_up l (a * 10 + (c - 48)))
/-- three digits and more make a hundred -/
theorem wv_big {w : Str} (h : numB w = true) (l : 3 ≤ w.length) : 100 ≤ wv w := by
  unfold numB at h
  rw [Bool.and_eq_true, Bool.and_eq_true, Bool.and_eq_true] at h
  obtain ⟨⟨⟨_, _⟩, hd⟩, hz⟩ := h
  have ad := allD_all hd
  have nz : w ≠ Str.ofString "0" := fun z => by
    rw [z, len_cps, zero_cps] at l
    exact absurd l (by decide)
  rw [len_cps] at l
  unfold wv NumText.digitsVal
  unfold zeroB at hz
  rw [decide_eq_false nz] at hz
  match e : w.cps.toList, l with
  | a :: b :: c :: r, _ =>
    rw [e] at hz ad
    have a49 : 49 ≤ a := by
      have := ad a (List.mem_cons_self ..)
      by_cases z : a = 48
      · rw [z] at hz
        simp at hz
      · omega
    have up := foldl_up r (((0 * 10 + (a - 48)) * 10 + (b - 48)) * 10 + (c - 48))
    show (100 : Int) ≤ ((r.foldl (fun acc c => acc * 10 + (c - 48)) (((0 * 10 + (a - 48)) * 10 + (b - 48)) * 10 + (c - 48)) : Nat) : Int)
    omega
/-- written again, it is the word -/
theorem numT_wv {w : Str} (h : numB w = true) : numT (wv w) = w := by
  unfold numB at h
  rw [Bool.and_eq_true, Bool.and_eq_true, Bool.and_eq_true] at h
  obtain ⟨⟨⟨h1, _⟩, hd⟩, hz⟩ := h
  have h1 := of_decide_eq_true h1
  have ad := allD_all hd
  refine str_ext ?_
  show TL.tl (numT (wv w)) = _
  rw [tl_numT (wv_nonneg w)]
  show TL.numL (((NumText.digitsVal w.cps.toList : Nat) : Int).toNat) = _
  rw [Int.toNat_natCast]
  have l1 : w.cps.toList.length = (w.cps.toList.length - 1) + 1 := by
    rw [len_cps] at h1
    omega
  have key := NumText.toDigits_digitsVal (w.cps.toList.length - 1) w.cps.toList l1 ad (by
    by_cases z : w.cps.toList.length = 1
    · exact .inl (by omega)
    · refine .inr ?_
      have nz : w ≠ Str.ofString "0" := fun y => by
        rw [y, zero_cps] at z
        exact z rfl
      unfold zeroB at hz
      rw [decide_eq_false nz] at hz
      match e : w.cps.toList, l1 with
      | a :: r, _ =>
        rw [e] at hz ad
        refine ⟨a, r, rfl, ?_⟩
        have := ad a (List.mem_cons_self ..)
        by_cases z : a = 48
        · rw [z] at hz
          simp at hz
        · omega)
  unfold TL.numL
  rw [key, List.map_map]
  refine (List.map_congr_left fun c hc => ?_).trans (List.map_id _)
  have := ad c hc
  have cc : c = 48 ∨ c = 49 ∨ c = 50 ∨ c = 51 ∨ c = 52 ∨ c = 53 ∨ c = 54 ∨ c = 55 ∨ c = 56 ∨ c = 57 := by omega
  rcases cc with rfl | rfl | rfl | rfl | rfl | rfl | rfl | rfl | rfl | rfl <;> rfl
/-! ### the text of cells -/
/-- going up from a -/
def ascB (a : Int) : List Int → Bool
  | [] => true
  | x :: xs => decide (a < x) && ascB x xs
/-- the words of cells, in order -/
def okWs (a : Int) : List Str → Bool
  | [] => true
  | x :: ws => numB x && decide (wv x < 40) && decide (a < wv x) && okWs (wv x) ws
def cellsOf (z : Str) : Option (List Int) := if z = Str.ofString "-" then some [] else if okWs (-1) (Txt.split z ",") = true then some ((Txt.split z ",").map wv) else none
theorem okWs_nums : ∀ {a : Int} {ws : List Str}, okWs a ws = true → ws.all numB = true
  | _, [], _ => rfl
  | a, x :: ws, h => by
    unfold okWs at h
    rw [Bool.and_eq_true, Bool.and_eq_true, Bool.and_eq_true] at h
    rw [List.all_cons, h.1.1.1, okWs_nums h.2]
    rfl
theorem okWs_vals : ∀ {a : Int} {ws : List Str}, okWs a ws = true → (∀ k ∈ ws.map wv, a < k ∧ k < 40) ∧ (ws.map wv).Pairwise (· < ·)
  | _, [], _ => ⟨fun k hk => (nomatch hk), List.Pairwise.nil⟩
  | a, x :: ws, h => by
    unfold okWs at h
    rw [Bool.and_eq_true, Bool.and_eq_true, Bool.and_eq_true] at h
    obtain ⟨⟨⟨_, h2⟩, h3⟩, h4⟩ := h
    have h2 := of_decide_eq_true h2
    have h3 := of_decide_eq_true h3
    obtain ⟨r1, r2⟩ := okWs_vals h4
    refine ⟨fun k hk => ?_, List.pairwise_cons.mpr ⟨fun k hk => (r1 k hk).1, r2⟩⟩
    rcases List.mem_cons.mp hk with rfl | hk
    · exact ⟨h3, h2⟩
    · have := r1 k hk
      exact ⟨by omega, this.2⟩
theorem okWs_of : ∀ {a : Int} {ws : List Str}, ws.all numB = true → (∀ k ∈ ws.map wv, a < k ∧ k < 40) → (ws.map wv).Pairwise (· < ·) → okWs a ws = true
  | _, [], _, _, _ => rfl
  | a, x :: ws, h1, h2, h3 => by
    rw [List.all_cons, Bool.and_eq_true] at h1
    rw [List.map_cons, List.pairwise_cons] at h3
    have hx := h2 (wv x) (List.mem_cons_self ..)
    unfold okWs
    rw [h1.1, decide_eq_true hx.2, decide_eq_true hx.1, okWs_of h1.2 (fun k hk => ⟨h3.1 k hk, (h2 k (List.mem_cons_of_mem _ hk)).2⟩) h3.2]
    rfl
theorem join_split_ (z y : Str) : Txt.join y (Txt.split z y) = z := by
  have := StrLaws.join_split z y
  rwa [← StrLaws.glued_eq_join] at this
theorem split_ne (z : Str) : Txt.split z "," ≠ [] := fun h => by
  have js := join_split_ z ","
  rw [h] at js
  have e : z = Str.ofString "" := js.symm.trans (by decide +kernel)
  rw [e] at h
  exact absurd h (by decide +kernel)
/-- the cells of a text that is one -/
theorem cellsOf_ok {z : Str} {ns : List Int} (h : cellsOf z = some ns) : (∀ k ∈ ns, 0 ≤ k ∧ k < 40) ∧ ns.Pairwise (· < ·) ∧ (ns = [] → z = Str.ofString "-") ∧ (ns ≠ [] → z = Txt.join "," (ns.map numT)) := by
  unfold cellsOf at h
  by_cases y : z = Str.ofString "-"
  · rw [if_pos y] at h
    obtain rfl : [] = ns := Option.some.inj h
    exact ⟨fun k hk => (nomatch hk), List.Pairwise.nil, fun _ => y, fun q => absurd rfl q⟩
  · rw [if_neg y] at h
    by_cases o : okWs (-1) (Txt.split z ",") = true
    · rw [if_pos o] at h
      obtain rfl : (Txt.split z ",").map wv = ns := Option.some.inj h
      obtain ⟨r1, r2⟩ := okWs_vals o
      have rt : ((Txt.split z ",").map wv).map numT = Txt.split z "," := by
        rw [List.map_map]
        refine (List.map_congr_left fun w hw => ?_).trans (List.map_id _)
        exact numT_wv (List.all_eq_true.mp (okWs_nums o) w hw)
      have js : Txt.join "," (Txt.split z ",") = z := join_split_ z ","
      refine ⟨fun k hk => ⟨by have := (r1 k hk).1; omega, (r1 k hk).2⟩, r2, fun q => ?_, fun _ => by rw [rt, js]⟩
      rw [List.map_eq_nil_iff] at q
      exact absurd q (split_ne z)
    · rw [if_neg o] at h
      cases h
end Par
namespace K92
open PySem PySem.Spec PyProof.Rows L2 Par
abbrev sCellsText : Stmt := topS 27
abbrev sFlipText : Stmt := topS 28
abbrev sBoardText : Stmt := topS 29
abbrev sReadCells : Stmt := topS 30
abbrev sReadFlip : Stmt := topS 31
abbrev sReadBoard : Stmt := topS 32
abbrev sCellsIn : Stmt := topS 33
abbrev sFlipIn : Stmt := topS 34
abbrev sBoardIn : Stmt := topS 35
abbrev sNumberIn : Stmt := topS 36
abbrev sTIni : Stmt := inClass (topS 6) 0
/-- what number_in answers -/
def numV (w : Str) : V := if numB w = true then .int (wv w) else .non
section
variable {P : Program} {w : World} {K : PySem.W.Frag} {mg : Str → Option Value} {base : Heap}
def spNum : Sp := fun vs H Q _ => ∃ z : Str, vs = [.str z] ∧ z.length ≤ 5000 ∧ ∀ H', Same H H' → Q (numV z) H'
abbrev nNum : List Str := ["text", "digit"]
theorem scNum : FnScope nNum ["text"] (defScope sNumberIn) := ⟨rfl, rfl, rfl, by decide +kernel, rfl, by decide +kernel, by decide +kernel⟩
theorem ok_num {f : Addr} {fd : FuncData} (F : Fun K "number_in" "number_in" sNumberIn f fd) (B : Bl mg) (hD : ∃ t, mg "DIGITS" = some (.str "0123456789" t)) (hM : ∃ t, mg "MOST_DIGITS" = some (.int 30 t)) : FnOk P w K mg base CX0 2 f fd ["text"] spNum := by
  obtain ⟨tD, hD⟩ := hD
  obtain ⟨tM, hM⟩ := hM
  refine F.ok scNum (fun vs H Q E h => ?_) (fun cdv A outer s H vs Q E hr h => ?_)
  · obtain ⟨z, rfl, _⟩ := h
    rfl
  · obtain ⟨z, rfl, lz, out⟩ := h
    refine ⟨_, (pss_cons (ps_if (PW.pt (pw_or (pt_not (pt_chain op_le op_le pe_int (pe_callB call_len_str (by rfl) B.len PySem.boot_len (pa_cons (pv 0) pa_nil)) (pe_glob (v := .int 30) (by rfl) hM ⟨_, rfl⟩))) (pw_or1 (pt_not (pt_val (pe_callB (cr_all rfl) (by rfl) B.all (by decide +kernel) (pa_cons (pe_lc (own := [("digit", 1)]) (g := gName 1) (te := tOp (fun x y H Q => ∃ (c : Nat) (z : Str), x = .str ⟨#[c]⟩ ∧ y = .str z ∧ Q (.bl (decide (c ∈ z.cps.toList))) H) (tVar 1) (tC (.str "0123456789"))) rfl scNum.nd (pi_str (pv 0)) (blkOk_by (own := [("digit", 1)]) (N := nNum) (sc := defScope sNumberIn) (by decide +kernel)) (fun _ _ _ _ _ => (pg_name (i := 1) scNum.nd rfl (Or.inl rfl))) (fun _ _ _ _ _ => pts_nil) (fun _ _ _ _ _ => by exact pe_cmpR op_in_sign (pv 1) (pe_glob (v := .str "0123456789") (by rfl) hD ⟨_, rfl⟩) (by rfl))) pa_nil))))))) (pss_one (ps_ret pe_non)) pss_nil)
      (pss_cons (ps_if (PW.pt (pw_and (pt_cmpR op_eq (pe_ix ix_str (pv 0) pe_int (fun _ _ => rfl)) pe_str (nomark _)) (pw_and1 (pt_cmpR op_ne (pv 0) pe_str (nomark _))))) (pss_one (ps_ret pe_non)) pss_nil)
      (pss_one (ps_ret (pe_callTy call_int_str (by rfl) B.int (by decide +kernel) (pa_cons (pv 0) pa_nil)))))), ?_⟩
    have kl : z.length ≤ sizeLine := by rw [sizeLine_eq]; omega
    have nonV : numB z = false → numV z = .non := fun h => by
      unfold numV
      rw [if_neg (by rw [h]; exact Bool.false_ne_true)]
    have zs : z.cps.size = z.cps.toList.length := by simp
    refine ⟨_, rfl, _, rfl, kl, _, _, rfl, rfl, _, rfl, ?_⟩
    by_cases l1 : 1 ≤ z.length
    rotate_left
    · rw [decide_eq_false (by omega : ¬ (1 : Int) ≤ ((z.length : Nat) : Int))]
      refine iteF ?_
      have o := out H (Same.refl _)
      rw [nonV (by unfold numB; rw [decide_eq_false l1]; rfl)] at o
      exact ⟨_, rfl, iteT o⟩
    rw [decide_eq_true (by omega : (1 : Int) ≤ ((z.length : Nat) : Int))]
    refine iteT ⟨_, _, rfl, rfl, _, rfl, ?_⟩
    by_cases l30 : z.length ≤ 30
    rotate_left
    · rw [decide_eq_false (by omega : ¬ ((z.length : Nat) : Int) ≤ 30)]
      refine iteT ?_
      have o := out H (Same.refl _)
      rw [nonV (by unfold numB; rw [decide_eq_false l30, Bool.and_false]; rfl)] at o
      exact o
    rw [decide_eq_true (by omega : ((z.length : Nat) : Int) ≤ 30)]
    refine iteF ?_
    refine ⟨_, rfl, _, rfl, fun D hD => ?_⟩
    refine lc_it walk_str (fun i H' => Same H H' ∧ H' D = some (.lst (((z.cps.toList.take i).map fun c => decide (c ∈ digS)).map V.bl))) ⟨same_new hD, upd_same⟩ (fun i H' _ h => True.intro) ?_ ?_
    · rintro i x H3 H4 hi ⟨s3, hD3⟩ ⟨rfl, c, hc, rfl⟩
      refine ⟨rfl, yesT ?_⟩
      refine ⟨_, rfl, c, _, rfl, rfl, _, hD3, ?_, ?_, ?_⟩
      · rw [List.length_map, List.length_map, List.length_take]
        have : z.cps.toList.length ≤ 30 := by rw [← len_cps]; exact l30
        exact small1000 (by omega)
      · intro b o e
        rw [upd_ne (ne_of_none e hD)]
        exact s3 b o e
      · have hc2 : z.cps.toList[i]? = some c := by simpa using hc
        rw [upd_same, List.take_succ, hc2, List.map_append, List.map_append]
        rfl
    rintro H5 ⟨s5, hD5⟩
    rw [zs, List.take_length] at hD5
    refine ⟨D, _, rfl, SqL.of hD5, ?_⟩
    have ca : ((z.cps.toList).map fun c => decide (c ∈ digS)).all id = allD z := by
      rw [List.all_map]
      rfl
    refine ⟨_, rfl, ?_⟩
    rw [ca]
    cases hd : allD z with
    | false =>
      refine iteT ?_
      have o := out H5 s5
      rw [nonV (by unfold numB; rw [hd, Bool.and_false]; rfl)] at o
      exact o
    | true =>
      refine iteF ?_
      obtain ⟨c, r, er⟩ : ∃ c r, z.cps.toList = c :: r := by
        cases e : z.cps.toList with
        | nil =>
          rw [len_cps, e] at l1
          exact absurd l1 (by decide)
        | cons c r => exact ⟨c, r, rfl⟩
      have at0 : atI z.cps.toList ((0 : Nat) : Int) = some c := atI_nat (by rw [er]; rfl)
      have fin : zeroB z = false → tRet (tCB (fun xs H Q => ∃ a n, xs = [V.str a] ∧ intText? a = some n ∧ a.length ≤ 640 ∧ Q (V.int n) H) (tCons (tVar 0) tNil)) { nx := fun x H' => Q V.non H', rt := Q } (L2.start nNum [V.str z]) H5 := fun zf => by
        have o := out H5 s5
        have nb : numB z = true := by
          unfold numB
          rw [decide_eq_true l1, decide_eq_true l30, hd, zf]
          rfl
        unfold numV at o
        rw [if_pos nb] at o
        exact ⟨_, rfl, _, wv z, rfl, int_wv hd l1 (by omega), by omega, o⟩
      refine ⟨_, rfl, _, _, c, rfl, rfl, kl, at0, rfl, _, rfl, ite2 (fun hz => ?_) (fun hz => ?_)⟩
      · have e0 : c = 48 := by
          have := of_decide_eq_true hz
          injection this with this
          have : (⟨#[c]⟩ : Str) = Str.ofString "0" := this
          have h2 := congrArg (fun z : Str => z.cps.toList) this
          have h3 : [c] = (Str.ofString "0").cps.toList := h2
          rw [zero_cps] at h3
          injection h3
        refine ⟨_, rfl, rfl, _, rfl, ?_⟩
        by_cases ez : z = Str.ofString "0"
        · rw [decide_eq_true (congrArg V.str ez)]
          refine iteF (fin ?_)
          unfold zeroB
          rw [decide_eq_true ez, Bool.not_true, Bool.and_false]
        · rw [decide_eq_false (fun y => ez (by injection y))]
          refine iteT ?_
          have o := out H5 s5
          rw [nonV (by
            unfold numB zeroB
            rw [er, e0, decide_eq_false ez]
            simp)] at o
          exact o
      · refine fin ?_
        unfold zeroB
        rw [er]
        have : ¬ c = 48 := fun y => hz (decide_eq_true (by rw [y]; exact congrArg V.str (str_ext (by rw [zero_cps]))))
        simp [this]
end
end K92
namespace K92
open PySem PySem.Spec PyProof.Rows L2 Par
/-- it is no text -/
def NoStr (K : PySem.W.Frag) (H : Hp) (v : V) : Prop := ∃ n, TyX K H v (.type n) ∧ PySem.W.kitOne K (.type n) (.type "str") = some false
theorem words_len (z : Str) : (Txt.split z ",").length ≤ z.length + 1 ∧ ∀ x ∈ Txt.split z ",", x.length ≤ z.length := by
  have js := join_split_ z ","
  have ge := len_join_ge_sum "," (Txt.split z ",")
  rw [js] at ge
  have each : ∀ (l : List Str) x, x ∈ l → x.length ≤ (l.map fun x => x.length).sum := fun l => by
    induction l with
    | nil => exact fun x hx => nomatch hx
    | cons y l ih =>
      intro x hx
      rw [List.map_cons, List.sum_cons]
      rcases List.mem_cons.mp hx with rfl | hx
      · omega
      · have := ih x hx
        omega
  refine ⟨?_, fun x hx => Nat.le_trans (each _ x hx) ge⟩
  have g := size_glued "," (Txt.split z ",")
  have jg : Builtin.Str.glued "," (Txt.split z ",") = z := js
  rw [jg] at g
  have c1 : (Str.ofString ",").length = 1 := by decide +kernel
  have g2 : z.length = ((Txt.split z ",").map fun x => x.length).sum + ((Txt.split z ",").length - 1) * (Str.ofString ",").length := g
  rw [c1] at g2
  omega
section
variable {P : Program} {w : World} {K : PySem.W.Frag} {mg : Str → Option Value} {base : Heap}
def spCin (K : PySem.W.Frag) : Sp := fun vs H Q _ => ∃ v : V, vs = [v] ∧
  ((∃ z : Str, v = .str z ∧ z.length ≤ 2490 ∧ (∀ ns, cellsOf z = some ns → ∀ q H', H q = none → Same H H' → H' q = some (.tup (ns.map V.int)) → Q (.ref q) H') ∧ (cellsOf z = none → ∀ H', Same H H' → Q .non H')) ∨
   (NoStr K H v ∧ ∀ H', Same H H' → Q .non H'))
abbrev nCin : List Str := ["text", "cells", "part"]
theorem scCin : FnScope nCin ["text"] (defScope sCellsIn) := ⟨rfl, rfl, rfl, by decide +kernel, rfl, by decide +kernel, by decide +kernel⟩
theorem ok_cin {f : Addr} {fd : FuncData} (F : Fun K "cells_in" "cells_in" sCellsIn f fd) (B : Bl mg) (hS : mg "str" = none) (hM : ∃ t, mg "MOST_CELLS" = some (.int 40 t)) (DN : Has P w K mg base "number_in" 2 ["text"] spNum) (DA : Has P w K mg base "are_cells" 4 ["things", "size"] (X.spAreC K)) : FnOk P w K mg base CX0 5 f fd ["text"] (spCin K) := by
  obtain ⟨tM, hM⟩ := hM
  obtain ⟨fN, fdN, GN, mN, kN, bN⟩ := DN
  obtain ⟨fA, fdA, GA, mA, kA, bA⟩ := DA
  refine F.ok scCin (fun vs H Q E h => ?_) (fun cdv A outer s H vs Q E hr h => ?_)
  · obtain ⟨v, rfl, _⟩ := h
    rfl
  · obtain ⟨v, rfl, h⟩ := h
    have hu := hr.units
    have r2 : Room 2 _ := hr.mono (by decide)
    have r4 : Room 4 _ := hr
    refine ⟨_, (pss_cons (ps_if (pt_not (pt_val (pe_callB call_isi (by rfl) B.isinstance (by decide +kernel) (pa_cons (pv 0) (pa_cons (pe_bltn (v := .ty "str") (by rfl) hS (by decide +kernel) rfl) pa_nil))))) (pss_one (ps_ret pe_non)) pss_nil)
      (pss_cons (ps_if (pt_cmpR op_eq (pv 0) pe_str (nomark _)) (pss_one (ps_ret (pe_tup pa_nil))) pss_nil)
      (pss_cons (ps_set (i := 1) scCin.nd rfl (Or.inl rfl) (pe_callTy call_tuple_of (by rfl) B.tuple (by decide +kernel) (pa_cons (pe_lc (own := [("part", 2)]) (g := gName 2) (te := tCall spNum [] E0 (tCons (tVar 2) tNil)) rfl scCin.nd (pi_list (pe_split (pv 0) pe_str)) (blkOk_by (own := [("part", 2)]) (N := nCin) (sc := defScope sCellsIn) (by decide +kernel)) (fun _ _ _ _ _ => (pg_name (i := 2) scCin.nd rfl (Or.inl rfl))) (fun _ _ _ _ _ => pts_nil) (fun _ _ _ _ _ => by exact (pe_call GN r2 (by rfl) mN kN bN .nil pass0 (pa_cons (pv 2) pa_nil)))) pa_nil)))
      (pss_cons (ps_if (PW.pt (pw_or (pt_not (pt_val (pe_call GA r4 (by rfl) mA kA bA .nil pass0 (pa_cons (pv 1) (pa_cons (pe_glob (v := .int 40) (by rfl) hM ⟨_, rfl⟩) pa_nil))))) (pw_or1 (pt_cmpR (op_neP hu) (pe_callTy call_list_of (by rfl) B.list (by decide +kernel) (pa_cons (pv 1) pa_nil)) (pe_callB cr_sortedTup (by rfl) B.sorted (by decide +kernel) (pa_cons (pv 1) pa_nil)) (nomark _))))) (pss_one (ps_ret pe_non)) pss_nil)
      (pss_one (ps_ret (pv 1))))))), ?_⟩
    rcases h with ⟨z, rfl, lz, good, bad⟩ | ⟨⟨n, ty, kf⟩, out⟩
    rotate_left
    · exact ⟨_, rfl, _, _, _, _, false, rfl, .ty "str", ty, kf, _, rfl, iteT (out H (Same.refl _))⟩
    refine ⟨_, rfl, _, _, _, _, true, rfl, .ty "str", .base (.str _), kit_ty (by decide +kernel), _, rfl, iteF ?_⟩
    refine ⟨_, rfl, rfl, _, rfl, ?_⟩
    by_cases hd : z = Str.ofString "-"
    · rw [decide_eq_true (congrArg V.str hd)]
      refine iteT ⟨by decide, fun p hp => good [] (by unfold cellsOf; rw [if_pos hd]) p _ hp (same_new hp) upd_same⟩
    rw [decide_eq_false (fun q => hd (by injection q))]
    refine iteF ⟨_, rfl, ⟨_, rfl⟩, _, _, rfl, rfl, by decide +kernel, by rw [sizeLine_eq]; omega, fun L hL => ?_⟩
    obtain ⟨ws, hws⟩ : ∃ ws, Txt.split z "," = ws := ⟨_, rfl⟩
    obtain ⟨w1, w2⟩ := words_len z
    have cz : cellsOf z = if okWs (-1) ws = true then some (ws.map wv) else none := by
      unfold cellsOf
      rw [if_neg hd, hws]
    rw [hws] at w1 w2
    have sL := same_new (o := .lst ((Txt.split z ",").map V.str)) hL
    have eL : (upd H L (.lst ((Txt.split z ",").map V.str))) L = some (.lst (ws.map V.str)) := by
      rw [upd_same, hws]
    generalize (upd H L (.lst ((Txt.split z ",").map V.str))) = H1 at sL eL ⊢
    refine ⟨L, rfl, ⟨_, SqL.of eL⟩, fun D hD => ?_⟩
    refine lc_list (K := K) (a := L) (xs := ws.map V.str) (fun i H' => Same H1 H' ∧ H' D = some (.lst ((ws.take i).map numV))) ⟨same_new hD, upd_same⟩ (fun i H' _ h => SqL.of (h.1 _ _ eL)) ?_ ?_
    · rintro i x Hi hx ⟨si, hDi⟩
      rw [List.getElem?_map] at hx
      obtain ⟨k, hk, rfl⟩ : ∃ k, ws[i]? = some k ∧ x = V.str k := by
        cases e : ws[i]? with
        | none => rw [e] at hx; cases hx
        | some k => rw [e] at hx; exact ⟨k, rfl, (Option.some.inj hx).symm⟩
      have kl := w2 k (List.mem_of_getElem? hk)
      refine ⟨rfl, yesT ?_⟩
      refine ⟨_, rfl, k, rfl, by omega, fun H5 s5 => ?_⟩
      refine ⟨_, s5 _ _ hDi, ?_, ?_, ?_⟩
      · rw [List.length_map, List.length_take, sizeLine_eq]
        omega
      · intro b o e
        rw [upd_ne (ne_of_none e hD)]
        exact s5 _ _ (si b o e)
      · rw [upd_same, List.take_succ, hk, List.map_append]
        rfl
    rintro H5 ⟨s5, hD5⟩
    rw [List.length_map, List.take_length] at hD5
    refine ⟨D, _, rfl, .inl ⟨SqL.of hD5, fun t ht => ?_⟩⟩
    have s05 := sL.trans s5
    have s6 := same_new (o := .tup (ws.map numV)) ht
    have s06 := s05.trans s6
    have et := upd_same (H := H5) (a := t) (o := .tup (ws.map numV))
    generalize (upd H5 t (.tup (ws.map numV))) = H6 at s6 s06 et ⊢
    have typ : ∀ x ∈ ws.map numV, X.Typed K H6 x := fun x hx => by
      obtain ⟨y, _, rfl⟩ := List.mem_map.mp hx
      unfold numV
      split
      · exact .inr (.inl ⟨_, rfl⟩)
      · exact .inr (.inr ⟨"NoneType", .base .non, by simp⟩)
    have intsE : okWs (-1) ws = true → ws.map numV = (ws.map wv).map V.int := fun o => by
      rw [List.map_map]
      refine List.map_congr_left fun y hy => ?_
      have := List.all_eq_true.mp (okWs_nums o) y hy
      unfold numV
      rw [if_pos this]
      rfl
    refine ⟨_, rfl, .ref t, 40, some (ws.map numV), rfl, ⟨t, rfl, .inr (SqT.of et), by rw [List.length_map]; omega, typ⟩, fun ns fine H7 s7 => ?_, fun foul H7 s7 => ?_⟩
    rotate_left
    · refine ⟨_, rfl, iteT (bad ?_ H7 (s06.trans s7))⟩
      rw [cz]
      refine if_neg fun o => ?_
      obtain ⟨v1, v2⟩ := okWs_vals o
      have e := intsE o
      rcases foul with f | ⟨xs, ex, f⟩ | ⟨ns, ex, _, f⟩
      · cases f
      · rw [← Option.some.inj ex, e] at f
        have : X.AllOf 0 40 ((ws.map wv).map V.int) = true := List.all_eq_true.mpr fun x hx => by
          obtain ⟨k, hk, rfl⟩ := List.mem_map.mp hx
          have := v1 k hk
          show (decide ((0 : Int) ≤ k) && decide (k ≤ 40 - 1)) = true
          rw [decide_eq_true (by omega), decide_eq_true (by omega)]
          rfl
        rw [this] at f
        cases f
      · rw [e] at ex
        have : ws.map wv = ns := List.map_inj_right (fun _ _ h => by injection h) |>.mp (Option.some.inj ex)
        exact f (this ▸ v2.imp fun h => by omega)
    obtain ⟨f1, f2, f3⟩ := fine
    have f1 := Option.some.inj f1
    have rng : ∀ k ∈ ns, 0 ≤ k ∧ k < 40 := fun k hk => by
      have := List.all_eq_true.mp f2 (V.int k) (List.mem_map.mpr ⟨k, hk, rfl⟩)
      have y : (decide ((0 : Int) ≤ k) && decide (k ≤ 40 - 1)) = true := this
      rw [Bool.and_eq_true, decide_eq_true_eq, decide_eq_true_eq] at y
      omega
    have nums : ws.all numB = true ∧ ws.map wv = ns := by
      clear hws cz w1 w2 eL hD5 et typ intsE sL
      have go : ∀ (ws : List Str) (ns : List Int), ws.map numV = ns.map V.int → ws.all numB = true ∧ ws.map wv = ns := fun ws => by
        induction ws with
        | nil =>
          intro ns h
          cases ns with
          | nil => exact ⟨rfl, rfl⟩
          | cons _ _ => cases h
        | cons y ws ih =>
          intro ns h
          cases ns with
          | nil => cases h
          | cons k ns =>
            rw [List.map_cons, List.map_cons] at h
            injection h with h1 h2
            obtain ⟨i1, i2⟩ := ih ns h2
            unfold numV at h1
            by_cases b : numB y = true
            · rw [if_pos b] at h1
              injection h1 with h1
              exact ⟨by rw [List.all_cons, b, i1]; rfl, by rw [List.map_cons, i2, h1]⟩
            · rw [if_neg b] at h1
              cases h1
      exact go ws ns f1
    obtain ⟨n1, n2⟩ := nums
    rw [f1] at et
    refine ⟨_, rfl, iteF ?_⟩
    have e7 := s7 _ _ et
    refine ⟨_, rfl, t, _, rfl, .inr (SqT.of e7), fun L2 hL2 => ?_⟩
    have s8 := same_new (o := .lst (ns.map V.int)) hL2
    refine ⟨_, rfl, t, ns, rfl, SqT.of (s8 _ _ e7), fun ms L3 pm pw hL3 => ?_⟩
    have s9 := same_new (o := .lst (ms.map V.int)) hL3
    have depth1 : ∀ ks : List Int, (PyData.list (ks.map PyData.int)).depth = 1 := fun ks => by
      show PyData.depthAll (ks.map PyData.int) + 1 = 1
      rw [depth_ints]
    refine ⟨.list (ns.map .int), .list (ms.map .int), .lst (SqL.of (s9 _ _ upd_same)) (dps_ints ns), .lst (SqL.of upd_same) (dps_ints ms), plain_ints _, plain_ints _, ?_, _, rfl, ?_⟩
    · rw [depth1, depth1]
      decide
    rw [show (PyData.list (ns.map PyData.int)).eqv (PyData.list (ms.map PyData.int)) = decide (ns = ms) from eqv_ints ns ms]
    have s0e := s06.trans (s7.trans (s8.trans s9))
    by_cases q : ns = ms
    · rw [decide_eq_true q]
      refine iteF ⟨_, rfl, ?_⟩
      refine good ns ?_ t _ (s05.free ht) s0e (s9 _ _ (s8 _ _ e7))
      rw [cz, ← n2]
      have pl : ns.Pairwise (· < ·) := by
        rw [← q] at pw
        exact (pw.and f3).imp fun h => by have := h.1; have := h.2; omega
      refine if_pos (okWs_of n1 (fun k hk => ?_) (n2 ▸ pl))
      rw [n2] at hk
      have := rng k hk
      exact ⟨by omega, this.2⟩
    · rw [decide_eq_false q]
      refine iteT (bad ?_ _ s0e)
      rw [cz]
      refine if_neg fun o => q ?_
      have v2 := (okWs_vals o).2
      rw [n2] at v2
      exact (sort_same pm pw v2).symm
end
end K92
namespace K92
open PySem PySem.Spec PyProof.Rows L2 Par
abbrev sFIni : Stmt := inClass (topS 5) 0
/-- what the module says of NoFlip -/
structure NfC (K : PySem.W.Frag) (mg : Str → Option Value) (C : Addr) : Prop where
  gC : mg "NoFlip" = some (.ref C)
  ox : OexC K C
  no : PySem.W.findIn K (.ref C) "why" = some none
section
variable {P : Program} {w : World} {K : PySem.W.Frag} {mg : Str → Option Value} {base : Heap}
def spNf (C : Addr) : Sp := fun vs H Q _ => ∃ (a : Addr) (v : V), vs = [.ref a, v] ∧ H a = some (exo a C none) ∧
  ∀ dx, H dx = none → dx ≠ a → Q .non (upd (upd H dx (exd dx [("why", v)])) a (exo a C (some dx)))
theorem scNf : FnScope ["self", "why"] ["self", "why"] (defScope sFIni) := ⟨rfl, rfl, rfl, by decide +kernel, rfl, by decide +kernel, by decide +kernel⟩
theorem ok_nf {f C : Addr} {fd : FuncData} (F : Fun K "__init__" "NoFlip.__init__" sFIni f fd) (T : NfC K mg C) : FnOk P w K mg base CX0 2 f fd ["self", "why"] (spNf C) := by
  refine F.ok scNf (fun vs H Q E h => ?_) (fun cdv A outer s H vs Q E hr h => ?_)
  · obtain ⟨a, v, rfl, _⟩ := h
    rfl
  · obtain ⟨a, v, rfl, ha, out⟩ := h
    refine ⟨_, pss_one (ps_ost (pv 0) (pv 1)), ?_⟩
    exact ⟨_, rfl, _, rfl, a, C, rfl, T.ox, T.no, .inl ⟨ha, out⟩⟩
def HasNf (P : Program) (w : World) (K : PySem.W.Frag) (mg : Str → Option Value) (base : Heap) (C : Addr) : Prop :=
  ∃ f fd, FnOk P w K mg base CX0 2 f fd ["self", "why"] (spNf C) ∧ PySem.W.findIn K (.ref C) "__init__" = some (some (.ref f)) ∧ PySem.W.typeIn K (.ref f) = some (.type "function") ∧ Binds K fd ["self", "why"] []
/-- what raise NoFlip(v) leads to -/
theorem made_nf {C : Addr} {H : Hp} {v : V} {W : Value → Option Addr → Hp → Prop} (h : ∀ d H', H d = none → Same H H' → H' d = some (.xd [("why", v)]) → W (.ref C) (some d) H') :
    ∀ a, H a = none → spNf C (.ref a :: ([v] ++ [])) (upd H a (exo a C none)) (fun u H2 => u = .non ∧ ∃ (d : Addr) (fs : List (Str × V)), H2 a = some (exo a C (some d)) ∧ H2 d = some (exd d fs) ∧ H d = none ∧
      W (.ref C) (some d) (upd (del H2 a) d (.xd fs))) (fun _ _ _ => False) := by
  intro a ha
  refine ⟨a, v, rfl, upd_same, fun dx hd ne => ?_⟩
  rw [upd_ne ne] at hd
  refine ⟨rfl, dx, [("why", v)], upd_same, by rw [upd_ne ne, upd_same], hd, ?_⟩
  refine h dx _ hd (fun b o e => ?_) upd_same
  have n1 := ne_of_none e hd
  have n2 := ne_of_none e ha
  rw [upd_ne n1, del_ne n2, upd_ne n2, upd_ne n1, upd_ne n2]
  exact e
end
/-- cells in order -/
def Cls (ns : List Int) : Prop := ns.Pairwise (· < ·) ∧ (∀ k ∈ ns, 0 ≤ k ∧ k < 40) ∧ ns.length ≤ 40
theorem Cls.of {z : Str} {ns : List Int} (h : cellsOf z = some ns) : Cls ns := by
  obtain ⟨h1, h2, _⟩ := cellsOf_ok h
  exact ⟨h2, h1, cells_few (nodup_lt_ h2) fun k hk => ⟨(h1 k hk).1, (h1 k hk).2⟩⟩
/-- the flip of a text -/
def flipC : Option (List Int) → Option (List Int) → Option (List Int × List Int)
  | some ts, some hs => if (0 : Int) ∉ hs ∧ (comm ts hs).length % 2 = 0 then some (ts, hs) else none
  | _, _ => none
def flipW : List Str → Option (List Int × List Int)
  | [a, b] => flipC (cellsOf a) (cellsOf b)
  | _ => none
def flipOf (z : Str) : Option (List Int × List Int) := flipW (Txt.split z ">")
theorem flipC_none (o : Option (List Int)) : flipC o none = none := by cases o <;> rfl
theorem sides_len (z : Str) : (Txt.split z ">").length ≤ z.length + 1 ∧ ∀ x ∈ Txt.split z ">", x.length ≤ z.length := by
  have js := join_split_ z ">"
  have ge := len_join_ge_sum ">" (Txt.split z ">")
  rw [js] at ge
  have each : ∀ (l : List Str) x, x ∈ l → x.length ≤ (l.map fun x => x.length).sum := fun l => by
    induction l with
    | nil => exact fun x hx => nomatch hx
    | cons y l ih =>
      intro x hx
      rw [List.map_cons, List.sum_cons]
      rcases List.mem_cons.mp hx with rfl | hx
      · omega
      · have := ih x hx
        omega
  refine ⟨?_, fun x hx => Nat.le_trans (each _ x hx) ge⟩
  have g := size_glued ">" (Txt.split z ">")
  have jg : Builtin.Str.glued ">" (Txt.split z ">") = z := js
  rw [jg] at g
  have c1 : (Str.ofString ">").length = 1 := by decide +kernel
  have g2 : z.length = ((Txt.split z ">").map fun x => x.length).sum + ((Txt.split z ">").length - 1) * (Str.ofString ">").length := g
  rw [c1] at g2
  omega
/-- what cells_in answers of a side -/
def SideV (H : Hp) (z : Str) (v : V) : Prop := match cellsOf z with
  | some ns => ∃ a, v = .ref a ∧ H a = some (.tup (ns.map V.int))
  | none => v = .non
theorem SideV.same {H H' : Hp} (s : ∀ a xs, H a = some (.tup xs) → H' a = some (.tup xs)) {z : Str} {v : V} (h : SideV H z v) : SideV H' z v := by
  unfold SideV at h ⊢
  cases e : cellsOf z with
  | none => rw [e] at h; exact h
  | some ns =>
    rw [e] at h
    obtain ⟨a, e1, e2⟩ := h
    exact ⟨a, e1, s _ _ e2⟩
section
variable {P : Program} {w : World} {K : PySem.W.Frag} {mg : Str → Option Value} {base : Heap}
/-- Flip(..) of cells in order -/
def spFN (K : PySem.W.Frag) (C M : Addr) : Sp := fun vs H Q E => ∃ (b dx u v : Addr) (ts hs : List Int), vs = [.ref b, .ref u, .ref v] ∧ H b = some (.ins C dx []) ∧ Sq K H u (ts.map V.int) ∧ Sq K H v (hs.map V.int) ∧ Cls ts ∧ Cls hs ∧
  (¬ ((0 : Int) ∉ hs ∧ (comm ts hs).length % 2 = 0) → ∀ d H', H d = none → But b H H' → E (.ref M) (some d) H') ∧
  ((0 : Int) ∉ hs → (comm ts hs).length % 2 = 0 → ∀ H', But b H H' → Fp C H' b ts hs → Q .non H')
theorem ok_fn {f C M : Addr} {fd : FuncData} (F : Fun K "__init__" "Flip.__init__" gInit f fd) (B : Bl mg) (T : FC K mg C) (TN : NfC K mg M) (DC : HasD P w K mg base "cell_tuple" 5 "things" (spCells K)) (DO : Has P w K mg base "share_odd" 2 ["one", "other"] (spShare K)) (DI : HasNf P w K mg base M) :
    FnOk P w K mg base (L2.CX P w) 6 f fd ["self", "tested", "toggled"] (spFN K C M) := by
  obtain ⟨fD, fdD, dsD, GD, mD, kD, hdD, bD⟩ := DC
  obtain ⟨fO, fdO, GO, mO, kO, bO⟩ := DO
  obtain ⟨fI, fdI, GI, iI, tI, bI⟩ := DI
  refine F.okX scFInit (fun vs H Q E h => ?_) (fun cdv A outer s H vs Q E hr h => ?_)
  · obtain ⟨b, dx, u, v, ts, hs, rfl, _⟩ := h
    rfl
  · obtain ⟨b, dx, u, v, ts, hs, rfl, hb, hu, hv, ct, ch, bad, good⟩ := h
    have r2 : Room 2 _ := hr.mono (by decide)
    have r3 : Room 3 _ := hr.mono (by decide)
    refine ⟨_, pss_cons (ps_fld (pv 0) (pe_call GD hr (by rfl) mD kD bD hdD pass0 (pa_cons (pv 1) pa_nil)) rfl)
      (pss_cons (ps_fld (pv 0) (pe_call GD hr (by rfl) mD kD bD hdD pass0 (pa_cons (pv 2) pa_nil)) rfl)
      (pss_cons (ps_if (pt_cmpR op_in_seq pe_int (pe_fld (pv 0) rfl) (by rfl)) (pss_one (ps_raise rfl (takes_of rfl rfl rfl rfl) (pmk_oex TN.ox iI tI GI r3 bI .nil pass0 (by rfl) TN.gC (pa_cons pe_str pa_nil)))) pss_nil)
      (pss_one (ps_if (pt_val (pe_call GO r2 (by rfl) mO kO bO .nil pass0 (pa_cons (pe_fld (pv 0) rfl) (pa_cons (pe_fld (pv 0) rfl) pa_nil)))) (pss_one (ps_raise rfl (takes_of rfl rfl rfl rfl) (pmk_oex TN.ox iI tI GI r3 bI .nil pass0 (by rfl) TN.gC (pa_cons pe_str pa_nil)))) pss_nil)))), ?_⟩
    obtain ⟨u1, c1, l1⟩ := id ct
    obtain ⟨u2, c2, l2⟩ := id ch
    have n1 := nodup_lt_ u1
    have n2 := nodup_lt_ u2
    refine ⟨_, rfl, u, 40, ts, rfl, hu, by omega, c1, n1, fun t1 ts' H1 ht1 s1 p1 q1 e1 => ?_⟩
    obtain rfl : ts' = ts := sort_same p1 q1 u1
    have nb1 : t1 ≠ b := fun z => by rw [z, hb] at ht1; cases ht1
    refine ⟨_, rfl, b, C, dx, [], rfl, s1 _ _ hb, T.cl, T.nT, (by show 0 < 1000; decide), ?_⟩
    have k2 : But b H (upd H1 b (.ins C dx [("tested_cells", .ref t1)])) := fun x o nx e => by
      rw [upd_ne nx]
      exact s1 _ _ e
    have hv2 : Sq K (upd H1 b (.ins C dx [("tested_cells", .ref t1)])) v (hs.map V.int) := (hv.same s1).updI (s1 _ _ hb)
    have back : ∀ {d : Addr}, upd H1 b (.ins C dx [("tested_cells", .ref t1)]) d = none → H d = none := fun {d} hd => by
      have nd : d ≠ b := fun z => by rw [z, upd_same] at hd; cases hd
      rw [upd_ne nd] at hd
      exact s1.free hd
    refine ⟨_, rfl, v, 40, hs, rfl, hv2, by omega, c2, n2, fun t2 hs' H3 ht2 s3 p2 q2 e2 => ?_⟩
    obtain rfl : hs' = hs := sort_same p2 q2 u2
    have nb2 : t2 ≠ b := fun z => by rw [z, upd_same] at ht2; cases ht2
    have e13 : H3 t1 = some (.tup (ts'.map V.int)) := s3 _ _ (by rw [upd_ne nb1]; exact e1)
    refine ⟨_, rfl, b, C, dx, _, rfl, s3 _ _ upd_same, T.cl, T.nG, (by show 1 < 1000; decide), ?_⟩
    rw [show putF "toggled_cells" (V.ref t2) (putF "tested_cells" (V.ref t1) []) = ([("tested_cells", V.ref t1), ("toggled_cells", V.ref t2)] : List (Str × V)) from put2]
    have g1 : (upd H3 b (.ins C dx [("tested_cells", .ref t1), ("toggled_cells", .ref t2)])) t1 = some (.tup (ts'.map V.int)) := by
      rw [upd_ne nb1]
      exact e13
    have g2 : (upd H3 b (.ins C dx [("tested_cells", .ref t1), ("toggled_cells", .ref t2)])) t2 = some (.tup (hs'.map V.int)) := by
      rw [upd_ne nb2]
      exact e2
    have k4 : But b H (upd H3 b (.ins C dx [("tested_cells", .ref t1), ("toggled_cells", .ref t2)])) := (k2.trans (But.same s3)).trans fun x o nx e => by rw [upd_ne nx]; exact e
    have back4 : ∀ {d : Addr}, upd H3 b (.ins C dx [("tested_cells", .ref t1), ("toggled_cells", .ref t2)]) d = none → H d = none := fun {d} hd => by
      have nd : d ≠ b := fun z => by rw [z, upd_same] at hd; cases hd
      rw [upd_ne nd] at hd
      exact back (s3.free hd)
    refine ⟨_, rfl, b, C, dx, _, _, rfl, upd_same, T.cl, T.nG, fld2, t2, _, rfl, .inr (SqT.of g2), rfl, flat_ints _, _, rfl, ?_⟩
    show if inV (V.int 0) (hs'.map V.int) = true then _ else _
    rw [in_ints]
    refine ite2 (fun z => ?_) (fun z => ?_)
    · have z0 : (0 : Int) ∈ hs' := of_decide_eq_true z
      refine ⟨(by show 1 ≤ 1000; decide), made_nf fun d H' hd sm ed => ?_⟩
      exact bad (fun y => y.1 z0) d H' (back4 hd) (k4.trans (But.same sm))
    · have z0 : ¬ (0 : Int) ∈ hs' := fun y => z (decide_eq_true y)
      have cl1 : ∀ k ∈ ts', Cell k := fun k hk => by have := c1 k hk; exact ⟨by omega, by omega⟩
      have cl2 : ∀ k ∈ hs', Cell k := fun k hk => by have := c2 k hk; exact ⟨by omega, by omega⟩
      refine ⟨_, rfl, b, C, dx, _, _, rfl, upd_same, T.cl, T.nT, fld1, _, rfl, b, C, dx, _, _, rfl, upd_same, T.cl, T.nG, fld2, t1, t2, ts', hs', rfl, SqT.of g1, SqT.of g2, by omega, by omega, cl1, cl2, n1, fun H5 s5 => ⟨_, rfl, ?_⟩⟩
      have k5 := k4.trans (But.same s5)
      refine ite2 (fun y => ?_) (fun y => ?_)
      · refine ⟨(by show 1 ≤ 1000; decide), made_nf fun d H' hd sm ed => ?_⟩
        have := of_decide_eq_true y
        exact bad (fun q => by omega) d H' (back4 (s5.free hd)) (k5.trans (But.same sm))
      · have : ¬ (comm ts' hs').length % 2 = 1 := fun q => y (decide_eq_true q)
        exact good z0 (by omega) H5 k5 ⟨dx, t1, t2, s5 _ _ upd_same, s5 _ _ g1, s5 _ _ g2⟩
def HasFN (P : Program) (w : World) (K : PySem.W.Frag) (mg : Str → Option Value) (base : Heap) (C M : Addr) : Prop :=
  ∃ f fd, FnOk P w K mg base (L2.CX P w) 6 f fd ["self", "tested", "toggled"] (spFN K C M) ∧ Mk K C f ∧ Binds K fd ["self", "tested", "toggled"] []
/-- flip_in -/
def spFin (K : PySem.W.Frag) (C : Addr) : Sp := fun vs H Q _ => ∃ v : V, vs = [v] ∧
  ((∃ z : Str, v = .str z ∧ z.length ≤ 2490 ∧ (∀ ts hs, flipOf z = some (ts, hs) → ∀ a H', H a = none → Same H H' → Fp C H' a ts hs → Q (.ref a) H') ∧ (flipOf z = none → ∀ H', Same H H' → Q .non H')) ∨
   (NoStr K H v ∧ ∀ H', Same H H' → Q .non H'))
abbrev nFin : List Str := ["text", "sides", "side"]
theorem scFin : FnScope nFin ["text"] (defScope sFlipIn) := ⟨rfl, rfl, rfl, by decide +kernel, rfl, by decide +kernel, by decide +kernel⟩
theorem ok_fin {f C M : Addr} {fd : FuncData} (F : Fun K "flip_in" "flip_in" sFlipIn f fd) (B : Bl mg) (hS : mg "str" = none) (T : FC K mg C) (TM : NfC K mg M) (mm : PySem.W.exmOne K (.ref M) (.ref M) = some true) (DC : Has P w K mg base "cells_in" 5 ["text"] (spCin K)) (DI : HasFN P w K mg base C M) :
    FnOk P w K mg base CX0 8 f fd ["text"] (spFin K C) := by
  obtain ⟨fC, fdC, GC, mC, kC, bC⟩ := DC
  obtain ⟨fI, fdI, GI, MI, bI⟩ := DI
  refine F.ok scFin (fun vs H Q E h => ?_) (fun cdv A outer s H vs Q E hr h => ?_)
  · obtain ⟨v, rfl, _⟩ := h
    rfl
  · obtain ⟨v, rfl, h⟩ := h
    have hu := hr.units
    have r5 : Room 5 _ := hr.mono (by decide)
    have r7 : Room 7 _ := hr.mono (by decide)
    refine ⟨_, (pss_cons (ps_if (pt_not (pt_val (pe_callB call_isi (by rfl) B.isinstance (by decide +kernel) (pa_cons (pv 0) (pa_cons (pe_bltn (v := .ty "str") (by rfl) hS (by decide +kernel) rfl) pa_nil))))) (pss_one (ps_ret pe_non)) pss_nil)
      (pss_cons (ps_setLc (i := 1) (own := [("side", 2)]) (g := gName 2) (te := tCall (spCin K) [] E0 (tCons (tVar 2) tNil)) rfl scFin.nd rfl rfl (sw_true rfl rfl rfl (by decide +kernel)) (pi_list (pe_split (pv 0) pe_str)) (blkOk_by (own := [("side", 2)]) (N := nFin) (sc := defScope sFlipIn) (by decide +kernel)) (fun _ _ _ _ _ => (pg_name (i := 2) scFin.nd rfl (Or.inl rfl))) (fun _ _ _ _ _ => pts_nil) (fun _ _ _ _ _ => by exact (pe_call GC r5 (by rfl) mC kC bC .nil pass0 (pa_cons (pv 2) pa_nil))))
      (pss_cons (ps_if (PW.pt (pw_or (pt_cmpR op_ne (pe_callB call_len_seq (by rfl) B.len PySem.boot_len (pa_cons (pv 1) pa_nil)) pe_int (nomark _)) (pw_or (pt_cmpR op_isN (pe_ix ix_list (pv 1) pe_int (fun _ _ => rfl)) pe_non (nomark _)) (pw_or1 (pt_cmpR op_isN (pe_ix ix_list (pv 1) pe_int (fun _ _ => rfl)) pe_non (nomark _)))))) (pss_one (ps_ret pe_non)) pss_nil)
      (pss_one (ps_try_only (tb := fun W => tRet (tMakeS C (spFN K C M) (fun σ => WE W σ) (tCons (tOp (rIxL K) (tVar 1) (tC (.int 0))) (tCons (tOp (rIxL K) (tVar 1) (tC (.int 1))) tNil)))) rfl rfl ⟨rfl, by decide, .inl TM.gC⟩ takes0 (fun W pn xe tk _ => pss_one (ps_ret (pe_makeS MI GI r7 (by rfl) T.mgC bI (fun σ => passAt tk σ) (pa_cons (pe_ix ix_list (pv 1) pe_int (fun _ _ => rfl)) (pa_cons (pe_ix ix_list (pv 1) pe_int (fun _ _ => rfl)) pa_nil))))) (fun a oe cls d pn hz hf => pss_one (ps_ret pe_non))))))), ?_⟩
    rcases h with ⟨z, rfl, lz, good, bad⟩ | ⟨⟨n, ty, kf⟩, out⟩
    rotate_left
    · exact ⟨_, rfl, _, _, _, _, false, rfl, .ty "str", ty, kf, _, rfl, iteT (out H (Same.refl _))⟩
    refine ⟨_, rfl, _, _, _, _, true, rfl, .ty "str", .base (.str _), kit_ty (by decide +kernel), _, rfl, iteF ?_⟩
    refine ⟨_, rfl, ⟨_, rfl⟩, _, _, rfl, rfl, by decide +kernel, by rw [sizeLine_eq]; omega, fun L hL => ?_⟩
    obtain ⟨w1, w2⟩ := sides_len z
    obtain ⟨ps, hps⟩ : ∃ ps, Txt.split z ">" = ps := ⟨_, rfl⟩
    rw [hps] at w1 w2
    have sL := same_new (o := .lst ((Txt.split z ">").map V.str)) hL
    have eL : (upd H L (.lst ((Txt.split z ">").map V.str))) L = some (.lst (ps.map V.str)) := by
      rw [upd_same, hps]
    generalize (upd H L (.lst ((Txt.split z ">").map V.str))) = H1 at sL eL ⊢
    refine ⟨L, rfl, ⟨_, SqL.of eL⟩, fun D hD => ?_⟩
    refine lc_list (K := K) (a := L) (xs := ps.map V.str) (fun i H' => Same H1 H' ∧ ∃ vs : List V, vs.length = i ∧ H' D = some (.lst vs) ∧ ∀ j v p, vs[j]? = some v → ps[j]? = some p → SideV H' p v) ⟨same_new hD, [], rfl, upd_same, (fun j v p (h : ([] : List V)[j]? = some v) _ => by rw [List.getElem?_nil] at h; cases h)⟩ (fun i H' _ h => SqL.of (h.1 _ _ eL)) ?_ ?_
    · rintro i x Hi hx ⟨si, vs, la, hDi, sd⟩
      rw [List.getElem?_map] at hx
      obtain ⟨p, hp, rfl⟩ : ∃ p, ps[i]? = some p ∧ x = V.str p := by
        cases e : ps[i]? with
        | none => rw [e] at hx; cases hx
        | some p => rw [e] at hx; exact ⟨p, rfl, (Option.some.inj hx).symm⟩
      have pl := w2 p (List.mem_of_getElem? hp)
      have il : i < ps.length := (List.getElem?_eq_some_iff.mp hp).1
      refine ⟨rfl, yesT ?_⟩
      have put : ∀ v H5, Same Hi H5 → SideV H5 p v → ∃ acc, H5 D = some (.lst acc) ∧ acc.length < sizeLine ∧ Same H1 (upd H5 D (.lst (acc ++ [v]))) ∧ ∃ vs : List V, vs.length = i + 1 ∧ (upd H5 D (.lst (acc ++ [v]))) D = some (.lst vs) ∧ ∀ j y p', vs[j]? = some y → ps[j]? = some p' → SideV (upd H5 D (.lst (acc ++ [v]))) p' y := fun v H5 s5 sv => by
        have hD5 := s5 _ _ hDi
        have kp : ∀ a xs, H5 a = some (.tup xs) → (upd H5 D (.lst (vs ++ [v]))) a = some (.tup xs) := fun a xs e => by
          rw [upd_ne (fun z => by rw [z, hD5] at e; cases e)]
          exact e
        refine ⟨vs, hD5, by rw [sizeLine_eq]; omega, fun b o e => ?_, vs ++ [v], by rw [List.length_append, la]; rfl, upd_same, fun j u q hu hq => ?_⟩
        · rw [upd_ne (ne_of_none e hD)]
          exact s5 _ _ (si b o e)
        · by_cases hj : j < vs.length
          · rw [List.getElem?_append_left hj] at hu
            exact (sd j u q hu hq).same fun a xs e => kp a xs (s5 _ _ e)
          · have hj2 : j = vs.length := by
              have := (List.getElem?_eq_some_iff.mp hu).1
              rw [List.length_append, List.length_singleton] at this
              omega
            subst hj2
            rw [List.getElem?_append_right (Nat.le_refl _), Nat.sub_self] at hu
            cases hu
            rw [la, hp] at hq
            cases hq
            exact sv.same kp
      refine ⟨_, rfl, .str p, rfl, .inl ⟨p, rfl, by omega, fun ns e q H5 hq s5 e5 => put _ _ s5 ?_, fun e H5 s5 => put _ _ s5 ?_⟩⟩
      · unfold SideV
        rw [e]
        exact ⟨q, rfl, e5⟩
      · unfold SideV
        rw [e]
    rintro H5 ⟨s5, vs, lv, hD5, sd⟩
    rw [List.length_map] at lv
    have s05 := sL.trans s5
    have fo : flipOf z = flipW ps := by
      unfold flipOf
      rw [hps]
    refine ⟨_, rfl, D, _, rfl, .inl (SqL.of hD5), rfl, _, rfl, ?_⟩
    by_cases l2 : vs.length = 2
    rotate_left
    · rw [decide_eq_false (fun q => l2 (by injection q with q; omega) : ¬ V.int ((vs.length : Nat) : Int) = V.int 2)]
      refine iteT (bad ?_ H5 s05)
      rw [fo]
      rw [lv] at l2
      clear sd eL hps lv w2 w1 fo
      match ps, l2 with
      | [], _ => rfl
      | [_], _ => rfl
      | [_, _], e => exact absurd rfl e
      | _ :: _ :: _ :: _, _ => rfl
    rw [decide_eq_true (by rw [l2]; rfl : V.int ((vs.length : Nat) : Int) = V.int 2)]
    refine iteF ?_
    obtain ⟨p1, p2, rfl⟩ : ∃ p1 p2, ps = [p1, p2] := by
      rw [lv] at l2
      clear sd eL hps lv w2 w1 fo
      match ps, l2 with
      | [a, b], _ => exact ⟨a, b, rfl⟩
    obtain ⟨v1, v2, rfl⟩ : ∃ v1 v2, vs = [v1, v2] := by
      clear sd lv hD5
      match vs, l2 with
      | [a, b], _ => exact ⟨a, b, rfl⟩
    have sd1 := sd 0 v1 p1 rfl rfl
    have sd2 := sd 1 v2 p2 rfl rfl
    have fo2 : flipOf z = flipC (cellsOf p1) (cellsOf p2) := fo
    refine ⟨_, rfl, D, _, 0, v1, rfl, rfl, SqL.of hD5, rfl, ?_⟩
    cases e1 : cellsOf p1 with
    | none =>
      unfold SideV at sd1
      rw [e1] at sd1
      subst sd1
      refine ⟨rfl, _, rfl, ?_⟩
      rw [decide_eq_true rfl]
      refine iteT (bad ?_ H5 s05)
      rw [fo2, e1]
      rfl
    | some ts =>
    unfold SideV at sd1
    rw [e1] at sd1
    obtain ⟨a, rfl, ea⟩ := sd1
    refine ⟨rfl, _, rfl, ?_⟩
    rw [decide_eq_false (fun q => by cases q)]
    refine iteF ⟨_, rfl, D, _, 1, v2, rfl, rfl, SqL.of hD5, rfl, ?_⟩
    cases e2 : cellsOf p2 with
    | none =>
      unfold SideV at sd2
      rw [e2] at sd2
      subst sd2
      refine ⟨rfl, _, rfl, ?_⟩
      rw [decide_eq_true rfl]
      refine iteT (bad ?_ H5 s05)
      rw [fo2, e1, e2]
      rfl
    | some hs =>
    unfold SideV at sd2
    rw [e2] at sd2
    obtain ⟨b, rfl, eb⟩ := sd2
    refine ⟨rfl, _, rfl, ?_⟩
    rw [decide_eq_false (fun q => by cases q)]
    refine iteF ?_
    rw [e1, e2] at fo2
    have fo3 : flipOf z = if (0 : Int) ∉ hs ∧ (comm ts hs).length % 2 = 0 then some (ts, hs) else none := fo2
    refine ⟨_, rfl, D, _, 0, .ref a, rfl, rfl, SqL.of hD5, rfl, _, rfl, D, _, 1, .ref b, rfl, rfl, SqL.of hD5, rfl, ?_⟩
    generalize H5 = Hf at ea eb s05 ⊢
    intro x dx hx hdx ne
    have s3 : Same Hf (upd (upd Hf dx (.own x)) x (.ins C dx [])) := fun z o e => by
      rw [upd_ne (ne_of_none e hx), upd_ne (ne_of_none e hdx)]
      exact e
    refine ⟨x, dx, a, b, ts, hs, rfl, upd_same, .inr (SqT.of (s3 _ _ ea)), .inr (SqT.of (s3 _ _ eb)), Cls.of e1, Cls.of e2, fun no d H' hd bt => ?_, fun y1 y2 H' bt fp => ?_⟩
    · have sm : Same H H' := fun z o e => bt z o (ne_of_none (s05 z o e) hx) (s3 _ _ (s05 z o e))
      exact ⟨true, mm, fun _ a ha => bad (by rw [fo3]; exact if_neg no) _ sm, fun q => Bool.noConfusion q⟩
    · refine ⟨rfl, ?_⟩
      exact good ts hs (by rw [fo3]; exact if_pos ⟨y1, y2⟩) x H' (s05.free hx) (fun z o e => bt z o (ne_of_none (s05 z o e) hx) (s3 _ _ (s05 z o e))) fp
end
end K92
namespace K92
open PySem PySem.Spec PyProof.Rows L2 Par
def code (b : Int) : Nat := if b = 1 then 49 else 48
theorem bits_join : ∀ {bs : List Int}, (∀ x ∈ bs, x = 0 ∨ x = 1) → TL.joinL [] ((bs.map fun k => Str.ofString (toString k)).map TL.tl) = bs.map code
  | [], _ => rfl
  | [b], h => by
    rcases h b (List.mem_cons_self ..) with rfl | rfl
    · exact (by decide +kernel : TL.tl (Str.ofString (toString (0 : Int))) = [48])
    · exact (by decide +kernel : TL.tl (Str.ofString (toString (1 : Int))) = [49])
  | b :: c :: r, h => by
    have ih := bits_join fun x hx => h x (List.mem_cons_of_mem b hx)
    show TL.tl (Str.ofString (toString b)) ++ ([] ++ TL.joinL [] (((c :: r).map fun k => Str.ofString (toString k)).map TL.tl)) = _
    rw [List.nil_append, ih]
    rcases h b (List.mem_cons_self ..) with rfl | rfl
    · rw [(by decide +kernel : TL.tl (Str.ofString (toString (0 : Int))) = [48])]
      rfl
    · rw [(by decide +kernel : TL.tl (Str.ofString (toString (1 : Int))) = [49])]
      rfl
theorem bits_codes {bs : List Int} (h : OkB bs) : (bitsT bs).cps.toList = bs.map code := by
  have e : TL.tl (bitsT bs) = bs.map code := by
    unfold bitsT
    rw [TL.join_eq, TL.tl_join, (by decide +kernel : TL.tl (Str.ofString "") = [])]
    exact bits_join h.1
  exact e
theorem bits_size {bs : List Int} (h : OkB bs) : (bitsT bs).cps.size = bs.length ∧ (bitsT bs).length = bs.length := by
  have e := congrArg List.length (bits_codes h)
  rw [List.length_map, Array.length_toList] at e
  exact ⟨e, e⟩
theorem code_at {bs : List Int} (h : OkB bs) {i c : Nat} (hc : (bitsT bs).cps[i]? = some c) : ∃ b, bs[i]? = some b ∧ c = code b ∧ (b = 0 ∨ b = 1) := by
  have hc2 : (bitsT bs).cps.toList[i]? = some c := by simpa using hc
  rw [bits_codes h, List.getElem?_map] at hc2
  cases e : bs[i]? with
  | none => rw [e] at hc2; cases hc2
  | some b =>
    rw [e] at hc2
    exact ⟨b, rfl, (Option.some.inj hc2).symm, h.1 b (List.mem_of_getElem? e)⟩
theorem code_in {b : Int} (h : b = 0 ∨ b = 1) : decide (code b ∈ (Str.ofString "01").cps.toList) = true := by
  rcases h with rfl | rfl
  · decide +kernel
  · decide +kernel
/-- the board of a text -/
def boardOf (z : Str) : Option (List Int) := if 1 ≤ z.length ∧ z.length ≤ 40 ∧ z.cps.toList.head? = some 49 ∧ (z.cps.toList.all fun c => decide (c ∈ (Str.ofString "01").cps.toList)) = true then some (z.cps.toList.map fun c => if c = 49 then 1 else 0) else none
theorem s01 : (Str.ofString "01").cps.toList = [48, 49] := by decide +kernel
theorem boardOf_ok {z : Str} {bs : List Int} (h : boardOf z = some bs) : OkB bs ∧ z = bitsT bs := by
  unfold boardOf at h
  by_cases y : 1 ≤ z.length ∧ z.length ≤ 40 ∧ z.cps.toList.head? = some 49 ∧ (z.cps.toList.all fun c => decide (c ∈ (Str.ofString "01").cps.toList)) = true
  · rw [if_pos y] at h
    obtain rfl := Option.some.inj h
    obtain ⟨y1, y2, y3, y4⟩ := y
    have ok : OkB (z.cps.toList.map fun c => if c = 49 then (1 : Int) else 0) := by
      refine ⟨fun x hx => ?_, ?_, ?_⟩
      · obtain ⟨c, _, rfl⟩ := List.mem_map.mp hx
        by_cases q : c = 49
        · exact .inr (if_pos q)
        · exact .inl (if_neg q)
      · match e : z.cps.toList with
        | [] => rw [e] at y3; cases y3
        | c :: r =>
          rw [e] at y3
          obtain rfl : c = 49 := Option.some.inj y3
          rfl
      · rw [List.length_map, ← len_cps]
        exact y2
    refine ⟨ok, str_ext ?_⟩
    rw [bits_codes ok, List.map_map]
    refine ((List.map_congr_left fun c hc => ?_).trans (List.map_id _)).symm
    have m := of_decide_eq_true (List.all_eq_true.mp y4 c hc)
    rw [s01] at m
    show code (if c = 49 then 1 else 0) = c
    rcases List.mem_cons.mp m with rfl | m
    · rfl
    · rw [List.mem_singleton.mp m]
      rfl
  · rw [if_neg y] at h
    cases h
section
variable {P : Program} {w : World} {K : PySem.W.Frag} {mg : Str → Option Value} {base : Heap}
/-- board_in -/
def spBin (K : PySem.W.Frag) (C : Addr) : Sp := fun vs H Q _ => ∃ v : V, vs = [v] ∧
  ((∃ z : Str, v = .str z ∧ z.length ≤ 2490 ∧ (∀ bs, boardOf z = some bs → ∀ a H', H a = none → Same H H' → Bd C H' a bs → Q (.ref a) H') ∧ (boardOf z = none → ∀ H', Same H H' → Q .non H')) ∨
   (NoStr K H v ∧ ∀ H', Same H H' → Q .non H'))
abbrev nBin : List Str := ["text", "state", "cell"]
theorem scBin : FnScope nBin ["text"] (defScope sBoardIn) := ⟨rfl, rfl, rfl, by decide +kernel, rfl, by decide +kernel, by decide +kernel⟩
theorem ok_bin {f C : Addr} {fd : FuncData} (F : Fun K "board_in" "board_in" sBoardIn f fd) (B : Bl mg) (hS : mg "str" = none) (hM : ∃ t, mg "MOST_CELLS" = some (.int 40 t)) (T : BC K mg C) (DI : HasIni P w K mg base C) : FnOk P w K mg base CX0 8 f fd ["text"] (spBin K C) := by
  obtain ⟨tM, hM⟩ := hM
  obtain ⟨fI, fdI, GI, MI, kb2, _⟩ := DI
  refine F.ok scBin (fun vs H Q E h => ?_) (fun cdv A outer s H vs Q E hr h => ?_)
  · obtain ⟨v, rfl, _⟩ := h
    rfl
  · obtain ⟨v, rfl, h⟩ := h
    have hu := hr.units
    have r7 : Room 7 _ := hr
    refine ⟨_, (pss_cons (ps_if (PW.pt (pw_or (pt_not (pt_val (pe_callB call_isi (by rfl) B.isinstance (by decide +kernel) (pa_cons (pv 0) (pa_cons (pe_bltn (v := .ty "str") (by rfl) hS (by decide +kernel) rfl) pa_nil))))) (pw_or1 (pt_not (pt_chain op_le op_le pe_int (pe_callB call_len_str (by rfl) B.len PySem.boot_len (pa_cons (pv 0) pa_nil)) (pe_glob (v := .int 40) (by rfl) hM ⟨_, rfl⟩)))))) (pss_one (ps_ret pe_non)) pss_nil)
      (pss_cons (ps_if (PW.pt (pw_or (pt_cmpR op_ne (pe_ix ix_str (pv 0) pe_int (fun _ _ => rfl)) pe_str (nomark _)) (pw_or1 (pt_not (pt_val (pe_callB (cr_all rfl) (by rfl) B.all (by decide +kernel) (pa_cons (pe_lc (own := [("state", 1)]) (g := gName 1) (te := tOp (fun x y H Q => ∃ (c : Nat) (z : Str), x = .str ⟨#[c]⟩ ∧ y = .str z ∧ Q (.bl (decide (c ∈ z.cps.toList))) H) (tVar 1) (tC (.str "01"))) rfl scBin.nd (pi_str (pv 0)) (blkOk_by (own := [("state", 1)]) (N := nBin) (sc := defScope sBoardIn) (by decide +kernel)) (fun _ _ _ _ _ => (pg_name (i := 1) scBin.nd rfl (Or.inl rfl))) (fun _ _ _ _ _ => pts_nil) (fun _ _ _ _ _ => by exact pe_cmpR op_in_sign (pv 1) pe_str (by rfl))) pa_nil))))))) (pss_one (ps_ret pe_non)) pss_nil)
      (pss_one (ps_ret (pe_makeN (n := 1) (ks := ["up"]) (E := E0) MI GI r7 (by rfl) T.mgC kb2 pass0 (pa_cons (pe_callB call_len_str (by rfl) B.len PySem.boot_len (pa_cons (pv 0) pa_nil)) pa_nil) (pk_cons (pe_lc (own := [("cell", 2), ("state", 1)]) (g := gTup K 2 (gCons (gName 2) (gCons (gName 1) gNil))) (te := tVar 2) rfl scBin.nd (pi_enumS (by rfl) B.enumerate (pa_cons (pv 0) pa_nil)) (blkOk_by (own := [("cell", 2), ("state", 1)]) (N := nBin) (sc := defScope sBoardIn) (by decide +kernel)) (fun _ _ _ _ _ => by exact pg_tup rfl (pgs_cons (pg_name (i := 2) scBin.nd rfl (Or.inl rfl)) (pgs_cons (pg_name (i := 1) scBin.nd rfl (Or.inl rfl)) pgs_nil))) (fun _ _ _ _ _ => pts_one (pt_cmpR op_eq (pv 1) pe_str (nomark _))) (fun _ _ _ _ _ => by exact pv 2)) pk_nil)))))), ?_⟩
    rcases h with ⟨z, rfl, lz, good, bad⟩ | ⟨⟨n, ty, kf⟩, out⟩
    rotate_left
    · exact ⟨_, rfl, _, _, _, _, false, rfl, .ty "str", ty, kf, _, rfl, iteT (out H (Same.refl _))⟩
    cases hb : boardOf z with
    | some bs =>
      obtain ⟨hO, ez⟩ := boardOf_ok hb
      have out := good bs hb
      subst ez
      clear good bad hb lz
      obtain ⟨zs, zl⟩ := bits_size hO
      have cod := bits_codes hO
      have h40 := hO.2.2
      have h1 : 1 ≤ bs.length := by
        have := (List.getElem?_eq_some_iff.mp hO.2.1).1
        omega
      have kl : (bitsT bs).length ≤ sizeLine := by rw [sizeLine_eq]; omega
      have c1 : decide ((1 : Int) ≤ (((bitsT bs).length : Nat) : Int)) = true := decide_eq_true (by omega)
      have c2 : decide ((((bitsT bs).length : Nat) : Int) ≤ 40) = true := decide_eq_true (by omega)
      refine ⟨_, rfl, _, _, _, _, true, rfl, .ty "str", .base (.str _), kit_ty (by decide +kernel), _, rfl, iteF ?_⟩
      refine ⟨_, rfl, _, rfl, kl, _, _, rfl, rfl, _, rfl, ?_⟩
      rw [c1]
      refine iteT ⟨_, _, rfl, rfl, _, rfl, ?_⟩
      rw [c2]
      refine iteF ?_
      have at0 : atI (bitsT bs).cps.toList ((0 : Nat) : Int) = some 49 := atI_nat (by
        rw [cod, List.getElem?_map, hO.2.1]
        rfl)
      refine ⟨_, rfl, _, _, 49, rfl, rfl, kl, at0, rfl, _, rfl, ?_⟩
      have one : (⟨#[49]⟩ : Str) = Str.ofString "1" := by decide +kernel
      rw [decide_eq_true (congrArg V.str one)]
      refine iteF ?_
      refine ⟨_, rfl, _, rfl, fun D hD => ?_⟩
      refine lc_it walk_str (fun i H' => Same H H' ∧ H' D = some (.lst ((List.replicate i true).map V.bl))) ⟨same_new hD, upd_same⟩ (fun i H' _ h => trivial) ?_ ?_
      · rintro i x H3 H4 hi ⟨s3, hD3⟩ ⟨rfl, c, hc, rfl⟩
        obtain ⟨b, hb, rfl, b01⟩ := code_at hO hc
        have il : i < bs.length := (List.getElem?_eq_some_iff.mp hb).1
        refine ⟨rfl, yesT ?_⟩
        refine ⟨_, rfl, _, _, rfl, rfl, _, hD3, ?_, ?_, ?_⟩
        · rw [List.length_map, List.length_replicate]
          exact small1000 (by omega)
        · intro b o e
          rw [upd_ne (ne_of_none e hD)]
          exact s3 b o e
        · rw [upd_same, code_in b01, List.replicate_succ', List.map_append]
          rfl
      rintro H5 ⟨s5, hD5⟩
      refine ⟨D, _, rfl, SqL.of hD5, _, rfl, ?_⟩
      have ca : (List.replicate (bitsT bs).cps.size true).all id = true := by simp
      rw [ca]
      refine iteF ?_
      have asc : ((bitsT bs).cps.all fun x => decide (x < 128)) = true := by
        rw [← Array.all_toList, cod, List.all_map, List.all_eq_true]
        intro b _
        show decide (code b < 128) = true
        unfold code
        split <;> decide
      have n1 : ¬ (⟨#[48]⟩ : Str) = Str.ofString "1" := by decide +kernel
      refine ⟨_, rfl, _, rfl, kl, ?_⟩
      refine ⟨_, rfl, _, rfl, asc, fun D2 hD2 => ?_⟩
      refine lc_it walk_enumS (fun i H' => Same H5 H' ∧ H' D2 = some (.lst ((upF 0 (bs.take i)).map V.int))) ⟨same_new hD2, upd_same⟩ (fun i H' _ h => trivial) ?_ ?_
      · rintro i x H3 H4 hi ⟨s3, hD3⟩ ⟨T1, c, rfl, hT, rfl, hc⟩
        obtain ⟨b, hb, rfl, b01⟩ := code_at hO hc
        have s4 : Same H5 (upd H3 T1 (.tup [.int (i : Nat), .str ⟨#[code b]⟩])) := s3.trans (same_new hT)
        have hD4 := (same_new (o := .tup [.int (i : Nat), .str ⟨#[code b]⟩]) hT) _ _ hD3
        have st := upF_step hb
        have il : i < bs.length := (List.getElem?_eq_some_iff.mp hb).1
        refine ⟨T1, _, rfl, SqT.of upd_same, rfl, _, _, rfl, _, _, rfl, rfl, rfl, _, rfl, rfl, _, rfl, ite2 (fun hz => ?_) (fun hz => ?_)⟩
        · have hb1 : b = 1 := by
            rcases b01 with rfl | rfl
            · have := of_decide_eq_true hz
              injection this with this
              exact absurd this n1
            · rfl
          refine ⟨_, rfl, _, hD4, ?_, ?_, ?_⟩
          · have := upF_len 0 (bs.take i)
            rw [List.length_take] at this
            rw [List.length_map]
            exact small1000 (by omega)
          · intro z o e
            rw [upd_ne (ne_of_none e hD2)]
            exact s4 z o e
          · rw [upd_same, st, if_pos hb1, List.map_append]
            rfl
        · have hb0 : ¬ b = 1 := by
            rintro rfl
            exact hz (decide_eq_true (congrArg V.str one))
          refine ⟨s4, ?_⟩
          rw [st, if_neg hb0, List.append_nil]
          exact hD4
      rintro H6 ⟨s6, hD6⟩
      rw [zs, List.take_length] at hD6
      have hl := upF_len 0 bs
      have s06 := s5.trans s6
      rw [zl]
      refine ⟨rfl, rfl, made_board (n := bs.length) (ns := upF 0 bs) (.inl (SqL.of hD6)) (by omega) h1 h40 (fun k hk => upF_in hk) (nodup_lt_ (upF_up 0 bs)) fun x H7 hx s7 hB => ?_⟩
      rw [mk_all hO] at hB
      exact out x H7 (s06.free hx) (s06.trans s7) hB
    | none =>
      have o := bad hb
      unfold boardOf at hb
      have kl : z.length ≤ sizeLine := by rw [sizeLine_eq]; omega
      have zs : z.cps.size = z.cps.toList.length := by simp
      refine ⟨_, rfl, _, _, _, _, true, rfl, .ty "str", .base (.str _), kit_ty (by decide +kernel), _, rfl, iteF ?_⟩
      refine ⟨_, rfl, _, rfl, kl, _, _, rfl, rfl, _, rfl, ?_⟩
      by_cases l1 : 1 ≤ z.length
      rotate_left
      · rw [decide_eq_false (by omega : ¬ (1 : Int) ≤ ((z.length : Nat) : Int))]
        exact iteF ⟨_, rfl, iteT (o H (Same.refl _))⟩
      rw [decide_eq_true (by omega : (1 : Int) ≤ ((z.length : Nat) : Int))]
      refine iteT ⟨_, _, rfl, rfl, _, rfl, ?_⟩
      by_cases l40 : z.length ≤ 40
      rotate_left
      · rw [decide_eq_false (by omega : ¬ ((z.length : Nat) : Int) ≤ 40)]
        exact iteT (o H (Same.refl _))
      rw [decide_eq_true (by omega : ((z.length : Nat) : Int) ≤ 40)]
      refine iteF ?_
      obtain ⟨c, r, er⟩ : ∃ c r, z.cps.toList = c :: r := by
        cases e : z.cps.toList with
        | nil =>
          rw [len_cps, e] at l1
          exact absurd l1 (by decide)
        | cons c r => exact ⟨c, r, rfl⟩
      have at0 : atI z.cps.toList ((0 : Nat) : Int) = some c := atI_nat (by rw [er]; rfl)
      have one : (Str.ofString "1").cps.toList = [49] := by decide +kernel
      refine ⟨_, rfl, _, _, c, rfl, rfl, kl, at0, rfl, _, rfl, ?_⟩
      by_cases c49 : c = 49
      rotate_left
      · have ne : ¬ V.str (⟨#[c]⟩ : Str) = V.str "1" := fun q => by
          injection q with q
          have h2 : [c] = (Str.ofString "1").cps.toList := congrArg (fun z : Str => z.cps.toList) q
          rw [one] at h2
          injection h2 with h2
          exact c49 h2
        rw [decide_eq_false ne]
        exact iteT (o H (Same.refl _))
      have eq1 : V.str (⟨#[c]⟩ : Str) = V.str "1" := congrArg V.str (str_ext (by rw [one, c49]))
      rw [decide_eq_true eq1]
      refine iteF ?_
      refine ⟨_, rfl, _, rfl, fun D hD => ?_⟩
      refine lc_it walk_str (fun i H' => Same H H' ∧ H' D = some (.lst (((z.cps.toList.take i).map fun c => decide (c ∈ (Str.ofString "01").cps.toList)).map V.bl))) ⟨same_new hD, upd_same⟩ (fun i H' _ h => True.intro) ?_ ?_
      · rintro i x H3 H4 hi ⟨s3, hD3⟩ ⟨rfl, c, hc, rfl⟩
        refine ⟨rfl, yesT ?_⟩
        refine ⟨_, rfl, c, _, rfl, rfl, _, hD3, ?_, ?_, ?_⟩
        · rw [List.length_map, List.length_map, List.length_take]
          have : z.cps.toList.length ≤ 40 := by rw [← len_cps]; exact l40
          exact small1000 (by omega)
        · intro b o e
          rw [upd_ne (ne_of_none e hD)]
          exact s3 b o e
        · have hc2 : z.cps.toList[i]? = some c := by simpa using hc
          rw [upd_same, List.take_succ, hc2, List.map_append, List.map_append]
          rfl
      rintro H5 ⟨s5, hD5⟩
      rw [zs, List.take_length] at hD5
      refine ⟨D, _, rfl, SqL.of hD5, ?_⟩
      have ca : ((z.cps.toList).map fun c => decide (c ∈ (Str.ofString "01").cps.toList)).all id = false := by
        rw [List.all_map]
        cases e : z.cps.toList.all fun c => decide (c ∈ (Str.ofString "01").cps.toList) with
        | false => exact e
        | true =>
          rw [if_pos ⟨l1, l40, by rw [er, c49]; rfl, e⟩] at hb
          cases hb
      refine ⟨_, rfl, ?_⟩
      rw [ca]
      exact iteT (o H5 s5)
end
end K92
namespace K92
open PySem PySem.Spec PyProof.Rows L2 Par
/-- what the module says of NoText -/
structure NtC (K : PySem.W.Frag) (mg : Str → Option Value) (C : Addr) : Prop where
  gC : mg "NoText" = some (.ref C)
  ox : OexC K C
  no : PySem.W.findIn K (.ref C) "line" = some none
section
variable {P : Program} {w : World} {K : PySem.W.Frag} {mg : Str → Option Value} {base : Heap}
def spNt (C : Addr) : Sp := fun vs H Q _ => ∃ (a : Addr) (v : V), vs = [.ref a, v] ∧ H a = some (exo a C none) ∧
  ∀ dx, H dx = none → dx ≠ a → Q .non (upd (upd H dx (exd dx [("line", v)])) a (exo a C (some dx)))
theorem scNt : FnScope ["self", "line"] ["self", "line"] (defScope sTIni) := ⟨rfl, rfl, rfl, by decide +kernel, rfl, by decide +kernel, by decide +kernel⟩
theorem ok_nt {f C : Addr} {fd : FuncData} (F : Fun K "__init__" "NoText.__init__" sTIni f fd) (T : NtC K mg C) : FnOk P w K mg base CX0 2 f fd ["self", "line"] (spNt C) := by
  refine F.ok scNt (fun vs H Q E h => ?_) (fun cdv A outer s H vs Q E hr h => ?_)
  · obtain ⟨a, v, rfl, _⟩ := h
    rfl
  · obtain ⟨a, v, rfl, ha, out⟩ := h
    refine ⟨_, pss_one (ps_ost (pv 0) (pv 1)), ?_⟩
    exact ⟨_, rfl, _, rfl, a, C, rfl, T.ox, T.no, .inl ⟨ha, out⟩⟩
def HasNt (P : Program) (w : World) (K : PySem.W.Frag) (mg : Str → Option Value) (base : Heap) (C : Addr) : Prop :=
  ∃ f fd, FnOk P w K mg base CX0 2 f fd ["self", "line"] (spNt C) ∧ PySem.W.findIn K (.ref C) "__init__" = some (some (.ref f)) ∧ PySem.W.typeIn K (.ref f) = some (.type "function") ∧ Binds K fd ["self", "line"] []
/-- what raise NoText(v) leads to -/
theorem made_nt {C : Addr} {H : Hp} {v : V} {W : Value → Option Addr → Hp → Prop} (h : ∀ d H', H d = none → Same H H' → H' d = some (.xd [("line", v)]) → W (.ref C) (some d) H') :
    ∀ a, H a = none → spNt C (.ref a :: ([v] ++ [])) (upd H a (exo a C none)) (fun u H2 => u = .non ∧ ∃ (d : Addr) (fs : List (Str × V)), H2 a = some (exo a C (some d)) ∧ H2 d = some (exd d fs) ∧ H d = none ∧
      W (.ref C) (some d) (upd (del H2 a) d (.xd fs))) (fun _ _ _ => False) := by
  intro a ha
  refine ⟨a, v, rfl, upd_same, fun dx hd ne => ?_⟩
  rw [upd_ne ne] at hd
  refine ⟨rfl, dx, [("line", v)], upd_same, by rw [upd_ne ne, upd_same], hd, ?_⟩
  refine h dx _ hd (fun b o e => ?_) upd_same
  have n1 := ne_of_none e hd
  have n2 := ne_of_none e ha
  rw [upd_ne n1, del_ne n2, upd_ne n2, upd_ne n1, upd_ne n2]
  exact e
end
section
variable {P : Program} {w : World} {K : PySem.W.Frag} {mg : Str → Option Value} {base : Heap}
/-- cells_text of cells in any order -/
def spCt (K : PySem.W.Frag) : Sp := fun vs H Q _ => ∃ (a : Addr) (ns ks : List Int), vs = [.ref a] ∧ Sq K H a (ns.map V.int) ∧ Cls ks ∧ ns.Perm ks ∧ ∀ H', Same H H' → Q (.str (cellsT ks)) H'
theorem scCt : FnScope ["cells"] ["cells"] (defScope sCellsText) := ⟨rfl, rfl, rfl, by decide +kernel, rfl, by decide +kernel, by decide +kernel⟩
theorem ok_ct {f : Addr} {fd : FuncData} (F : Fun K "cells_text" "cells_text" sCellsText f fd) (DC : HasD P w K mg base "cell_tuple" 5 "things" (spCells K)) (DW : Has P w K mg base "written_cells" 2 ["cells"] (spWritten K)) : FnOk P w K mg base CX0 6 f fd ["cells"] (spCt K) := by
  obtain ⟨fD, fdD, dsD, GD, mD, kD, hdD, bD⟩ := DC
  obtain ⟨fW, fdW, GW, mW, kW, bW⟩ := DW
  refine F.ok scCt (fun vs H Q E h => ?_) (fun cdv A outer s H vs Q E hr h => ?_)
  · obtain ⟨a, ns, ks, rfl, _⟩ := h
    rfl
  · obtain ⟨a, ns, ks, rfl, hq, ⟨up, hin, l40⟩, pm, out⟩ := h
    have r2 : Room 2 _ := hr.mono (by decide)
    refine ⟨_, (pss_one (ps_ret (pe_call GW r2 (by rfl) mW kW bW .nil pass0 (pa_cons (pe_call GD hr (by rfl) mD kD bD hdD pass0 (pa_cons (pv 0) pa_nil)) pa_nil)))), ?_⟩
    have pl := pm.length_eq
    refine ⟨_, rfl, a, 40, ns, rfl, hq, by omega, fun k hk => hin k (pm.mem_iff.mp hk), pm.nodup_iff.mpr (nodup_lt_ up), fun t ms H1 ht s1 p1 w1 e1 => ?_⟩
    have em := sort_same (p1.trans pm) w1 up
    subst em
    exact ⟨t, ms, rfl, SqT.of e1, l40, hin, fun H2 s2 => out H2 (s1.trans s2)⟩
theorem scFt : FnScope ["flip"] ["flip"] (defScope sFlipText) := ⟨rfl, rfl, rfl, by decide +kernel, rfl, by decide +kernel, by decide +kernel⟩
theorem ok_ft {f C : Addr} {fd : FuncData} (F : Fun K "flip_text" "flip_text" sFlipText f fd) (hS : mg "str" = none) (DT : HasS P w K mg base C "__str__" 3 (spStrF C)) : FnOk P w K mg base CX0 6 f fd ["flip"] (spStrF C) := by
  obtain ⟨fT, fdT, GT, cT, nT, bT⟩ := DT
  refine F.ok scFt (fun vs H Q E h => ?_) (fun cdv A outer s H vs Q E hr h => ?_)
  · obtain ⟨a, ts, hs, rfl, _⟩ := h
    rfl
  · obtain ⟨a, ts, hs, rfl, hF, hO, out⟩ := h
    refine ⟨_, (pss_one (ps_ret (pe_callTy (cr_strOwn (E := E0) cT nT GT hr bT pass0) (by rfl) hS (by decide +kernel) (pa_cons (pv 0) pa_nil)))), ?_⟩
    obtain ⟨dx, fs, e1⟩ : ∃ dx fs, H a = some (.ins C dx fs) := by
      obtain ⟨dx, t1, t2, e1, _⟩ := hF
      exact ⟨_, _, e1⟩
    exact ⟨_, rfl, a, dx, fs, rfl, e1, a, ts, hs, rfl, hF, hO, fun H1 s1 => ⟨_, rfl, out H1 s1⟩⟩
theorem scBt : FnScope ["board"] ["board"] (defScope sBoardText) := ⟨rfl, rfl, rfl, by decide +kernel, rfl, by decide +kernel, by decide +kernel⟩
theorem ok_bt {f C : Addr} {fd : FuncData} (F : Fun K "board_text" "board_text" sBoardText f fd) (hS : mg "str" = none) (DT : HasS P w K mg base C "__str__" 2 (spStrB C)) : FnOk P w K mg base CX0 5 f fd ["board"] (spStrB C) := by
  obtain ⟨fT, fdT, GT, cT, nT, bT⟩ := DT
  refine F.ok scBt (fun vs H Q E h => ?_) (fun cdv A outer s H vs Q E hr h => ?_)
  · obtain ⟨a, bs, rfl, _⟩ := h
    rfl
  · obtain ⟨a, bs, rfl, hF, hO, out⟩ := h
    refine ⟨_, (pss_one (ps_ret (pe_callTy (cr_strOwn (E := E0) cT nT GT hr bT pass0) (by rfl) hS (by decide +kernel) (pa_cons (pv 0) pa_nil)))), ?_⟩
    obtain ⟨dx, fs, e1⟩ : ∃ dx fs, H a = some (.ins C dx fs) := by
      obtain ⟨dx, t, e1, _⟩ := hF
      exact ⟨_, _, e1⟩
    exact ⟨_, rfl, a, dx, fs, rfl, e1, a, bs, rfl, hF, hO, fun H1 s1 => ⟨_, rfl, out H1 s1⟩⟩
def spTo : Sp := fun vs H Q _ => ∃ (a : Addr) (ns : List Int), vs = [.ref a] ∧ H a = some (.lst (ns.map V.int)) ∧ ns.length ≤ 40 ∧ (∀ k ∈ ns, 0 ≤ k ∧ k < 40) ∧ ∀ H', Same H H' → Q (.str (cellsT ns)) H'
abbrev nTo : List Str := ["_law_spots_here", "_law_spot"]
theorem scTo : FnScope nTo ["_law_spots_here"] (defScope slTextOf) := ⟨rfl, rfl, rfl, by decide +kernel, rfl, by decide +kernel, by decide +kernel⟩
theorem ok_to {f : Addr} {fd : FuncData} (F : Fun K "_law_text_of" "_law_text_of" slTextOf f fd) (B : Bl mg) (hS : mg "str" = none) : FnOk P w K mg base CX0 2 f fd ["_law_spots_here"] spTo := by
  refine F.ok scTo (fun vs H Q E h => ?_) (fun cdv A outer s H vs Q E hr h => ?_)
  · obtain ⟨a, ns, rfl, _⟩ := h
    rfl
  · obtain ⟨a, ns, rfl, ha, l1, hin, out⟩ := h
    have hu := hr.units
    refine ⟨_, pss_one (ps_ret (pe_ifExp (pt_cmpR (op_neP hu) (pv 0) (pe_lst pa_nil) (nomark _)) (pe_join pe_str (pe_lc (own := [("_law_spot", 1)]) (g := gName 1) rfl scTo.nd (pi_list (pv 0)) (blkOk_by (own := [("_law_spot", 1)]) (N := nTo) (sc := defScope slTextOf) (by decide +kernel)) (fun _ _ _ _ _ => pg_name (i := 1) scTo.nd rfl (Or.inl rfl)) (fun _ _ _ _ _ => pts_nil) (fun _ _ _ _ _ => by exact pe_callTy call_str_int (by rfl) hS (by decide +kernel) (pa_cons (pv 1) pa_nil)))) pe_str)), ?_⟩
    refine ⟨_, rfl, (by show 0 ≤ sizeLine; decide), fun Z hZ => ?_⟩
    have s1 := same_new (o := .lst []) hZ
    refine ⟨.list (ns.map .int), .list [], .lst (SqL.of (s1 _ _ ha)) (dps_ints ns), .lst (SqL.of upd_same) .nil, plain_ints _, rfl, (by show min _ 1 ≤ 64; omega), _, rfl, ?_⟩
    rw [eqv_nil]
    refine ite2 (fun z => ?_) (fun z => ?_)
    · have e : ¬ ns.isEmpty = true := by
        intro q
        rw [q] at z
        simp at z
      have eS := s1 _ _ ha
      generalize (upd H Z (.lst [])) = HS at eS s1 ⊢
      refine ⟨⟨_, rfl⟩, _, rfl, a, rfl, ⟨_, SqL.of eS⟩, fun D hD => ?_⟩
      refine lc_list (K := K) (a := a) (xs := (ns).map V.int) (fun i H' => Same HS H' ∧ H' D = some (.lst ((((ns).take i).map fun k => Str.ofString (toString k)).map V.str))) ⟨same_new hD, upd_same⟩ (fun i H' _ h => SqL.of (h.1 _ _ eS)) ?_ ?_
      · rintro i x Hi hx ⟨si, hDi⟩
        rw [List.getElem?_map] at hx
        obtain ⟨k, hk, rfl⟩ : ∃ k, (ns)[i]? = some k ∧ x = V.int k := by
          cases e : (ns)[i]? with
          | none => rw [e] at hx; cases hx
          | some k => rw [e] at hx; exact ⟨k, rfl, (Option.some.inj hx).symm⟩
        have kb := hin k (List.mem_of_getElem? hk)
        have lnn : (ns).length ≤ 40 := l1
        refine ⟨rfl, yesT ?_⟩
        refine ⟨_, rfl, k, rfl, ?_, _, hDi, ?_, ?_, ?_⟩
        · have : k.natAbs < 2 ^ 6 := by omega
          exact Nat.lt_of_lt_of_le (log_lt this (by decide)) (by decide)
        · rw [List.length_map, List.length_map, List.length_take]
          exact small1000 (by omega)
        · intro b o e
          rw [upd_ne (ne_of_none e hD)]
          exact si b o e
        · rw [upd_same, List.take_succ, hk, List.map_append, List.map_append]
          rfl
      · rintro Hj ⟨sj, hDj⟩
        rw [List.length_map, List.take_length] at hDj
        refine ⟨_, D, ns.map fun k => Str.ofString (toString k), rfl, rfl, .inl (SqL.of hDj), join0_len hin l1 _ (by decide +kernel), ?_⟩
        have := out Hj (s1.trans sj)
        unfold cellsT at this
        rw [if_neg e] at this
        exact this
    · have e : ns = [] := by
        cases ns with
        | nil => rfl
        | cons _ _ => simp at z
      subst e
      exact out _ s1
def spPt (K : PySem.W.Frag) : Sp := fun vs H Q _ => ∃ (p : Addr) (ts hs : List Int), vs = [.ref p] ∧ Pr K H p ts hs ∧ OkF ts hs ∧ ∀ H', Same H H' → Q (.str (flipT ts hs)) H'
theorem scPt : FnScope ["_law_pair_here"] ["_law_pair_here"] (defScope slPairText) := ⟨rfl, rfl, rfl, by decide +kernel, rfl, by decide +kernel, by decide +kernel⟩
theorem ok_pt {f : Addr} {fd : FuncData} (F : Fun K "_law_pair_text" "_law_pair_text" slPairText f fd) (DL : Has P w K mg base "_law_text_of" 2 ["_law_spots_here"] spTo) : FnOk P w K mg base CX0 3 f fd ["_law_pair_here"] (spPt K) := by
  obtain ⟨fL, fdL, GL, mL, kL, bL⟩ := DL
  refine F.ok scPt (fun vs H Q E h => ?_) (fun cdv A outer s H vs Q E hr h => ?_)
  · obtain ⟨p, ts, hs, rfl, _⟩ := h
    rfl
  · obtain ⟨p, ts, hs, rfl, ⟨t, g, p1, p2, p3⟩, ok, out⟩ := h
    obtain ⟨i1, i2, l1, l2⟩ := okF_in ok
    have c1 := cellsT_len i1 l1
    have c2 := cellsT_len i2 l2
    have c3 : (Str.ofString ">").length = 1 := by decide +kernel
    refine ⟨_, (pss_one (ps_ret (pe_op op_add_str (pe_op op_add_str (pe_call GL hr (by rfl) mL kL bL .nil pass0 (pa_cons (pe_ix ix_tup (pv 0) pe_int (fun _ _ => rfl)) pa_nil)) pe_str) (pe_call GL hr (by rfl) mL kL bL .nil pass0 (pa_cons (pe_ix ix_tup (pv 0) pe_int (fun _ _ => rfl)) pa_nil))))), ?_⟩
    refine ⟨_, rfl, p, _, 0, .ref t, rfl, rfl, p1, rfl, t, ts, rfl, p2, l1, i1, fun H1 s1 => ?_⟩
    refine ⟨_, _, rfl, rfl, by rw [c3, sizeLine_eq]; omega, ?_⟩
    refine ⟨_, rfl, p, _, 1, .ref g, rfl, rfl, same_sqt s1 p1, rfl, g, hs, rfl, s1 _ _ p3, l2, i2, fun H2 s2 => ?_⟩
    exact ⟨_, _, rfl, rfl, by rw [app_len, c3, sizeLine_eq]; omega, out H2 (s1.trans s2)⟩
def spBx : Sp := fun vs H Q _ => ∃ (a : Addr) (bs : List Int), vs = [.ref a] ∧ H a = some (.lst (bs.map V.int)) ∧ OkB bs ∧ ∀ H', Same H H' → Q (.str (bitsT bs)) H'
abbrev nBx : List Str := ["_law_bits_here", "_law_bit"]
theorem scBx : FnScope nBx ["_law_bits_here"] (defScope slBitsText) := ⟨rfl, rfl, rfl, by decide +kernel, rfl, by decide +kernel, by decide +kernel⟩
theorem ok_bx {f : Addr} {fd : FuncData} (F : Fun K "_law_bits_text" "_law_bits_text" slBitsText f fd) (hS : mg "str" = none) : FnOk P w K mg base CX0 2 f fd ["_law_bits_here"] spBx := by
  refine F.ok scBx (fun vs H Q E h => ?_) (fun cdv A outer s H vs Q E hr h => ?_)
  · obtain ⟨a, bs, rfl, _⟩ := h
    rfl
  · obtain ⟨a, bs, rfl, ha, hO, out⟩ := h
    have sm := okB_small hO
    have h40 := hO.2.2
    refine ⟨_, (pss_one (ps_ret (pe_join pe_str (pe_lc (own := [("_law_bit", 1)]) (g := gName 1) rfl scBx.nd (pi_list (pv 0)) (blkOk_by (own := [("_law_bit", 1)]) (N := nBx) (sc := defScope slBitsText) (by decide +kernel)) (fun _ _ _ _ _ => (pg_name (i := 1) scBx.nd rfl (Or.inl rfl))) (fun _ _ _ _ _ => pts_nil) (fun _ _ _ _ _ => by exact pe_callTy call_str_int (by rfl) hS (by decide +kernel) (pa_cons (pv 1) pa_nil)))))), ?_⟩
    refine ⟨⟨_, rfl⟩, _, rfl, a, rfl, ⟨_, SqL.of ha⟩, fun D hD => ?_⟩
    refine lc_list (K := K) (a := a) (xs := (bs).map V.int) (fun i H' => Same H H' ∧ H' D = some (.lst ((((bs).take i).map fun k => Str.ofString (toString k)).map V.str))) ⟨same_new hD, upd_same⟩ (fun i H' _ h => SqL.of (h.1 _ _ ha)) ?_ ?_
    · rintro i x Hi hx ⟨si, hDi⟩
      rw [List.getElem?_map] at hx
      obtain ⟨k, hk, rfl⟩ : ∃ k, (bs)[i]? = some k ∧ x = V.int k := by
        cases e : (bs)[i]? with
        | none => rw [e] at hx; cases hx
        | some k => rw [e] at hx; exact ⟨k, rfl, (Option.some.inj hx).symm⟩
      have kb := sm k (List.mem_of_getElem? hk)
      have lnn : (bs).length ≤ 40 := h40
      refine ⟨rfl, yesT ?_⟩
      refine ⟨_, rfl, k, rfl, ?_, _, hDi, ?_, ?_, ?_⟩
      · have : k.natAbs < 2 ^ 6 := by omega
        exact Nat.lt_of_lt_of_le (log_lt this (by decide)) (by decide)
      · rw [List.length_map, List.length_map, List.length_take]
        exact small1000 (by omega)
      · intro b o e
        rw [upd_ne (ne_of_none e hD)]
        exact si b o e
      · rw [upd_same, List.take_succ, hk, List.map_append, List.map_append]
        rfl
    · rintro Hj ⟨sj, hDj⟩
      rw [List.length_map, List.take_length] at hDj
      refine ⟨_, D, bs.map fun k => Str.ofString (toString k), rfl, rfl, .inl (SqL.of hDj), join0_len sm h40 _ (by decide +kernel), ?_⟩
      exact out Hj sj
/-- read_cells -/
def spRc (K : PySem.W.Frag) (T : Addr) : Sp := fun vs H Q E => ∃ v : V, vs = [v] ∧
  ((∃ z : Str, v = .str z ∧ z.length ≤ 2490 ∧ (∀ ns, cellsOf z = some ns → ∀ q H', H q = none → Same H H' → H' q = some (.tup (ns.map V.int)) → Q (.ref q) H') ∧ (cellsOf z = none → ∀ d H', H d = none → Same H H' → H' d = some (.xd [("line", .int 0)]) → E (.ref T) (some d) H')) ∨
   (NoStr K H v ∧ ∀ d H', H d = none → Same H H' → H' d = some (.xd [("line", .int 0)]) → E (.ref T) (some d) H'))
abbrev nRc : List Str := ["text", "cells"]
theorem scRc : FnScope nRc ["text"] (defScope sReadCells) := ⟨rfl, rfl, rfl, by decide +kernel, rfl, by decide +kernel, by decide +kernel⟩
theorem ok_rc {f T : Addr} {fd : FuncData} (F : Fun K "read_cells" "read_cells" sReadCells f fd) (TN : NtC K mg T) (DI : HasNt P w K mg base T) (DC : Has P w K mg base "cells_in" 5 ["text"] (spCin K)) : FnOk P w K mg base (L2.CX P w) 6 f fd ["text"] (spRc K T) := by
  obtain ⟨fC, fdC, GC, mC, kC, bC⟩ := DC
  obtain ⟨fI, fdI, GI, iI, tI, bI⟩ := DI
  refine F.okX scRc (fun vs H Q E h => ?_) (fun cdv A outer s H vs Q E hr h => ?_)
  · obtain ⟨v, rfl, _⟩ := h
    rfl
  · obtain ⟨v, rfl, h⟩ := h
    have r3 : Room 3 _ := hr.mono (by decide)
    refine ⟨_, pss_cons (ps_set (i := 1) scRc.nd rfl (Or.inl rfl) (pe_call GC hr (by rfl) mC kC bC .nil pass0 (pa_cons (pv 0) pa_nil)))
      (pss_cons (ps_if (pt_cmpR op_isN (pv 1) pe_non (nomark _)) (pss_one (ps_raise rfl (takes_of rfl rfl rfl rfl) (pmk_oex TN.ox iI tI GI r3 bI .nil pass0 (by rfl) TN.gC (pa_cons pe_int pa_nil)))) pss_nil)
      (pss_one (ps_ret (pv 1)))), ?_⟩
    have back : ∀ {H1 : Hp}, Same H H1 → (∀ d H', H d = none → Same H H' → H' d = some (.xd [("line", .int 0)]) → E (.ref T) (some d) H') → ∀ d H', H1 d = none → Same H1 H' → H' d = some (.xd [("line", .int 0)]) → E (.ref T) (some d) H' := fun s1 h d H' hd s2 e => h d H' (s1.free hd) (s1.trans s2) e
    rcases h with ⟨z, rfl, lz, good, bad⟩ | ⟨no, bad⟩
    · cases hb : cellsOf z with
      | some x =>
        refine ⟨_, rfl, .str z, rfl, .inl ⟨z, rfl, lz, fun ns eo q H1 hq s1 e1 => ?_, (fun e => by rw [hb] at e; cases e)⟩⟩
        refine ⟨_, rfl, rfl, _, rfl, ?_⟩
        rw [decide_eq_false (fun q => by cases q)]
        refine iteF ?_
        exact ⟨_, rfl, good ns eo q H1 hq s1 e1⟩
      | none =>
        refine ⟨_, rfl, .str z, rfl, .inl ⟨z, rfl, lz, (fun ns eo => by rw [hb] at eo; cases eo), fun _ H1 s1 => ?_⟩⟩
        refine ⟨_, rfl, rfl, _, rfl, ?_⟩
        rw [decide_eq_true rfl]
        refine iteT ?_
        exact ⟨(by show 1 ≤ 1000; decide), made_nt (back s1 (bad hb))⟩
    · refine ⟨_, rfl, v, rfl, .inr ⟨no, fun H1 s1 => ?_⟩⟩
      refine ⟨_, rfl, rfl, _, rfl, ?_⟩
      rw [decide_eq_true rfl]
      refine iteT ?_
      exact ⟨(by show 1 ≤ 1000; decide), made_nt (back s1 bad)⟩
/-- read_flip -/
def spRf (K : PySem.W.Frag) (C T : Addr) : Sp := fun vs H Q E => ∃ v : V, vs = [v] ∧
  ((∃ z : Str, v = .str z ∧ z.length ≤ 2490 ∧ (∀ ts hs, flipOf z = some (ts, hs) → ∀ a H', H a = none → Same H H' → Fp C H' a ts hs → Q (.ref a) H') ∧ (flipOf z = none → ∀ d H', H d = none → Same H H' → H' d = some (.xd [("line", .int 0)]) → E (.ref T) (some d) H')) ∨
   (NoStr K H v ∧ ∀ d H', H d = none → Same H H' → H' d = some (.xd [("line", .int 0)]) → E (.ref T) (some d) H'))
abbrev nRf : List Str := ["text", "flip"]
theorem scRf : FnScope nRf ["text"] (defScope sReadFlip) := ⟨rfl, rfl, rfl, by decide +kernel, rfl, by decide +kernel, by decide +kernel⟩
theorem ok_rf {f C T : Addr} {fd : FuncData} (F : Fun K "read_flip" "read_flip" sReadFlip f fd) (TN : NtC K mg T) (DI : HasNt P w K mg base T) (DC : Has P w K mg base "flip_in" 8 ["text"] (spFin K C)) : FnOk P w K mg base (L2.CX P w) 9 f fd ["text"] (spRf K C T) := by
  obtain ⟨fC, fdC, GC, mC, kC, bC⟩ := DC
  obtain ⟨fI, fdI, GI, iI, tI, bI⟩ := DI
  refine F.okX scRf (fun vs H Q E h => ?_) (fun cdv A outer s H vs Q E hr h => ?_)
  · obtain ⟨v, rfl, _⟩ := h
    rfl
  · obtain ⟨v, rfl, h⟩ := h
    have r3 : Room 3 _ := hr.mono (by decide)
    refine ⟨_, pss_cons (ps_set (i := 1) scRf.nd rfl (Or.inl rfl) (pe_call GC hr (by rfl) mC kC bC .nil pass0 (pa_cons (pv 0) pa_nil)))
      (pss_cons (ps_if (pt_cmpR op_isN (pv 1) pe_non (nomark _)) (pss_one (ps_raise rfl (takes_of rfl rfl rfl rfl) (pmk_oex TN.ox iI tI GI r3 bI .nil pass0 (by rfl) TN.gC (pa_cons pe_int pa_nil)))) pss_nil)
      (pss_one (ps_ret (pv 1)))), ?_⟩
    have back : ∀ {H1 : Hp}, Same H H1 → (∀ d H', H d = none → Same H H' → H' d = some (.xd [("line", .int 0)]) → E (.ref T) (some d) H') → ∀ d H', H1 d = none → Same H1 H' → H' d = some (.xd [("line", .int 0)]) → E (.ref T) (some d) H' := fun s1 h d H' hd s2 e => h d H' (s1.free hd) (s1.trans s2) e
    rcases h with ⟨z, rfl, lz, good, bad⟩ | ⟨no, bad⟩
    · cases hb : flipOf z with
      | some x =>
        refine ⟨_, rfl, .str z, rfl, .inl ⟨z, rfl, lz, fun ts hs eo q H1 hq s1 e1 => ?_, (fun e => by rw [hb] at e; cases e)⟩⟩
        refine ⟨_, rfl, rfl, _, rfl, ?_⟩
        rw [decide_eq_false (fun q => by cases q)]
        refine iteF ?_
        exact ⟨_, rfl, good ts hs eo q H1 hq s1 e1⟩
      | none =>
        refine ⟨_, rfl, .str z, rfl, .inl ⟨z, rfl, lz, (fun ts hs eo => by rw [hb] at eo; cases eo), fun _ H1 s1 => ?_⟩⟩
        refine ⟨_, rfl, rfl, _, rfl, ?_⟩
        rw [decide_eq_true rfl]
        refine iteT ?_
        exact ⟨(by show 1 ≤ 1000; decide), made_nt (back s1 (bad hb))⟩
    · refine ⟨_, rfl, v, rfl, .inr ⟨no, fun H1 s1 => ?_⟩⟩
      refine ⟨_, rfl, rfl, _, rfl, ?_⟩
      rw [decide_eq_true rfl]
      refine iteT ?_
      exact ⟨(by show 1 ≤ 1000; decide), made_nt (back s1 bad)⟩
/-- read_board -/
def spRb (K : PySem.W.Frag) (C T : Addr) : Sp := fun vs H Q E => ∃ v : V, vs = [v] ∧
  ((∃ z : Str, v = .str z ∧ z.length ≤ 2490 ∧ (∀ bs, boardOf z = some bs → ∀ a H', H a = none → Same H H' → Bd C H' a bs → Q (.ref a) H') ∧ (boardOf z = none → ∀ d H', H d = none → Same H H' → H' d = some (.xd [("line", .int 0)]) → E (.ref T) (some d) H')) ∨
   (NoStr K H v ∧ ∀ d H', H d = none → Same H H' → H' d = some (.xd [("line", .int 0)]) → E (.ref T) (some d) H'))
abbrev nRb : List Str := ["text", "board"]
theorem scRb : FnScope nRb ["text"] (defScope sReadBoard) := ⟨rfl, rfl, rfl, by decide +kernel, rfl, by decide +kernel, by decide +kernel⟩
theorem ok_rb {f C T : Addr} {fd : FuncData} (F : Fun K "read_board" "read_board" sReadBoard f fd) (TN : NtC K mg T) (DI : HasNt P w K mg base T) (DC : Has P w K mg base "board_in" 8 ["text"] (spBin K C)) : FnOk P w K mg base (L2.CX P w) 9 f fd ["text"] (spRb K C T) := by
  obtain ⟨fC, fdC, GC, mC, kC, bC⟩ := DC
  obtain ⟨fI, fdI, GI, iI, tI, bI⟩ := DI
  refine F.okX scRb (fun vs H Q E h => ?_) (fun cdv A outer s H vs Q E hr h => ?_)
  · obtain ⟨v, rfl, _⟩ := h
    rfl
  · obtain ⟨v, rfl, h⟩ := h
    have r3 : Room 3 _ := hr.mono (by decide)
    refine ⟨_, pss_cons (ps_set (i := 1) scRb.nd rfl (Or.inl rfl) (pe_call GC hr (by rfl) mC kC bC .nil pass0 (pa_cons (pv 0) pa_nil)))
      (pss_cons (ps_if (pt_cmpR op_isN (pv 1) pe_non (nomark _)) (pss_one (ps_raise rfl (takes_of rfl rfl rfl rfl) (pmk_oex TN.ox iI tI GI r3 bI .nil pass0 (by rfl) TN.gC (pa_cons pe_int pa_nil)))) pss_nil)
      (pss_one (ps_ret (pv 1)))), ?_⟩
    have back : ∀ {H1 : Hp}, Same H H1 → (∀ d H', H d = none → Same H H' → H' d = some (.xd [("line", .int 0)]) → E (.ref T) (some d) H') → ∀ d H', H1 d = none → Same H1 H' → H' d = some (.xd [("line", .int 0)]) → E (.ref T) (some d) H' := fun s1 h d H' hd s2 e => h d H' (s1.free hd) (s1.trans s2) e
    rcases h with ⟨z, rfl, lz, good, bad⟩ | ⟨no, bad⟩
    · cases hb : boardOf z with
      | some x =>
        refine ⟨_, rfl, .str z, rfl, .inl ⟨z, rfl, lz, fun bs eo q H1 hq s1 e1 => ?_, (fun e => by rw [hb] at e; cases e)⟩⟩
        refine ⟨_, rfl, rfl, _, rfl, ?_⟩
        rw [decide_eq_false (fun q => by cases q)]
        refine iteF ?_
        exact ⟨_, rfl, good bs eo q H1 hq s1 e1⟩
      | none =>
        refine ⟨_, rfl, .str z, rfl, .inl ⟨z, rfl, lz, (fun bs eo => by rw [hb] at eo; cases eo), fun _ H1 s1 => ?_⟩⟩
        refine ⟨_, rfl, rfl, _, rfl, ?_⟩
        rw [decide_eq_true rfl]
        refine iteT ?_
        exact ⟨(by show 1 ≤ 1000; decide), made_nt (back s1 (bad hb))⟩
    · refine ⟨_, rfl, v, rfl, .inr ⟨no, fun H1 s1 => ?_⟩⟩
      refine ⟨_, rfl, rfl, _, rfl, ?_⟩
      rw [decide_eq_true rfl]
      refine iteT ?_
      exact ⟨(by show 1 ≤ 1000; decide), made_nt (back s1 bad)⟩
end
end K92
namespace K92
open PySem PySem.Spec PyProof.Rows L2 Par
theorem okWs_cons {a : Int} {x : Str} {ws : List Str} : okWs a (x :: ws) = (numB x && decide (wv x < 40) && decide (a < wv x) && okWs (wv x) ws) := rfl
/-- the signs of a text that are not of S -/
def nots (S l : List Nat) : List Nat := l.filter fun c => !decide (c ∈ S)
theorem nots_step {S l : List Nat} {i c : Nat} (h : l[i]? = some c) : nots S (l.take (i + 1)) = nots S (l.take i) ++ (if decide (c ∈ S) = true then [] else [c]) := by
  unfold nots
  rw [List.take_succ, h, List.filter_append]
  congr 1
  by_cases z : c ∈ S
  · simp [z]
  · simp [z]
theorem nots_len {S l : List Nat} {i : Nat} : (nots S (l.take i)).length ≤ l.length := by
  have h1 : (nots S (l.take i)).length ≤ (l.take i).length := List.length_filter_le ..
  rw [List.length_take] at h1
  omega
theorem nots_all {S l : List Nat} : (l.all fun c => decide (c ∈ S)) = decide ((nots S l).length = 0) := by
  induction l with
  | nil => rfl
  | cons c l ih =>
    rw [List.all_cons, ih]
    unfold nots
    by_cases z : c ∈ S
    · simp [z]
    · simp [z]
theorem nums_of {w : Str} (h : numB w = true) : 1 ≤ w.length ∧ w.length ≤ 30 ∧ allD w = true := by
  unfold numB at h
  rw [Bool.and_eq_true, Bool.and_eq_true, Bool.and_eq_true] at h
  exact ⟨of_decide_eq_true h.1.1.1, of_decide_eq_true h.1.1.2, h.1.2⟩
def sgV (c : Nat) : V := .str ⟨#[c]⟩
section
variable {P : Program} {w : World} {K : PySem.W.Frag} {mg : Str → Option Value} {base : Heap}
/-- _law_are_cells -/
def spAc : Sp := fun vs H Q _ => ∃ z : Str, vs = [.str z] ∧ z.length ≤ 2490 ∧ ∀ H', Same H H' → Q (.bl (cellsOf z).isSome) H'
abbrev nAc : List Str := ["_law_text", "_law_ahead", "_law_word", "_law_sign"]
theorem scAc : FnScope nAc ["_law_text"] (defScope slAreCells) := ⟨rfl, rfl, rfl, by decide +kernel, rfl, by decide +kernel, by decide +kernel⟩
theorem ok_ac {f : Addr} {fd : FuncData} (F : Fun K "_law_are_cells" "_law_are_cells" slAreCells f fd) (B : Bl mg) : FnOk P w K mg base CX0 2 f fd ["_law_text"] spAc := by
  refine F.ok scAc (fun vs H Q E h => ?_) (fun cdv A outer s H vs Q E hr h => ?_)
  · obtain ⟨z, rfl, _⟩ := h
    rfl
  · obtain ⟨z, rfl, lz, out⟩ := h
    have hu := hr.units
    refine ⟨_, (pss_cons (ps_if (pt_cmpR op_eq (pv 0) pe_str (nomark _)) (pss_one (ps_ret pe_bl)) pss_nil)
      (pss_cons (ps_set (i := 1) scAc.nd rfl (Or.inl rfl) (pe_un un_neg pe_int))
      (pss_cons (ps_for PassesOwn.never rfl (pi_list (pe_split (pv 0) pe_str)) (pg_name (i := 2) scAc.nd rfl (Or.inl rfl)) (pss_cons (ps_if (PW.pt (pw_or (pt_cmpR op_eq (pv 2) pe_str (nomark _)) (pw_or (pt_cmpR op_gt (pe_callB call_len_seq (by rfl) B.len PySem.boot_len (pa_cons (pe_lc (own := [("_law_sign", 3)]) (g := gName 3) (te := tVar 3) (tt := tTest (tOp (fun x y H Q => ∃ (c : Nat) (z : Str), x = .str ⟨#[c]⟩ ∧ y = .str z ∧ Q (.bl (!decide (c ∈ z.cps.toList))) H) (tVar 3) (tC (.str "0123456789")))) rfl scAc.nd (pi_str (pv 2)) (blkOk_by (own := [("_law_sign", 3)]) (N := nAc) (sc := defScope slAreCells) (by decide +kernel)) (fun _ _ _ _ _ => (pg_name (i := 3) scAc.nd rfl (Or.inl rfl))) (fun _ _ _ _ _ => by exact pts_one (pt_cmpR op_notIn_sign (pv 3) pe_str (by rfl))) (fun _ _ _ _ _ => by exact pv 3)) pa_nil)) pe_int (nomark _)) (pw_or1 (pt_cmpR op_gt (pe_callB call_len_str (by rfl) B.len PySem.boot_len (pa_cons (pv 2) pa_nil)) pe_int (nomark _)))))) (pss_one (ps_ret pe_bl)) pss_nil)
      (pss_cons (ps_if (PW.pt (pw_or (PW.pt (pw_and (pt_cmpR op_eq (pe_ix ix_str (pv 2) pe_int (fun _ _ => rfl)) pe_str (nomark _)) (pw_and1 (pt_cmpR op_ne (pv 2) pe_str (nomark _))))) (pw_or (pt_cmpR op_le (pe_callTy call_int_str (by rfl) B.int (by decide +kernel) (pa_cons (pv 2) pa_nil)) (pv 1) (nomark _)) (pw_or1 (pt_cmpR op_gt (pe_callTy call_int_str (by rfl) B.int (by decide +kernel) (pa_cons (pv 2) pa_nil)) pe_int (nomark _)))))) (pss_one (ps_ret pe_bl)) pss_nil)
      (pss_one (ps_set (i := 1) scAc.nd rfl (Or.inl rfl) (pe_callTy call_int_str (by rfl) B.int (by decide +kernel) (pa_cons (pv 2) pa_nil)))))))
      (pss_one (ps_ret pe_bl))))), ?_⟩
    refine ⟨_, rfl, rfl, _, rfl, ?_⟩
    by_cases hd : z = Str.ofString "-"
    · rw [decide_eq_true (congrArg V.str hd)]
      refine iteT ?_
      have o := out H (Same.refl _)
      unfold cellsOf at o
      rw [if_pos hd] at o
      exact o
    rw [decide_eq_false (fun q => hd (by injection q))]
    refine iteF ?_
    obtain ⟨ws, hws⟩ : ∃ ws, Txt.split z "," = ws := ⟨_, rfl⟩
    obtain ⟨w1, w2⟩ := words_len z
    have cz : (cellsOf z).isSome = okWs (-1) ws := by
      unfold cellsOf
      rw [if_neg hd, hws]
      cases okWs (-1) ws <;> rfl
    rw [hws] at w1 w2
    refine ⟨_, rfl, _, rfl, ⟨_, rfl⟩, _, _, rfl, rfl, by decide +kernel, by rw [sizeLine_eq]; omega, fun L hL => ?_⟩
    have sL := same_new (o := .lst ((Txt.split z ",").map V.str)) hL
    have eL : (upd H L (.lst ((Txt.split z ",").map V.str))) L = some (.lst (ws.map V.str)) := by
      rw [upd_same, hws]
    generalize (upd H L (.lst ((Txt.split z ",").map V.str))) = H1 at sL eL ⊢
    refine ⟨L, rfl, ⟨_, SqL.of eL⟩, ?_⟩
    refine for_list (K := K) (a := L) (xs := ws.map V.str) (fun i σ H' => Same H1 H' ∧ ∃ (a : Int) (v2 v3 : Option V), σ = [some (.str z), some (.int a), v2, v3] ∧ okWs (-1) ws = okWs a (ws.drop i)) ⟨Same.refl _, -1, none, none, rfl, rfl⟩ (fun i σ H' _ h => SqL.of (h.1 _ _ eL)) ?_ ?_
    · rintro i x σ H2 hx ⟨s2, a, v2, v3, rfl, ek⟩
      rw [List.getElem?_map] at hx
      obtain ⟨k, hk, rfl⟩ : ∃ k, ws[i]? = some k ∧ x = V.str k := by
        cases e : ws[i]? with
        | none => rw [e] at hx; cases hx
        | some k => rw [e] at hx; exact ⟨k, rfl, (Option.some.inj hx).symm⟩
      have kl := w2 k (List.mem_of_getElem? hk)
      have dr : ws.drop i = k :: ws.drop (i + 1) := (List.drop_eq_getElem_cons (List.getElem?_eq_some_iff.mp hk).1).trans (by rw [(List.getElem?_eq_some_iff.mp hk).2])
      rw [dr] at ek
      have stop : ∀ H', Same H2 H' → numB k = false ∨ (numB k = true ∧ (¬ wv k < 40 ∨ ¬ a < wv k)) → Q (.bl false) H' := fun H' s' no => by
        have o := out H' ((sL.trans s2).trans s')
        rw [cz, ek, okWs_cons] at o
        have e : (numB k && decide (wv k < 40) && decide (a < wv k)) = false := by
          rcases no with no | ⟨_, no | no⟩
          · rw [no]; rfl
          · rw [decide_eq_false no, Bool.and_false]; rfl
          · rw [decide_eq_false no, Bool.and_false]
        rw [e] at o
        exact o
      refine ⟨.str k, rfl, ?_⟩
      refine ⟨rfl, _, rfl, ?_⟩
      by_cases k0 : k = Str.ofString ""
      · rw [decide_eq_true (congrArg V.str k0)]
        refine iteT (stop H2 (Same.refl _) (.inl ?_))
        rw [k0]
        decide +kernel
      rw [decide_eq_false (fun q => k0 (by injection q))]
      refine iteF ?_
      have kl5 : k.length ≤ sizeLine := by rw [sizeLine_eq]; omega
      have k1 : 1 ≤ k.length := by
        rw [len_cps]
        cases e : k.cps.toList with
        | nil => exact absurd (str_ext (e.trans (by decide +kernel))) k0
        | cons c r => exact Nat.succ_le_succ (Nat.zero_le _)
      have zs : k.cps.size = k.cps.toList.length := by simp
      refine ⟨_, rfl, _, rfl, fun D hD => ?_⟩
      refine lc_it walk_str (fun i H' => Same H2 H' ∧ H' D = some (.lst ((nots digS (k.cps.toList.take i)).map sgV))) ⟨same_new hD, upd_same⟩ (fun i H' _ h => True.intro) ?_ ?_
      · rintro i x H3 H4 hi ⟨s3, hD3⟩ ⟨rfl, c, hc, rfl⟩
        have hc2 : k.cps.toList[i]? = some c := by simpa using hc
        have st := nots_step (S := digS) hc2
        refine ⟨rfl, _, rfl, c, _, rfl, rfl, _, rfl, ?_⟩
        show if (!decide (c ∈ digS)) = true then _ else _
        by_cases m : c ∈ digS
        · rw [decide_eq_true m] at st ⊢
          refine iteF ⟨s3, ?_⟩
          rw [st, if_pos rfl, List.append_nil]
          exact hD3
        · rw [decide_eq_false m] at st ⊢
          refine iteT ⟨_, rfl, _, hD3, ?_, ?_, ?_⟩
          · have := nots_len (S := digS) (l := k.cps.toList) (i := i)
            rw [List.length_map, sizeLine_eq]
            rw [len_cps] at kl
            omega
          · intro b o e
            rw [upd_ne (ne_of_none e hD)]
            exact s3 b o e
          · rw [upd_same, st, if_neg Bool.false_ne_true, List.map_append]
            rfl
      rintro H5 ⟨s5, hD5⟩
      rw [zs, List.take_length] at hD5
      have da : allD k = decide ((nots digS k.cps.toList).length = 0) := nots_all
      refine ⟨D, _, rfl, .inl (SqL.of hD5), _, _, rfl, rfl, _, rfl, ?_⟩
      rw [List.length_map]
      by_cases n0 : (nots digS k.cps.toList).length = 0
      rotate_left
      · rw [decide_eq_true (by omega : (0 : Int) < (((nots digS k.cps.toList).length : Nat) : Int))]
        refine iteT (stop H5 s5 (.inl ?_))
        rw [decide_eq_false n0] at da
        unfold numB
        rw [da, Bool.and_false]
        rfl
      rw [decide_eq_false (by omega : ¬ (0 : Int) < (((nots digS k.cps.toList).length : Nat) : Int))]
      rw [decide_eq_true n0] at da
      refine iteF ⟨_, rfl, _, rfl, kl5, _, _, rfl, rfl, _, rfl, ?_⟩
      by_cases k3 : 3 ≤ k.length
      · rw [decide_eq_true (by omega : (2 : Int) < ((k.length : Nat) : Int))]
        refine iteT (stop H5 s5 ?_)
        cases nb : numB k with
        | false => exact .inl rfl
        | true =>
          have := wv_big nb k3
          exact .inr ⟨rfl, .inl (by omega)⟩
      rw [decide_eq_false (by omega : ¬ (2 : Int) < ((k.length : Nat) : Int))]
      refine iteF ?_
      obtain ⟨c, r, er⟩ : ∃ c r, k.cps.toList = c :: r := by
        cases e : k.cps.toList with
        | nil =>
          rw [len_cps, e] at k1
          exact absurd k1 (by decide)
        | cons c r => exact ⟨c, r, rfl⟩
      have at0 : atI k.cps.toList ((0 : Nat) : Int) = some c := atI_nat (by rw [er]; rfl)
      have iw := int_wv da k1 (by omega)
      have nbz : zeroB k = false → numB k = true := fun zf => by
        unfold numB
        rw [decide_eq_true k1, decide_eq_true (by omega : k.length ≤ 30), da, zf]
        rfl
      have nbf : zeroB k = true → numB k = false := fun zf => by
        unfold numB
        rw [zf]
        simp
      refine ⟨_, rfl, _, _, c, rfl, rfl, kl5, at0, rfl, _, rfl, ?_⟩
      refine ite2 (fun hz => ?_) (fun hz => ?_)
      · have e0 : c = 48 := by
          have := of_decide_eq_true hz
          injection this with this
          have h2 : [c] = (Str.ofString "0").cps.toList := congrArg (fun z : Str => z.cps.toList) this
          rw [zero_cps] at h2
          injection h2
        refine ⟨_, rfl, rfl, _, rfl, ?_⟩
        by_cases ez : k = Str.ofString "0"
        · rw [decide_eq_true (congrArg V.str ez)]
          refine iteF ?_
          have zf : zeroB k = false := by
            unfold zeroB
            rw [decide_eq_true ez, Bool.not_true, Bool.and_false]
          refine ⟨_, rfl, _, wv k, rfl, iw, by omega, _, rfl, _, _, rfl, rfl, _, rfl, ?_⟩
          by_cases up : a < wv k
          rotate_left
          · rw [decide_eq_true (by omega : wv k ≤ a)]
            exact iteT (stop H5 s5 (.inr ⟨nbz zf, .inr up⟩))
          rw [decide_eq_false (by omega : ¬ wv k ≤ a)]
          refine iteF ⟨_, rfl, _, wv k, rfl, iw, by omega, _, _, rfl, rfl, _, rfl, ?_⟩
          by_cases b40 : wv k < 40
          rotate_left
          · rw [decide_eq_true (by omega : (39 : Int) < wv k)]
            exact iteT (stop H5 s5 (.inr ⟨nbz zf, .inl b40⟩))
          rw [decide_eq_false (by omega : ¬ (39 : Int) < wv k)]
          refine iteF ⟨_, rfl, _, wv k, rfl, iw, by omega, s2.trans s5, wv k, _, _, rfl, ?_⟩
          rw [ek, okWs_cons, nbz zf, decide_eq_true up, decide_eq_true b40]
          rfl
        · rw [decide_eq_false (fun y => ez (by injection y))]
          refine iteT (stop H5 s5 (.inl (nbf ?_)))
          unfold zeroB
          rw [er, e0, decide_eq_false ez]
          rfl
      · have zf : zeroB k = false := by
          unfold zeroB
          rw [er]
          have : ¬ c = 48 := fun y => hz (decide_eq_true (by rw [y]; exact congrArg V.str (str_ext (by rw [zero_cps]))))
          simp [this]
        refine ⟨_, rfl, _, wv k, rfl, iw, by omega, _, rfl, _, _, rfl, rfl, _, rfl, ?_⟩
        by_cases up : a < wv k
        rotate_left
        · rw [decide_eq_true (by omega : wv k ≤ a)]
          exact iteT (stop H5 s5 (.inr ⟨nbz zf, .inr up⟩))
        rw [decide_eq_false (by omega : ¬ wv k ≤ a)]
        refine iteF ⟨_, rfl, _, wv k, rfl, iw, by omega, _, _, rfl, rfl, _, rfl, ?_⟩
        by_cases b40 : wv k < 40
        rotate_left
        · rw [decide_eq_true (by omega : (39 : Int) < wv k)]
          exact iteT (stop H5 s5 (.inr ⟨nbz zf, .inl b40⟩))
        rw [decide_eq_false (by omega : ¬ (39 : Int) < wv k)]
        refine iteF ⟨_, rfl, _, wv k, rfl, iw, by omega, s2.trans s5, wv k, _, _, rfl, ?_⟩
        rw [ek, okWs_cons, nbz zf, decide_eq_true up, decide_eq_true b40]
        rfl
    · rintro σ H2 ⟨s2, a, v2, v3, rfl, ek⟩
      have o := out H2 (sL.trans s2)
      rw [List.length_map, List.drop_length] at ek
      rw [cz, ek] at o
      exact o
/-- _law_own_spots of cells -/
def spOs : Sp := fun vs H Q _ => ∃ (z : Str) (ns : List Int), vs = [.str z] ∧ z.length ≤ 2490 ∧ cellsOf z = some ns ∧ ∀ a H', H a = none → Same H H' → H' a = some (.lst (ns.map V.int)) → Q (.ref a) H'
abbrev nOs : List Str := ["_law_text", "_law_word"]
theorem scOs : FnScope nOs ["_law_text"] (defScope slOwnSpots) := ⟨rfl, rfl, rfl, by decide +kernel, rfl, by decide +kernel, by decide +kernel⟩
theorem ok_os {f : Addr} {fd : FuncData} (F : Fun K "_law_own_spots" "_law_own_spots" slOwnSpots f fd) (B : Bl mg) : FnOk P w K mg base CX0 2 f fd ["_law_text"] spOs := by
  refine F.ok scOs (fun vs H Q E h => ?_) (fun cdv A outer s H vs Q E hr h => ?_)
  · obtain ⟨z, ns, rfl, _⟩ := h
    rfl
  · obtain ⟨z, ns, rfl, lz, hc, out⟩ := h
    refine ⟨_, (pss_one (ps_ret (pe_ifExp (pt_cmpR op_eq (pv 0) pe_str (nomark _)) (pe_lst pa_nil) (pe_lc (own := [("_law_word", 1)]) (g := gName 1) rfl scOs.nd (pi_list (pe_split (pv 0) pe_str)) (blkOk_by (own := [("_law_word", 1)]) (N := nOs) (sc := defScope slOwnSpots) (by decide +kernel)) (fun _ _ _ _ _ => (pg_name (i := 1) scOs.nd rfl (Or.inl rfl))) (fun _ _ _ _ _ => pts_nil) (fun _ _ _ _ _ => by exact (pe_callTy call_int_str (by rfl) B.int (by decide +kernel) (pa_cons (pv 1) pa_nil))))))), ?_⟩
    refine ⟨_, rfl, rfl, _, rfl, ?_⟩
    by_cases hd : z = Str.ofString "-"
    · rw [decide_eq_true (congrArg V.str hd)]
      unfold cellsOf at hc
      rw [if_pos hd] at hc
      obtain rfl : [] = ns := Option.some.inj hc
      exact iteT ⟨by decide, fun q hq => out q _ hq (same_new hq) upd_same⟩
    rw [decide_eq_false (fun q => hd (by injection q))]
    unfold cellsOf at hc
    rw [if_neg hd] at hc
    obtain ⟨ws, hws⟩ : ∃ ws, Txt.split z "," = ws := ⟨_, rfl⟩
    obtain ⟨w1, w2⟩ := words_len z
    rw [hws] at w1 w2 hc
    have ok : okWs (-1) ws = true := by
      cases e : okWs (-1) ws with
      | true => rfl
      | false =>
        rw [e, if_neg Bool.false_ne_true] at hc
        cases hc
    rw [if_pos ok] at hc
    obtain rfl : ws.map wv = ns := Option.some.inj hc
    refine iteF ⟨_, rfl, ⟨_, rfl⟩, _, _, rfl, rfl, by decide +kernel, by rw [sizeLine_eq]; omega, fun L hL => ?_⟩
    have sL := same_new (o := .lst ((Txt.split z ",").map V.str)) hL
    have eL : (upd H L (.lst ((Txt.split z ",").map V.str))) L = some (.lst (ws.map V.str)) := by
      rw [upd_same, hws]
    generalize (upd H L (.lst ((Txt.split z ",").map V.str))) = H1 at sL eL ⊢
    refine ⟨L, rfl, ⟨_, SqL.of eL⟩, fun D hD => ?_⟩
    refine lc_list (K := K) (a := L) (xs := ws.map V.str) (fun i H' => Same H1 H' ∧ H' D = some (.lst (((ws.take i).map wv).map V.int))) ⟨same_new hD, upd_same⟩ (fun i H' _ h => SqL.of (h.1 _ _ eL)) ?_ ?_
    · rintro i x Hi hx ⟨si, hDi⟩
      rw [List.getElem?_map] at hx
      obtain ⟨k, hk, rfl⟩ : ∃ k, ws[i]? = some k ∧ x = V.str k := by
        cases e : ws[i]? with
        | none => rw [e] at hx; cases hx
        | some k => rw [e] at hx; exact ⟨k, rfl, (Option.some.inj hx).symm⟩
      have nb := List.all_eq_true.mp (okWs_nums ok) k (List.mem_of_getElem? hk)
      obtain ⟨b1, b2, b3⟩ := nums_of nb
      refine ⟨rfl, yesT ?_⟩
      refine ⟨_, rfl, k, wv k, rfl, int_wv b3 b1 (by omega), by omega, ?_⟩
      refine ⟨_, hDi, ?_, ?_, ?_⟩
      · rw [List.length_map, List.length_map, List.length_take, sizeLine_eq]
        omega
      · intro b o e
        rw [upd_ne (ne_of_none e hD)]
        exact si b o e
      · rw [upd_same, List.take_succ, hk, List.map_append, List.map_append]
        rfl
    rintro H5 ⟨s5, hD5⟩
    rw [List.length_map, List.take_length] at hD5
    exact out D H5 (sL.free hD) (sL.trans s5) hD5
/-- _law_is_flip -/
def spIf : Sp := fun vs H Q _ => ∃ z : Str, vs = [.str z] ∧ z.length ≤ 2490 ∧ ∀ H', Same H H' → Q (.bl (flipOf z).isSome) H'
abbrev nIf : List Str := ["_law_text", "_law_parts", "_law_tests", "_law_hits", "_law_spot"]
theorem scIf : FnScope nIf ["_law_text"] (defScope slIsFlip) := ⟨rfl, rfl, rfl, by decide +kernel, rfl, by decide +kernel, by decide +kernel⟩
theorem ok_if {f : Addr} {fd : FuncData} (F : Fun K "_law_is_flip" "_law_is_flip" slIsFlip f fd) (B : Bl mg) (DC : Has P w K mg base "_law_are_cells" 2 ["_law_text"] spAc) (DS : Has P w K mg base "_law_own_spots" 2 ["_law_text"] spOs) : FnOk P w K mg base CX0 3 f fd ["_law_text"] spIf := by
  obtain ⟨fC, fdC, GC, mC, kC, bC⟩ := DC
  obtain ⟨fS, fdS, GS, mS, kS, bS⟩ := DS
  refine F.ok scIf (fun vs H Q E h => ?_) (fun cdv A outer s H vs Q E hr h => ?_)
  · obtain ⟨z, rfl, _⟩ := h
    rfl
  · obtain ⟨z, rfl, lz, out⟩ := h
    have r2 : Room 2 _ := hr
    refine ⟨_, (pss_cons (ps_set (i := 1) scIf.nd rfl (Or.inl rfl) (pe_split (pv 0) pe_str))
      (pss_cons (ps_if (PW.pt (pw_or (pt_cmpR op_ne (pe_callB call_len_seq (by rfl) B.len PySem.boot_len (pa_cons (pv 1) pa_nil)) pe_int (nomark _)) (pw_or (pt_not (pt_val (pe_call GC r2 (by rfl) mC kC bC .nil pass0 (pa_cons (pe_ix ix_list (pv 1) pe_int (fun _ _ => rfl)) pa_nil)))) (pw_or1 (pt_not (pt_val (pe_call GC r2 (by rfl) mC kC bC .nil pass0 (pa_cons (pe_ix ix_list (pv 1) pe_int (fun _ _ => rfl)) pa_nil)))))))) (pss_one (ps_ret pe_bl)) pss_nil)
      (pss_cons (ps_asg (pe_tup (pa_cons (pe_call GS r2 (by rfl) mS kS bS .nil pass0 (pa_cons (pe_ix ix_list (pv 1) pe_int (fun _ _ => rfl)) pa_nil)) (pa_cons (pe_call GS r2 (by rfl) mS kS bS .nil pass0 (pa_cons (pe_ix ix_list (pv 1) pe_int (fun _ _ => rfl)) pa_nil)) pa_nil))) (pg_tup rfl (pgs_cons (pg_name (i := 2) scIf.nd rfl (Or.inl rfl)) (pgs_cons (pg_name (i := 3) scIf.nd rfl (Or.inr rfl)) pgs_nil))))
      (pss_one (ps_ret (pe_and (pe_cmpR op_notIn_seq pe_int (pv 3) (by rfl)) (pe_one (pe_cmpR op_eq (pe_op op_mod (pe_callB call_len_seq (by rfl) B.len PySem.boot_len (pa_cons (pe_lc (own := [("_law_spot", 4)]) (g := gName 4) (te := tVar 4) (tt := tTest (tOp (rIn K false) (tVar 4) (tVar 3))) rfl scIf.nd (pi_list (pv 2)) (blkOk_by (own := [("_law_spot", 4)]) (N := nIf) (sc := defScope slIsFlip) (by decide +kernel)) (fun _ _ _ _ _ => pg_name (i := 4) scIf.nd rfl (Or.inl rfl)) (fun _ _ _ _ _ => by exact pts_one (pt_cmpR op_in_seq (pv 4) (pv 3) (by rfl))) (fun _ _ _ _ _ => by exact pv 4)) pa_nil)) pe_int) pe_int (nomark _))))))))), ?_⟩
    obtain ⟨w1, w2⟩ := sides_len z
    obtain ⟨ps, hps⟩ : ∃ ps, Txt.split z ">" = ps := ⟨_, rfl⟩
    rw [hps] at w1 w2
    have fo : flipOf z = flipW ps := by
      unfold flipOf
      rw [hps]
    have stop : ∀ H', Same H H' → flipOf z = none → Q (.bl false) H' := fun H' s' e => by
      have o := out H' s'
      rw [e] at o
      exact o
    refine ⟨_, rfl, ⟨_, rfl⟩, _, _, rfl, rfl, by decide +kernel, by rw [sizeLine_eq]; omega, fun L hL => ?_⟩
    have sL := same_new (o := .lst ((Txt.split z ">").map V.str)) hL
    have eL : (upd H L (.lst ((Txt.split z ">").map V.str))) L = some (.lst (ps.map V.str)) := by
      rw [upd_same, hps]
    generalize (upd H L (.lst ((Txt.split z ">").map V.str))) = H1 at sL eL ⊢
    refine ⟨_, rfl, L, _, rfl, .inl (SqL.of eL), rfl, _, rfl, ?_⟩
    rw [List.length_map]
    by_cases l2 : ps.length = 2
    rotate_left
    · rw [decide_eq_false (fun q => l2 (by injection q with q; omega) : ¬ V.int ((ps.length : Nat) : Int) = V.int 2)]
      refine iteT (stop _ sL ?_)
      rw [fo]
      clear eL hps w2 w1 fo stop
      match ps, l2 with
      | [], _ => rfl
      | [_], _ => rfl
      | [_, _], e => exact absurd rfl e
      | _ :: _ :: _ :: _, _ => rfl
    rw [decide_eq_true (by rw [l2]; rfl : V.int ((ps.length : Nat) : Int) = V.int 2)]
    refine iteF ?_
    obtain ⟨p1, p2, rfl⟩ : ∃ p1 p2, ps = [p1, p2] := by
      clear eL hps w2 w1 fo stop
      match ps, l2 with
      | [a, b], _ => exact ⟨a, b, rfl⟩
    have lp1 := w2 p1 (List.mem_cons_self ..)
    have lp2 := w2 p2 (List.mem_cons_of_mem _ (List.mem_cons_self ..))
    have fo2 : flipOf z = flipC (cellsOf p1) (cellsOf p2) := fo
    refine ⟨_, rfl, L, _, 0, .str p1, rfl, rfl, SqL.of eL, rfl, p1, rfl, by omega, fun H2 s2 => ?_⟩
    have eL2 := s2 _ _ eL
    have sL2 := sL.trans s2
    refine ⟨_, rfl, ?_⟩
    cases e1 : cellsOf p1 with
    | none =>
      refine iteT (stop _ sL2 ?_)
      rw [fo2, e1]
      rfl
    | some ts =>
    refine iteF ⟨_, rfl, L, _, 1, .str p2, rfl, rfl, SqL.of eL2, rfl, p2, rfl, by omega, fun H3 s3 => ?_⟩
    have eL3 := s3 _ _ eL2
    have sL3 := sL2.trans s3
    refine ⟨_, rfl, ?_⟩
    cases e2 : cellsOf p2 with
    | none =>
      refine iteT (stop _ sL3 ?_)
      rw [fo2, e1, e2]
      rfl
    | some hs =>
    refine iteF ?_
    rw [e1, e2] at fo2
    have fo3 : flipOf z = if (0 : Int) ∉ hs ∧ (comm ts hs).length % 2 = 0 then some (ts, hs) else none := fo2
    obtain ⟨u1, c1, l1⟩ := Cls.of e1
    obtain ⟨u2, c2, l2'⟩ := Cls.of e2
    refine ⟨_, rfl, L, _, 0, .str p1, rfl, rfl, SqL.of eL3, rfl, p1, ts, rfl, by omega, e1, fun a1 H4 ha1 s4 ea1 => ?_⟩
    refine ⟨_, rfl, L, _, 1, .str p2, rfl, rfl, SqL.of (s4 _ _ eL3), rfl, p2, hs, rfl, by omega, e2, fun a2 H5 ha2 s5 ea2 => ?_⟩
    have ea12 := s5 _ _ ea1
    refine ⟨(by show 2 ≤ sizeLine; decide), fun T hT => ⟨T, _, rfl, SqT.of upd_same, rfl, _, _, rfl, _, _, rfl, rfl, ?_⟩⟩
    have s6 := same_new (o := .tup [.ref a1, .ref a2]) hT
    have f1 := s6 _ _ ea12
    have f2 := s6 _ _ ea2
    have s06 := sL3.trans (s4.trans (s5.trans s6))
    generalize (upd H5 T (.tup [.ref a1, .ref a2])) = H6 at s6 f1 f2 s06 ⊢
    refine ⟨_, rfl, a2, _, rfl, .inl (SqL.of f2), rfl, flat_ints _, _, rfl, ?_⟩
    show if (!inV (V.int 0) (hs.map V.int)) = true then _ else _
    rw [in_ints]
    by_cases z0 : (0 : Int) ∈ hs
    · rw [decide_eq_true z0]
      exact iteF (stop _ s06 (by rw [fo3]; exact if_neg fun q => q.1 z0))
    rw [decide_eq_false z0]
    refine iteT ⟨_, rfl, a1, rfl, ⟨_, SqL.of f1⟩, fun D hD => ?_⟩
    refine lc_list (K := K) (a := a1) (xs := ts.map V.int) (fun i H' => Same H6 H' ∧ H' D = some (.lst (((ts.take i).filter fun k => decide (k ∈ hs)).map V.int))) ⟨same_new hD, upd_same⟩ (fun i H' _ h => SqL.of (h.1 _ _ f1)) ?_ ?_
    · rintro i x GA4 hx ⟨s4, hD4⟩
      rw [List.getElem?_map] at hx
      obtain ⟨k, hk, rfl⟩ : ∃ k, ts[i]? = some k ∧ x = V.int k := by
        cases e : ts[i]? with
        | none => rw [e] at hx; cases hx
        | some k => rw [e] at hx; exact ⟨k, rfl, (Option.some.inj hx).symm⟩
      have st := filt_step (f := fun k => decide (k ∈ hs)) hk
      refine ⟨rfl, ?_⟩
      refine ⟨_, rfl, _, rfl, a2, _, rfl, .inl (SqL.of (s4 _ _ f2)), rfl, flat_ints _, _, rfl, ?_⟩
      show if inV (V.int k) (hs.map V.int) = true then _ else _
      rw [in_ints]
      by_cases hm : k ∈ hs
      · rw [decide_eq_true hm] at st ⊢
        refine iteT ⟨_, rfl, _, hD4, ?_, ?_, ?_⟩
        · have := List.length_filter_le (fun k => decide (k ∈ hs)) (ts.take i)
          rw [List.length_take] at this
          rw [List.length_map]
          exact small1000 (by omega)
        · intro y o e
          rw [upd_ne (ne_of_none e hD)]
          exact s4 y o e
        · rw [upd_same, st, if_pos rfl, List.map_append]
          rfl
      · rw [decide_eq_false hm] at st ⊢
        refine iteF ⟨s4, ?_⟩
        rw [st, if_neg Bool.false_ne_true, List.append_nil]
        exact hD4
    rintro H7 ⟨s7, hD7⟩
    rw [List.length_map, List.take_length] at hD7
    have hD7' : H7 D = some (.lst ((comm ts hs).map V.int)) := hD7
    refine ⟨D, _, rfl, .inl (SqL.of hD7'), _, _, rfl, rfl, (by show (0 : Int) < 2; decide), rfl, ?_⟩
    have o := out H7 (s06.trans s7)
    rw [fo3] at o
    by_cases ev : (comm ts hs).length % 2 = 0
    · rw [if_pos ⟨z0, ev⟩] at o
      rw [decide_eq_true (by rw [List.length_map]; exact congrArg V.int (by omega))]
      exact o
    · rw [if_neg fun q => ev q.2] at o
      rw [decide_eq_false (fun q => by rw [List.length_map] at q; injection q with q; omega)]
      exact o
/-- _law_is_board -/
def spIb : Sp := fun vs H Q _ => ∃ z : Str, vs = [.str z] ∧ z.length ≤ 2490 ∧ ∀ H', Same H H' → Q (.bl (boardOf z).isSome) H'
abbrev nIb : List Str := ["_law_text", "_law_sign"]
theorem scIb : FnScope nIb ["_law_text"] (defScope slIsBoard) := ⟨rfl, rfl, rfl, by decide +kernel, rfl, by decide +kernel, by decide +kernel⟩
theorem ok_ib {f : Addr} {fd : FuncData} (F : Fun K "_law_is_board" "_law_is_board" slIsBoard f fd) (B : Bl mg) : FnOk P w K mg base CX0 3 f fd ["_law_text"] spIb := by
  refine F.ok scIb (fun vs H Q E h => ?_) (fun cdv A outer s H vs Q E hr h => ?_)
  · obtain ⟨z, rfl, _⟩ := h
    rfl
  · obtain ⟨z, rfl, lz, out⟩ := h
    refine ⟨_, (pss_cons (ps_if (PW.pt (pw_or (pt_not (pt_chain op_le op_le pe_int (pe_callB call_len_str (by rfl) B.len PySem.boot_len (pa_cons (pv 0) pa_nil)) pe_int)) (pw_or1 (pt_cmpR op_ne (pe_ix ix_str (pv 0) pe_int (fun _ _ => rfl)) pe_str (nomark _))))) (pss_one (ps_ret pe_bl)) pss_nil)
      (pss_one (ps_ret (pe_cmpR op_eq (pe_callB call_len_seq (by rfl) B.len PySem.boot_len (pa_cons (pe_lc (own := [("_law_sign", 1)]) (g := gName 1) (te := tVar 1) (tt := tTest (tOp (fun x y H Q => ∃ (c : Nat) (z : Str), x = .str ⟨#[c]⟩ ∧ y = .str z ∧ Q (.bl (!decide (c ∈ z.cps.toList))) H) (tVar 1) (tC (.str "01")))) rfl scIb.nd (pi_str (pv 0)) (blkOk_by (own := [("_law_sign", 1)]) (N := nIb) (sc := defScope slIsBoard) (by decide +kernel)) (fun _ _ _ _ _ => (pg_name (i := 1) scIb.nd rfl (Or.inl rfl))) (fun _ _ _ _ _ => by exact pts_one (pt_cmpR op_notIn_sign (pv 1) pe_str (by rfl))) (fun _ _ _ _ _ => by exact pv 1)) pa_nil)) pe_int (nomark _))))), ?_⟩
    have kl : z.length ≤ sizeLine := by rw [sizeLine_eq]; omega
    have zs : z.cps.size = z.cps.toList.length := by simp
    have stop : ∀ H', Same H H' → ¬ (1 ≤ z.length ∧ z.length ≤ 40 ∧ z.cps.toList.head? = some 49 ∧ (z.cps.toList.all fun c => decide (c ∈ (Str.ofString "01").cps.toList)) = true) → Q (.bl false) H' := fun H' s' e => by
      have o := out H' s'
      unfold boardOf at o
      rw [if_neg e] at o
      exact o
    refine ⟨_, rfl, _, rfl, kl, _, _, rfl, rfl, _, rfl, ?_⟩
    by_cases l1 : 1 ≤ z.length
    rotate_left
    · rw [decide_eq_false (by omega : ¬ (1 : Int) ≤ ((z.length : Nat) : Int))]
      exact iteF ⟨_, rfl, iteT (stop H (Same.refl _) fun q => l1 q.1)⟩
    rw [decide_eq_true (by omega : (1 : Int) ≤ ((z.length : Nat) : Int))]
    refine iteT ⟨_, _, rfl, rfl, _, rfl, ?_⟩
    by_cases l40 : z.length ≤ 40
    rotate_left
    · rw [decide_eq_false (by omega : ¬ ((z.length : Nat) : Int) ≤ 40)]
      exact iteT (stop H (Same.refl _) fun q => l40 q.2.1)
    rw [decide_eq_true (by omega : ((z.length : Nat) : Int) ≤ 40)]
    refine iteF ?_
    obtain ⟨c, r, er⟩ : ∃ c r, z.cps.toList = c :: r := by
      cases e : z.cps.toList with
      | nil =>
        rw [len_cps, e] at l1
        exact absurd l1 (by decide)
      | cons c r => exact ⟨c, r, rfl⟩
    have at0 : atI z.cps.toList ((0 : Nat) : Int) = some c := atI_nat (by rw [er]; rfl)
    have one : (Str.ofString "1").cps.toList = [49] := by decide +kernel
    refine ⟨_, rfl, _, _, c, rfl, rfl, kl, at0, rfl, _, rfl, ?_⟩
    by_cases c49 : c = 49
    rotate_left
    · have ne : ¬ V.str (⟨#[c]⟩ : Str) = V.str "1" := fun q => by
        injection q with q
        have h2 : [c] = (Str.ofString "1").cps.toList := congrArg (fun z : Str => z.cps.toList) q
        rw [one] at h2
        injection h2 with h2
        exact c49 h2
      rw [decide_eq_false ne]
      refine iteT (stop H (Same.refl _) fun q => c49 ?_)
      have := q.2.2.1
      rw [er] at this
      exact Option.some.inj this
    have eq1 : V.str (⟨#[c]⟩ : Str) = V.str "1" := congrArg V.str (str_ext (by rw [one, c49]))
    rw [decide_eq_true eq1]
    refine iteF ?_
    refine ⟨_, rfl, _, rfl, fun D hD => ?_⟩
    refine lc_it walk_str (fun i H' => Same H H' ∧ H' D = some (.lst ((nots (Str.ofString "01").cps.toList (z.cps.toList.take i)).map sgV))) ⟨same_new hD, upd_same⟩ (fun i H' _ h => True.intro) ?_ ?_
    · rintro i x H3 H4 hi ⟨s3, hD3⟩ ⟨rfl, c, hc, rfl⟩
      have hc2 : z.cps.toList[i]? = some c := by simpa using hc
      have st := nots_step (S := (Str.ofString "01").cps.toList) hc2
      refine ⟨rfl, _, rfl, c, _, rfl, rfl, _, rfl, ?_⟩
      show if (!decide (c ∈ (Str.ofString "01").cps.toList)) = true then _ else _
      by_cases m : c ∈ (Str.ofString "01").cps.toList
      · rw [decide_eq_true m] at st ⊢
        refine iteF ⟨s3, ?_⟩
        rw [st, if_pos rfl, List.append_nil]
        exact hD3
      · rw [decide_eq_false m] at st ⊢
        refine iteT ⟨_, rfl, _, hD3, ?_, ?_, ?_⟩
        · have := nots_len (S := (Str.ofString "01").cps.toList) (l := z.cps.toList) (i := i)
          rw [List.length_map, sizeLine_eq]
          rw [len_cps] at lz
          omega
        · intro b o e
          rw [upd_ne (ne_of_none e hD)]
          exact s3 b o e
        · rw [upd_same, st, if_neg Bool.false_ne_true, List.map_append]
          rfl
    rintro H5 ⟨s5, hD5⟩
    rw [zs, List.take_length] at hD5
    have o := out H5 s5
    have da : (z.cps.toList.all fun c => decide (c ∈ (Str.ofString "01").cps.toList)) = decide ((nots (Str.ofString "01").cps.toList z.cps.toList).length = 0) := nots_all
    unfold boardOf at o
    refine ⟨D, _, rfl, .inl (SqL.of hD5), rfl, ?_⟩
    rw [List.length_map]
    by_cases n0 : (nots (Str.ofString "01").cps.toList z.cps.toList).length = 0
    · rw [decide_eq_true n0] at da
      rw [if_pos ⟨l1, l40, by rw [er, c49]; rfl, da⟩] at o
      rw [n0]
      exact o
    · rw [decide_eq_false n0] at da
      rw [if_neg (fun q => by rw [q.2.2.2] at da; cases da)] at o
      rw [decide_eq_false (fun q => n0 (by injection q with q; omega))]
      exact o
end
end K92
namespace K92
open PySem PySem.Spec PyProof.Rows L2 Par
theorem cells_back {z : Str} {ns : List Int} (h : cellsOf z = some ns) : cellsT ns = z := by
  obtain ⟨_, _, h3, h4⟩ := cellsOf_ok h
  unfold cellsT
  cases ns with
  | nil => exact (h3 rfl).symm
  | cons k ns => exact (h4 (fun q => nomatch q)).symm
theorem flip_back {z : Str} {ts hs : List Int} (h : flipOf z = some (ts, hs)) : flipT ts hs = z ∧ OkF ts hs := by
  have js : Txt.join ">" (Txt.split z ">") = z := join_split_ z ">"
  unfold flipOf at h
  generalize Txt.split z ">" = ps at h js
  match ps, h with
  | [a, b], h =>
    have h : flipC (cellsOf a) (cellsOf b) = some (ts, hs) := h
    cases e1 : cellsOf a with
    | none => rw [e1] at h; cases h
    | some ts' =>
      cases e2 : cellsOf b with
      | none => rw [e1, e2] at h; cases h
      | some hs' =>
        rw [e1, e2] at h
        have h : (if (0 : Int) ∉ hs' ∧ (comm ts' hs').length % 2 = 0 then some (ts', hs') else none) = some (ts, hs) := h
        split at h
        · cases h
          obtain ⟨u1, c1, l1⟩ := Cls.of e1
          obtain ⟨u2, c2, l2⟩ := Cls.of e2
          refine ⟨?_, ?_⟩
          · unfold flipT
            rw [cells_back e1, cells_back e2, ← js]
            refine str_ext ?_
            show TL.tl _ = TL.tl _
            rw [TL.join_eq, TL.tl_join, TL.tl_append, TL.tl_append]
            exact List.append_assoc _ _ _
          · rename_i q
            exact ⟨c1, fun k hk => ⟨by have := c2 k hk; have : k ≠ 0 := fun z => q.1 (z ▸ hk); omega, (c2 k hk).2⟩, nodup_lt_ u1, nodup_lt_ u2, l1, l2⟩
        · cases h
/-- it is the text of one -/
def isSo : Nat → Str → Bool
  | 0, z => (cellsOf z).isSome
  | 1, z => (flipOf z).isSome
  | _, z => (boardOf z).isSome
def noV : List V := [.str "no", .int 0, .bl false]
def resV (d : Nat) (z : Str) : List V := if isSo d z = true then [.str "read", .str z] else noV
section
variable {P : Program} {w : World} {K : PySem.W.Frag} {mg : Str → Option Value} {base : Heap}
/-- _law_read -/
def spRd (K : PySem.W.Frag) (T : Addr) : Sp := fun vs H Q E => ∃ (d : Nat) (v : V), vs = [.int (d : Nat), v] ∧ d ≤ 2 ∧
  ((∃ z : Str, v = .str z ∧ z.length ≤ 2490 ∧ (isSo d z = true → ∀ H', Same H H' → Q (.str z) H') ∧ (isSo d z = false → ∀ e H', H e = none → Same H H' → H' e = some (.xd [("line", .int 0)]) → E (.ref T) (some e) H')) ∨
   (NoStr K H v ∧ ∀ e H', H e = none → Same H H' → H' e = some (.xd [("line", .int 0)]) → E (.ref T) (some e) H'))
theorem scRd : FnScope ["_law_door", "_law_text"] ["_law_door", "_law_text"] (defScope slRead) := ⟨rfl, rfl, rfl, by decide +kernel, rfl, by decide +kernel, by decide +kernel⟩
def HasX (P : Program) (w : World) (K : PySem.W.Frag) (mg : Str → Option Value) (base : Heap) (n : Str) (k : Nat) (ps : List Str) (sp : Sp) : Prop :=
  ∃ f fd, FnOk P w K mg base (L2.CX P w) k f fd ps sp ∧ mg n = some (.ref f) ∧ PySem.W.keepIn K (.ref f) = true ∧ Binds K fd ps []
theorem ok_rd {f C CB T : Addr} {fd : FuncData} (F : Fun K "_law_read" "_law_read" slRead f fd)
    (DC : HasX P w K mg base "read_cells" 6 ["text"] (spRc K T)) (DF : HasX P w K mg base "read_flip" 9 ["text"] (spRf K C T)) (DB : HasX P w K mg base "read_board" 9 ["text"] (spRb K CB T))
    (EC : Has P w K mg base "cells_text" 6 ["cells"] (spCt K)) (EF : Has P w K mg base "flip_text" 6 ["flip"] (spStrF C)) (EB : Has P w K mg base "board_text" 5 ["board"] (spStrB CB)) : FnOk P w K mg base (L2.CX P w) 10 f fd ["_law_door", "_law_text"] (spRd K T) := by
  obtain ⟨fRC, fdRC, GRC, mRC, kRC, bRC⟩ := DC
  obtain ⟨fRF, fdRF, GRF, mRF, kRF, bRF⟩ := DF
  obtain ⟨fRB, fdRB, GRB, mRB, kRB, bRB⟩ := DB
  obtain ⟨fCT, fdCT, GCT, mCT, kCT, bCT⟩ := EC
  obtain ⟨fFT, fdFT, GFT, mFT, kFT, bFT⟩ := EF
  obtain ⟨fBT, fdBT, GBT, mBT, kBT, bBT⟩ := EB
  refine F.okX scRd (fun vs H Q E h => ?_) (fun cdv A outer s H vs Q E hr h => ?_)
  · obtain ⟨d, v, rfl, _⟩ := h
    rfl
  · obtain ⟨d, v, rfl, d2, h⟩ := h
    have r5 : Room 5 _ := hr.mono (by decide)
    have r6 : Room 6 _ := hr.mono (by decide)
    have r9 : Room 9 _ := hr
    refine ⟨_, (pss_cons (ps_if (pt_cmpR op_eq (pv 0) pe_int (nomark _)) (pss_one (ps_ret (pe_call GCT r6 (by rfl) mCT kCT bCT .nil pass0 (pa_cons (pe_callS GRC r6 (by rfl) mRC kRC bRC (fun σ => passAt (takes_of rfl rfl rfl rfl) σ) (pa_cons (pv 1) pa_nil)) pa_nil)))) pss_nil)
      (pss_one (ps_ret (pe_ifExp (pt_cmpR op_eq (pv 0) pe_int (nomark _)) (pe_call GFT r6 (by rfl) mFT kFT bFT .nil pass0 (pa_cons (pe_callS GRF r9 (by rfl) mRF kRF bRF (fun σ => passAt (takes_of rfl rfl rfl rfl) σ) (pa_cons (pv 1) pa_nil)) pa_nil)) (pe_call GBT r5 (by rfl) mBT kBT bBT .nil pass0 (pa_cons (pe_callS GRB r9 (by rfl) mRB kRB bRB (fun σ => passAt (takes_of rfl rfl rfl rfl) σ) (pa_cons (pv 1) pa_nil)) pa_nil)))))), ?_⟩
    have dd : d = 0 ∨ d = 1 ∨ d = 2 := by omega
    rcases dd with rfl | rfl | rfl
    · refine ⟨_, rfl, rfl, _, rfl, ?_⟩
      rw [decide_eq_true (show V.int ((0 : Nat) : Int) = V.int 0 from rfl)]
      refine iteT ?_
      refine ⟨_, rfl, v, rfl, ?_⟩
      rcases h with ⟨z, rfl, lz, good, bad⟩ | ⟨no, bad⟩
      · refine .inl ⟨z, rfl, lz, fun ns hc q H1 hq s1 e1 => ?_, fun hc e H1 he s1 e1 => bad (by show (cellsOf z).isSome = false; rw [hc]; rfl) e H1 he s1 e1⟩
        refine ⟨q, ns, ns, rfl, .inr (SqT.of e1), Cls.of hc, List.Perm.refl _, fun H2 s2 => ?_⟩
        rw [cells_back hc]
        exact good (by show (cellsOf z).isSome = true; rw [hc]; rfl) H2 (s1.trans s2)
      · exact .inr ⟨no, fun e H1 he s1 e1 => bad e H1 he s1 e1⟩
    · refine ⟨_, rfl, rfl, _, rfl, ?_⟩
      rw [decide_eq_false (fun q => by injection q with q; cases q)]
      refine iteF ⟨_, rfl, rfl, _, rfl, ?_⟩
      rw [decide_eq_true (show V.int ((1 : Nat) : Int) = V.int 1 from rfl)]
      refine iteT ?_
      refine ⟨_, rfl, v, rfl, ?_⟩
      rcases h with ⟨z, rfl, lz, good, bad⟩ | ⟨no, bad⟩
      · refine .inl ⟨z, rfl, lz, fun ts hs hc q H1 hq s1 e1 => ?_, fun hc e H1 he s1 e1 => bad (by show (flipOf z).isSome = false; rw [hc]; rfl) e H1 he s1 e1⟩
        obtain ⟨fb, ok⟩ := flip_back hc
        refine ⟨q, ts, hs, rfl, e1, ok, fun H2 s2 => ?_⟩
        rw [fb]
        exact good (by show (flipOf z).isSome = true; rw [hc]; rfl) H2 (s1.trans s2)
      · exact .inr ⟨no, fun e H1 he s1 e1 => bad e H1 he s1 e1⟩
    · refine ⟨_, rfl, rfl, _, rfl, ?_⟩
      rw [decide_eq_false (fun q => by injection q with q; cases q)]
      refine iteF ⟨_, rfl, rfl, _, rfl, ?_⟩
      rw [decide_eq_false (fun q => by injection q with q; cases q)]
      refine iteF ?_
      refine ⟨_, rfl, v, rfl, ?_⟩
      rcases h with ⟨z, rfl, lz, good, bad⟩ | ⟨no, bad⟩
      · refine .inl ⟨z, rfl, lz, fun bs hc q H1 hq s1 e1 => ?_, fun hc e H1 he s1 e1 => bad (by show (boardOf z).isSome = false; rw [hc]; rfl) e H1 he s1 e1⟩
        obtain ⟨ok, fb⟩ := boardOf_ok hc
        refine ⟨q, bs, rfl, e1, ok, fun H2 s2 => ?_⟩
        rw [← fb]
        exact good (by show (boardOf z).isSome = true; rw [hc]; rfl) H2 (s1.trans s2)
      · exact .inr ⟨no, fun e H1 he s1 e1 => bad e H1 he s1 e1⟩
/-- what isinstance and except say of a NoText -/
structure ErrT (K : PySem.W.Frag) (mg : Str → Option Value) (T c1 c2 c3 c4 c5 : Addr) : Prop where
  lim : mg "LimitError" = some (.ref c5)
  g1 : mg "NoCells" = some (.ref c1)
  g2 : mg "NoFlip" = some (.ref c2)
  g3 : mg "NoSize" = some (.ref c3)
  base : mg "CellError" = some (.ref c4)
  vErr : mg "ValueError" = none
  nOther : PySem.W.kitAny K (.ref T) [.ref c5, .ref c1, .ref c2, .ref c3] = some false
  nBase : PySem.W.kitOne K (.ref T) (.ref c4) = some true
  nVal : PySem.W.kitOne K (.ref T) (.type "ValueError") = some true
  nX : ExcC K T
  nF : XfC K T
  nn : PySem.W.exmOne K (.ref T) (.ref T) = some true
/-- _law_told, _law_due -/
def spTd (K : PySem.W.Frag) : Sp := fun vs H Q _ => ∃ (d : Nat) (v : V), vs = [.int (d : Nat), v] ∧ d ≤ 2 ∧
  ((∃ z : Str, v = .str z ∧ z.length ≤ 2490 ∧ ∀ L H', H L = none → Same H H' → H' L = some (.lst (resV d z)) → Q (.ref L) H') ∨
   (NoStr K H v ∧ ∀ L H', H L = none → Same H H' → H' L = some (.lst noV) → Q (.ref L) H'))
abbrev nTold : List Str := ["_law_door", "_law_text", "_law_told_here", "e", "_law_others"]
theorem scTold : FnScope nTold ["_law_door", "_law_text"] (defScope slTold) := ⟨rfl, rfl, rfl, by decide +kernel, rfl, by decide +kernel, by decide +kernel⟩
theorem ok_told {f T c1 c2 c3 c4 c5 : Addr} {fd : FuncData} (F : Fun K "_law_told" "_law_told" slTold f fd) (B : Bl mg) (TN : NtC K mg T) (R : ErrT K mg T c1 c2 c3 c4 c5) (DR : HasX P w K mg base "_law_read" 10 ["_law_door", "_law_text"] (spRd K T)) : FnOk P w K mg base CX0 11 f fd ["_law_door", "_law_text"] (spTd K) := by
  obtain ⟨fR, fdR, GR, mR, kR, bR⟩ := DR
  refine F.ok scTold (fun vs H Q E h => ?_) (fun cdv A outer s H vs Q E hr h => ?_)
  · obtain ⟨d, v, rfl, _⟩ := h
    rfl
  · obtain ⟨d, v, rfl, d2, h⟩ := h
    refine ⟨_, (pss_cons (ps_set (i := 2) scTold.nd rfl (Or.inl rfl) (pe_lst (pa_cons pe_str pa_nil)))
      (pss_cons (ps_try_ases (i := 3) rfl rfl scTold.nd rfl rfl takes0
        (fun W pn xe tk _ => (pss_one (ps_set (i := 2) scTold.nd rfl (Or.inl rfl) (pe_lst (pa_cons pe_str (pa_cons (pe_callS GR hr (by rfl) mR kR bR (fun σ => passAt tk σ) (pa_cons (pv 0) (pa_cons (pv 1) pa_nil))) pa_nil))))))
        (.cons ⟨rfl, by decide, .inl TN.gC⟩ (fun a oe cls d pn hz hf => (pss_cons (ps_set (i := 4) scTold.nd rfl (Or.inl rfl) (pe_or (pe_callB (call_isXT R.nX hz hf) (by rfl) B.isinstance (by decide +kernel) (pa_cons (pv 3) (pa_cons (pe_tup (pa_cons (pe_glob (v := .ref c5) (by rfl) R.lim rfl) (pa_cons (pe_glob (v := .ref c1) (by rfl) R.g1 rfl) (pa_cons (pe_glob (v := .ref c2) (by rfl) R.g2 rfl) (pa_cons (pe_glob (v := .ref c3) (by rfl) R.g3 rfl) pa_nil))))) pa_nil))) (pe_one (pe_not (pe_callB (call_isX R.nX hz hf) (by rfl) B.isinstance (by decide +kernel) (pa_cons (pv 3) (pa_cons (pe_glob (v := .ref c4) (by rfl) R.base rfl) pa_nil)))))))
      (pss_one (ps_set (i := 2) scTold.nd rfl (Or.inl rfl) (pe_lst (pa_cons pe_str (pa_cons (pe_xf R.nF TN.no hz hf (pv 3)) (pa_cons (pe_or (pv 4) (pe_one (pe_not (pe_callB (call_isX R.nX hz hf) (by rfl) B.isinstance (by decide +kernel) (pa_cons (pv 3) (pa_cons (pe_bltn (v := .ty "ValueError") (by rfl) R.vErr (by decide +kernel) rfl) pa_nil)))))) pa_nil))))))))
        .nil))
      (pss_one (ps_ret (pv 2))))), ?_⟩
    refine ⟨(by show 1 ≤ sizeLine; decide), fun L0 hL0 => ?_⟩
    have s0 := same_new (o := .lst [.str "nothing"]) hL0
    refine ⟨_, rfl, _, rfl, d, v, rfl, d2, ?_⟩
    rcases h with ⟨z, rfl, lz, out⟩ | ⟨no, out⟩
    · refine .inl ⟨z, rfl, lz, fun so H1 s1 => ?_, fun so e H1 he s1 e1 => ?_⟩
      · refine ⟨(by show 2 ≤ sizeLine; decide), fun L hL => ?_⟩
        refine ⟨_, rfl, out L _ (s0.free (s1.free hL)) (s0.trans (s1.trans (same_new hL))) ?_⟩
        rw [upd_same]
        unfold resV
        rw [if_pos so]
      · refine ⟨true, R.nn, fun _ a ha => ?_, fun q => Bool.noConfusion q⟩
        refine ⟨_, rfl, (by show 4 ≤ sizeLine; decide), fun t ht => ?_⟩
        have st := same_new (o := .tup [.ref c5, .ref c1, .ref c2, .ref c3]) ht
        have e2 := st _ _ e1
        refine ⟨t, _, _, false, e, _, rfl, upd_same, .cons (.own _) (.cons (.own _) (.cons (.own _) (.cons (.own _) .nil))), rfl, rfl, e2, R.nOther, _, rfl, iteF ?_⟩
        refine ⟨_, rfl, _, _, true, e, _, rfl, rfl, rfl, e2, .own _, R.nBase, _, rfl, ?_⟩
        refine ⟨_, rfl, rfl, rfl, e, _, .int 0, rfl, e2, rfl, _, rfl, false, rfl, iteF ?_⟩
        refine ⟨_, rfl, _, _, true, e, _, rfl, rfl, rfl, e2, .ty _, R.nVal, _, rfl, ?_⟩
        refine ⟨(by show 3 ≤ sizeLine; decide), fun L hL => ?_⟩
        have s9 := s0.trans (s1.trans (st.trans (same_new (o := .lst noV) hL)))
        refine ⟨_, rfl, out L _ (s0.free (s1.free (st.free hL))) s9 ?_⟩
        rw [show resV d z = noV by unfold resV; rw [if_neg (by rw [so]; exact Bool.false_ne_true)]]
        exact upd_same
    · refine .inr ⟨?_, fun e H1 he s1 e1 => ?_⟩
      · obtain ⟨n, ty, kf⟩ := no
        exact ⟨n, same_tyx s0 ty, kf⟩
      · refine ⟨true, R.nn, fun _ a ha => ?_, fun q => Bool.noConfusion q⟩
        refine ⟨_, rfl, (by show 4 ≤ sizeLine; decide), fun t ht => ?_⟩
        have st := same_new (o := .tup [.ref c5, .ref c1, .ref c2, .ref c3]) ht
        have e2 := st _ _ e1
        refine ⟨t, _, _, false, e, _, rfl, upd_same, .cons (.own _) (.cons (.own _) (.cons (.own _) (.cons (.own _) .nil))), rfl, rfl, e2, R.nOther, _, rfl, iteF ?_⟩
        refine ⟨_, rfl, _, _, true, e, _, rfl, rfl, rfl, e2, .own _, R.nBase, _, rfl, ?_⟩
        refine ⟨_, rfl, rfl, rfl, e, _, .int 0, rfl, e2, rfl, _, rfl, false, rfl, iteF ?_⟩
        refine ⟨_, rfl, _, _, true, e, _, rfl, rfl, rfl, e2, .ty _, R.nVal, _, rfl, ?_⟩
        refine ⟨(by show 3 ≤ sizeLine; decide), fun L hL => ?_⟩
        have s9 := s0.trans (s1.trans (st.trans (same_new (o := .lst noV) hL)))
        exact ⟨_, rfl, out L _ (s0.free (s1.free (st.free hL))) s9 upd_same⟩
abbrev nDue : List Str := ["_law_door", "_law_text", "_law_are", "_law_is_so"]
theorem scDue : FnScope nDue ["_law_door", "_law_text"] (defScope slDue) := ⟨rfl, rfl, rfl, by decide +kernel, rfl, by decide +kernel, by decide +kernel⟩
theorem ok_due {f : Addr} {fd : FuncData} (F : Fun K "_law_due" "_law_due" slDue f fd) (B : Bl mg) (hS : mg "str" = none) (DC : Has P w K mg base "_law_are_cells" 2 ["_law_text"] spAc) (DF : Has P w K mg base "_law_is_flip" 3 ["_law_text"] spIf) (DB : Has P w K mg base "_law_is_board" 3 ["_law_text"] spIb) : FnOk P w K mg base CX0 4 f fd ["_law_door", "_law_text"] (spTd K) := by
  obtain ⟨fC, fdC, GC, mC, kC, bC⟩ := DC
  obtain ⟨fF, fdF, GF, mF, kF, bF⟩ := DF
  obtain ⟨fB, fdB, GB, mB, kB, bB⟩ := DB
  refine F.ok scDue (fun vs H Q E h => ?_) (fun cdv A outer s H vs Q E hr h => ?_)
  · obtain ⟨d, v, rfl, _⟩ := h
    rfl
  · obtain ⟨d, v, rfl, d2, h⟩ := h
    have r2 : Room 2 _ := hr.mono (by decide)
    have r3 : Room 3 _ := hr
    have dd : d = 0 ∨ d = 1 ∨ d = 2 := by omega
    rcases dd with rfl | rfl | rfl
    · refine ⟨_, (pss_cons (ps_if (pt_not (pt_val (pe_callB call_isi (by rfl) B.isinstance (by decide +kernel) (pa_cons (pv 1) (pa_cons (pe_bltn (v := .ty "str") (by rfl) hS (by decide +kernel) rfl) pa_nil))))) (pss_one (ps_ret (pe_lst (pa_cons pe_str (pa_cons pe_int (pa_cons pe_bl pa_nil)))))) pss_nil)
      (pss_cons (ps_set (i := 2) scDue.nd rfl (Or.inl rfl) (pe_lst (pa_cons (pe_glob (v := .ref fC) (by rfl) mC rfl) (pa_cons (pe_glob (v := .ref fF) (by rfl) mF rfl) (pa_cons (pe_glob (v := .ref fB) (by rfl) mB rfl) pa_nil)))))
      (pss_cons (ps_set (i := 3) scDue.nd rfl (Or.inl rfl) (pe_ix ix_list (pv 2) (pv 0) (fun _ _ => rfl)))
      (pss_one (ps_ret (pe_ifExp (pt_val (pe_callL (i := 3) (E := E0) GC r2 rfl (Or.inl rfl) kC bC .nil pass0 (pa_cons (pv 1) pa_nil))) (pe_lst (pa_cons pe_str (pa_cons (pv 1) pa_nil))) (pe_lst (pa_cons pe_str (pa_cons pe_int (pa_cons pe_bl pa_nil)))))))))), ?_⟩
      rcases h with ⟨z, rfl, lz, out⟩ | ⟨⟨n, ty, kf⟩, out⟩
      rotate_left
      · refine ⟨_, rfl, _, _, _, _, false, rfl, .ty "str", ty, kf, _, rfl, iteT ?_⟩
        exact ⟨(by show 3 ≤ sizeLine; decide), fun L hL => out L _ hL (same_new hL) upd_same⟩
      refine ⟨_, rfl, _, _, _, _, true, rfl, .ty "str", .base (.str _), kit_ty (by decide +kernel), _, rfl, iteF ?_⟩
      refine ⟨(by show 3 ≤ sizeLine; decide), fun D hD => ?_⟩
      have sD := same_new (o := .lst [.ref fC, .ref fF, .ref fB]) hD
      refine ⟨_, rfl, _, rfl, D, _, 0, .ref fC, rfl, rfl, SqL.of upd_same, rfl, ?_⟩
      refine ⟨rfl, _, rfl, z, rfl, lz, fun H1 s1 => ?_⟩
      refine ⟨_, rfl, ?_⟩
      have s01 := sD.trans s1
      by_cases so : isSo 0 z = true
      · refine ite2 (fun _ => ?_) (fun q => absurd so q)
        refine ⟨_, rfl, (by show 2 ≤ sizeLine; decide), fun L hL => out L _ (s01.free hL) (s01.trans (same_new hL)) ?_⟩
        rw [upd_same]
        unfold resV
        rw [if_pos so]
      · refine ite2 (fun q => absurd q so) (fun _ => ?_)
        refine ⟨(by show 3 ≤ sizeLine; decide), fun L hL => out L _ (s01.free hL) (s01.trans (same_new hL)) ?_⟩
        rw [upd_same]
        unfold resV
        rw [if_neg so]
        rfl
    · refine ⟨_, (pss_cons (ps_if (pt_not (pt_val (pe_callB call_isi (by rfl) B.isinstance (by decide +kernel) (pa_cons (pv 1) (pa_cons (pe_bltn (v := .ty "str") (by rfl) hS (by decide +kernel) rfl) pa_nil))))) (pss_one (ps_ret (pe_lst (pa_cons pe_str (pa_cons pe_int (pa_cons pe_bl pa_nil)))))) pss_nil)
      (pss_cons (ps_set (i := 2) scDue.nd rfl (Or.inl rfl) (pe_lst (pa_cons (pe_glob (v := .ref fC) (by rfl) mC rfl) (pa_cons (pe_glob (v := .ref fF) (by rfl) mF rfl) (pa_cons (pe_glob (v := .ref fB) (by rfl) mB rfl) pa_nil)))))
      (pss_cons (ps_set (i := 3) scDue.nd rfl (Or.inl rfl) (pe_ix ix_list (pv 2) (pv 0) (fun _ _ => rfl)))
      (pss_one (ps_ret (pe_ifExp (pt_val (pe_callL (i := 3) (E := E0) GF r3 rfl (Or.inl rfl) kF bF .nil pass0 (pa_cons (pv 1) pa_nil))) (pe_lst (pa_cons pe_str (pa_cons (pv 1) pa_nil))) (pe_lst (pa_cons pe_str (pa_cons pe_int (pa_cons pe_bl pa_nil)))))))))), ?_⟩
      rcases h with ⟨z, rfl, lz, out⟩ | ⟨⟨n, ty, kf⟩, out⟩
      rotate_left
      · refine ⟨_, rfl, _, _, _, _, false, rfl, .ty "str", ty, kf, _, rfl, iteT ?_⟩
        exact ⟨(by show 3 ≤ sizeLine; decide), fun L hL => out L _ hL (same_new hL) upd_same⟩
      refine ⟨_, rfl, _, _, _, _, true, rfl, .ty "str", .base (.str _), kit_ty (by decide +kernel), _, rfl, iteF ?_⟩
      refine ⟨(by show 3 ≤ sizeLine; decide), fun D hD => ?_⟩
      have sD := same_new (o := .lst [.ref fC, .ref fF, .ref fB]) hD
      refine ⟨_, rfl, _, rfl, D, _, 1, .ref fF, rfl, rfl, SqL.of upd_same, rfl, ?_⟩
      refine ⟨rfl, _, rfl, z, rfl, lz, fun H1 s1 => ?_⟩
      refine ⟨_, rfl, ?_⟩
      have s01 := sD.trans s1
      by_cases so : isSo 1 z = true
      · refine ite2 (fun _ => ?_) (fun q => absurd so q)
        refine ⟨_, rfl, (by show 2 ≤ sizeLine; decide), fun L hL => out L _ (s01.free hL) (s01.trans (same_new hL)) ?_⟩
        rw [upd_same]
        unfold resV
        rw [if_pos so]
      · refine ite2 (fun q => absurd q so) (fun _ => ?_)
        refine ⟨(by show 3 ≤ sizeLine; decide), fun L hL => out L _ (s01.free hL) (s01.trans (same_new hL)) ?_⟩
        rw [upd_same]
        unfold resV
        rw [if_neg so]
        rfl
    · refine ⟨_, (pss_cons (ps_if (pt_not (pt_val (pe_callB call_isi (by rfl) B.isinstance (by decide +kernel) (pa_cons (pv 1) (pa_cons (pe_bltn (v := .ty "str") (by rfl) hS (by decide +kernel) rfl) pa_nil))))) (pss_one (ps_ret (pe_lst (pa_cons pe_str (pa_cons pe_int (pa_cons pe_bl pa_nil)))))) pss_nil)
      (pss_cons (ps_set (i := 2) scDue.nd rfl (Or.inl rfl) (pe_lst (pa_cons (pe_glob (v := .ref fC) (by rfl) mC rfl) (pa_cons (pe_glob (v := .ref fF) (by rfl) mF rfl) (pa_cons (pe_glob (v := .ref fB) (by rfl) mB rfl) pa_nil)))))
      (pss_cons (ps_set (i := 3) scDue.nd rfl (Or.inl rfl) (pe_ix ix_list (pv 2) (pv 0) (fun _ _ => rfl)))
      (pss_one (ps_ret (pe_ifExp (pt_val (pe_callL (i := 3) (E := E0) GB r3 rfl (Or.inl rfl) kB bB .nil pass0 (pa_cons (pv 1) pa_nil))) (pe_lst (pa_cons pe_str (pa_cons (pv 1) pa_nil))) (pe_lst (pa_cons pe_str (pa_cons pe_int (pa_cons pe_bl pa_nil)))))))))), ?_⟩
      rcases h with ⟨z, rfl, lz, out⟩ | ⟨⟨n, ty, kf⟩, out⟩
      rotate_left
      · refine ⟨_, rfl, _, _, _, _, false, rfl, .ty "str", ty, kf, _, rfl, iteT ?_⟩
        exact ⟨(by show 3 ≤ sizeLine; decide), fun L hL => out L _ hL (same_new hL) upd_same⟩
      refine ⟨_, rfl, _, _, _, _, true, rfl, .ty "str", .base (.str _), kit_ty (by decide +kernel), _, rfl, iteF ?_⟩
      refine ⟨(by show 3 ≤ sizeLine; decide), fun D hD => ?_⟩
      have sD := same_new (o := .lst [.ref fC, .ref fF, .ref fB]) hD
      refine ⟨_, rfl, _, rfl, D, _, 2, .ref fB, rfl, rfl, SqL.of upd_same, rfl, ?_⟩
      refine ⟨rfl, _, rfl, z, rfl, lz, fun H1 s1 => ?_⟩
      refine ⟨_, rfl, ?_⟩
      have s01 := sD.trans s1
      by_cases so : isSo 2 z = true
      · refine ite2 (fun _ => ?_) (fun q => absurd so q)
        refine ⟨_, rfl, (by show 2 ≤ sizeLine; decide), fun L hL => out L _ (s01.free hL) (s01.trans (same_new hL)) ?_⟩
        rw [upd_same]
        unfold resV
        rw [if_pos so]
      · refine ite2 (fun q => absurd q so) (fun _ => ?_)
        refine ⟨(by show 3 ≤ sizeLine; decide), fun L hL => out L _ (s01.free hL) (s01.trans (same_new hL)) ?_⟩
        rw [upd_same]
        unfold resV
        rw [if_neg so]
        rfl
end
end K92
namespace K92
open PySem PySem.Spec PyProof.Rows L2 Par
/-- all its signs are ASCII -/
def Asc (z : Str) : Prop := ∀ c ∈ z.cps.toList, c < 128
theorem asc_add {x y : Str} (h : Asc x) (g : Asc y) : Asc (x ++ y) := fun c hc => by
  have e : (x ++ y).cps.toList = x.cps.toList ++ y.cps.toList := TL.tl_append x y
  rw [e, List.mem_append] at hc
  exact hc.elim (h c) (g c)
theorem cut_list (z : Str) (lo hi : Option Int) : (cutS z lo hi).cps.toList = List.take (HT.sIx z.length z.length hi - HT.sIx z.length 0 lo) (List.drop (HT.sIx z.length 0 lo) z.cps.toList) := by
  unfold cutS
  simp
theorem asc_cut {z : Str} (h : Asc z) (lo hi : Option Int) : Asc (cutS z lo hi) := fun c hc => h c (by
  rw [cut_list] at hc
  exact List.mem_of_mem_drop (List.mem_of_mem_take hc))
theorem cut_len (z : Str) (lo hi : Option Int) : (cutS z lo hi).length ≤ z.length := by
  rw [len_cps, cut_list, len_cps z, List.length_take, List.length_drop]
  omega
theorem mem_joinL {S : List Nat} {c : Nat} : ∀ {ls : List (List Nat)}, c ∈ TL.joinL S ls → c ∈ S ∨ ∃ l ∈ ls, c ∈ l
  | [], h => nomatch h
  | [a], h => .inr ⟨a, List.mem_cons_self .., h⟩
  | a :: b :: r, h => by
    have h : c ∈ a ++ (S ++ TL.joinL S (b :: r)) := h
    rw [List.mem_append, List.mem_append] at h
    rcases h with h | h | h
    · exact .inr ⟨a, List.mem_cons_self .., h⟩
    · exact .inl h
    · rcases mem_joinL h with q | ⟨l, hl, q⟩
      · exact .inl q
      · exact .inr ⟨l, List.mem_cons_of_mem _ hl, q⟩
theorem joinL_mem {S : List Nat} {c : Nat} : ∀ {ls : List (List Nat)} {l : List Nat}, l ∈ ls → c ∈ l → c ∈ TL.joinL S ls
  | [a], l, h, q => by
    rw [List.mem_singleton.mp h] at q
    exact q
  | a :: b :: r, l, h, q => by
    show c ∈ a ++ (S ++ TL.joinL S (b :: r))
    rw [List.mem_append, List.mem_append]
    rcases List.mem_cons.mp h with rfl | h
    · exact .inl q
    · exact .inr (.inr (joinL_mem h q))
theorem join_list (y : Str) (ws : List Str) : (Txt.join y ws).cps.toList = TL.joinL y.cps.toList (ws.map TL.tl) := by
  show TL.tl _ = _
  rw [TL.join_eq, TL.tl_join]
theorem asc_join {y : Str} {ws : List Str} (h : Asc y) (g : ∀ w ∈ ws, Asc w) : Asc (Txt.join y ws) := fun c hc => by
  rw [join_list] at hc
  rcases mem_joinL hc with q | ⟨l, hl, q⟩
  · exact h c q
  · obtain ⟨w, hw, rfl⟩ := List.mem_map.mp hl
    exact g w hw c q
theorem words_asc {z : Str} (h : Asc z) : ∀ w ∈ Txt.split z ",", Asc w := fun w hw c hc => by
  refine h c ?_
  rw [← join_split_ z ",", join_list]
  exact joinL_mem (List.mem_map_of_mem hw) hc
theorem comma_asc : Asc "," := by
  have e : (Str.ofString ",").cps.toList = [44] := by decide +kernel
  intro c hc
  rw [e, List.mem_singleton] at hc
  omega
theorem comma_len : (Str.ofString ",").length = 1 := by decide +kernel
theorem words_sum (z : Str) : ((Txt.split z ",").map fun x => x.length).sum + (Txt.split z ",").length = z.length + 1 := by
  have g := size_glued "," (Txt.split z ",")
  have jg : Builtin.Str.glued "," (Txt.split z ",") = z := join_split_ z ","
  rw [jg] at g
  have g2 : z.length = ((Txt.split z ",").map fun x => x.length).sum + ((Txt.split z ",").length - 1) * (Str.ofString ",").length := g
  rw [comma_len] at g2
  have ne : (Txt.split z ",").length ≠ 0 := fun q => split_ne z (List.length_eq_zero_iff.mp q)
  omega
theorem joined_len (ws : List Str) : (Txt.join "," ws).length ≤ (ws.map fun x => x.length).sum + ws.length := by
  have := join_len "," ws
  rw [TL.join_eq]
  rw [comma_len] at this
  omega
theorem asc_lower {z : Str} (h : Asc z) : Asc (Txt.lower z) ∧ (Txt.lower z).length = z.length := by
  have e := lower_ascii (x := z) h
  rw [e]
  refine ⟨fun c hc => ?_, ?_⟩
  · have hc : c ∈ (Array.map lo1 z.cps).toList := hc
    rw [Array.toList_map] at hc
    obtain ⟨d, hd, rfl⟩ := List.mem_map.mp hc
    have := h d hd
    unfold lo1
    split <;> omega
  · show (Array.map lo1 z.cps).size = z.cps.size
    simp
theorem num_asc : ∀ n : Nat, n < 45 → ((Str.ofString (toString ((n : Nat) : Int))).cps.toList.all fun c => decide (c < 128)) = true ∧ (Str.ofString (toString ((n : Nat) : Int))).length ≤ 3 := by decide +kernel
theorem asc_of {z : Str} (h : (z.cps.toList.all fun c => decide (c < 128)) = true) : Asc z := fun c hc => of_decide_eq_true (List.all_eq_true.mp h c hc)
theorem cut_dropS (ws : List Str) (i : Nat) (h : i ≤ ws.length) : cutV (ws.map V.str) (some (i : Int)) none = (ws.drop i).map V.str := by
  unfold cutV HT.sIx
  rw [List.map_drop]
  simp only [List.length_map]
  rw [if_neg (by omega), Int.toNat_natCast, Nat.min_eq_left h]
  refine List.take_of_length_le ?_
  rw [List.length_drop, List.length_map]
  exact Nat.le_refl _
theorem cut_takeS (ws : List Str) (i : Nat) (h : i ≤ ws.length) : cutV (ws.map V.str) none (some (i : Int)) = (ws.take i).map V.str := by
  unfold cutV HT.sIx
  rw [List.map_take]
  simp only [List.length_map]
  rw [if_neg (by omega), Int.toNat_natCast, Nat.min_eq_left h]
  rfl
theorem al_size : (Str.ofString "0123456789,>-+ _.1a\n").cps.toList.length = 20 ∧ ((Str.ofString "0123456789,>-+ _.1a\n").cps.toList.all fun c => decide (c < 128)) = true := by decide +kernel
theorem al_len : (Str.ofString "0123456789,>-+ _.1a\n").length ≤ sizeLine := by
  rw [len_cps, al_size.1, sizeLine_eq]
  decide
theorem al_at {n : Nat} (h : n < 20) : ∃ c, (Str.ofString "0123456789,>-+ _.1a\n").cps.toList[n]? = some c ∧ c < 128 := by
  obtain ⟨l, a⟩ := al_size
  obtain ⟨c, hc⟩ : ∃ c, (Str.ofString "0123456789,>-+ _.1a\n").cps.toList[n]? = some c := ⟨_, List.getElem?_eq_getElem (by rw [l]; exact h)⟩
  exact ⟨c, hc, of_decide_eq_true (List.all_eq_true.mp a c (List.mem_of_getElem? hc))⟩
theorem cut_sums {ws : List Str} {i : Nat} {w : Str} (h : ws[i]? = some w) : ((ws.take i).map fun x => x.length).sum + ((ws.drop i).map fun x => x.length).sum = (ws.map fun x => x.length).sum ∧
    ((ws.drop i).map fun x => x.length).sum = w.length + ((ws.drop (i + 1)).map fun x => x.length).sum ∧ (ws.take i).length = i ∧ (ws.drop i).length + i = ws.length ∧ (ws.drop (i + 1)).length + i + 1 = ws.length := by
  obtain ⟨il, e⟩ := List.getElem?_eq_some_iff.mp h
  refine ⟨?_, ?_, ?_, ?_, ?_⟩
  · rw [← List.sum_append, ← List.map_append, List.take_append_drop]
  · rw [List.drop_eq_getElem_cons il, e]
    rfl
  · rw [List.length_take]
    omega
  · rw [List.length_drop]
    omega
  · rw [List.length_drop]
    omega
theorem mid_sum (a b : List Str) (m : Str) : ((a ++ [m] ++ b).map fun x => x.length).sum = (a.map fun x => x.length).sum + m.length + (b.map fun x => x.length).sum ∧ (a ++ [m] ++ b).length = a.length + 1 + b.length := by
  constructor
  · rw [List.map_append, List.map_append, List.sum_append, List.sum_append]
    rfl
  · rw [List.length_append, List.length_append]
    rfl
theorem pick_at (ys : List Str) (d : Int) (d0 : 0 ≤ d) (d1 : d < (ys.length : Nat)) : ∃ y ∈ ys, atI (ys.map V.str) d = some (.str y) := by
  obtain ⟨i, rfl⟩ : ∃ i : Nat, d = (i : Int) := ⟨d.toNat, by omega⟩
  have il : i < ys.length := by omega
  refine ⟨ys[i], List.getElem_mem _, atI_nat ?_⟩
  rw [List.getElem?_map, List.getElem?_eq_getElem il]
  rfl
section
variable {P : Program} {w : World} {K : PySem.W.Frag} {mg : Str → Option Value} {base : Heap}
/-- _law_bent -/
def spBe : Sp := fun vs H Q _ => ∃ (p : Addr) (z : Str), vs = [.ref p, .str z] ∧ PotAt H p ∧ Asc z ∧ z.length ≤ 1000 ∧
  ∀ y H', But p H H' → PotAt H' p → Asc y → y.length ≤ 2 * z.length + 8 → Q (.str y) H'
abbrev nBe : List Str := ["_law_pot_here", "_law_text", "_law_at", "_law_way", "_law_sign", "_law_words", "_law_spot", "_law_more"]
theorem scBe : FnScope nBe ["_law_pot_here", "_law_text"] (defScope slBent) := ⟨rfl, rfl, rfl, by decide +kernel, rfl, by decide +kernel, by decide +kernel⟩
theorem ok_be {f : Addr} {fd : FuncData} (F : Fun K "_law_bent" "_law_bent" slBent f fd) (B : Bl mg) (hS : mg "str" = none) (DD : Has P w K mg base "_law_draw" 2 ["_law_pot_here", "_law_many"] spDraw) : FnOk P w K mg base CX0 3 f fd ["_law_pot_here", "_law_text"] spBe := by
  obtain ⟨fD, fdD, GD, mD, kD, bD⟩ := DD
  refine F.ok scBe (fun vs H Q E h => ?_) (fun cdv A outer s H vs Q E hr h => ?_)
  · obtain ⟨p, z, rfl, _⟩ := h
    rfl
  · obtain ⟨p, z, rfl, hp, az, lz, out⟩ := h
    have kl : z.length ≤ sizeLine := by rw [sizeLine_eq]; omega
    refine ⟨_, (pss_cons (ps_par (by rfl) scBe.nd (i := 2) (j := 3) rfl rfl (by decide) rfl rfl (pa_cons (pe_call GD hr (by rfl) mD kD bD .nil pass0 (pa_cons (pv 0) (pa_cons (pe_op op_add (pe_callB call_len_str (by rfl) B.len PySem.boot_len (pa_cons (pv 1) pa_nil)) pe_int) pa_nil))) (pa_cons (pe_call GD hr (by rfl) mD kD bD .nil pass0 (pa_cons (pv 0) (pa_cons pe_int pa_nil))) pa_nil)) (by rfl))
      (pss_cons (ps_set (i := 4) scBe.nd rfl (Or.inl rfl) (pe_ix ix_str pe_str (pe_call GD hr (by rfl) mD kD bD .nil pass0 (pa_cons (pv 0) (pa_cons pe_int pa_nil))) (fun _ _ => rfl)))
      (pss_cons (ps_if (pt_cmpR op_eq (pv 3) pe_int (nomark _)) (pss_one (ps_ret (pe_op op_add_str (pe_op op_add_str (pe_slice sl_str (pv 1) po_none (po_some (pv 2))) (pv 4)) (pe_slice sl_str (pv 1) (po_some (pv 2)) po_none)))) pss_nil)
      (pss_cons (ps_if (pt_cmpR op_eq (pv 3) pe_int (nomark _)) (pss_one (ps_ret (pe_op op_add_str (pe_slice sl_str (pv 1) po_none (po_some (pv 2))) (pe_slice sl_str (pv 1) (po_some (pe_op op_add (pv 2) pe_int)) po_none)))) pss_nil)
      (pss_cons (ps_if (pt_cmpR op_eq (pv 3) pe_int (nomark _)) (pss_one (ps_ret (pe_op op_add_str (pe_op op_add_str (pe_slice sl_str (pv 1) po_none (po_some (pv 2))) (pv 4)) (pe_slice sl_str (pv 1) (po_some (pe_op op_add (pv 2) pe_int)) po_none)))) pss_nil)
      (pss_cons (ps_if (pt_cmpR op_eq (pv 3) pe_int (nomark _)) (pss_one (ps_ret (pe_ix ix_list (pe_lst (pa_cons pe_str (pa_cons (pe_op op_add_str pe_str (pv 1)) (pa_cons (pe_op op_add_str (pv 1) pe_str) (pa_cons (pe_op op_add_str (pv 1) (pv 1)) (pa_cons (pe_revS (pv 1)) (pa_cons (pe_lower (pv 1)) pa_nil))))))) (pe_call GD hr (by rfl) mD kD bD .nil pass0 (pa_cons (pv 0) (pa_cons pe_int pa_nil))) (fun _ _ => rfl)))) pss_nil)
      (pss_cons (ps_set (i := 5) scBe.nd rfl (Or.inl rfl) (pe_split (pv 1) pe_str))
      (pss_cons (ps_set (i := 6) scBe.nd rfl (Or.inl rfl) (pe_call GD hr (by rfl) mD kD bD .nil pass0 (pa_cons (pv 0) (pa_cons (pe_callB call_len_seq (by rfl) B.len PySem.boot_len (pa_cons (pv 5) pa_nil)) pa_nil))))
      (pss_cons (ps_if (pt_cmpR op_eq (pv 3) pe_int (nomark _)) (pss_one (ps_ret (pe_join pe_str (pe_op op_cat (pe_op op_cat (pe_slice sl_list (pv 5) po_none (po_some (pv 6))) (pe_lst (pa_cons (pe_ix ix_list (pv 5) (pv 6) (fun _ _ => rfl)) pa_nil))) (pe_slice sl_list (pv 5) (po_some (pv 6)) po_none))))) pss_nil)
      (pss_cons (ps_if (pt_cmpR op_eq (pv 3) pe_int (nomark _)) (pss_one (ps_ret (pe_join pe_str (pe_revL (pv 5))))) pss_nil)
      (pss_cons (ps_if (pt_cmpR op_eq (pv 3) pe_int (nomark _)) (pss_one (ps_ret (pe_join pe_str (pe_op op_cat (pe_op op_cat (pe_slice sl_list (pv 5) po_none (po_some (pv 6))) (pe_lst (pa_cons (pe_op op_add_str pe_str (pe_ix ix_list (pv 5) (pv 6) (fun _ _ => rfl))) pa_nil))) (pe_slice sl_list (pv 5) (po_some (pe_op op_add (pv 6) pe_int)) po_none))))) pss_nil)
      (pss_cons (ps_set (i := 7) scBe.nd rfl (Or.inl rfl) (pe_ix ix_list (pe_lst (pa_cons pe_str (pa_cons pe_str (pa_cons pe_str (pa_cons pe_str (pa_cons pe_str (pa_cons pe_str (pa_cons pe_str (pa_cons (pe_callTy call_str_int (by rfl) hS (by decide +kernel) (pa_cons (pe_call GD hr (by rfl) mD kD bD .nil pass0 (pa_cons (pv 0) (pa_cons pe_int pa_nil))) pa_nil)) pa_nil))))))))) (pe_call GD hr (by rfl) mD kD bD .nil pass0 (pa_cons (pv 0) (pa_cons pe_int pa_nil))) (fun _ _ => rfl)))
      (pss_one (ps_ret (pe_join pe_str (pe_op op_cat (pe_op op_cat (pe_slice sl_list (pv 5) po_none (po_some (pv 6))) (pe_lst (pa_cons (pv 7) pa_nil))) (pe_slice sl_list (pv 5) (po_some (pe_op op_add (pv 6) pe_int)) po_none))))))))))))))))), ?_⟩
    refine ⟨_, rfl, _, rfl, z, rfl, kl, _, _, rfl, rfl, p, _, rfl, hp, by omega, by omega, fun at0 H1 a0 a1 b1 hp1 => ?_⟩
    refine ⟨_, rfl, p, 8, rfl, hp1, by decide, by decide, fun wy H2 w0 w8 b2 hp2 => ?_⟩
    refine ⟨_, _, rfl, ?_⟩
    refine ⟨_, rfl, p, 20, rfl, hp2, by decide, by decide, fun sg H3 g0 g20 b3 hp3 => ?_⟩
    obtain ⟨c, hc, c128⟩ := al_at (n := sg.toNat) (by omega)
    have hc2 : atI (Str.ofString "0123456789,>-+ _.1a\n").cps.toList sg = some c := by
      have := atI_nat hc
      rwa [Int.toNat_of_nonneg g0] at this
    refine ⟨_, sg, c, rfl, rfl, al_len, hc2, ?_⟩
    have asg : Asc (⟨#[c]⟩ : Str) := fun d hd => by
      have hd : d ∈ [c] := hd
      rw [List.mem_singleton.mp hd]
      exact c128
    have lsg : (⟨#[c]⟩ : Str).length = 1 := rfl
    have b03 : But p H H3 := b1.trans (b2.trans b3)
    have sz := sizeLine_eq
    have fin : ∀ y : Str, Asc y → y.length ≤ 2 * z.length + 8 → Q (.str y) H3 := fun y a l => out y H3 b03 hp3 a l
    refine ⟨_, rfl, rfl, _, rfl, ite2 (fun _ => ?_) (fun _ => ?_)⟩
    · have l1 := cut_len z none (some at0)
      have l2 := cut_len z (some at0) none
      refine ⟨_, rfl, _, rfl, _, rfl, z, rfl, kl, _, rfl, _, _, rfl, rfl, by omega, ?_⟩
      refine ⟨_, rfl, _, rfl, _, rfl, z, rfl, kl, _, _, rfl, rfl, by rw [app_len]; omega, ?_⟩
      refine fin _ (asc_add (asc_add (asc_cut az _ _) asg) (asc_cut az _ _)) ?_
      rw [app_len, app_len]
      omega
    refine ⟨_, rfl, rfl, _, rfl, ite2 (fun _ => ?_) (fun _ => ?_)⟩
    · have l1 := cut_len z none (some at0)
      have l2 := cut_len z (some (at0 + 1)) none
      refine ⟨_, rfl, _, rfl, _, rfl, z, rfl, kl, ?_⟩
      refine ⟨_, rfl, _, rfl, _, _, rfl, rfl, _, rfl, z, rfl, kl, _, _, rfl, rfl, by omega, ?_⟩
      refine fin _ (asc_add (asc_cut az _ _) (asc_cut az _ _)) ?_
      rw [app_len]
      omega
    refine ⟨_, rfl, rfl, _, rfl, ite2 (fun _ => ?_) (fun _ => ?_)⟩
    · have l1 := cut_len z none (some at0)
      have l2 := cut_len z (some (at0 + 1)) none
      refine ⟨_, rfl, _, rfl, _, rfl, z, rfl, kl, _, rfl, _, _, rfl, rfl, by omega, ?_⟩
      refine ⟨_, rfl, _, rfl, _, _, rfl, rfl, _, rfl, z, rfl, kl, _, _, rfl, rfl, by rw [app_len]; omega, ?_⟩
      refine fin _ (asc_add (asc_add (asc_cut az _ _) asg) (asc_cut az _ _)) ?_
      rw [app_len, app_len]
      omega
    refine ⟨_, rfl, rfl, _, rfl, ite2 (fun _ => ?_) (fun _ => ?_)⟩
    · have c1 : (Str.ofString " ").length = 1 := by decide +kernel
      have a1 : Asc " " := asc_of (by decide +kernel)
      obtain ⟨la, ll⟩ := asc_lower az
      refine ⟨_, rfl, _, _, rfl, rfl, by omega, _, rfl, _, _, rfl, rfl, by omega, _, rfl, _, rfl, _, _, rfl, rfl, by omega, _, rfl, z, rfl, kl, fun y ly my => ?_⟩
      refine ⟨_, rfl, ⟨_, rfl⟩, _, rfl, rfl, by omega, ?_⟩
      refine ⟨(by show 6 ≤ sizeLine; decide), fun L hL => ?_⟩
      obtain ⟨ys, hys⟩ : ∃ ys : List Str, ys = [Str.ofString "", Str.ofString " " ++ z, z ++ Str.ofString " ", z ++ z, y, Txt.lower z] := ⟨_, rfl⟩
      have all : ∀ x ∈ ys, Asc x ∧ x.length ≤ 2 * z.length + 8 := fun x hx => by
        rw [hys] at hx
        simp only [List.mem_cons, List.not_mem_nil, or_false] at hx
        rcases hx with rfl | rfl | rfl | rfl | rfl | rfl
        · exact ⟨asc_of (by decide +kernel), Nat.zero_le _⟩
        · exact ⟨asc_add a1 az, by rw [app_len]; omega⟩
        · exact ⟨asc_add az a1, by rw [app_len]; omega⟩
        · exact ⟨asc_add az az, by rw [app_len]; omega⟩
        · exact ⟨fun c hc => az c (my c hc), by omega⟩
        · exact ⟨la, by omega⟩
      have s4 := same_new (o := .lst (ys.map V.str)) hL
      have e4 := upd_same (H := H3) (a := L) (o := .lst (ys.map V.str))
      rw [show (upd H3 L (.lst [.str "", .str (Str.ofString " " ++ z), .str (z ++ Str.ofString " "), .str (z ++ z), .str y, .str (Txt.lower z)])) = upd H3 L (.lst (ys.map V.str)) by rw [hys]; rfl]
      generalize (upd H3 L (.lst (ys.map V.str))) = H4 at s4 e4 ⊢
      refine ⟨_, rfl, p, 6, rfl, hp3.same s4, by decide, by decide, fun d H5 d0 d6 b5 hp5 => ?_⟩
      have nL := pot_ne hp3 hL
      obtain ⟨x, hx, ex⟩ := pick_at ys d d0 (by rw [hys]; exact d6)
      obtain ⟨o1, o2⟩ := all x hx
      exact ⟨L, _, d, .str x, rfl, rfl, SqL.of (b5 _ _ nL e4), ex, out x H5 (b03.trans ((But.same s4).trans b5)) hp5 o1 o2⟩
    refine ⟨_, rfl, ⟨_, rfl⟩, _, _, rfl, rfl, by decide +kernel, by omega, fun W hW => ?_⟩
    have wa := words_asc az
    obtain ⟨_, w2⟩ := words_len z
    have wsum := words_sum z
    obtain ⟨ws, hws⟩ : ∃ ws, Txt.split z "," = ws := ⟨_, rfl⟩
    have wne : ws ≠ [] := by
      rw [← hws]
      exact split_ne z
    rw [hws] at wa w2 wsum
    have wl : 1 ≤ ws.length := by
      cases ws with
      | nil => exact absurd rfl wne
      | cons _ _ => exact Nat.succ_le_succ (Nat.zero_le _)
    have s4 := same_new (o := .lst ((Txt.split z ",").map V.str)) hW
    have e4 : (upd H3 W (.lst ((Txt.split z ",").map V.str))) W = some (.lst (ws.map V.str)) := by
      rw [upd_same, hws]
    generalize (upd H3 W (.lst ((Txt.split z ",").map V.str))) = H4 at s4 e4 ⊢
    have nW := pot_ne hp3 hW
    refine ⟨_, rfl, _, rfl, W, _, rfl, .inl (SqL.of e4), p, _, rfl, hp3.same s4, by rw [List.length_map]; omega, by rw [List.length_map]; omega, fun sp H5 p0 p1 b5 hp5 => ?_⟩
    rw [List.length_map] at p1
    have eW5 := b5 _ _ nW e4
    have b05 : But p H H5 := b03.trans ((But.same s4).trans b5)
    obtain ⟨i, rfl⟩ : ∃ i : Nat, sp = (i : Int) := ⟨sp.toNat, by omega⟩
    have ei1 : (i : Int) + 1 = ((i + 1 : Nat) : Int) := by omega
    have il : i < ws.length := by omega
    obtain ⟨w, hw⟩ : ∃ w, ws[i]? = some w := ⟨_, List.getElem?_eq_getElem il⟩
    have aw := wa w (List.mem_of_getElem? hw)
    have lw := w2 w (List.mem_of_getElem? hw)
    have atw : atI (ws.map V.str) (i : Int) = some (.str w) := by
      exact atI_nat (by rw [List.getElem?_map, hw]; rfl)
    obtain ⟨q1, q2, q3, q4, q5⟩ := cut_sums hw
    have fin5 : ∀ (y : Str) (H6 : Hp), Same H5 H6 → Asc y → y.length ≤ 2 * z.length + 8 → Q (.str y) H6 := fun y H6 s a l => out y H6 (b05.trans (But.same s)) (hp5.same s) a l
    refine ⟨_, rfl, rfl, _, rfl, ite2 (fun _ => ?_) (fun _ => ?_)⟩
    · refine ⟨⟨_, rfl⟩, ?_⟩
      refine ⟨_, rfl, _, rfl, _, rfl, W, _, rfl, SqL.of eW5, fun A1 hA1 => ?_⟩
      rw [cut_takeS ws i (by omega)]
      have s6 := same_new (o := .lst ((ws.take i).map V.str)) hA1
      have e61 := upd_same (H := H5) (a := A1) (o := .lst ((ws.take i).map V.str))
      have eW6 := s6 _ _ eW5
      generalize (upd H5 A1 (.lst ((ws.take i).map V.str))) = H6 at s6 e61 eW6 ⊢
      refine ⟨_, rfl, _, rfl, W, _, (i : Int), .str w, rfl, rfl, SqL.of eW6, atw, ?_⟩
      refine ⟨(by show 1 ≤ sizeLine; decide), fun A2 hA2 => ?_⟩
      have s7 := same_new (o := .lst [.str (w)]) hA2
      have e71 := s7 _ _ e61
      have e72 := upd_same (H := H6) (a := A2) (o := .lst [.str (w)])
      have eW7 := s7 _ _ eW6
      generalize (upd H6 A2 (.lst [.str (w)])) = H7 at s7 e71 e72 eW7 ⊢
      refine ⟨A1, A2, _, _, rfl, rfl, e71, e72, by rw [List.length_map, List.length_singleton]; omega, fun A3 hA3 => ?_⟩
      have s8 := same_new (o := .lst ((ws.take i).map V.str ++ [.str (w)])) hA3
      have e83 := upd_same (H := H7) (a := A3) (o := .lst ((ws.take i).map V.str ++ [.str (w)]))
      have eW8 := s8 _ _ eW7
      generalize (upd H7 A3 (.lst ((ws.take i).map V.str ++ [.str (w)]))) = H8 at s8 e83 eW8 ⊢
      refine ⟨_, rfl, _, rfl, _, rfl, W, _, rfl, SqL.of eW8, fun A4 hA4 => ?_⟩
      rw [cut_dropS ws i (by omega)]
      have s9 := same_new (o := .lst ((ws.drop i).map V.str)) hA4
      have e93 := s9 _ _ e83
      have e94 := upd_same (H := H8) (a := A4) (o := .lst ((ws.drop i).map V.str))
      generalize (upd H8 A4 (.lst ((ws.drop i).map V.str))) = H9 at s9 e93 e94 ⊢
      obtain ⟨md1, md2⟩ := mid_sum (ws.take i) (ws.drop i) (w)
      refine ⟨A3, A4, _, _, rfl, rfl, e93, e94, by rw [List.length_append, List.length_map, List.length_map, List.length_singleton]; omega, fun A5 hA5 => ?_⟩
      have s10 := same_new (o := .lst ((ws.take i).map V.str ++ [.str (w)] ++ (ws.drop i).map V.str)) hA5
      refine ⟨_, A5, ws.take i ++ [w] ++ ws.drop i, rfl, rfl, .inl (SqL.of (by rw [upd_same, List.map_append, List.map_append]; rfl)), by rw [comma_len, md1, md2]; omega, ?_⟩
      refine fin5 _ _ (s6.trans (s7.trans (s8.trans (s9.trans s10)))) (asc_join comma_asc fun x hx => ?_) ?_
      · rw [List.mem_append, List.mem_append, List.mem_singleton] at hx
        rcases hx with (hx | rfl) | hx
        · exact wa _ (List.mem_of_mem_take hx)
        · exact aw
        · exact wa _ (List.mem_of_mem_drop hx)
      · refine Nat.le_trans (joined_len _) ?_
        rw [md1, md2]
        omega
    refine ⟨_, rfl, rfl, _, rfl, ite2 (fun _ => ?_) (fun _ => ?_)⟩
    · refine ⟨⟨_, rfl⟩, ?_⟩
      refine ⟨_, rfl, W, _, rfl, SqL.of eW5, fun A1 hA1 => ?_⟩
      have s6 := same_new (o := .lst (ws.map V.str).reverse) hA1
      have rs : ((ws.reverse).map fun x => x.length).sum = (ws.map fun x => x.length).sum := by
        rw [List.map_reverse]
        exact List.sum_reverse _
      have rl : ws.reverse.length = ws.length := List.length_reverse
      refine ⟨_, A1, ws.reverse, rfl, rfl, .inl (SqL.of (by rw [upd_same, List.map_reverse])), by rw [comma_len, rs, rl]; omega, ?_⟩
      refine fin5 _ _ s6 (asc_join comma_asc fun x hx => wa x (List.mem_reverse.mp hx)) (Nat.le_trans (joined_len _) ?_)
      rw [rs, rl]
      omega
    refine ⟨_, rfl, rfl, _, rfl, ite2 (fun _ => ?_) (fun _ => ?_)⟩
    · have c1 : (Str.ofString "0").length = 1 := by decide +kernel
      have l0 : (Str.ofString "0" ++ w).length = 1 + w.length := by rw [app_len, c1]
      refine ⟨⟨_, rfl⟩, ?_⟩
      refine ⟨_, rfl, _, rfl, _, rfl, W, _, rfl, SqL.of eW5, fun A1 hA1 => ?_⟩
      rw [cut_takeS ws i (by omega)]
      have s6 := same_new (o := .lst ((ws.take i).map V.str)) hA1
      have e61 := upd_same (H := H5) (a := A1) (o := .lst ((ws.take i).map V.str))
      have eW6 := s6 _ _ eW5
      generalize (upd H5 A1 (.lst ((ws.take i).map V.str))) = H6 at s6 e61 eW6 ⊢
      refine ⟨_, rfl, _, rfl, W, _, (i : Int), .str w, rfl, rfl, SqL.of eW6, atw, _, _, rfl, rfl, by rw [c1]; omega, ?_⟩
      refine ⟨(by show 1 ≤ sizeLine; decide), fun A2 hA2 => ?_⟩
      have s7 := same_new (o := .lst [.str (Str.ofString "0" ++ w)]) hA2
      have e71 := s7 _ _ e61
      have e72 := upd_same (H := H6) (a := A2) (o := .lst [.str (Str.ofString "0" ++ w)])
      have eW7 := s7 _ _ eW6
      generalize (upd H6 A2 (.lst [.str (Str.ofString "0" ++ w)])) = H7 at s7 e71 e72 eW7 ⊢
      refine ⟨A1, A2, _, _, rfl, rfl, e71, e72, by rw [List.length_map, List.length_singleton]; omega, fun A3 hA3 => ?_⟩
      have s8 := same_new (o := .lst ((ws.take i).map V.str ++ [.str (Str.ofString "0" ++ w)])) hA3
      have e83 := upd_same (H := H7) (a := A3) (o := .lst ((ws.take i).map V.str ++ [.str (Str.ofString "0" ++ w)]))
      have eW8 := s8 _ _ eW7
      generalize (upd H7 A3 (.lst ((ws.take i).map V.str ++ [.str (Str.ofString "0" ++ w)]))) = H8 at s8 e83 eW8 ⊢
      refine ⟨_, rfl, _, rfl, _, _, rfl, rfl, _, rfl, W, _, rfl, SqL.of eW8, fun A4 hA4 => ?_⟩
      rw [ei1, cut_dropS ws (i + 1) (by omega)]
      have s9 := same_new (o := .lst ((ws.drop (i + 1)).map V.str)) hA4
      have e93 := s9 _ _ e83
      have e94 := upd_same (H := H8) (a := A4) (o := .lst ((ws.drop (i + 1)).map V.str))
      generalize (upd H8 A4 (.lst ((ws.drop (i + 1)).map V.str))) = H9 at s9 e93 e94 ⊢
      obtain ⟨md1, md2⟩ := mid_sum (ws.take i) (ws.drop (i + 1)) (Str.ofString "0" ++ w)
      refine ⟨A3, A4, _, _, rfl, rfl, e93, e94, by rw [List.length_append, List.length_map, List.length_map, List.length_singleton]; omega, fun A5 hA5 => ?_⟩
      have s10 := same_new (o := .lst ((ws.take i).map V.str ++ [.str (Str.ofString "0" ++ w)] ++ (ws.drop (i + 1)).map V.str)) hA5
      refine ⟨_, A5, ws.take i ++ [Str.ofString "0" ++ w] ++ ws.drop (i + 1), rfl, rfl, .inl (SqL.of (by rw [upd_same, List.map_append, List.map_append]; rfl)), by rw [comma_len, md1, md2]; omega, ?_⟩
      refine fin5 _ _ (s6.trans (s7.trans (s8.trans (s9.trans s10)))) (asc_join comma_asc fun x hx => ?_) ?_
      · rw [List.mem_append, List.mem_append, List.mem_singleton] at hx
        rcases hx with (hx | rfl) | hx
        · exact wa _ (List.mem_of_mem_take hx)
        · exact asc_add (asc_of (by decide +kernel)) aw
        · exact wa _ (List.mem_of_mem_drop hx)
      · refine Nat.le_trans (joined_len _) ?_
        rw [md1, md2]
        omega
    refine ⟨_, rfl, p, 45, rfl, hp5, by decide, by decide, fun e G6 e0 e45 b6 gp6 => ⟨e, rfl, ?_, ?_⟩⟩
    · exact Nat.lt_of_le_of_lt (Nat.log2_le_self _) (by omega)
    refine ⟨(by show 8 ≤ sizeLine; decide), fun L hL => ?_⟩
    obtain ⟨n1, n2⟩ := num_asc e.toNat (by omega)
    rw [Int.toNat_of_nonneg e0] at n1 n2
    obtain ⟨ys, hys⟩ : ∃ ys : List Str, ys = [Str.ofString "39", Str.ofString "40", Str.ofString "41", Str.ofString "100", Str.ofString "-1", Str.ofString "0", Str.ofString "1", Str.ofString (toString e)] := ⟨_, rfl⟩
    have all : ∀ x ∈ ys, Asc x ∧ x.length ≤ 3 := fun x hx => by
      rw [hys] at hx
      simp only [List.mem_cons, List.not_mem_nil, or_false] at hx
      rcases hx with rfl | rfl | rfl | rfl | rfl | rfl | rfl | rfl
      · exact ⟨asc_of (by decide +kernel), by decide +kernel⟩
      · exact ⟨asc_of (by decide +kernel), by decide +kernel⟩
      · exact ⟨asc_of (by decide +kernel), by decide +kernel⟩
      · exact ⟨asc_of (by decide +kernel), by decide +kernel⟩
      · exact ⟨asc_of (by decide +kernel), by decide +kernel⟩
      · exact ⟨asc_of (by decide +kernel), by decide +kernel⟩
      · exact ⟨asc_of (by decide +kernel), by decide +kernel⟩
      · exact ⟨asc_of n1, n2⟩
    have t7 := same_new (o := .lst (ys.map V.str)) hL
    have f7 := upd_same (H := G6) (a := L) (o := .lst (ys.map V.str))
    rw [show (upd G6 L (.lst [.str "39", .str "40", .str "41", .str "100", .str "-1", .str "0", .str "1", .str (Str.ofString (toString e))])) = upd G6 L (.lst (ys.map V.str)) by rw [hys]; rfl]
    generalize (upd G6 L (.lst (ys.map V.str))) = G7 at t7 f7 ⊢
    refine ⟨_, rfl, p, 8, rfl, gp6.same t7, by decide, by decide, fun d G8 d0 d8 b8 gp8 => ?_⟩
    have nL := pot_ne gp6 hL
    obtain ⟨m, hm, em⟩ := pick_at ys d d0 (by rw [hys]; exact d8)
    obtain ⟨am, lm⟩ := all m hm
    refine ⟨L, _, d, .str m, rfl, rfl, SqL.of (b8 _ _ nL f7), em, ?_⟩
    have b58 : But p H5 G8 := b6.trans ((But.same t7).trans b8)
    have eW8 := b58 _ _ nW eW5
    replace b05 := b05.trans b58
    clear fin5 b58 b6 b8
    have fin5 : ∀ (y : Str) (H6 : Hp), Same G8 H6 → Asc y → y.length ≤ 2 * z.length + 8 → Q (.str y) H6 := fun y H6 s a l => out y H6 (b05.trans (But.same s)) (gp8.same s) a l
    clear eW5
    have eW5 := eW8
    clear eW8
    refine ⟨⟨_, rfl⟩, ?_⟩
    refine ⟨_, rfl, _, rfl, _, rfl, W, _, rfl, SqL.of eW5, fun A1 hA1 => ?_⟩
    rw [cut_takeS ws i (by omega)]
    have s6 := same_new (o := .lst ((ws.take i).map V.str)) hA1
    have e61 := upd_same (H := G8) (a := A1) (o := .lst ((ws.take i).map V.str))
    have eW6 := s6 _ _ eW5
    generalize (upd G8 A1 (.lst ((ws.take i).map V.str))) = H6 at s6 e61 eW6 ⊢
    refine ⟨_, rfl, ?_⟩
    refine ⟨(by show 1 ≤ sizeLine; decide), fun A2 hA2 => ?_⟩
    have s7 := same_new (o := .lst [.str (m)]) hA2
    have e71 := s7 _ _ e61
    have e72 := upd_same (H := H6) (a := A2) (o := .lst [.str (m)])
    have eW7 := s7 _ _ eW6
    generalize (upd H6 A2 (.lst [.str (m)])) = H7 at s7 e71 e72 eW7 ⊢
    refine ⟨A1, A2, _, _, rfl, rfl, e71, e72, by rw [List.length_map, List.length_singleton]; omega, fun A3 hA3 => ?_⟩
    have s8 := same_new (o := .lst ((ws.take i).map V.str ++ [.str (m)])) hA3
    have e83 := upd_same (H := H7) (a := A3) (o := .lst ((ws.take i).map V.str ++ [.str (m)]))
    have eW8 := s8 _ _ eW7
    generalize (upd H7 A3 (.lst ((ws.take i).map V.str ++ [.str (m)]))) = H8 at s8 e83 eW8 ⊢
    refine ⟨_, rfl, _, rfl, _, _, rfl, rfl, _, rfl, W, _, rfl, SqL.of eW8, fun A4 hA4 => ?_⟩
    rw [ei1, cut_dropS ws (i + 1) (by omega)]
    have s9 := same_new (o := .lst ((ws.drop (i + 1)).map V.str)) hA4
    have e93 := s9 _ _ e83
    have e94 := upd_same (H := H8) (a := A4) (o := .lst ((ws.drop (i + 1)).map V.str))
    generalize (upd H8 A4 (.lst ((ws.drop (i + 1)).map V.str))) = H9 at s9 e93 e94 ⊢
    obtain ⟨md1, md2⟩ := mid_sum (ws.take i) (ws.drop (i + 1)) (m)
    refine ⟨A3, A4, _, _, rfl, rfl, e93, e94, by rw [List.length_append, List.length_map, List.length_map, List.length_singleton]; omega, fun A5 hA5 => ?_⟩
    have s10 := same_new (o := .lst ((ws.take i).map V.str ++ [.str (m)] ++ (ws.drop (i + 1)).map V.str)) hA5
    refine ⟨_, A5, ws.take i ++ [m] ++ ws.drop (i + 1), rfl, rfl, .inl (SqL.of (by rw [upd_same, List.map_append, List.map_append]; rfl)), by rw [comma_len, md1, md2]; omega, ?_⟩
    refine fin5 _ _ (s6.trans (s7.trans (s8.trans (s9.trans s10)))) (asc_join comma_asc fun x hx => ?_) ?_
    · rw [List.mem_append, List.mem_append, List.mem_singleton] at hx
      rcases hx with (hx | rfl) | hx
      · exact wa _ (List.mem_of_mem_take hx)
      · exact am
      · exact wa _ (List.mem_of_mem_drop hx)
    · refine Nat.le_trans (joined_len _) ?_
      rw [md1, md2]
      omega
end
end K92
namespace K92
open PySem PySem.Spec PyProof.Rows L2 Par
theorem NoStr.same {K : PySem.W.Frag} {H H' : Hp} {v : V} (s : Same H H') (h : NoStr K H v) : NoStr K H' v := by
  obtain ⟨n, ty, kf⟩ := h
  exact ⟨n, same_tyx s ty, kf⟩
theorem cells_asc {ns : List Int} (h : ∀ k ∈ ns, 0 ≤ k ∧ k < 40) (l : ns.length ≤ 40) : Asc (cellsT ns) ∧ (cellsT ns).length ≤ 120 := by
  unfold cellsT
  split
  · exact ⟨asc_of (by decide +kernel), by decide +kernel⟩
  · refine ⟨asc_join comma_asc fun x hx => ?_, ?_⟩
    · obtain ⟨k, hk, rfl⟩ := List.mem_map.mp hx
      have := h k hk
      have n := (num_asc k.toNat (by omega)).1
      rw [Int.toNat_of_nonneg this.1] at n
      exact asc_of n
    · have j := joined_len (ns.map fun k => Str.ofString (toString k))
      have t := two_sum h
      rw [List.length_map] at j
      have e : ((ns.map fun k => Str.ofString (toString k)).map fun x => x.length).sum = ((ns.map fun k => Str.ofString (toString k)).map (·.length)).sum := rfl
      rw [e] at j
      omega
theorem flip_asc {ts hs : List Int} (h : OkF ts hs) : Asc (flipT ts hs) ∧ (flipT ts hs).length ≤ 241 := by
  obtain ⟨i1, i2, l1, l2⟩ := okF_in h
  obtain ⟨a1, c1⟩ := cells_asc i1 l1
  obtain ⟨a2, c2⟩ := cells_asc i2 l2
  have c3 : (Str.ofString ">").length = 1 := by decide +kernel
  refine ⟨asc_add (asc_add a1 (asc_of (by decide +kernel))) a2, ?_⟩
  unfold flipT
  rw [app_len, app_len, c3]
  omega
theorem bits_asc {bs : List Int} (h : OkB bs) : Asc (bitsT bs) ∧ (bitsT bs).length ≤ 241 := by
  refine ⟨fun c hc => ?_, ?_⟩
  · rw [bits_codes h] at hc
    obtain ⟨b, _, rfl⟩ := List.mem_map.mp hc
    unfold code
    split <;> omega
  · rw [(bits_size h).2]
    have := h.2.2
    omega
def toldD (d : Nat) (z : Str) : List PyData := if isSo d z = true then [.str "read", .str z] else [.str "no", .int 0, .bool false]
section
variable {K : PySem.W.Frag}
theorem told_dp {H : Hp} {L : Addr} {d : Nat} {z : Str} (h : H L = some (.lst (resV d z))) : Dp K H (.ref L) (.list (toldD d z)) := by
  unfold resV at h
  unfold toldD
  split at h
  · rename_i q
    rw [if_pos q]
    exact .lst (SqL.of h) (.cons (.str _) (.cons (.str _) .nil))
  · rename_i q
    rw [if_neg q]
    exact .lst (SqL.of h) (.cons (.str _) (.cons (.int _) (.cons (.bl _) .nil)))
theorem told_plain (d : Nat) (z : Str) : (PyData.list (toldD d z)).plain = true := by
  unfold toldD
  split <;> rfl
theorem told_refl (d : Nat) (z : Str) : (PyData.list (toldD d z)).eqv (.list (toldD d z)) = true ∧ (PyData.list (toldD d z)).depth = 1 := by
  unfold toldD
  split
  · constructor
    · show ((Str.ofString "read" == Str.ofString "read") && ((z == z) && true)) = true
      simp
    · rfl
  · exact ⟨by decide +kernel, rfl⟩
end
theorem same_butL {p : Addr} {H H1 H2 : Hp} (hp : H p = none) (s : Same H H1) (b : But p H1 H2) : Same H H2 := fun z o e => b z o (ne_of_none e hp) (s z o e)
section
variable {P : Program} {w : World} {K : PySem.W.Frag} {mg : Str → Option Value} {base : Heap}
/-- the law -/
def spLaw (K : PySem.W.Frag) : Sp := fun vs H Q _ => ∃ (a : Addr) (ns : List Int), vs = [.ref a] ∧ SqL K H a (ns.map V.int) ∧ ns.length ≤ 63 ∧ ∀ H', Q (.bl true) H'
abbrev nLaw : List Str := ["_law_script", "_law_k", "_law_pot_here", "_law_width_here", "_law_text", "_law_turn", "_law_door", "_law_pair_here", "_law_change", "_law_odd"]
theorem scLaw : FnScope nLaw ["_law_script"] (defScope sLaw) := ⟨rfl, rfl, rfl, by decide +kernel, rfl, by decide +kernel, by decide +kernel⟩
theorem ok_law {f : Addr} {fd : FuncData} (F : Fun K "law" "law" sLaw f fd) (B : Bl mg) (DP : Has P w K mg base "_law_pot" 2 ["_law_script", "_law_k"] (spPot K)) (DD : Has P w K mg base "_law_draw" 2 ["_law_pot_here", "_law_many"] spDraw) (DW : Has P w K mg base "_law_width" 3 ["_law_pot_here", "_law_most"] spWidth) (DR : Has P w K mg base "_law_pair" 4 ["_law_pot_here", "_law_width_here"] spPairL) (DX : Has P w K mg base "_law_text_of" 2 ["_law_spots_here"] spTo) (DY : Has P w K mg base "_law_pair_text" 3 ["_law_pair_here"] (spPt K)) (DZ : Has P w K mg base "_law_bits_text" 2 ["_law_bits_here"] spBx) (DB : Has P w K mg base "_law_bits" 3 ["_law_pot_here", "_law_width_here"] spBits) (DE : Has P w K mg base "_law_bent" 3 ["_law_pot_here", "_law_text"] spBe) (DT : Has P w K mg base "_law_told" 11 ["_law_door", "_law_text"] (spTd K)) (DU : Has P w K mg base "_law_due" 4 ["_law_door", "_law_text"] (spTd K)) : FnG P w K mg base CX0 12 f fd ["_law_script"] (spLaw K) := by
  obtain ⟨fP, fdP, GP, mP, kP, bP⟩ := DP
  obtain ⟨fD, fdD, GD, mD, kD, bD⟩ := DD
  obtain ⟨fW, fdW, GW, mW, kW, bW⟩ := DW
  obtain ⟨fR, fdR, GR, mR, kR, bR⟩ := DR
  obtain ⟨fX, fdX, GX, mX, kX, bX⟩ := DX
  obtain ⟨fY, fdY, GY, mY, kY, bY⟩ := DY
  obtain ⟨fZ, fdZ, GZ, mZ, kZ, bZ⟩ := DZ
  obtain ⟨fB, fdB, GB, mB, kB, bB⟩ := DB
  obtain ⟨fE, fdE, GE, mE, kE, bE⟩ := DE
  obtain ⟨fT, fdT, GT, mT, kT, bT⟩ := DT
  obtain ⟨fU, fdU, GU, mU, kU, bU⟩ := DU
  refine fnG_of F scLaw (fun vs H Q E h => ?_) (fun cdv A outer s H vs Q E gs hr h => ?_)
  · obtain ⟨a, ns, rfl, _⟩ := h
    rfl
  · obtain ⟨a, ns, rfl, hS, hlen, out⟩ := h
    have hu := hr.units
    have r2 : Room 2 (A.deeper (envOfC "law" (defScope sLaw) s.heap.objs.size f cdv)) := hr.mono (by decide)
    have r3 : Room 3 (A.deeper (envOfC "law" (defScope sLaw) s.heap.objs.size f cdv)) := hr.mono (by decide)
    have r4 : Room 4 (A.deeper (envOfC "law" (defScope sLaw) s.heap.objs.size f cdv)) := hr.mono (by decide)
    have r11 : Room 11 (A.deeper (envOfC "law" (defScope sLaw) s.heap.objs.size f cdv)) := hr
    refine ⟨_, (pss_cons (ps_for PassesOwn.never rfl (pi_range1 (by rfl) B.range (pa_cons (pe_callB (call_max2 rfl) (by rfl) B.max (by decide +kernel) (pa_cons pe_int (pa_cons (pe_callB (call_min2 rfl) (by rfl) B.min (by decide +kernel) (pa_cons (pe_callB call_len_seq (by rfl) B.len PySem.boot_len (pa_cons (pv 0) pa_nil)) (pa_cons pe_int pa_nil))) pa_nil))) pa_nil)) (pg_name (i := 1) scLaw.nd rfl (Or.inl rfl)) (pss_cons (ps_set (i := 2) scLaw.nd rfl (Or.inl rfl) (pe_call GP r2 (by rfl) mP kP bP .nil pass0 (pa_cons (pv 0) (pa_cons (pv 1) pa_nil))))
      (pss_cons (ps_par (by rfl) scLaw.nd (i := 3) (j := 4) rfl rfl (by decide) rfl rfl (pa_cons (pe_call GW r3 (by rfl) mW kW bW .nil pass0 (pa_cons (pv 2) (pa_cons pe_int pa_nil))) (pa_cons pe_str pa_nil)) (by rfl))
      (pss_cons (ps_for PassesOwn.never rfl (pi_range1 (by rfl) B.range (pa_cons pe_int pa_nil)) (pg_name (i := 5) scLaw.nd rfl (Or.inl rfl)) (pss_cons (ps_par (by rfl) scLaw.nd (i := 6) (j := 7) rfl rfl (by decide) rfl rfl (pa_cons (pe_call GD r2 (by rfl) mD kD bD .nil pass0 (pa_cons (pv 2) (pa_cons pe_int pa_nil))) (pa_cons (pe_call GR r4 (by rfl) mR kR bR .nil pass0 (pa_cons (pv 2) (pa_cons (pv 3) pa_nil))) pa_nil)) (by rfl))
      (pss_cons (ps_set (i := 4) scLaw.nd rfl (Or.inl rfl) (pe_ix ix_list (pe_lst (pa_cons (pe_call GX r2 (by rfl) mX kX bX .nil pass0 (pa_cons (pe_ix ix_tup (pv 7) pe_int (fun _ _ => rfl)) pa_nil)) (pa_cons (pe_call GY r3 (by rfl) mY kY bY .nil pass0 (pa_cons (pv 7) pa_nil)) (pa_cons (pe_call GZ r2 (by rfl) mZ kZ bZ .nil pass0 (pa_cons (pe_call GB r3 (by rfl) mB kB bB .nil pass0 (pa_cons (pv 2) (pa_cons (pv 3) pa_nil))) pa_nil)) pa_nil)))) (pv 6) (fun _ _ => rfl)))
      (pss_cons (ps_for PassesOwn.never rfl (pi_range1 (by rfl) B.range (pa_cons (pe_call GD r2 (by rfl) mD kD bD .nil pass0 (pa_cons (pv 2) (pa_cons pe_int pa_nil))) pa_nil)) (pg_name (i := 8) scLaw.nd rfl (Or.inl rfl)) (pss_one (ps_set (i := 4) scLaw.nd rfl (Or.inl rfl) (pe_call GE r3 (by rfl) mE kE bE .nil pass0 (pa_cons (pv 2) (pa_cons (pv 4) pa_nil))))))
      (pss_one (ps_if (pt_cmpR (op_neP hu) (pe_call GT r11 (by rfl) mT kT bT .nil pass0 (pa_cons (pv 6) (pa_cons (pv 4) pa_nil))) (pe_call GU r4 (by rfl) mU kU bU .nil pass0 (pa_cons (pv 6) (pa_cons (pv 4) pa_nil))) (nomark _)) (pss_one (ps_ret pe_bl)) pss_nil))))))
      (pss_cons (ps_set (i := 9) scLaw.nd rfl (Or.inr rfl) (pe_ix ix_list (pe_lst (pa_cons pe_non (pa_cons pe_int (pa_cons pe_int (pa_cons pe_bl (pa_cons (pe_lst pa_nil) (pa_cons (pe_lst (pa_cons pe_str pa_nil)) (pa_cons (pe_tup (pa_cons pe_str pa_nil)) (pa_cons pe_dnewK (pa_cons (pe_lst (pa_cons (pv 4) pa_nil)) pa_nil)))))))))) (pe_call GD r2 (by rfl) mD kD bD .nil pass0 (pa_cons (pv 2) (pa_cons pe_int pa_nil))) (fun _ _ => rfl)))
      (pss_one (ps_if (pt_cmpR (op_neP hu) (pe_lc (own := [("_law_door", 6)]) (g := gName 6) (te := tCall (spTd K) [] E0 (tCons (tVar 6) (tCons (tVar 9) tNil))) rfl scLaw.nd (pi_range1 (by rfl) B.range (pa_cons pe_int pa_nil)) (blkOk_by (own := [("_law_door", 6)]) (N := nLaw) (sc := defScope sLaw) (by decide +kernel)) (fun _ _ _ _ _ => (pg_name (i := 6) scLaw.nd rfl (Or.inl rfl))) (fun _ _ _ _ _ => pts_nil) (fun _ _ _ _ _ => by exact (pe_call GT r11 (by rfl) mT kT bT .nil pass0 (pa_cons (pv 6) (pa_cons (pv 9) pa_nil))))) (pe_op op_rep (pe_lst (pa_cons (pe_lst (pa_cons pe_str (pa_cons pe_int (pa_cons pe_bl pa_nil)))) pa_nil)) pe_int) (nomark _)) (pss_one (ps_ret pe_bl)) pss_nil)))))))
      (pss_one (ps_ret pe_bl))), ?_⟩
    refine ⟨_, rfl, a, _, rfl, .inl hS, _, _, rfl, _, _, rfl, _, rfl, ?_, ?_, ?_⟩
    · rw [List.length_map]
      split <;> split <;> omega
    · rw [List.length_map]
      split <;> split <;> omega
    refine for_range (lo := 0) (fun i σ H' => Same H H' ∧ ∃ (v1 v2 v3 v4 v5 v6 v7 v8 v9 : Option V), σ = [some (.ref a), v1, v2, v3, v4, v5, v6, v7, v8, v9])
      ⟨Same.refl _, none, none, none, none, none, none, none, none, none, rfl⟩ ?_ ?_
    · rintro i σ H1 hi ⟨s1, v1, v2, v3, v4, v5, v6, v7, v8, v9, rfl⟩
      have hi8 : i < 9 := by
        rw [List.length_map] at hi
        revert hi
        split <;> split <;> omega
      refine ⟨_, rfl, _, rfl, a, ns, i, (by rw [Int.zero_add]; rfl), s1.seq hS, by omega, fun p H2 hp s2 pot2 => ?_⟩
      refine ⟨_, rfl, p, 40, rfl, pot2, by decide, by decide, fun n H3 n1 n2 b3 pot3 => ?_⟩
      have n40 : n ≤ 40 := by omega
      refine ⟨_, _, rfl, ?_⟩
      refine ⟨12, rfl, by decide, by decide, ?_⟩
      refine for_range (lo := 0) (n := 12) (fun j σ H' => But p H3 H' ∧ PotAt H' p ∧ ∃ (z : Str) (w5 w6 w7 w8 : Option V), σ = [some (.ref a), some (.int (0 + (i : Int))), some (.ref p), some (.int (n : Nat)), some (.str z), w5, w6, w7, w8, v9])
        ⟨But.refl p H3, pot3, _, _, _, _, _, rfl⟩ ?_ ?_
      · rintro j σ H4 hj ⟨b4, pot4, z0, w5, w6, w7, w8, rfl⟩
        refine ⟨_, rfl, p, 3, rfl, pot4, by decide, by decide, fun dr H5 d0 d3 b5 pot5 => ?_⟩
        obtain ⟨d, rfl⟩ : ∃ d : Nat, dr = (d : Int) := ⟨dr.toNat, by omega⟩
        have d2 : d ≤ 2 := by omega
        refine ⟨_, rfl, _, rfl, p, n, rfl, pot5, n1, n40, fun q ts hs H6 hq b6 pot6 pr ok l1 l2 ev up1 up2 => ?_⟩
        refine ⟨_, _, rfl, ?_⟩
        obtain ⟨t, g, nt, ng, q1, q2, q3⟩ := id pr
        obtain ⟨i1, i2, m1, m2⟩ := okF_in ok
        refine ⟨_, rfl, q, _, 0, .ref t, rfl, rfl, SqT.of q1, rfl, t, ts, rfl, q2, m1, i1, fun H7 s7 => ?_⟩
        have pr7 := pr.but pot6 (But.same s7)
        have pot7 := pot6.same s7
        refine ⟨_, rfl, q, ts, hs, rfl, pr7.pr, ok, fun H8 s8 => ?_⟩
        have pot8 := pot7.same s8
        refine ⟨_, rfl, _, rfl, p, n, rfl, pot8, n1, n40, fun ab bs H9 hab hO hbl b9 pot9 eab => ⟨ab, bs, rfl, eab, hO, fun H10 s10 => ?_⟩⟩
        have pot10 := pot9.same s10
        refine ⟨(by show 3 ≤ sizeLine; decide), fun L hL => ?_⟩
        obtain ⟨ys, hys⟩ : ∃ ys : List Str, ys = [cellsT ts, flipT ts hs, bitsT bs] := ⟨_, rfl⟩
        have all : ∀ x ∈ ys, Asc x ∧ x.length ≤ 241 := fun x hx => by
          rw [hys] at hx
          simp only [List.mem_cons, List.not_mem_nil, or_false] at hx
          rcases hx with rfl | rfl | rfl
          · obtain ⟨u1, u2⟩ := cells_asc i1 m1
            exact ⟨u1, by omega⟩
          · exact flip_asc ok
          · exact bits_asc hO
        have s11 := same_new (o := .lst (ys.map V.str)) hL
        have e11 := upd_same (H := H10) (a := L) (o := .lst (ys.map V.str))
        rw [show (upd H10 L (.lst [.str (cellsT ts), .str (flipT ts hs), .str (bitsT bs)])) = upd H10 L (.lst (ys.map V.str)) by rw [hys]; rfl]
        generalize (upd H10 L (.lst (ys.map V.str))) = H11 at s11 e11 ⊢
        obtain ⟨z1, hz1, ez1⟩ := pick_at ys (d : Int) (by omega) (by rw [hys]; show (d : Int) < 3; omega)
        obtain ⟨za, zl⟩ := all z1 hz1
        refine ⟨_, rfl, L, _, (d : Int), .str z1, rfl, rfl, SqL.of e11, ez1, ?_⟩
        have b11 : But p H3 H11 := b4.trans (b5.trans (b6.trans ((But.same (s7.trans s8)).trans (b9.trans (But.same (s10.trans s11))))))
        have pot11 := pot10.same s11
        clear pr7 q1 q2 q3 ez1 e11 b4 b5 b6 b9 pr
        refine ⟨_, rfl, p, 4, rfl, pot11, by decide, by decide, fun cc H12 c0 c4 b12 pot12 => ?_⟩
        obtain ⟨c, rfl⟩ : ∃ c : Nat, cc = (c : Int) := ⟨cc.toNat, by omega⟩
        refine ⟨(c : Int), rfl, by omega, by omega, ?_⟩
        refine for_range (lo := 0) (fun e σ H' => But p H12 H' ∧ PotAt H' p ∧ ∃ (z : Str) (w8 : Option V), σ = [some (.ref a), some (.int (0 + (i : Int))), some (.ref p), some (.int (n : Nat)), some (.str z), some (.int (0 + (j : Int))), some (.int (d : Nat)), some (.ref q), w8, v9] ∧ Asc z ∧ z.length + 8 ≤ 249 * 2 ^ e)
          ⟨But.refl p H12, pot12, z1, w8, rfl, za, by show z1.length + 8 ≤ 249 * 1; omega⟩ ?_ ?_
        · rintro e σ H13 he ⟨b13, pot13, z, w8, rfl, az, lz⟩
          have e2 : e ≤ 2 := by omega
          have l1 : z.length ≤ 1000 := by
            have : 2 ^ e ≤ 2 ^ 2 := Nat.pow_le_pow_right (by decide) e2
            omega
          refine ⟨_, rfl, _, rfl, p, z, rfl, pot13, az, l1, fun y H14 b14 pot14 ay ly => ?_⟩
          refine ⟨b13.trans b14, pot14, y, _, rfl, ay, ?_⟩
          rw [Nat.pow_succ]
          omega
        · rintro σ H13 ⟨b13, pot13, z, w8, rfl, az, lz⟩
          have l1 : z.length ≤ 2490 := by
            have : 2 ^ c ≤ 2 ^ 3 := Nat.pow_le_pow_right (by decide) (by omega)
            have lz2 : z.length + 8 ≤ 249 * 2 ^ c := lz
            omega
          refine ⟨_, rfl, _, rfl, d, .str z, rfl, d2, .inl ⟨z, rfl, l1, fun A1 H14 hA1 s14 eA1 => ?_⟩⟩
          refine ⟨_, rfl, _, rfl, d, .str z, rfl, d2, .inl ⟨z, rfl, l1, fun A2 H15 hA2 s15 eA2 => ?_⟩⟩
          obtain ⟨t1, t2⟩ := told_refl d z
          refine ⟨.list (toldD d z), .list (toldD d z), told_dp (s15 _ _ eA1), told_dp eA2, ?_, ?_, ?_, _, rfl, ?_⟩
          · exact told_plain d z
          · exact told_plain d z
          · rw [t2]
            decide
          rw [t1]
          refine iteF ⟨(b11.trans (b12.trans (b13.trans (But.same (s14.trans s15))))), (pot13.same s14).same s15, z, _, _, _, _, rfl⟩
      · rintro σ H6 ⟨b6, pot6, z, w5, w6, w7, w8, rfl⟩
        refine ⟨by decide, fun y1 hy1 => ?_⟩
        have S1 := same_new (o := .lst []) hy1
        have x1 := upd_same (H := H6) (a := y1) (o := .lst [])
        have z1 := pot_ne pot6 hy1
        have P1 := pot6.same S1
        generalize (upd H6 y1 (.lst [])) = G1 at S1 P1 x1 ⊢
        refine ⟨by decide, fun y2 hy2 => ?_⟩
        have S2 := same_new (o := .lst [.str "1"]) hy2
        have x2 := upd_same (H := G1) (a := y2) (o := .lst [.str "1"])
        have z2 := pot_ne P1 hy2
        have P2 := P1.same S2
        replace x1 := S2 _ _ x1
        generalize (upd G1 y2 (.lst [.str "1"])) = G2 at S2 P2 x1 x2 ⊢
        refine ⟨by decide, fun y3 hy3 => ?_⟩
        have S3 := same_new (o := .tup [.str "1"]) hy3
        have x3 := upd_same (H := G2) (a := y3) (o := .tup [.str "1"])
        have z3 := pot_ne P2 hy3
        have P3 := P2.same S3
        replace x1 := S3 _ _ x1
        replace x2 := S3 _ _ x2
        generalize (upd G2 y3 (.tup [.str "1"])) = G3 at S3 P3 x1 x2 x3 ⊢
        refine fun y4 hy4 => ?_
        have S4 := same_new (o := .dK []) hy4
        have x4 := upd_same (H := G3) (a := y4) (o := .dK [])
        have z4 := pot_ne P3 hy4
        have P4 := P3.same S4
        replace x1 := S4 _ _ x1
        replace x2 := S4 _ _ x2
        replace x3 := S4 _ _ x3
        generalize (upd G3 y4 (.dK [])) = G4 at S4 P4 x1 x2 x3 x4 ⊢
        refine ⟨_, rfl, by show 1 ≤ sizeLine; decide, fun y5 hy5 => ?_⟩
        have S5 := same_new (o := .lst [.str z]) hy5
        have x5 := upd_same (H := G4) (a := y5) (o := .lst [.str z])
        have z5 := pot_ne P4 hy5
        have P5 := P4.same S5
        replace x1 := S5 _ _ x1
        replace x2 := S5 _ _ x2
        replace x3 := S5 _ _ x3
        replace x4 := S5 _ _ x4
        generalize (upd G4 y5 (.lst [.str z])) = G5 at S5 P5 x1 x2 x3 x4 x5 ⊢
        obtain ⟨od, hod⟩ : ∃ od : List V, od = [.non, .int 0, .int 1, .bl true, .ref y1, .ref y2, .ref y3, .ref y4, .ref y5] := ⟨_, rfl⟩
        refine ⟨by show 9 ≤ sizeLine; decide, fun L hL => ?_⟩
        rw [show (upd G5 L (.lst [.non, .int 0, .int 1, .bl true, .ref y1, .ref y2, .ref y3, .ref y4, .ref y5])) = upd G5 L (.lst od) by rw [hod]]
        have SL := same_new (o := .lst od) hL
        have xL := upd_same (H := G5) (a := L) (o := .lst od)
        have zL := pot_ne P5 hL
        have PL := P5.same SL
        generalize (upd G5 L (.lst od)) = G6 at SL xL PL ⊢
        refine ⟨_, rfl, p, 9, rfl, PL, by decide, by decide, fun dd H7 d0 d9 b7 pot7 => ?_⟩
        have noS : ∀ v ∈ od, NoStr K H7 v := fun v hv => by
          rw [hod] at hv
          simp only [List.mem_cons, List.not_mem_nil, or_false] at hv
          rcases hv with rfl | rfl | rfl | rfl | rfl | rfl | rfl | rfl | rfl
          · exact ⟨_, .base .non, kit_ty (by decide +kernel)⟩
          · exact ⟨_, .base (.int _), kit_ty (by decide +kernel)⟩
          · exact ⟨_, .base (.int _), kit_ty (by decide +kernel)⟩
          · exact ⟨_, .base (.bl _), kit_ty (by decide +kernel)⟩
          · exact ⟨_, .base (.lst (b7 _ _ z1 (SL _ _ x1))), kit_ty (by decide +kernel)⟩
          · exact ⟨_, .base (.lst (b7 _ _ z2 (SL _ _ x2))), kit_ty (by decide +kernel)⟩
          · exact ⟨_, .base (.tup (b7 _ _ z3 (SL _ _ x3))), kit_ty (by decide +kernel)⟩
          · exact ⟨_, .base (.dK (b7 _ _ z4 (SL _ _ x4))), kit_ty (by decide +kernel)⟩
          · exact ⟨_, .base (.lst (b7 _ _ z5 (SL _ _ x5))), kit_ty (by decide +kernel)⟩
        have dl : dd.toNat < od.length := by
          rw [hod]
          show dd.toNat < 9
          omega
        obtain ⟨v, ev⟩ : ∃ v, od[dd.toNat]? = some v := ⟨_, List.getElem?_eq_getElem dl⟩
        have hat : atI od dd = some v := by
          have q : atI od ((dd.toNat : Nat) : Int) = some v := atI_nat ev
          rwa [Int.toNat_of_nonneg d0] at q
        have nv := noS v (List.mem_of_getElem? ev)
        have b67 : But p H6 H7 := (But.same (((((S1.trans S2).trans S3).trans S4).trans S5).trans SL)).trans b7
        refine ⟨L, od, dd, v, rfl, rfl, SqL.of (b7 _ _ zL xL), hat, ?_⟩
        refine ⟨3, rfl, by decide, by decide, fun D hD => ?_⟩
        refine lc_range (lo := 0) (n := 3) (fun e H' => Same H7 H' ∧ ∃ as : List Addr, as.length = e ∧ H' D = some (.lst (as.map V.ref)) ∧ ∀ b ∈ as, b ≠ D ∧ H' b = some (.lst noV)) ⟨same_new hD, [], rfl, upd_same, fun b hb => nomatch hb⟩ ?_ ?_
        · rintro e H8 he ⟨s8, as, la, eD, mem⟩
          refine ⟨rfl, yesT ?_⟩
          refine ⟨_, rfl, _, rfl, e, v, (by rw [Int.zero_add]; rfl), by omega, .inr ⟨nv.same s8, fun A1 H9 hA s9 eA => ?_⟩⟩
          have eD9 := s9 _ _ eD
          have nAD : A1 ≠ D := ne_of_none eD hA |> fun h => fun q => h q.symm
          refine ⟨_, eD9, by rw [List.length_map, la, sizeLine_eq]; omega, fun b o eb => ?_, as ++ [A1], by rw [List.length_append, la]; rfl, ?_, fun b hb => ?_⟩
          · rw [upd_ne (ne_of_none eb hD)]
            exact s9 _ _ (s8 _ _ eb)
          · rw [upd_same, List.map_append]
            rfl
          · rcases List.mem_append.mp hb with hb | hb
            · obtain ⟨m1, m2⟩ := mem b hb
              exact ⟨m1, by rw [upd_ne m1]; exact s9 _ _ m2⟩
            · rw [List.mem_singleton.mp hb]
              exact ⟨nAD, by rw [upd_ne nAD]; exact eA⟩
        rintro H8 ⟨s8, as, la, eD, mem⟩
        obtain ⟨a0, a1, a2, rfl⟩ : ∃ a0 a1 a2, as = [a0, a1, a2] := by
          match as, la with
          | [x, y, z], _ => exact ⟨x, y, z, rfl⟩
        refine ⟨(by show 3 ≤ sizeLine; decide), fun B1 hB1 => ?_⟩
        have t1 := same_new (o := .lst [.str "no", .int 0, .bl false]) hB1
        have f1 := upd_same (H := H8) (a := B1) (o := .lst [.str "no", .int 0, .bl false])
        generalize (upd H8 B1 (.lst [.str "no", .int 0, .bl false])) = H9 at t1 f1 ⊢
        refine ⟨(by show 1 ≤ sizeLine; decide), fun B2 hB2 => ?_⟩
        have t2 := same_new (o := .lst [.ref B1]) hB2
        have f2 := upd_same (H := H9) (a := B2) (o := .lst [.ref B1])
        generalize (upd H9 B2 (.lst [.ref B1])) = H10 at t2 f2 ⊢
        refine ⟨B2, 3, _, rfl, rfl, f2, by decide, by decide, by show 3 ≤ sizeLine; decide, fun B3 hB3 => ?_⟩
        have t3 := same_new (o := .lst (List.replicate (Int.toNat 3) [V.ref B1]).flatten) hB3
        have f3 : (upd H10 B3 (.lst (List.replicate (Int.toNat 3) [V.ref B1]).flatten)) B3 = some (.lst [.ref B1, .ref B1, .ref B1]) := upd_same
        generalize (upd H10 B3 (.lst (List.replicate (Int.toNat 3) [V.ref B1]).flatten)) = H11 at t3 f3 ⊢
        have t123 := t1.trans (t2.trans t3)
        have no : ∀ b, H11 b = some (.lst noV) → Dp K H11 (.ref b) (.list [.str "no", .int 0, .bool false]) := fun b h => .lst (SqL.of h) (.cons (.str _) (.cons (.int _) (.cons (.bl _) .nil)))
        have n0 := no a0 (t123 _ _ (mem a0 (by simp)).2)
        have n1' := no a1 (t123 _ _ (mem a1 (by simp)).2)
        have n2' := no a2 (t123 _ _ (mem a2 (by simp)).2)
        have nB := no B1 ((t2.trans t3) _ _ f1)
        refine ⟨.list [.list [.str "no", .int 0, .bool false], .list [.str "no", .int 0, .bool false], .list [.str "no", .int 0, .bool false]], .list [.list [.str "no", .int 0, .bool false], .list [.str "no", .int 0, .bool false], .list [.str "no", .int 0, .bool false]], .lst (SqL.of (t123 _ _ eD)) (.cons n0 (.cons n1' (.cons n2' .nil))), .lst (SqL.of f3) (.cons nB (.cons nB (.cons nB .nil))), rfl, rfl, by decide +kernel, _, rfl, ?_⟩
        rw [show (!PyData.eqv (.list [.list [.str "no", .int 0, .bool false], .list [.str "no", .int 0, .bool false], .list [.str "no", .int 0, .bool false]]) (.list [.list [.str "no", .int 0, .bool false], .list [.str "no", .int 0, .bool false], .list [.str "no", .int 0, .bool false]])) = false by decide +kernel]
        refine iteF ⟨same_butL (s1.free hp) (s1.trans s2) (b3.trans (b6.trans (b67.trans (But.same (s8.trans t123))))), _, _, _, _, _, _, _, _, _, rfl⟩
    · rintro σ H1 ⟨s1, v1, v2, v3, v4, v5, v6, v7, v8, v9, rfl⟩
      exact out H1
end
end K92
namespace K92
open PySem PySem.Spec PyProof.Rows L2 Par
theorem kb_size {K : PySem.W.Frag} {x : Str} {st : Stmt} {f : Addr} {fd : FuncData} {y : Str} (F : FunD K x x (defArgs st) (defBody st) (defScope st) [] [("size", .int 40)] f fd)
    (h : ∀ (D : Addr) (doc pm : Value) (an : Option Addr) (cdv ct u v : Value), bindArgs (PySem.W.fnOf x x (defArgs st) (defBody st) (defScope st) .none (.ref D) doc pm an cdv ct) ⟨[u], [("size", v)]⟩ = pure [(y, u), ("size", v)]) :
    KBn K fd [y, "size"] 1 ["size"] (fun us ws => us ++ ws) (fun vs zs => vs ++ zs) := by
  obtain ⟨oc, od, dV, kV, doc, pm, an, cdv, ct, osl, rfl, lk, hcd, hD, hK⟩ := F.ex
  rcases hD with ⟨_, rfl⟩ | ⟨e, _⟩
  · rcases hK with e | ⟨D, rfl, hq⟩
    · cases e
    · refine ⟨fun s us ws X l1 l2 => ?_, fun r1 r2 => r1.append r2⟩
      match us, ws, l1, l2 with
      | [u], [v], _, _ => exact .of_eq (h D doc pm an cdv ct u v)
  · exact absurd rfl e
theorem kb_one {K : PySem.W.Frag} {x q : Str} {st : Stmt} {f : Addr} {fd : FuncData} {y : Str} (F : Fun K x q st f fd)
    (h : ∀ (kV doc pm : Value) (an : Option Addr) (cdv ct u v : Value), bindArgs (PySem.W.fnOf x q (defArgs st) (defBody st) (defScope st) .none kV doc pm an cdv ct) ⟨[u], [(y, v)]⟩ = pure ([("self", u), (y, v)] : List (Str × Value))) :
    KBn K fd ["self", y] 1 [y] (fun us ws => us ++ ws) (fun vs zs => vs ++ zs) := by
  obtain ⟨oc, od, kV, doc, pm, an, cdv, ct, osl, rfl, lk, hcd⟩ := F.ex
  refine ⟨fun s us ws X l1 l2 => ?_, fun r1 r2 => r1.append r2⟩
  match us, ws, l1, l2 with
  | [u], [v], _, _ => exact .of_eq (h kV doc pm an cdv ct u v)
theorem kb_ini {K : PySem.W.Frag} {f e : Addr} {fd : FuncData} {n : Nat} {ks : List Str} (F : FunD K "__init__" "Board.__init__" (defArgs mInit) (defBody mInit) (defScope mInit) [] [("up", .ref e)] f fd)
    (h : ∀ (D : Addr) (doc pm : Value) (an : Option Addr) (cdv ct : Value) (us ws : List Value), us.length = n → ws.length = ks.length →
      bindArgs (PySem.W.fnOf "__init__" "Board.__init__" (defArgs mInit) (defBody mInit) (defScope mInit) .none (.ref D) doc pm an cdv ct) ⟨us, ks.zip ws⟩ = pure ((["self", "size", "up"] : List Str).zip (us ++ ws))) :
    KBn K fd ["self", "size", "up"] n ks (fun us ws => us ++ ws) (fun vs zs => vs ++ zs) := by
  obtain ⟨oc, od, dV, kV, doc, pm, an, cdv, ct, osl, rfl, lk, hcd, hD, hK⟩ := F.ex
  rcases hD with ⟨_, rfl⟩ | ⟨e, _⟩
  · rcases hK with e | ⟨D, rfl, hq⟩
    · cases e
    · exact ⟨fun s us ws X l1 l2 => .of_eq (h D doc pm an cdv ct us ws l1 l2), fun r1 r2 => r1.append r2⟩
  · exact absurd rfl e
theorem kit_own {K : PySem.W.Frag} {D C : Addr} {b : Bool} (ne : D ≠ C) (hd : PySem.W.hasDictIn K C = true) (ty : PySem.W.typeIn K (.ref C) = some (.type "type")) (sub : PySem.W.subIn K (.ref D) (.ref C) = some b) :
    PySem.W.kitOne K (.ref D) (.ref C) = some b := by
  obtain ⟨cd, hc, _⟩ := PySem.W.any_some hd
  have e1 : (Value.ref D == Value.ref C) = false := beq_eq_false_iff_ne.mpr fun z => ne (Value.ref.inj z)
  have e2 : ((PySem.W.clsIn K C).isSome && PySem.W.typeIn K (.ref C) == some (.type "type")) = true := by
    rw [hc, ty]
    rfl
  show (if (Value.ref D == Value.ref C) = true then some true else if ((PySem.W.clsIn K C).isSome && PySem.W.typeIn K (.ref C) == some (.type "type")) = true then PySem.W.subIn K (.ref D) (.ref C) else none) = some b
  rw [if_neg (by rw [e1]; simp), if_pos e2]
  exact sub
theorem kit_blt {K : PySem.W.Frag} {D : Addr} {T : String} {b : Bool} (mt : PySem.W.kitMeta T = true) (sub : PySem.W.subIn K (.ref D) (.type T) = some b) : PySem.W.kitOne K (.ref D) (.type T) = some b := by
  have e1 : (Value.ref D == Value.type T) = false := beq_eq_false_iff_ne.mpr fun z => nomatch z
  show (if (Value.ref D == Value.type T) = true then some true else if PySem.W.kitMeta T = true then PySem.W.subIn K (.ref D) (.type T) else none) = some b
  rw [if_neg (by rw [e1]; simp), if_pos mt]
  exact sub
theorem rev_vals : ∀ {vs : List V} {us : List Value}, Vals vs us → Vals vs.reverse us.reverse
  | _, _, .nil => .nil
  | _, _, .cons r rs => by
    rw [List.reverse_cons, List.reverse_cons]
    exact (rev_vals rs).append (.cons r .nil)
theorem kb_back {K : PySem.W.Frag} {x : Str} {st : Stmt} {f : Addr} {fd : FuncData} {y z : Str} (F : Fun K x x st f fd)
    (h : ∀ (kV doc pm : Value) (an : Option Addr) (cdv ct u v : Value), bindArgs (PySem.W.fnOf x x (defArgs st) (defBody st) (defScope st) .none kV doc pm an cdv ct) ⟨[], [(z, v), (y, u)]⟩ = pure ([(y, u), (z, v)] : List (Str × Value))) :
    KBn K fd [y, z] 0 [z, y] (fun us ws => us ++ ws.reverse) (fun vs zs => vs ++ zs.reverse) := by
  obtain ⟨oc, od, kV, doc, pm, an, cdv, ct, osl, rfl, lk, hcd⟩ := F.ex
  refine ⟨fun s us ws X l1 l2 => ?_, fun r1 r2 => r1.append (rev_vals r2)⟩
  match us, ws, l1, l2 with
  | [], [v, u], _, _ => exact .of_eq (h kV doc pm an cdv ct u v)
theorem kit_no {K : PySem.W.Frag} {t c : Value} {cs : List Value} (h : PySem.W.kitOne K t c = some false) (hr : PySem.W.kitAny K t cs = some false) : PySem.W.kitAny K t (c :: cs) = some false :=
  kitAny_cons h (fun _ => hr) (fun z => nomatch z)
theorem all_mk {l : PySem.W.OpenLaw} {w : World} {K : PySem.W.Frag} {h : Heap} {mg : Str → Option Value} {fa : Addr} (X : K.In h) (G : h.Ns mainGlobals mg) (hfa : mg "law" = some (.ref fa))
    {f8 : Addr} {oc8 kV8 dc8 pm8 cd8 ct8 : Value} {od8 an8 : Option Addr} {sl8 : Array (Option Value)}
    {f9 : Addr} {oc9 kV9 dc9 pm9 cd9 ct9 : Value} {od9 an9 : Option Addr} {sl9 : Array (Option Value)}
    {f12 : Addr} {oc12 kV12 dc12 pm12 cd12 ct12 : Value} {od12 an12 : Option Addr} {sl12 : Array (Option Value)}
    {f14 : Addr} {oc14 kV14 dc14 pm14 cd14 ct14 : Value} {od14 an14 : Option Addr} {sl14 : Array (Option Value)}
    {f17 : Addr} {oc17 kV17 dc17 pm17 cd17 ct17 : Value} {od17 an17 : Option Addr} {sl17 : Array (Option Value)}
    {f18 : Addr} {oc18 kV18 dc18 pm18 cd18 ct18 : Value} {od18 an18 : Option Addr} {sl18 : Array (Option Value)}
    {fp1 : Addr} {ocp1 kVp1 dcp1 pmp1 cdp1 ctp1 : Value} {odp1 anp1 : Option Addr} {slp1 : Array (Option Value)}
    {fp2 : Addr} {ocp2 kVp2 dcp2 pmp2 cdp2 ctp2 : Value} {odp2 anp2 : Option Addr} {slp2 : Array (Option Value)}
    {fp3 : Addr} {ocp3 kVp3 dcp3 pmp3 cdp3 ctp3 : Value} {odp3 anp3 : Option Addr} {slp3 : Array (Option Value)}
    {fp4 : Addr} {ocp4 kVp4 dcp4 pmp4 cdp4 ctp4 : Value} {odp4 anp4 : Option Addr} {slp4 : Array (Option Value)}
    {fp5 : Addr} {ocp5 kVp5 dcp5 pmp5 cdp5 ctp5 : Value} {odp5 anp5 : Option Addr} {slp5 : Array (Option Value)}
    {fp6 : Addr} {ocp6 kVp6 dcp6 pmp6 cdp6 ctp6 : Value} {odp6 anp6 : Option Addr} {slp6 : Array (Option Value)}
    {fp7 : Addr} {ocp7 kVp7 dcp7 pmp7 cdp7 ctp7 : Value} {odp7 anp7 : Option Addr} {slp7 : Array (Option Value)}
    {fp8 : Addr} {ocp8 kVp8 dcp8 pmp8 cdp8 ctp8 : Value} {odp8 anp8 : Option Addr} {slp8 : Array (Option Value)}
    {fp9 : Addr} {ocp9 kVp9 dcp9 pmp9 cdp9 ctp9 : Value} {odp9 anp9 : Option Addr} {slp9 : Array (Option Value)}
    {fp0 : Addr} {ocp0 kVp0 dcp0 pmp0 cdp0 ctp0 : Value} {odp0 anp0 : Option Addr} {slp0 : Array (Option Value)}
    {f37 : Addr} {oc37 kV37 dc37 pm37 cd37 ct37 : Value} {od37 an37 : Option Addr} {sl37 : Array (Option Value)}
    {f38 : Addr} {oc38 kV38 dc38 pm38 cd38 ct38 : Value} {od38 an38 : Option Addr} {sl38 : Array (Option Value)}
    {f39 : Addr} {oc39 kV39 dc39 pm39 cd39 ct39 : Value} {od39 an39 : Option Addr} {sl39 : Array (Option Value)}
    {f40 : Addr} {oc40 kV40 dc40 pm40 cd40 ct40 : Value} {od40 an40 : Option Addr} {sl40 : Array (Option Value)}
    {f41 : Addr} {oc41 kV41 dc41 pm41 cd41 ct41 : Value} {od41 an41 : Option Addr} {sl41 : Array (Option Value)}
    {f42 : Addr} {oc42 kV42 dc42 pm42 cd42 ct42 : Value} {od42 an42 : Option Addr} {sl42 : Array (Option Value)}
    {f49 : Addr} {oc49 kV49 dc49 pm49 cd49 ct49 : Value} {od49 an49 : Option Addr} {sl49 : Array (Option Value)}
    {f50 : Addr} {oc50 kV50 dc50 pm50 cd50 ct50 : Value} {od50 an50 : Option Addr} {sl50 : Array (Option Value)}
    {f51 : Addr} {oc51 kV51 dc51 pm51 cd51 ct51 : Value} {od51 an51 : Option Addr} {sl51 : Array (Option Value)}
    {f60 : Addr} {oc60 kV60 dc60 pm60 cd60 ct60 : Value} {od60 an60 : Option Addr} {sl60 : Array (Option Value)}
    {f61 : Addr} {oc61 kV61 dc61 pm61 cd61 ct61 : Value} {od61 an61 : Option Addr} {sl61 : Array (Option Value)}
    {f62 : Addr} {oc62 kV62 dc62 pm62 cd62 ct62 : Value} {od62 an62 : Option Addr} {sl62 : Array (Option Value)}
    {f63 : Addr} {oc63 kV63 dc63 pm63 cd63 ct63 : Value} {od63 an63 : Option Addr} {sl63 : Array (Option Value)}
    {f64 : Addr} {oc64 kV64 dc64 pm64 cd64 ct64 : Value} {od64 an64 : Option Addr} {sl64 : Array (Option Value)}
    {f65 : Addr} {oc65 kV65 dc65 pm65 cd65 ct65 : Value} {od65 an65 : Option Addr} {sl65 : Array (Option Value)}
    {f66 : Addr} {oc66 kV66 dc66 pm66 cd66 ct66 : Value} {od66 an66 : Option Addr} {sl66 : Array (Option Value)}
    {f67 : Addr} {oc67 kV67 dc67 pm67 cd67 ct67 : Value} {od67 an67 : Option Addr} {sl67 : Array (Option Value)}
    {f56 : Addr} {oc56 kV56 dc56 pm56 cd56 ct56 : Value} {od56 an56 : Option Addr} {sl56 : Array (Option Value)}
    {f13 D13 : Addr} {t13 : Tok} {oc13 dc13 pm13 cd13 ct13 : Value} {od13 an13 : Option Addr} {sl13 : Array (Option Value)}
    {f15 D15 : Addr} {t15 : Tok} {oc15 dc15 pm15 cd15 ct15 : Value} {od15 an15 : Option Addr} {sl15 : Array (Option Value)}
    {C : Addr}
    {fI DI e : Addr} {ocI dcI pmI cdI ctI : Value} {odI anI : Option Addr} {slI : Array (Option Value)} {ode : Option Addr} {ne : Nat} {sle : Array (Option Value)}
    {fB3 : Addr} {ocB3 kVB3 dcB3 pmB3 cdB3 ctB3 : Value} {odB3 anB3 : Option Addr} {slB3 : Array (Option Value)}
    {V : Addr}
    {fJ : Addr} {ocJ kVJ dcJ pmJ cdJ ctJ : Value} {odJ anJ : Option Addr} {slJ : Array (Option Value)}
    {fg5 : Addr} {ocg5 kVg5 dcg5 pmg5 cdg5 ctg5 : Value} {odg5 ang5 : Option Addr} {slg5 : Array (Option Value)}
    {Q NnQ : Addr} {nmQ qnQ : Str} {bsQ bmQ : List Value} {snQ : List Str} {subQ : List Value} {abQ : Bool} {colQ : Option Bool} {ddQ : Option Addr} {m0Q m1Q m2Q m3Q m5Q : Option Value}
    {fQi : Addr} {ocQi kVQi dcQi pmQi cdQi ctQi : Value} {odQi anQi : Option Addr} {slQi : Array (Option Value)}
    {N NnN : Addr} {nmN qnN : Str} {bsN bmN : List Value} {snN : List Str} {subN : List Value} {abN : Bool} {colN : Option Bool} {ddN : Option Addr} {m0N m1N m2N m3N m5N : Option Value}
    {fNi : Addr} {ocNi kVNi dcNi pmNi cdNi ctNi : Value} {odNi anNi : Option Addr} {slNi : Array (Option Value)}
    {c1 : Addr}
    {c3 : Addr}
    {c4 : Addr}
    {c5 : Addr}
    {tM : Tok}
    {tMd : Tok}
    {tDg : Tok}
    (a8 : PySem.W.nsIn K mainGlobals "is_integer" = some (some (.ref f8)))
    (l8 : K.lookup f8 = some ⟨oc8, od8, .func (PySem.W.fnOf "is_integer" "is_integer" (defArgs sInteger) (defBody sInteger) (defScope sInteger) .none kV8 dc8 pm8 an8 cd8 ct8), sl8⟩)
    (c8 : PySem.W.codeIn K cd8 "is_integer" = true)
    (k8 : PySem.W.keepIn K (.ref f8) = true)
    (a9 : PySem.W.nsIn K mainGlobals "is_integer_between" = some (some (.ref f9)))
    (l9 : K.lookup f9 = some ⟨oc9, od9, .func (PySem.W.fnOf "is_integer_between" "is_integer_between" (defArgs sBetween) (defBody sBetween) (defScope sBetween) .none kV9 dc9 pm9 an9 cd9 ct9), sl9⟩)
    (c9 : PySem.W.codeIn K cd9 "is_integer_between" = true)
    (k9 : PySem.W.keepIn K (.ref f9) = true)
    (a12 : PySem.W.nsIn K mainGlobals "is_size" = some (some (.ref f12)))
    (l12 : K.lookup f12 = some ⟨oc12, od12, .func (PySem.W.fnOf "is_size" "is_size" (defArgs sIsSize) (defBody sIsSize) (defScope sIsSize) .none kV12 dc12 pm12 an12 cd12 ct12), sl12⟩)
    (c12 : PySem.W.codeIn K cd12 "is_size" = true)
    (k12 : PySem.W.keepIn K (.ref f12) = true)
    (a14 : PySem.W.nsIn K mainGlobals "are_cells" = some (some (.ref f14)))
    (l14 : K.lookup f14 = some ⟨oc14, od14, .func (PySem.W.fnOf "are_cells" "are_cells" (defArgs sAre) (defBody sAre) (defScope sAre) .none kV14 dc14 pm14 an14 cd14 ct14), sl14⟩)
    (c14 : PySem.W.codeIn K cd14 "are_cells" = true)
    (k14 : PySem.W.keepIn K (.ref f14) = true)
    (a17 : PySem.W.nsIn K mainGlobals "share_odd" = some (some (.ref f17)))
    (l17 : K.lookup f17 = some ⟨oc17, od17, .func (PySem.W.fnOf "share_odd" "share_odd" (defArgs sShare) (defBody sShare) (defScope sShare) .none kV17 dc17 pm17 an17 cd17 ct17), sl17⟩)
    (c17 : PySem.W.codeIn K cd17 "share_odd" = true)
    (k17 : PySem.W.keepIn K (.ref f17) = true)
    (a18 : PySem.W.nsIn K mainGlobals "written_cells" = some (some (.ref f18)))
    (l18 : K.lookup f18 = some ⟨oc18, od18, .func (PySem.W.fnOf "written_cells" "written_cells" (defArgs sWritten) (defBody sWritten) (defScope sWritten) .none kV18 dc18 pm18 an18 cd18 ct18), sl18⟩)
    (c18 : PySem.W.codeIn K cd18 "written_cells" = true)
    (k18 : PySem.W.keepIn K (.ref f18) = true)
    (ap1 : PySem.W.nsIn K mainGlobals "cells_text" = some (some (.ref fp1)))
    (lp1 : K.lookup fp1 = some ⟨ocp1, odp1, .func (PySem.W.fnOf "cells_text" "cells_text" (defArgs sCellsText) (defBody sCellsText) (defScope sCellsText) .none kVp1 dcp1 pmp1 anp1 cdp1 ctp1), slp1⟩)
    (cp1 : PySem.W.codeIn K cdp1 "cells_text" = true)
    (kp1 : PySem.W.keepIn K (.ref fp1) = true)
    (ap2 : PySem.W.nsIn K mainGlobals "flip_text" = some (some (.ref fp2)))
    (lp2 : K.lookup fp2 = some ⟨ocp2, odp2, .func (PySem.W.fnOf "flip_text" "flip_text" (defArgs sFlipText) (defBody sFlipText) (defScope sFlipText) .none kVp2 dcp2 pmp2 anp2 cdp2 ctp2), slp2⟩)
    (cp2 : PySem.W.codeIn K cdp2 "flip_text" = true)
    (kp2 : PySem.W.keepIn K (.ref fp2) = true)
    (ap3 : PySem.W.nsIn K mainGlobals "board_text" = some (some (.ref fp3)))
    (lp3 : K.lookup fp3 = some ⟨ocp3, odp3, .func (PySem.W.fnOf "board_text" "board_text" (defArgs sBoardText) (defBody sBoardText) (defScope sBoardText) .none kVp3 dcp3 pmp3 anp3 cdp3 ctp3), slp3⟩)
    (cp3 : PySem.W.codeIn K cdp3 "board_text" = true)
    (kp3 : PySem.W.keepIn K (.ref fp3) = true)
    (ap4 : PySem.W.nsIn K mainGlobals "read_cells" = some (some (.ref fp4)))
    (lp4 : K.lookup fp4 = some ⟨ocp4, odp4, .func (PySem.W.fnOf "read_cells" "read_cells" (defArgs sReadCells) (defBody sReadCells) (defScope sReadCells) .none kVp4 dcp4 pmp4 anp4 cdp4 ctp4), slp4⟩)
    (cp4 : PySem.W.codeIn K cdp4 "read_cells" = true)
    (kp4 : PySem.W.keepIn K (.ref fp4) = true)
    (ap5 : PySem.W.nsIn K mainGlobals "read_flip" = some (some (.ref fp5)))
    (lp5 : K.lookup fp5 = some ⟨ocp5, odp5, .func (PySem.W.fnOf "read_flip" "read_flip" (defArgs sReadFlip) (defBody sReadFlip) (defScope sReadFlip) .none kVp5 dcp5 pmp5 anp5 cdp5 ctp5), slp5⟩)
    (cp5 : PySem.W.codeIn K cdp5 "read_flip" = true)
    (kp5 : PySem.W.keepIn K (.ref fp5) = true)
    (ap6 : PySem.W.nsIn K mainGlobals "read_board" = some (some (.ref fp6)))
    (lp6 : K.lookup fp6 = some ⟨ocp6, odp6, .func (PySem.W.fnOf "read_board" "read_board" (defArgs sReadBoard) (defBody sReadBoard) (defScope sReadBoard) .none kVp6 dcp6 pmp6 anp6 cdp6 ctp6), slp6⟩)
    (cp6 : PySem.W.codeIn K cdp6 "read_board" = true)
    (kp6 : PySem.W.keepIn K (.ref fp6) = true)
    (ap7 : PySem.W.nsIn K mainGlobals "cells_in" = some (some (.ref fp7)))
    (lp7 : K.lookup fp7 = some ⟨ocp7, odp7, .func (PySem.W.fnOf "cells_in" "cells_in" (defArgs sCellsIn) (defBody sCellsIn) (defScope sCellsIn) .none kVp7 dcp7 pmp7 anp7 cdp7 ctp7), slp7⟩)
    (cp7 : PySem.W.codeIn K cdp7 "cells_in" = true)
    (kp7 : PySem.W.keepIn K (.ref fp7) = true)
    (ap8 : PySem.W.nsIn K mainGlobals "flip_in" = some (some (.ref fp8)))
    (lp8 : K.lookup fp8 = some ⟨ocp8, odp8, .func (PySem.W.fnOf "flip_in" "flip_in" (defArgs sFlipIn) (defBody sFlipIn) (defScope sFlipIn) .none kVp8 dcp8 pmp8 anp8 cdp8 ctp8), slp8⟩)
    (cp8 : PySem.W.codeIn K cdp8 "flip_in" = true)
    (kp8 : PySem.W.keepIn K (.ref fp8) = true)
    (ap9 : PySem.W.nsIn K mainGlobals "board_in" = some (some (.ref fp9)))
    (lp9 : K.lookup fp9 = some ⟨ocp9, odp9, .func (PySem.W.fnOf "board_in" "board_in" (defArgs sBoardIn) (defBody sBoardIn) (defScope sBoardIn) .none kVp9 dcp9 pmp9 anp9 cdp9 ctp9), slp9⟩)
    (cp9 : PySem.W.codeIn K cdp9 "board_in" = true)
    (kp9 : PySem.W.keepIn K (.ref fp9) = true)
    (ap0 : PySem.W.nsIn K mainGlobals "number_in" = some (some (.ref fp0)))
    (lp0 : K.lookup fp0 = some ⟨ocp0, odp0, .func (PySem.W.fnOf "number_in" "number_in" (defArgs sNumberIn) (defBody sNumberIn) (defScope sNumberIn) .none kVp0 dcp0 pmp0 anp0 cdp0 ctp0), slp0⟩)
    (cp0 : PySem.W.codeIn K cdp0 "number_in" = true)
    (kp0 : PySem.W.keepIn K (.ref fp0) = true)
    (a37 : PySem.W.nsIn K mainGlobals "_law_pot" = some (some (.ref f37)))
    (l37 : K.lookup f37 = some ⟨oc37, od37, .func (PySem.W.fnOf "_law_pot" "_law_pot" (defArgs sPot) (defBody sPot) (defScope sPot) .none kV37 dc37 pm37 an37 cd37 ct37), sl37⟩)
    (c37 : PySem.W.codeIn K cd37 "_law_pot" = true)
    (k37 : PySem.W.keepIn K (.ref f37) = true)
    (a38 : PySem.W.nsIn K mainGlobals "_law_draw" = some (some (.ref f38)))
    (l38 : K.lookup f38 = some ⟨oc38, od38, .func (PySem.W.fnOf "_law_draw" "_law_draw" (defArgs sDraw) (defBody sDraw) (defScope sDraw) .none kV38 dc38 pm38 an38 cd38 ct38), sl38⟩)
    (c38 : PySem.W.codeIn K cd38 "_law_draw" = true)
    (k38 : PySem.W.keepIn K (.ref f38) = true)
    (a39 : PySem.W.nsIn K mainGlobals "_law_width" = some (some (.ref f39)))
    (l39 : K.lookup f39 = some ⟨oc39, od39, .func (PySem.W.fnOf "_law_width" "_law_width" (defArgs sWidth) (defBody sWidth) (defScope sWidth) .none kV39 dc39 pm39 an39 cd39 ct39), sl39⟩)
    (c39 : PySem.W.codeIn K cd39 "_law_width" = true)
    (k39 : PySem.W.keepIn K (.ref f39) = true)
    (a40 : PySem.W.nsIn K mainGlobals "_law_spots" = some (some (.ref f40)))
    (l40 : K.lookup f40 = some ⟨oc40, od40, .func (PySem.W.fnOf "_law_spots" "_law_spots" (defArgs sSpots) (defBody sSpots) (defScope sSpots) .none kV40 dc40 pm40 an40 cd40 ct40), sl40⟩)
    (c40 : PySem.W.codeIn K cd40 "_law_spots" = true)
    (k40 : PySem.W.keepIn K (.ref f40) = true)
    (a41 : PySem.W.nsIn K mainGlobals "_law_pair" = some (some (.ref f41)))
    (l41 : K.lookup f41 = some ⟨oc41, od41, .func (PySem.W.fnOf "_law_pair" "_law_pair" (defArgs sPair) (defBody sPair) (defScope sPair) .none kV41 dc41 pm41 an41 cd41 ct41), sl41⟩)
    (c41 : PySem.W.codeIn K cd41 "_law_pair" = true)
    (k41 : PySem.W.keepIn K (.ref f41) = true)
    (a42 : PySem.W.nsIn K mainGlobals "_law_bits" = some (some (.ref f42)))
    (l42 : K.lookup f42 = some ⟨oc42, od42, .func (PySem.W.fnOf "_law_bits" "_law_bits" (defArgs sBits) (defBody sBits) (defScope sBits) .none kV42 dc42 pm42 an42 cd42 ct42), sl42⟩)
    (c42 : PySem.W.codeIn K cd42 "_law_bits" = true)
    (k42 : PySem.W.keepIn K (.ref f42) = true)
    (a49 : PySem.W.nsIn K mainGlobals "_law_text_of" = some (some (.ref f49)))
    (l49 : K.lookup f49 = some ⟨oc49, od49, .func (PySem.W.fnOf "_law_text_of" "_law_text_of" (defArgs slTextOf) (defBody slTextOf) (defScope slTextOf) .none kV49 dc49 pm49 an49 cd49 ct49), sl49⟩)
    (c49 : PySem.W.codeIn K cd49 "_law_text_of" = true)
    (k49 : PySem.W.keepIn K (.ref f49) = true)
    (a50 : PySem.W.nsIn K mainGlobals "_law_pair_text" = some (some (.ref f50)))
    (l50 : K.lookup f50 = some ⟨oc50, od50, .func (PySem.W.fnOf "_law_pair_text" "_law_pair_text" (defArgs slPairText) (defBody slPairText) (defScope slPairText) .none kV50 dc50 pm50 an50 cd50 ct50), sl50⟩)
    (c50 : PySem.W.codeIn K cd50 "_law_pair_text" = true)
    (k50 : PySem.W.keepIn K (.ref f50) = true)
    (a51 : PySem.W.nsIn K mainGlobals "_law_bits_text" = some (some (.ref f51)))
    (l51 : K.lookup f51 = some ⟨oc51, od51, .func (PySem.W.fnOf "_law_bits_text" "_law_bits_text" (defArgs slBitsText) (defBody slBitsText) (defScope slBitsText) .none kV51 dc51 pm51 an51 cd51 ct51), sl51⟩)
    (c51 : PySem.W.codeIn K cd51 "_law_bits_text" = true)
    (k51 : PySem.W.keepIn K (.ref f51) = true)
    (a60 : PySem.W.nsIn K mainGlobals "_law_are_cells" = some (some (.ref f60)))
    (l60 : K.lookup f60 = some ⟨oc60, od60, .func (PySem.W.fnOf "_law_are_cells" "_law_are_cells" (defArgs slAreCells) (defBody slAreCells) (defScope slAreCells) .none kV60 dc60 pm60 an60 cd60 ct60), sl60⟩)
    (c60 : PySem.W.codeIn K cd60 "_law_are_cells" = true)
    (k60 : PySem.W.keepIn K (.ref f60) = true)
    (a61 : PySem.W.nsIn K mainGlobals "_law_own_spots" = some (some (.ref f61)))
    (l61 : K.lookup f61 = some ⟨oc61, od61, .func (PySem.W.fnOf "_law_own_spots" "_law_own_spots" (defArgs slOwnSpots) (defBody slOwnSpots) (defScope slOwnSpots) .none kV61 dc61 pm61 an61 cd61 ct61), sl61⟩)
    (c61 : PySem.W.codeIn K cd61 "_law_own_spots" = true)
    (k61 : PySem.W.keepIn K (.ref f61) = true)
    (a62 : PySem.W.nsIn K mainGlobals "_law_is_flip" = some (some (.ref f62)))
    (l62 : K.lookup f62 = some ⟨oc62, od62, .func (PySem.W.fnOf "_law_is_flip" "_law_is_flip" (defArgs slIsFlip) (defBody slIsFlip) (defScope slIsFlip) .none kV62 dc62 pm62 an62 cd62 ct62), sl62⟩)
    (c62 : PySem.W.codeIn K cd62 "_law_is_flip" = true)
    (k62 : PySem.W.keepIn K (.ref f62) = true)
    (a63 : PySem.W.nsIn K mainGlobals "_law_is_board" = some (some (.ref f63)))
    (l63 : K.lookup f63 = some ⟨oc63, od63, .func (PySem.W.fnOf "_law_is_board" "_law_is_board" (defArgs slIsBoard) (defBody slIsBoard) (defScope slIsBoard) .none kV63 dc63 pm63 an63 cd63 ct63), sl63⟩)
    (c63 : PySem.W.codeIn K cd63 "_law_is_board" = true)
    (k63 : PySem.W.keepIn K (.ref f63) = true)
    (a64 : PySem.W.nsIn K mainGlobals "_law_read" = some (some (.ref f64)))
    (l64 : K.lookup f64 = some ⟨oc64, od64, .func (PySem.W.fnOf "_law_read" "_law_read" (defArgs slRead) (defBody slRead) (defScope slRead) .none kV64 dc64 pm64 an64 cd64 ct64), sl64⟩)
    (c64 : PySem.W.codeIn K cd64 "_law_read" = true)
    (k64 : PySem.W.keepIn K (.ref f64) = true)
    (a65 : PySem.W.nsIn K mainGlobals "_law_told" = some (some (.ref f65)))
    (l65 : K.lookup f65 = some ⟨oc65, od65, .func (PySem.W.fnOf "_law_told" "_law_told" (defArgs slTold) (defBody slTold) (defScope slTold) .none kV65 dc65 pm65 an65 cd65 ct65), sl65⟩)
    (c65 : PySem.W.codeIn K cd65 "_law_told" = true)
    (k65 : PySem.W.keepIn K (.ref f65) = true)
    (a66 : PySem.W.nsIn K mainGlobals "_law_due" = some (some (.ref f66)))
    (l66 : K.lookup f66 = some ⟨oc66, od66, .func (PySem.W.fnOf "_law_due" "_law_due" (defArgs slDue) (defBody slDue) (defScope slDue) .none kV66 dc66 pm66 an66 cd66 ct66), sl66⟩)
    (c66 : PySem.W.codeIn K cd66 "_law_due" = true)
    (k66 : PySem.W.keepIn K (.ref f66) = true)
    (a67 : PySem.W.nsIn K mainGlobals "_law_bent" = some (some (.ref f67)))
    (l67 : K.lookup f67 = some ⟨oc67, od67, .func (PySem.W.fnOf "_law_bent" "_law_bent" (defArgs slBent) (defBody slBent) (defScope slBent) .none kV67 dc67 pm67 an67 cd67 ct67), sl67⟩)
    (c67 : PySem.W.codeIn K cd67 "_law_bent" = true)
    (k67 : PySem.W.keepIn K (.ref f67) = true)
    (a56 : PySem.W.nsIn K mainGlobals "law" = some (some (.ref f56)))
    (l56 : K.lookup f56 = some ⟨oc56, od56, .func (PySem.W.fnOf "law" "law" (defArgs sLaw) (defBody sLaw) (defScope sLaw) .none kV56 dc56 pm56 an56 cd56 ct56), sl56⟩)
    (c56 : PySem.W.codeIn K cd56 "law" = true)
    (k56 : PySem.W.keepIn K (.ref f56) = true)
    (a13 : PySem.W.nsIn K mainGlobals "is_cell" = some (some (.ref f13)))
    (l13 : K.lookup f13 = some ⟨oc13, od13, .func (PySem.W.fnOf "is_cell" "is_cell" (defArgs sIsCell) (defBody sIsCell) (defScope sIsCell) .none (.ref D13) dc13 pm13 an13 cd13 ct13), sl13⟩)
    (d13 : PySem.W.nsIn K D13 "size" = some (some (.int 40 t13)))
    (c13 : PySem.W.codeIn K cd13 "is_cell" = true)
    (k13 : PySem.W.keepIn K (.ref f13) = true)
    (a15 : PySem.W.nsIn K mainGlobals "cell_tuple" = some (some (.ref f15)))
    (l15 : K.lookup f15 = some ⟨oc15, od15, .func (PySem.W.fnOf "cell_tuple" "cell_tuple" (defArgs sCells) (defBody sCells) (defScope sCells) .none (.ref D15) dc15 pm15 an15 cd15 ct15), sl15⟩)
    (d15 : PySem.W.nsIn K D15 "size" = some (some (.int 40 t15)))
    (c15 : PySem.W.codeIn K cd15 "cell_tuple" = true)
    (k15 : PySem.W.keepIn K (.ref f15) = true)
    (aC : PySem.W.nsIn K mainGlobals "Board" = some (some (.ref C)))
    (pgC : PySem.W.plainGet K C Str.empty = true)
    (hdC : PySem.W.hasDictIn K C = true)
    (poC : PySem.W.plainOver K C = true)
    (saC : PySem.W.findIn K (.ref C) "__setattr__" = some (some (.builtin "object.__setattr__")))
    (mkC : PySem.W.makesIn K C = true)
    (kcC : PySem.W.keepIn K (.ref C) = true)
    (nf0C : PySem.W.findIn K (.ref C) "states" = some none)
    (iI : PySem.W.findIn K (.ref C) "__init__" = some (some (.ref fI)))
    (nI : PySem.W.isFn K (.ref fI) = true)
    (lI : K.lookup fI = some ⟨ocI, odI, .func (PySem.W.fnOf "__init__" "Board.__init__" (defArgs mInit) (defBody mInit) (defScope mInit) .none (.ref DI) dcI pmI anI cdI ctI), slI⟩)
    (dI : PySem.W.nsIn K DI "up" = some (some (.ref e)))
    (le : K.lookup e = some ⟨.type "tuple", ode, .seq #[] ne, sle⟩)
    (cI : PySem.W.codeIn K cdI "Board.__init__" = true)
    (kI : PySem.W.keepIn K (.ref fI) = true)
    (aB3 : PySem.W.findIn K (.ref C) "__str__" = some (some (.ref fB3)))
    (nB3 : PySem.W.isFn K (.ref fB3) = true)
    (lB3 : K.lookup fB3 = some ⟨ocB3, odB3, .func (PySem.W.fnOf "__str__" "Board.__str__" (defArgs mStr) (defBody mStr) (defScope mStr) .none kVB3 dcB3 pmB3 anB3 cdB3 ctB3), slB3⟩)
    (cB3 : PySem.W.codeIn K cdB3 "Board.__str__" = true)
    (kB3 : PySem.W.keepIn K (.ref fB3) = true)
    (aV : PySem.W.nsIn K mainGlobals "Flip" = some (some (.ref V)))
    (pgV : PySem.W.plainGet K V Str.empty = true)
    (hdV : PySem.W.hasDictIn K V = true)
    (poV : PySem.W.plainOver K V = true)
    (saV : PySem.W.findIn K (.ref V) "__setattr__" = some (some (.builtin "object.__setattr__")))
    (mkV : PySem.W.makesIn K V = true)
    (kcV : PySem.W.keepIn K (.ref V) = true)
    (nf0V : PySem.W.findIn K (.ref V) "tested_cells" = some none)
    (nf1V : PySem.W.findIn K (.ref V) "toggled_cells" = some none)
    (aJ : PySem.W.findIn K (.ref V) "__init__" = some (some (.ref fJ)))
    (nJ : PySem.W.isFn K (.ref fJ) = true)
    (lJ : K.lookup fJ = some ⟨ocJ, odJ, .func (PySem.W.fnOf "__init__" "Flip.__init__" (defArgs gInit) (defBody gInit) (defScope gInit) .none kVJ dcJ pmJ anJ cdJ ctJ), slJ⟩)
    (cJ : PySem.W.codeIn K cdJ "Flip.__init__" = true)
    (kJ : PySem.W.keepIn K (.ref fJ) = true)
    (ag5 : PySem.W.findIn K (.ref V) "__str__" = some (some (.ref fg5)))
    (ng5 : PySem.W.isFn K (.ref fg5) = true)
    (lg5 : K.lookup fg5 = some ⟨ocg5, odg5, .func (PySem.W.fnOf "__str__" "Flip.__str__" (defArgs gStr) (defBody gStr) (defScope gStr) .none kVg5 dcg5 pmg5 ang5 cdg5 ctg5), slg5⟩)
    (cg5 : PySem.W.codeIn K cdg5 "Flip.__str__" = true)
    (kg5 : PySem.W.keepIn K (.ref fg5) = true)
    (aQ : PySem.W.nsIn K mainGlobals "NoText" = some (some (.ref Q)))
    (xQ : K.lookup Q = some (excClassObj nmQ qnQ Q NnQ bsQ bmQ true snQ subQ abQ colQ ddQ m0Q m1Q m2Q m3Q m5Q "ValueError.__new__"))
    (rvQ : PySem.HandSPX.refsVE bmQ = true)
    (saQ : PySem.W.findIn K (.ref Q) "__setattr__" = some (some (.builtin "object.__setattr__")))
    (exQ : PySem.W.subIn K (.ref Q) (.type "BaseException") = some true)
    (tyQ : PySem.W.typeIn K (.ref Q) = some (.type "type"))
    (kpQ : PySem.W.keepIn K (.ref Q) = true)
    (nf0Q : PySem.W.findIn K (.ref Q) "line" = some none)
    (iQi : PySem.W.findIn K (.ref Q) "__init__" = some (some (.ref fQi)))
    (tQi : PySem.W.typeIn K (.ref fQi) = some (.type "function"))
    (lQi : K.lookup fQi = some ⟨ocQi, odQi, .func (PySem.W.fnOf "__init__" "NoText.__init__" (defArgs sTIni) (defBody sTIni) (defScope sTIni) .none kVQi dcQi pmQi anQi cdQi ctQi), slQi⟩)
    (cQi : PySem.W.codeIn K cdQi "NoText.__init__" = true)
    (kQi : PySem.W.keepIn K (.ref fQi) = true)
    (gaQ : PySem.W.findIn K (.ref Q) "__getattribute__" = some (some (.builtin "BaseException.__getattribute__")))
    (ggQ : PySem.W.findIn K (.ref Q) "__getattr__" = some none)
    (xdQ : PySem.W.hasDictIn K Q = true)
    (haQ : PySem.W.findIn K (.ref Q) "__class__" = some (some (.builtin "object.__class__")))
    (hnQ : PySem.W.specialIn K (.builtin "object.__class__") "__get__" = some (some (.builtin "getset_descriptor.__get__")))
    (htQ : PySem.W.takesIn K (.builtin "object.__class__") = some true)
    (hmQ : PySem.W.mroIn K Q (.type "object") = some true)
    (teQ : PySem.W.exmOne K (.ref Q) (.ref Q) = some true)
    (aN : PySem.W.nsIn K mainGlobals "NoFlip" = some (some (.ref N)))
    (xN : K.lookup N = some (excClassObj nmN qnN N NnN bsN bmN true snN subN abN colN ddN m0N m1N m2N m3N m5N "ValueError.__new__"))
    (rvN : PySem.HandSPX.refsVE bmN = true)
    (saN : PySem.W.findIn K (.ref N) "__setattr__" = some (some (.builtin "object.__setattr__")))
    (exN : PySem.W.subIn K (.ref N) (.type "BaseException") = some true)
    (tyN : PySem.W.typeIn K (.ref N) = some (.type "type"))
    (kpN : PySem.W.keepIn K (.ref N) = true)
    (nf0N : PySem.W.findIn K (.ref N) "why" = some none)
    (iNi : PySem.W.findIn K (.ref N) "__init__" = some (some (.ref fNi)))
    (tNi : PySem.W.typeIn K (.ref fNi) = some (.type "function"))
    (lNi : K.lookup fNi = some ⟨ocNi, odNi, .func (PySem.W.fnOf "__init__" "NoFlip.__init__" (defArgs sFIni) (defBody sFIni) (defScope sFIni) .none kVNi dcNi pmNi anNi cdNi ctNi), slNi⟩)
    (cNi : PySem.W.codeIn K cdNi "NoFlip.__init__" = true)
    (kNi : PySem.W.keepIn K (.ref fNi) = true)
    (mmN : PySem.W.exmOne K (.ref N) (.ref N) = some true)
    (ac1 : PySem.W.nsIn K mainGlobals "NoCells" = some (some (.ref c1)))
    (ac3 : PySem.W.nsIn K mainGlobals "NoSize" = some (some (.ref c3)))
    (ac4 : PySem.W.nsIn K mainGlobals "CellError" = some (some (.ref c4)))
    (ac5 : PySem.W.nsIn K mainGlobals "LimitError" = some (some (.ref c5)))
    (s5 : PySem.W.subIn K (.ref Q) (.ref c5) = some false)
    (hc5 : PySem.W.hasDictIn K c5 = true)
    (tc5 : PySem.W.typeIn K (.ref c5) = some (.type "type"))
    (nc5 : Q ≠ c5)
    (s1 : PySem.W.subIn K (.ref Q) (.ref c1) = some false)
    (hc1 : PySem.W.hasDictIn K c1 = true)
    (tc1 : PySem.W.typeIn K (.ref c1) = some (.type "type"))
    (nc1 : Q ≠ c1)
    (s2 : PySem.W.subIn K (.ref Q) (.ref N) = some false)
    (hc2 : PySem.W.hasDictIn K N = true)
    (tc2 : PySem.W.typeIn K (.ref N) = some (.type "type"))
    (nc2 : Q ≠ N)
    (s3 : PySem.W.subIn K (.ref Q) (.ref c3) = some false)
    (hc3 : PySem.W.hasDictIn K c3 = true)
    (tc3 : PySem.W.typeIn K (.ref c3) = some (.type "type"))
    (nc3 : Q ≠ c3)
    (s4 : PySem.W.subIn K (.ref Q) (.ref c4) = some true)
    (hc4 : PySem.W.hasDictIn K c4 = true)
    (tc4 : PySem.W.typeIn K (.ref c4) = some (.type "type"))
    (nc4 : Q ≠ c4)
    (sv : PySem.W.subIn K (.ref Q) (.type "ValueError") = some true)
    (c_M : PySem.W.nsIn K mainGlobals "MOST_CELLS" = some (some (.int 40 tM)))
    (c_Md : PySem.W.nsIn K mainGlobals "MOST_DIGITS" = some (some (.int 30 tMd)))
    (c_Dg : PySem.W.nsIn K mainGlobals "DIGITS" = some (some (.str "0123456789" tDg)))
    (z_len : PySem.W.nsIn K mainGlobals "len" = some none)
    (z_abs : PySem.W.nsIn K mainGlobals "abs" = some none)
    (z_max : PySem.W.nsIn K mainGlobals "max" = some none)
    (z_min : PySem.W.nsIn K mainGlobals "min" = some none)
    (z_divmod : PySem.W.nsIn K mainGlobals "divmod" = some none)
    (z_list : PySem.W.nsIn K mainGlobals "list" = some none)
    (z_tuple : PySem.W.nsIn K mainGlobals "tuple" = some none)
    (z_range : PySem.W.nsIn K mainGlobals "range" = some none)
    (z_isinstance : PySem.W.nsIn K mainGlobals "isinstance" = some none)
    (z_bool : PySem.W.nsIn K mainGlobals "bool" = some none)
    (z_int : PySem.W.nsIn K mainGlobals "int" = some none)
    (z_sorted : PySem.W.nsIn K mainGlobals "sorted" = some none)
    (z_set : PySem.W.nsIn K mainGlobals "set" = some none)
    (z_all : PySem.W.nsIn K mainGlobals "all" = some none)
    (z_enumerate : PySem.W.nsIn K mainGlobals "enumerate" = some none)
    (z_repr : PySem.W.nsIn K mainGlobals "repr" = some none)
    (z_sum : PySem.W.nsIn K mainGlobals "sum" = some none)
    (z_str : PySem.W.nsIn K mainGlobals "str" = some none)
    (z_ValueError : PySem.W.nsIn K mainGlobals "ValueError" = some none) :
    ∃ fd : FuncData, (∀ (s : Shared) (v : Value), BindsTo s fd ⟨[v], []⟩ [("_law_script", v)]) ∧ ∀ base : Heap, K.In base → base.Ns mainGlobals mg → FnG l.prog w K mg base CX0 12 fa fd ["_law_script"] (spLaw K) := by
  have e0 := hfa.symm.trans (PySem.W.mg_of X G a56)
  cases e0
  have B : Bl mg := ⟨PySem.W.mg_none_of X G z_len, PySem.W.mg_none_of X G z_abs, PySem.W.mg_none_of X G z_max, PySem.W.mg_none_of X G z_min, PySem.W.mg_none_of X G z_divmod, PySem.W.mg_none_of X G z_list, PySem.W.mg_none_of X G z_tuple, PySem.W.mg_none_of X G z_range, PySem.W.mg_none_of X G z_isinstance, PySem.W.mg_none_of X G z_bool, PySem.W.mg_none_of X G z_int, PySem.W.mg_none_of X G z_sorted, PySem.W.mg_none_of X G z_set, PySem.W.mg_none_of X G z_all, PySem.W.mg_none_of X G z_enumerate, PySem.W.mg_none_of X G z_repr, PySem.W.mg_none_of X G z_sum⟩
  have F8 := fun_mk (st := sInteger) l8 c8 k8
  have b8 := F8.binds (ps := ["thing"]) fun _ _ _ _ _ _ us hl => match us, hl with | [_], _ => rfl
  have m8 := PySem.W.mg_of X G a8
  have F9 := fun_mk (st := sBetween) l9 c9 k9
  have b9 := F9.binds (ps := ["thing", "low", "high"]) fun _ _ _ _ _ _ us hl => match us, hl with | [_, _, _], _ => rfl
  have m9 := PySem.W.mg_of X G a9
  have F12 := fun_mk (st := sIsSize) l12 c12 k12
  have b12 := F12.binds (ps := ["thing"]) fun _ _ _ _ _ _ us hl => match us, hl with | [_], _ => rfl
  have m12 := PySem.W.mg_of X G a12
  have F14 := fun_mk (st := sAre) l14 c14 k14
  have b14 := F14.binds (ps := ["things", "size"]) fun _ _ _ _ _ _ us hl => match us, hl with | [_, _], _ => rfl
  have m14 := PySem.W.mg_of X G a14
  have F17 := fun_mk (st := sShare) l17 c17 k17
  have b17 := F17.binds (ps := ["one", "other"]) fun _ _ _ _ _ _ us hl => match us, hl with | [_, _], _ => rfl
  have m17 := PySem.W.mg_of X G a17
  have F18 := fun_mk (st := sWritten) l18 c18 k18
  have b18 := F18.binds (ps := ["cells"]) fun _ _ _ _ _ _ us hl => match us, hl with | [_], _ => rfl
  have m18 := PySem.W.mg_of X G a18
  have Fp1 := fun_mk (st := sCellsText) lp1 cp1 kp1
  have bp1 := Fp1.binds (ps := ["cells"]) fun _ _ _ _ _ _ us hl => match us, hl with | [_], _ => rfl
  have mp1 := PySem.W.mg_of X G ap1
  have Fp2 := fun_mk (st := sFlipText) lp2 cp2 kp2
  have bp2 := Fp2.binds (ps := ["flip"]) fun _ _ _ _ _ _ us hl => match us, hl with | [_], _ => rfl
  have mp2 := PySem.W.mg_of X G ap2
  have Fp3 := fun_mk (st := sBoardText) lp3 cp3 kp3
  have bp3 := Fp3.binds (ps := ["board"]) fun _ _ _ _ _ _ us hl => match us, hl with | [_], _ => rfl
  have mp3 := PySem.W.mg_of X G ap3
  have Fp4 := fun_mk (st := sReadCells) lp4 cp4 kp4
  have bp4 := Fp4.binds (ps := ["text"]) fun _ _ _ _ _ _ us hl => match us, hl with | [_], _ => rfl
  have mp4 := PySem.W.mg_of X G ap4
  have Fp5 := fun_mk (st := sReadFlip) lp5 cp5 kp5
  have bp5 := Fp5.binds (ps := ["text"]) fun _ _ _ _ _ _ us hl => match us, hl with | [_], _ => rfl
  have mp5 := PySem.W.mg_of X G ap5
  have Fp6 := fun_mk (st := sReadBoard) lp6 cp6 kp6
  have bp6 := Fp6.binds (ps := ["text"]) fun _ _ _ _ _ _ us hl => match us, hl with | [_], _ => rfl
  have mp6 := PySem.W.mg_of X G ap6
  have Fp7 := fun_mk (st := sCellsIn) lp7 cp7 kp7
  have bp7 := Fp7.binds (ps := ["text"]) fun _ _ _ _ _ _ us hl => match us, hl with | [_], _ => rfl
  have mp7 := PySem.W.mg_of X G ap7
  have Fp8 := fun_mk (st := sFlipIn) lp8 cp8 kp8
  have bp8 := Fp8.binds (ps := ["text"]) fun _ _ _ _ _ _ us hl => match us, hl with | [_], _ => rfl
  have mp8 := PySem.W.mg_of X G ap8
  have Fp9 := fun_mk (st := sBoardIn) lp9 cp9 kp9
  have bp9 := Fp9.binds (ps := ["text"]) fun _ _ _ _ _ _ us hl => match us, hl with | [_], _ => rfl
  have mp9 := PySem.W.mg_of X G ap9
  have Fp0 := fun_mk (st := sNumberIn) lp0 cp0 kp0
  have bp0 := Fp0.binds (ps := ["text"]) fun _ _ _ _ _ _ us hl => match us, hl with | [_], _ => rfl
  have mp0 := PySem.W.mg_of X G ap0
  have F37 := fun_mk (st := sPot) l37 c37 k37
  have b37 := F37.binds (ps := ["_law_script", "_law_k"]) fun _ _ _ _ _ _ us hl => match us, hl with | [_, _], _ => rfl
  have m37 := PySem.W.mg_of X G a37
  have F38 := fun_mk (st := sDraw) l38 c38 k38
  have b38 := F38.binds (ps := ["_law_pot_here", "_law_many"]) fun _ _ _ _ _ _ us hl => match us, hl with | [_, _], _ => rfl
  have m38 := PySem.W.mg_of X G a38
  have F39 := fun_mk (st := sWidth) l39 c39 k39
  have b39 := F39.binds (ps := ["_law_pot_here", "_law_most"]) fun _ _ _ _ _ _ us hl => match us, hl with | [_, _], _ => rfl
  have m39 := PySem.W.mg_of X G a39
  have F40 := fun_mk (st := sSpots) l40 c40 k40
  have b40 := F40.binds (ps := ["_law_pot_here", "_law_least", "_law_width_here"]) fun _ _ _ _ _ _ us hl => match us, hl with | [_, _, _], _ => rfl
  have m40 := PySem.W.mg_of X G a40
  have F41 := fun_mk (st := sPair) l41 c41 k41
  have b41 := F41.binds (ps := ["_law_pot_here", "_law_width_here"]) fun _ _ _ _ _ _ us hl => match us, hl with | [_, _], _ => rfl
  have m41 := PySem.W.mg_of X G a41
  have F42 := fun_mk (st := sBits) l42 c42 k42
  have b42 := F42.binds (ps := ["_law_pot_here", "_law_width_here"]) fun _ _ _ _ _ _ us hl => match us, hl with | [_, _], _ => rfl
  have m42 := PySem.W.mg_of X G a42
  have F49 := fun_mk (st := slTextOf) l49 c49 k49
  have b49 := F49.binds (ps := ["_law_spots_here"]) fun _ _ _ _ _ _ us hl => match us, hl with | [_], _ => rfl
  have m49 := PySem.W.mg_of X G a49
  have F50 := fun_mk (st := slPairText) l50 c50 k50
  have b50 := F50.binds (ps := ["_law_pair_here"]) fun _ _ _ _ _ _ us hl => match us, hl with | [_], _ => rfl
  have m50 := PySem.W.mg_of X G a50
  have F51 := fun_mk (st := slBitsText) l51 c51 k51
  have b51 := F51.binds (ps := ["_law_bits_here"]) fun _ _ _ _ _ _ us hl => match us, hl with | [_], _ => rfl
  have m51 := PySem.W.mg_of X G a51
  have F60 := fun_mk (st := slAreCells) l60 c60 k60
  have b60 := F60.binds (ps := ["_law_text"]) fun _ _ _ _ _ _ us hl => match us, hl with | [_], _ => rfl
  have m60 := PySem.W.mg_of X G a60
  have F61 := fun_mk (st := slOwnSpots) l61 c61 k61
  have b61 := F61.binds (ps := ["_law_text"]) fun _ _ _ _ _ _ us hl => match us, hl with | [_], _ => rfl
  have m61 := PySem.W.mg_of X G a61
  have F62 := fun_mk (st := slIsFlip) l62 c62 k62
  have b62 := F62.binds (ps := ["_law_text"]) fun _ _ _ _ _ _ us hl => match us, hl with | [_], _ => rfl
  have m62 := PySem.W.mg_of X G a62
  have F63 := fun_mk (st := slIsBoard) l63 c63 k63
  have b63 := F63.binds (ps := ["_law_text"]) fun _ _ _ _ _ _ us hl => match us, hl with | [_], _ => rfl
  have m63 := PySem.W.mg_of X G a63
  have F64 := fun_mk (st := slRead) l64 c64 k64
  have b64 := F64.binds (ps := ["_law_door", "_law_text"]) fun _ _ _ _ _ _ us hl => match us, hl with | [_, _], _ => rfl
  have m64 := PySem.W.mg_of X G a64
  have F65 := fun_mk (st := slTold) l65 c65 k65
  have b65 := F65.binds (ps := ["_law_door", "_law_text"]) fun _ _ _ _ _ _ us hl => match us, hl with | [_, _], _ => rfl
  have m65 := PySem.W.mg_of X G a65
  have F66 := fun_mk (st := slDue) l66 c66 k66
  have b66 := F66.binds (ps := ["_law_door", "_law_text"]) fun _ _ _ _ _ _ us hl => match us, hl with | [_, _], _ => rfl
  have m66 := PySem.W.mg_of X G a66
  have F67 := fun_mk (st := slBent) l67 c67 k67
  have b67 := F67.binds (ps := ["_law_pot_here", "_law_text"]) fun _ _ _ _ _ _ us hl => match us, hl with | [_, _], _ => rfl
  have m67 := PySem.W.mg_of X G a67
  have F56 := fun_mk (st := sLaw) l56 c56 k56
  have b56 := F56.binds (ps := ["_law_script"]) fun _ _ _ _ _ _ us hl => match us, hl with | [_], _ => rfl
  have m56 := PySem.W.mg_of X G a56
  have F13 : FunD K "is_cell" "is_cell" (defArgs sIsCell) (defBody sIsCell) (defScope sIsCell) [] [("size", .int 40)] f13 _ := ⟨⟨oc13, od13, .none, .ref D13, dc13, pm13, an13, cd13, ct13, sl13, rfl, l13, c13, .inl ⟨rfl, rfl⟩, .inr ⟨D13, rfl, fun q hq => by
    rw [List.mem_singleton.mp hq]
    exact ⟨_, d13, _, rfl⟩⟩⟩, k13⟩
  have m13 := PySem.W.mg_of X G a13
  have kb13 := kb_size (st := sIsCell) (y := "thing") F13 (fun _ _ _ _ _ _ _ _ => rfl)
  have F15 : FunD K "cell_tuple" "cell_tuple" (defArgs sCells) (defBody sCells) (defScope sCells) [] [("size", .int 40)] f15 _ := ⟨⟨oc15, od15, .none, .ref D15, dc15, pm15, an15, cd15, ct15, sl15, rfl, l15, c15, .inl ⟨rfl, rfl⟩, .inr ⟨D15, rfl, fun q hq => by
    rw [List.mem_singleton.mp hq]
    exact ⟨_, d15, _, rfl⟩⟩⟩, k15⟩
  have m15 := PySem.W.mg_of X G a15
  have kb15 := kb_size (st := sCells) (y := "things") F15 (fun _ _ _ _ _ _ _ _ => rfl)
  obtain ⟨ds15, hd15, bd15⟩ := F15.binds0 (ps := ["things", "size"]) 1 (by simp) rfl (fun D doc pm an cdv ct us ks h1 h2 => match us, ks, h1, h2 with | [_], [_], _, _ => ⟨_, _, _, _, _, _, rfl, rfl, rfl⟩)
  have FI : FunD K "__init__" "Board.__init__" (defArgs mInit) (defBody mInit) (defScope mInit) [] [("up", .ref e)] fI _ := ⟨⟨ocI, odI, .none, .ref DI, dcI, pmI, anI, cdI, ctI, slI, rfl, lI, cI, .inl ⟨rfl, rfl⟩, .inr ⟨DI, rfl, fun q hq => by
    rw [List.mem_singleton.mp hq]
    exact ⟨_, dI, rfl⟩⟩⟩, kI⟩
  have kbI2 := kb_ini (n := 2) (ks := ["up"]) FI (fun D doc pm an cdv ct us ws h1 h2 => match us, ws, h1, h2 with | [_, _], [_], _, _ => rfl)
  have kbI1 := kb_ini (n := 1) (ks := ["size", "up"]) FI (fun D doc pm an cdv ct us ws h1 h2 => match us, ws, h1, h2 with | [_], [_, _], _, _ => rfl)
  obtain ⟨dsI, hdI, bI⟩ := FI.binds0 (ps := ["self", "size", "up"]) 2 (by simp) rfl (fun D doc pm an cdv ct us ks h1 h2 => match us, ks, h1, h2 with | [_, _], [_], _, _ => ⟨_, _, _, _, _, _, rfl, rfl, rfl⟩)
  have mkI : Mk K C fI := ⟨mkC, iI, nI, kcC⟩
  have FB3 := fun_mk (st := mStr) lB3 cB3 kB3
  have bB3 := FB3.binds (ps := ["self"]) fun _ _ _ _ _ _ us hl => match us, hl with | [_], _ => rfl
  have mB3 : Meth K C "__str__" fB3 := ⟨aB3, nB3, kB3⟩
  have FJ := fun_mk (st := gInit) lJ cJ kJ
  have bJ := FJ.binds (ps := ["self", "tested", "toggled"]) fun _ _ _ _ _ _ us hl => match us, hl with | [_, _, _], _ => rfl
  have Fg5 := fun_mk (st := gStr) lg5 cg5 kg5
  have bg5 := Fg5.binds (ps := ["self"]) fun _ _ _ _ _ _ us hl => match us, hl with | [_], _ => rfl
  have mg5 : Meth K V "__str__" fg5 := ⟨ag5, ng5, kg5⟩
  have OQ : OexC K Q := ⟨⟨nmQ, qnQ, NnQ, bsQ, bmQ, snQ, subQ, abQ, colQ, ddQ, m0Q, m1Q, m2Q, m3Q, m5Q, xQ, rvQ⟩, saQ, exQ, tyQ, kpQ⟩
  have gQ := PySem.W.mg_of X G aQ
  have FQi := fun_mk (st := sTIni) lQi cQi kQi
  have bQi := FQi.binds (ps := ["self", "line"]) fun _ _ _ _ _ _ us hl => match us, hl with | [_, _], _ => rfl
  have XCQ : ExcC K Q := ⟨gaQ, ggQ, exQ, xdQ, haQ, hnQ, htQ, hmQ⟩
  have XFQ : XfC K Q := ⟨gaQ, ggQ, exQ, xdQ⟩
  have ON : OexC K N := ⟨⟨nmN, qnN, NnN, bsN, bmN, snN, subN, abN, colN, ddN, m0N, m1N, m2N, m3N, m5N, xN, rvN⟩, saN, exN, tyN, kpN⟩
  have gN := PySem.W.mg_of X G aN
  have FNi := fun_mk (st := sFIni) lNi cNi kNi
  have bNi := FNi.binds (ps := ["self", "why"]) fun _ _ _ _ _ _ us hl => match us, hl with | [_, _], _ => rfl
  have gc1 := PySem.W.mg_of X G ac1
  have gc3 := PySem.W.mg_of X G ac3
  have gc4 := PySem.W.mg_of X G ac4
  have gc5 := PySem.W.mg_of X G ac5
  have ko5 := kit_own nc5 hc5 tc5 s5
  have ko1 := kit_own nc1 hc1 tc1 s1
  have ko2 := kit_own nc2 hc2 tc2 s2
  have ko3 := kit_own nc3 hc3 tc3 s3
  have ko4 := kit_own nc4 hc4 tc4 s4
  have kov := kit_blt (T := "ValueError") (by decide +kernel) sv
  have g_M := PySem.W.mg_of X G c_M
  have g_Md := PySem.W.mg_of X G c_Md
  have g_Dg := PySem.W.mg_of X G c_Dg
  have T : BC K mg C := ⟨⟨pgC, hdC, poC, saC⟩, nf0C, PySem.W.mg_of X G aC⟩
  have TF : FC K mg V := ⟨⟨pgV, hdV, poV, saV⟩, nf0V, nf1V, PySem.W.mg_of X G aV⟩
  have hS := PySem.W.mg_none_of X G z_str
  have TQ : NtC K mg Q := ⟨gQ, OQ, nf0Q⟩
  have TN : NfC K mg N := ⟨gN, ON, nf0N⟩
  have R : ErrT K mg Q c1 N c3 c4 c5 := ⟨gc5, gc1, gN, gc3, gc4, PySem.W.mg_none_of X G z_ValueError, kit_no ko5 (kit_no ko1 (kit_no ko2 (kit_no ko3 rfl))), ko4, kov, XCQ, XFQ, teQ⟩
  refine ⟨PySem.W.fnOf "law" "law" (defArgs sLaw) (defBody sLaw) (defScope sLaw) .none kV56 dc56 pm56 an56 cd56 ct56, fun s v => .of_eq rfl, fun base _ _ => ?_⟩
  have HNi : Has l.prog w K mg base "is_integer" 1 ["thing"] spInteger := ⟨f8, _, ok_integer F8 B, m8, k8, b8⟩
  have HB : Has l.prog w K mg base "is_integer_between" 2 ["thing", "low", "high"] spBetween := ⟨f9, _, ok_between F9 B HNi, m9, k9, b9⟩
  have HNiA : Has l.prog w K mg base "is_integer" 1 ["thing"] (K92.X.spIntegerA K) := ⟨f8, _, K92.X.ok_integerA F8 B, m8, k8, b8⟩
  have HBA : Has l.prog w K mg base "is_integer_between" 2 ["thing", "low", "high"] (K92.X.spBetA K) := ⟨f9, _, K92.X.ok_betA F9 B HNiA, m9, k9, b9⟩
  have HZ : Has l.prog w K mg base "is_size" 3 ["thing"] spIsSize := ⟨f12, _, ok_issize F12 ⟨_, g_M⟩ HB, m12, k12, b12⟩
  have HC : HasN l.prog w K mg base "is_cell" 3 "thing" spIsCell := ⟨f13, _, ok_iscell F13 HB, m13, k13, kb13⟩
  have HCA : K92.X.HasCell l.prog w K mg base := ⟨f13, _, K92.X.ok_cellA F13 HBA, m13, k13, kb13⟩
  have HAr : Has l.prog w K mg base "are_cells" 4 ["things", "size"] (spAre K) := ⟨f14, _, ok_are F14 B HC, m14, k14, b14⟩
  have HArA : Has l.prog w K mg base "are_cells" 4 ["things", "size"] (K92.X.spAreC K) := ⟨f14, _, K92.X.ok_areC F14 B HCA, m14, k14, b14⟩
  have HQi : HasNt l.prog w K mg base Q := ⟨fQi, _, ok_nt FQi TQ, iQi, tQi, bQi⟩
  have HNf : HasNf l.prog w K mg base N := ⟨fNi, _, ok_nf FNi TN, iNi, tNi, bNi⟩
  have HE : HasN l.prog w K mg base "cell_tuple" 5 "things" (spCells K) := ⟨f15, _, ok_cells F15 B HAr, m15, k15, kb15⟩
  have HED : HasD l.prog w K mg base "cell_tuple" 5 "things" (spCells K) := ⟨f15, _, ds15, ok_cells F15 B HAr, m15, k15, hd15, bd15⟩
  have HO : Has l.prog w K mg base "share_odd" 2 ["one", "other"] (spShare K) := ⟨f17, _, ok_share F17 B, m17, k17, b17⟩
  have HI : HasIni l.prog w K mg base C := ⟨fI, _, ok_init FI B T HZ HE, mkI, kbI2, kbI1, e, dsI, fun H => .inr ⟨_, #[], _, le, rfl, rfl, Nat.zero_le _, .nil⟩, hdI, bI⟩
  have HJ : HasFN l.prog w K mg base V N := ⟨fJ, _, ok_fn FJ B TF TN HED HO HNf, ⟨mkV, aJ, nJ, kcV⟩, bJ⟩
  have HWc : Has l.prog w K mg base "written_cells" 2 ["cells"] (spWritten K) := ⟨f18, _, ok_written F18 hS, m18, k18, b18⟩
  have ST : HasS l.prog w K mg base C "__str__" 2 (spStrB C) := ⟨fB3, _, ok_strB FB3 hS T, aB3, nB3, bB3⟩
  have VT : HasS l.prog w K mg base V "__str__" 3 (spStrF V) := ⟨fg5, _, ok_strF Fg5 TF HWc, ag5, ng5, bg5⟩
  have HNu : Has l.prog w K mg base "number_in" 2 ["text"] spNum := ⟨fp0, _, ok_num Fp0 B ⟨_, g_Dg⟩ ⟨_, g_Md⟩, mp0, kp0, bp0⟩
  have HCi : Has l.prog w K mg base "cells_in" 5 ["text"] (spCin K) := ⟨fp7, _, ok_cin Fp7 B hS ⟨_, g_M⟩ HNu HArA, mp7, kp7, bp7⟩
  have HFi : Has l.prog w K mg base "flip_in" 8 ["text"] (spFin K V) := ⟨fp8, _, ok_fin Fp8 B hS TF TN mmN HCi HJ, mp8, kp8, bp8⟩
  have HBi : Has l.prog w K mg base "board_in" 8 ["text"] (spBin K C) := ⟨fp9, _, ok_bin Fp9 B hS ⟨_, g_M⟩ T HI, mp9, kp9, bp9⟩
  have HCt : Has l.prog w K mg base "cells_text" 6 ["cells"] (spCt K) := ⟨fp1, _, ok_ct Fp1 HED HWc, mp1, kp1, bp1⟩
  have HFt : Has l.prog w K mg base "flip_text" 6 ["flip"] (spStrF V) := ⟨fp2, _, ok_ft Fp2 hS VT, mp2, kp2, bp2⟩
  have HBt : Has l.prog w K mg base "board_text" 5 ["board"] (spStrB C) := ⟨fp3, _, ok_bt Fp3 hS ST, mp3, kp3, bp3⟩
  have HRc : HasX l.prog w K mg base "read_cells" 6 ["text"] (spRc K Q) := ⟨fp4, _, ok_rc Fp4 TQ HQi HCi, mp4, kp4, bp4⟩
  have HRf : HasX l.prog w K mg base "read_flip" 9 ["text"] (spRf K V Q) := ⟨fp5, _, ok_rf Fp5 TQ HQi HFi, mp5, kp5, bp5⟩
  have HRb : HasX l.prog w K mg base "read_board" 9 ["text"] (spRb K C Q) := ⟨fp6, _, ok_rb Fp6 TQ HQi HBi, mp6, kp6, bp6⟩
  have HP : Has l.prog w K mg base "_law_pot" 2 ["_law_script", "_law_k"] (spPot K) := ⟨f37, _, ok_pot F37 B, m37, k37, b37⟩
  have HD : Has l.prog w K mg base "_law_draw" 2 ["_law_pot_here", "_law_many"] spDraw := ⟨f38, _, ok_draw F38 B, m38, k38, b38⟩
  have HWd : Has l.prog w K mg base "_law_width" 3 ["_law_pot_here", "_law_most"] spWidth := ⟨f39, _, ok_width F39 B HD, m39, k39, b39⟩
  have HS : Has l.prog w K mg base "_law_spots" 3 ["_law_pot_here", "_law_least", "_law_width_here"] spSpots := ⟨f40, _, ok_spots F40 B HD, m40, k40, b40⟩
  have HPr : Has l.prog w K mg base "_law_pair" 4 ["_law_pot_here", "_law_width_here"] spPairL := ⟨f41, _, ok_pair F41 B HD HS, m41, k41, b41⟩
  have HT : Has l.prog w K mg base "_law_bits" 3 ["_law_pot_here", "_law_width_here"] spBits := ⟨f42, _, ok_bits F42 B HD, m42, k42, b42⟩
  have HTo : Has l.prog w K mg base "_law_text_of" 2 ["_law_spots_here"] spTo := ⟨f49, _, ok_to F49 B hS, m49, k49, b49⟩
  have HPt : Has l.prog w K mg base "_law_pair_text" 3 ["_law_pair_here"] (spPt K) := ⟨f50, _, ok_pt F50 HTo, m50, k50, b50⟩
  have HBx : Has l.prog w K mg base "_law_bits_text" 2 ["_law_bits_here"] spBx := ⟨f51, _, ok_bx F51 hS, m51, k51, b51⟩
  have HAc : Has l.prog w K mg base "_law_are_cells" 2 ["_law_text"] spAc := ⟨f60, _, ok_ac F60 B, m60, k60, b60⟩
  have HOs : Has l.prog w K mg base "_law_own_spots" 2 ["_law_text"] spOs := ⟨f61, _, ok_os F61 B, m61, k61, b61⟩
  have HIf : Has l.prog w K mg base "_law_is_flip" 3 ["_law_text"] spIf := ⟨f62, _, ok_if F62 B HAc HOs, m62, k62, b62⟩
  have HIb : Has l.prog w K mg base "_law_is_board" 3 ["_law_text"] spIb := ⟨f63, _, ok_ib F63 B, m63, k63, b63⟩
  have HRd : HasX l.prog w K mg base "_law_read" 10 ["_law_door", "_law_text"] (spRd K Q) := ⟨f64, _, ok_rd F64 HRc HRf HRb HCt HFt HBt, m64, k64, b64⟩
  have HTd : Has l.prog w K mg base "_law_told" 11 ["_law_door", "_law_text"] (spTd K) := ⟨f65, _, ok_told F65 B TQ R HRd, m65, k65, b65⟩
  have HDu : Has l.prog w K mg base "_law_due" 4 ["_law_door", "_law_text"] (spTd K) := ⟨f66, _, ok_due F66 B hS HAc HIf HIb, m66, k66, b66⟩
  have HBe : Has l.prog w K mg base "_law_bent" 3 ["_law_pot_here", "_law_text"] spBe := ⟨f67, _, ok_be F67 B hS HD, m67, k67, b67⟩
  exact ok_law F56 B HP HD HWd HPr HTo HPt HBx HT HBe HTd HDu
end K92
open PySem PySem.W PyProof.Rows
set_option maxRecDepth 100000 in
set_option maxHeartbeats 0 in
theorem PySem.Challenge.cw_paritycells_k92_whole_texts_spoilt_holds : PySem.Challenge.rw_paritycells_k92_whole_texts_spoilt.Holds := by
  w_on; o_law; k_head; (case hw => w_witness2)
  k_fill
  refine Par.walkG (l := PySem.Challenge.rw_paritycells_k92_whole_texts_spoilt) (k := 12) (x := "_law_script") (sp := K92.spLaw) rfl (by decide) rfl ⟨rfl, by decide, by decide⟩ (fun w h Y => PySem.W.kIn_of Y) ?F (fun K H a ns hl _ hS => ⟨a, ns, rfl, hS, hl, fun _ => rfl⟩)
  case F =>
    intro w mg fa h KX G hmg
    refine' K92.all_mk KX G hmg ?q_a8 ?q_l8 ?q_c8 ?q_k8 ?q_a9 ?q_l9 ?q_c9 ?q_k9 ?q_a12 ?q_l12 ?q_c12 ?q_k12 ?q_a14 ?q_l14 ?q_c14 ?q_k14 ?q_a17 ?q_l17 ?q_c17 ?q_k17 ?q_a18 ?q_l18 ?q_c18 ?q_k18 ?q_ap1 ?q_lp1 ?q_cp1 ?q_kp1 ?q_ap2 ?q_lp2 ?q_cp2 ?q_kp2 ?q_ap3 ?q_lp3 ?q_cp3 ?q_kp3 ?q_ap4 ?q_lp4 ?q_cp4 ?q_kp4 ?q_ap5 ?q_lp5 ?q_cp5 ?q_kp5 ?q_ap6 ?q_lp6 ?q_cp6 ?q_kp6 ?q_ap7 ?q_lp7 ?q_cp7 ?q_kp7 ?q_ap8 ?q_lp8 ?q_cp8 ?q_kp8 ?q_ap9 ?q_lp9 ?q_cp9 ?q_kp9 ?q_ap0 ?q_lp0 ?q_cp0 ?q_kp0 ?q_a37 ?q_l37 ?q_c37 ?q_k37 ?q_a38 ?q_l38 ?q_c38 ?q_k38 ?q_a39 ?q_l39 ?q_c39 ?q_k39 ?q_a40 ?q_l40 ?q_c40 ?q_k40 ?q_a41 ?q_l41 ?q_c41 ?q_k41 ?q_a42 ?q_l42 ?q_c42 ?q_k42 ?q_a49 ?q_l49 ?q_c49 ?q_k49 ?q_a50 ?q_l50 ?q_c50 ?q_k50 ?q_a51 ?q_l51 ?q_c51 ?q_k51 ?q_a60 ?q_l60 ?q_c60 ?q_k60 ?q_a61 ?q_l61 ?q_c61 ?q_k61 ?q_a62 ?q_l62 ?q_c62 ?q_k62 ?q_a63 ?q_l63 ?q_c63 ?q_k63 ?q_a64 ?q_l64 ?q_c64 ?q_k64 ?q_a65 ?q_l65 ?q_c65 ?q_k65 ?q_a66 ?q_l66 ?q_c66 ?q_k66 ?q_a67 ?q_l67 ?q_c67 ?q_k67 ?q_a56 ?q_l56 ?q_c56 ?q_k56 ?q_a13 ?q_l13 ?q_d13 ?q_c13 ?q_k13 ?q_a15 ?q_l15 ?q_d15 ?q_c15 ?q_k15 ?q_aC ?q_pgC ?q_hdC ?q_poC ?q_saC ?q_mkC ?q_kcC ?q_nf0C ?q_iI ?q_nI ?q_lI ?q_dI ?q_le ?q_cI ?q_kI ?q_aB3 ?q_nB3 ?q_lB3 ?q_cB3 ?q_kB3 ?q_aV ?q_pgV ?q_hdV ?q_poV ?q_saV ?q_mkV ?q_kcV ?q_nf0V ?q_nf1V ?q_aJ ?q_nJ ?q_lJ ?q_cJ ?q_kJ ?q_ag5 ?q_ng5 ?q_lg5 ?q_cg5 ?q_kg5 ?q_aQ ?q_xQ ?q_rvQ ?q_saQ ?q_exQ ?q_tyQ ?q_kpQ ?q_nf0Q ?q_iQi ?q_tQi ?q_lQi ?q_cQi ?q_kQi ?q_gaQ ?q_ggQ ?q_xdQ ?q_haQ ?q_hnQ ?q_htQ ?q_hmQ ?q_teQ ?q_aN ?q_xN ?q_rvN ?q_saN ?q_exN ?q_tyN ?q_kpN ?q_nf0N ?q_iNi ?q_tNi ?q_lNi ?q_cNi ?q_kNi ?q_mmN ?q_ac1 ?q_ac3 ?q_ac4 ?q_ac5 ?q_s5 ?q_hc5 ?q_tc5 ?q_nc5 ?q_s1 ?q_hc1 ?q_tc1 ?q_nc1 ?q_s2 ?q_hc2 ?q_tc2 ?q_nc2 ?q_s3 ?q_hc3 ?q_tc3 ?q_nc3 ?q_s4 ?q_hc4 ?q_tc4 ?q_nc4 ?q_sv ?q_c_M ?q_c_Md ?q_c_Dg ?q_z_len ?q_z_abs ?q_z_max ?q_z_min ?q_z_divmod ?q_z_list ?q_z_tuple ?q_z_range ?q_z_isinstance ?q_z_bool ?q_z_int ?q_z_sorted ?q_z_set ?q_z_all ?q_z_enumerate ?q_z_repr ?q_z_sum ?q_z_str ?q_z_ValueError
    (case q_a8 => k_is)
    (case q_l8 => k_is)
    (case q_c8 => k_is)
    (case q_k8 => k_is)
    (case q_a9 => k_is)
    (case q_l9 => k_is)
    (case q_c9 => k_is)
    (case q_k9 => k_is)
    (case q_a12 => k_is)
    (case q_l12 => k_is)
    (case q_c12 => k_is)
    (case q_k12 => k_is)
    (case q_a14 => k_is)
    (case q_l14 => k_is)
    (case q_c14 => k_is)
    (case q_k14 => k_is)
    (case q_a17 => k_is)
    (case q_l17 => k_is)
    (case q_c17 => k_is)
    (case q_k17 => k_is)
    (case q_a18 => k_is)
    (case q_l18 => k_is)
    (case q_c18 => k_is)
    (case q_k18 => k_is)
    (case q_ap1 => k_is)
    (case q_lp1 => k_is)
    (case q_cp1 => k_is)
    (case q_kp1 => k_is)
    (case q_ap2 => k_is)
    (case q_lp2 => k_is)
    (case q_cp2 => k_is)
    (case q_kp2 => k_is)
    (case q_ap3 => k_is)
    (case q_lp3 => k_is)
    (case q_cp3 => k_is)
    (case q_kp3 => k_is)
    (case q_ap4 => k_is)
    (case q_lp4 => k_is)
    (case q_cp4 => k_is)
    (case q_kp4 => k_is)
    (case q_ap5 => k_is)
    (case q_lp5 => k_is)
    (case q_cp5 => k_is)
    (case q_kp5 => k_is)
    (case q_ap6 => k_is)
    (case q_lp6 => k_is)
    (case q_cp6 => k_is)
    (case q_kp6 => k_is)
    (case q_ap7 => k_is)
    (case q_lp7 => k_is)
    (case q_cp7 => k_is)
    (case q_kp7 => k_is)
    (case q_ap8 => k_is)
    (case q_lp8 => k_is)
    (case q_cp8 => k_is)
    (case q_kp8 => k_is)
    (case q_ap9 => k_is)
    (case q_lp9 => k_is)
    (case q_cp9 => k_is)
    (case q_kp9 => k_is)
    (case q_ap0 => k_is)
    (case q_lp0 => k_is)
    (case q_cp0 => k_is)
    (case q_kp0 => k_is)
    (case q_a37 => k_is)
    (case q_l37 => k_is)
    (case q_c37 => k_is)
    (case q_k37 => k_is)
    (case q_a38 => k_is)
    (case q_l38 => k_is)
    (case q_c38 => k_is)
    (case q_k38 => k_is)
    (case q_a39 => k_is)
    (case q_l39 => k_is)
    (case q_c39 => k_is)
    (case q_k39 => k_is)
    (case q_a40 => k_is)
    (case q_l40 => k_is)
    (case q_c40 => k_is)
    (case q_k40 => k_is)
    (case q_a41 => k_is)
    (case q_l41 => k_is)
    (case q_c41 => k_is)
    (case q_k41 => k_is)
    (case q_a42 => k_is)
    (case q_l42 => k_is)
    (case q_c42 => k_is)
    (case q_k42 => k_is)
    (case q_a49 => k_is)
    (case q_l49 => k_is)
    (case q_c49 => k_is)
    (case q_k49 => k_is)
    (case q_a50 => k_is)
    (case q_l50 => k_is)
    (case q_c50 => k_is)
    (case q_k50 => k_is)
    (case q_a51 => k_is)
    (case q_l51 => k_is)
    (case q_c51 => k_is)
    (case q_k51 => k_is)
    (case q_a60 => k_is)
    (case q_l60 => k_is)
    (case q_c60 => k_is)
    (case q_k60 => k_is)
    (case q_a61 => k_is)
    (case q_l61 => k_is)
    (case q_c61 => k_is)
    (case q_k61 => k_is)
    (case q_a62 => k_is)
    (case q_l62 => k_is)
    (case q_c62 => k_is)
    (case q_k62 => k_is)
    (case q_a63 => k_is)
    (case q_l63 => k_is)
    (case q_c63 => k_is)
    (case q_k63 => k_is)
    (case q_a64 => k_is)
    (case q_l64 => k_is)
    (case q_c64 => k_is)
    (case q_k64 => k_is)
    (case q_a65 => k_is)
    (case q_l65 => k_is)
    (case q_c65 => k_is)
    (case q_k65 => k_is)
    (case q_a66 => k_is)
    (case q_l66 => k_is)
    (case q_c66 => k_is)
    (case q_k66 => k_is)
    (case q_a67 => k_is)
    (case q_l67 => k_is)
    (case q_c67 => k_is)
    (case q_k67 => k_is)
    (case q_a56 => k_is)
    (case q_l56 => k_is)
    (case q_c56 => k_is)
    (case q_k56 => k_is)
    (case q_a13 => k_is)
    (case q_l13 => k_is)
    (case q_d13 => k_is)
    (case q_c13 => k_is)
    (case q_k13 => k_is)
    (case q_a15 => k_is)
    (case q_l15 => k_is)
    (case q_d15 => k_is)
    (case q_c15 => k_is)
    (case q_k15 => k_is)
    (case q_aC => k_is)
    (case q_pgC => k_is)
    (case q_hdC => k_is)
    (case q_poC => k_is)
    (case q_saC => k_is)
    (case q_mkC => k_is)
    (case q_kcC => k_is)
    (case q_nf0C => k_is)
    (case q_iI => k_is)
    (case q_nI => k_is)
    (case q_lI => k_is)
    (case q_dI => k_is)
    (case q_le => k_is)
    (case q_cI => k_is)
    (case q_kI => k_is)
    (case q_aB3 => k_is)
    (case q_nB3 => k_is)
    (case q_lB3 => k_is)
    (case q_cB3 => k_is)
    (case q_kB3 => k_is)
    (case q_aV => k_is)
    (case q_pgV => k_is)
    (case q_hdV => k_is)
    (case q_poV => k_is)
    (case q_saV => k_is)
    (case q_mkV => k_is)
    (case q_kcV => k_is)
    (case q_nf0V => k_is)
    (case q_nf1V => k_is)
    (case q_aJ => k_is)
    (case q_nJ => k_is)
    (case q_lJ => k_is)
    (case q_cJ => k_is)
    (case q_kJ => k_is)
    (case q_ag5 => k_is)
    (case q_ng5 => k_is)
    (case q_lg5 => k_is)
    (case q_cg5 => k_is)
    (case q_kg5 => k_is)
    (case q_aQ => k_is)
    (case q_xQ => k_is)
    (case q_rvQ => decide +kernel)
    (case q_saQ => k_is)
    (case q_exQ => first | rfl | k_is)
    (case q_tyQ => k_is)
    (case q_kpQ => k_is)
    (case q_nf0Q => k_is)
    (case q_iQi => k_is)
    (case q_tQi => k_is)
    (case q_lQi => k_is)
    (case q_cQi => k_is)
    (case q_kQi => k_is)
    (case q_gaQ => k_is)
    (case q_ggQ => k_is)
    (case q_xdQ => k_is)
    (case q_haQ => k_is)
    (case q_hnQ => k_is)
    (case q_htQ => k_is)
    (case q_hmQ => k_is)
    (case q_teQ => first | rfl | k_is)
    (case q_aN => k_is)
    (case q_xN => k_is)
    (case q_rvN => decide +kernel)
    (case q_saN => k_is)
    (case q_exN => first | rfl | k_is)
    (case q_tyN => k_is)
    (case q_kpN => k_is)
    (case q_nf0N => k_is)
    (case q_iNi => k_is)
    (case q_tNi => k_is)
    (case q_lNi => k_is)
    (case q_cNi => k_is)
    (case q_kNi => k_is)
    (case q_mmN => first | rfl | k_is)
    (case q_ac1 => k_is)
    (case q_ac3 => k_is)
    (case q_ac4 => k_is)
    (case q_ac5 => k_is)
    (case q_s5 => k_is)
    (case q_hc5 => k_is)
    (case q_tc5 => k_is)
    (case q_nc5 => decide)
    (case q_s1 => k_is)
    (case q_hc1 => k_is)
    (case q_tc1 => k_is)
    (case q_nc1 => decide)
    (case q_s2 => k_is)
    (case q_hc2 => k_is)
    (case q_tc2 => k_is)
    (case q_nc2 => decide)
    (case q_s3 => k_is)
    (case q_hc3 => k_is)
    (case q_tc3 => k_is)
    (case q_nc3 => decide)
    (case q_s4 => k_is)
    (case q_hc4 => k_is)
    (case q_tc4 => k_is)
    (case q_nc4 => decide)
    (case q_sv => k_is)
    (case q_c_M => k_is)
    (case q_c_Md => k_is)
    (case q_c_Dg => k_is)
    (case q_z_len => k_is)
    (case q_z_abs => k_is)
    (case q_z_max => k_is)
    (case q_z_min => k_is)
    (case q_z_divmod => k_is)
    (case q_z_list => k_is)
    (case q_z_tuple => k_is)
    (case q_z_range => k_is)
    (case q_z_isinstance => k_is)
    (case q_z_bool => k_is)
    (case q_z_int => k_is)
    (case q_z_sorted => k_is)
    (case q_z_set => k_is)
    (case q_z_all => k_is)
    (case q_z_enumerate => k_is)
    (case q_z_repr => k_is)
    (case q_z_sum => k_is)
    (case q_z_str => k_is)
    (case q_z_ValueError => k_is)
