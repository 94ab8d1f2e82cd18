import PyProof.Rows.All
import Wide.All
import OpenK.AllK
import Wide.FinOn
import HandS.ForMost
import HandS.ForExc
import HandS.ExcInit
import HandS.ExcIs
import HandS.ExcField
import HandS.IsInst
import HandS.Defaults
import HandS.SortInts
import HandS.SetFor
import HandS.More
import HandS.Conv
import HandS.WideBits
import HandS.TupAny
import HandS.SuiteRaise
import HandS.TryMany
import HandS.Strs
import KE.GoesMore
import HandS.Walk
import HandS.MakeKw
import HandS.MakeKwOnly
import HandS.SortKw
import KE.KExcIs
import HandS.CallSlots
import KE.KExcInit
import HandS.OwnEq
import PyProof.InstNe
import HandS.FStr
import KE.KCallOwn
import PyProof.ReprRoads
import HandS.Flow
import HandS.Rev
import HandS.Style
import PyProof.ListNew
import PyProof.Rows.ReprOcc
import KE.DataEq
import PyProof.ReprReads
import PyProof.ReprNest
import PyProof.EqKinds
import PyProof.FactsAll.dict
import HandS.DictSub
import PySem.Challenge.RW_paritycells_k49_depths_by_turns
set_option Elab.async false
set_option linter.all false
set_option maxRecDepth 100000
set_option maxHeartbeats 4000000
namespace Par
open PySem PySem.Spec PyProof.Rows L2

/-! A def's promise where nothing is being shown by repr around it: the guards are known to be none. -/
structure FnG (P : Program) (w : World) (K : PySem.W.Frag) (mg : Str → Option Value) (base : Heap) (CX : CXT) (k : Nat)
    (f : Addr) (fd : FuncData) (ps : List Str) (sp : Sp) : Prop where
  arity : ∀ vs H Q E, sp vs H Q E → vs.length = ps.length
  go : ∀ (A : Around) (outer : List Env) (s : Shared) (H : Hp) (args : Args) (us : List Value) (vs : List V) (Q : VK) (E : XK),
    A.guards = some [] → Room k A → Env0 P w K mg base A outer s H → BindsTo s fd args (ps.zip us) → Vals vs us →
    sp vs H Q E → codeAny (model P w) A (.call (.ref f) args) (CR CX outer P w H s Q E) s

section
variable {P : Program} {w : World} {K : PySem.W.Frag} {mg : Str → Option Value} {base : Heap}

theorem fnG_of {k : Nat} {x qual : Str} {st : Stmt} {f : Addr} {fd : FuncData} {N ps : List Str} {sp : Sp}
    (F : Fun K x qual st f fd) (S : FnScope N ps (defScope st))
    (arity : ∀ vs H Q E, sp vs H Q E → vs.length = ps.length)
    (body : ∀ (cdv : Value) (A : Around) (outer : List Env) (s : Shared) (H : Hp) (vs : List V) (Q : VK) (E : XK),
      A.guards = some [] → Room k (A.deeper (envOfC qual (defScope st) s.heap.objs.size f cdv)) → sp vs H Q E →
      ∃ t, PSs (cxOf CX0 P w K mg base N qual (defScope st) f cdv A outer s H E).nox (defBody st) t ∧
        t { nx := fun _ H' => Q .non H', rt := Q } (start N vs) H) :
    FnG P w K mg base CX0 (k + 1) f fd ps sp := by
  obtain ⟨oc, od, kV, doc, pm, an, cdv, ct, osl, efd, lk, hcd⟩ := F.ex
  subst efd
  constructor
  · exact arity
  intro A outer s H args us vs Q E gs room e0 bound rel hsp
  have lens := arity _ _ _ _ hsp
  have kin : K.In s.heap := e0.mod.kin.keeps (fun b o z => (e0.bs b o z).1)
  have nolim : s.heap.NoLimit := e0.mod.nolimit.keeps (fun b o z => (e0.bs b o z).1)
  have kinds : ∀ y ∈ ps.zip us, (defScope st).names.lookup y.1 = some .local ∨ ((defScope st).names.lookup y.1 = some .cell ∧
      ((cellsFrom (s.heap.objs.size + 1) (defScope st).names []).lookup y.1).isSome = true) := by
    rintro ⟨n, v⟩ hy
    cases S.par n (List.of_mem_zip hy).1 with
    | inl q => exact Or.inl q
    | inr q => exact Or.inr ⟨q, PySem.W.cellsFrom_some _ _ _ (Or.inl q)⟩
  refine codeAny_call_function room.depth (kin _ _ lk) rfl S.co S.gen rfl (PySem.W.codeRec_of kin hcd) (bound _ _ _ _ ?_)
  refine wpAny_newFunctionEnv_cells S.kind kinds ?_
  intro env he s1 x1
  subst he
  refine ⟨nolim.keeps x1.toInCall.keep, codeAny_func ?_⟩
  obtain ⟨t, ht, hq⟩ := body cdv A outer s H vs Q E gs (room.deeper _) hsp
  have I := inv_start (CX := CX0) (E := E) (w := w) S room.hd e0 lens rel x1
  refine wpAny_mono (ht.nox.run [] s1 (start N vs) H _ I hq) ?_ (fun e s' hs => hs)
  intro fl s' hs
  cases fl with
  | ret u =>
    obtain ⟨v, σ1, H1, J, rv, q⟩ := hs
    exact ⟨v, H1, J.os, J.bare, J.base, J.hok, rv, q⟩
  | next =>
    obtain ⟨σ1, H1, J, q⟩ := hs
    exact ⟨V.non, H1, J.os, J.bare, J.base, J.hok, rfl, q⟩
  | brk => exact (let ⟨_, _, _, q⟩ := hs; False.elim q)
  | cont => exact (let ⟨_, _, _, q⟩ := hs; False.elim q)
end

section
variable {X : Cx} {CX : CXT} {k : Nat} {f : Addr} {fd : FuncData} {ps : List Str} {sp : Sp} {x : Str} {p pos : Pos} {e : Expr} {es : List Expr} {t : TA} {E : XK}

/-- f(e, ..) of such a def, called where the guards are none -/
theorem pe_callG (F : FnG X.prog X.w X.K X.mg X.base CX k f fd ps sp) (gs : X.A.guards = some []) (hr : Room k X.A) (hg : Gl X x)
    (hm : X.mg x = some (.ref f)) (hk : PySem.W.keepIn X.K (.ref f) = true) (hb : Binds X.K fd ps []) (hx : Passes CX X E) (ha : PA X (e :: es) t)
    (hdb : (x == ("__debug__" : Str)) = false := by decide)
    (he : starEach (e :: es) X.env = (false, eval e X.env) :: starEach es X.env := by rfl)
    (hpl : (backTo pos (starEach es X.env)).any (·.1) = false := by rfl) :
    PE X (.Call (.Name x p) (e :: es) [] pos) (tCall sp [] E t) := by
  constructor
  intro pins s σ H Q I h
  refine wpAny_Call_Name_kw (ld_glob I hg hm ?_ hdb)
  refine PySem.W.callWith_K (h₀ := X.base) I.ok.mod.kin hk (thn (ha.run pos pins s σ H _ I h) ?_) he hpl
  rintro us s1 ⟨vs, H1, I1, r, q⟩
  refine ⟨I1.kIn, ?_⟩
  rw [List.append_nil] at q
  have hl : (us ++ []).length = ps.length := by
    rw [List.append_nil, ← r.length]
    exact F.arity _ _ _ _ q
  have hbi := hb s1 us I1.kIn hl
  rw [List.append_nil] at hbi
  refine wpAny_call (codeAny_mono (F.go X.A X.stack s1 H1 ⟨us, []⟩ us vs Q E gs hr I1.env0 hbi r q) ?_)
  intro res s' hq
  cases res with
  | error er => exact hx pins σ H1 s1 er s' I1 hq
  | ok fl =>
    cases fl with
    | ret u => exact I1.after hq
    | next => exact False.elim hq
    | brk => exact False.elim hq
    | cont => exact False.elim hq
end

/-- the law's end over such a promise -/
theorem law_callG {P : Program} {w : World} {K : PySem.W.Frag} {mg mb : Str → Option Value} {k : Nat} {fa a : Addr} {fd : FuncData} {x : Str} {sp : Sp}
    {s1 : Shared} {vs : List Value} {ns : List Int}
    (KX : K.In s1.heap) (hns : s1.heap.Ns mainGlobals mg) (hb : s1.heap.Ns builtinsNs mb)
    (hbb : ∀ x : Str, x ≠ "__name__" → mb x = bootBuiltins x) (hlim : s1.heap.NoLimit) (hg : s1.gens = #[])
    (ha : s1.heap.get? a = some { cls := .type "list", data := .seq vs.toArray }) (hi : IntsAre vs ns) (hl : ns.length ≤ sizeLine) (hr : Room k callerA)
    (F : ∀ base : Heap, K.In base → base.Ns mainGlobals mg → FnG P w K mg base CX0 k fa fd [x] sp)
    (hbind : ∀ (s : Shared) (u : Value), BindsTo s fd ⟨[u], []⟩ [(x, u)])
    (hsp : ∀ H : Hp, Only H → SqL K H a (ns.map V.int) → sp [.ref a] H (fun v _ => v = .bl true) fun _ _ _ => False) :
    codeAny (model P w) callerA (.call (.ref fa) ⟨[.ref a], []⟩)
      (fun r s' => r = .ok (.ret (.bool true)) ∧ OldK s1.heap s'.heap ∧ s'.os = s1.os ∧ AllBare s'.gens) s1 := by
  have rv := vals_ints hi
  have lenV := hi.length
  have core : ∀ H : Hp, Only H → SqL K H a (ns.map V.int) → HOk P w H s1.heap → (∀ b, H b ≠ none → b = a) →
      (H a ≠ none → K.lookup a = none) → codeAny (model P w) callerA (.call (.ref fa) ⟨[.ref a], []⟩)
      (fun r s' => r = .ok (.ret (.bool true)) ∧ OldK s1.heap s'.heap ∧ s'.os = s1.os ∧ AllBare s'.gens) s1 := by
    intro H only sq ok only_a out_a
    have un_dict : ∀ {b : Addr} {o : Obj} {es : Array DictEntry} {ep : Nat}, s1.heap.get? b = some o → o.data = .dict es ep → H b = none := by
      intro b o es ep e d
      cases q : H b with
      | none => rfl
      | some u =>
        have e' : b = a := only_a b (by rw [q]; simp)
        rw [e', ha] at e
        cases e
        exact nomatch d
    have ns_of : ∀ {b : Addr} {m : Str → Option Value}, s1.heap.Ns b m → (hidT s1.heap H).Ns b m := by
      rintro b m ⟨o, es, ep, e, d, r⟩
      exact ⟨o, es, ep, hidT_get e (un_dict e d), d, r⟩
    have kin : K.In (hidT s1.heap H) := by
      intro b o e
      refine hidT_get (KX b o e) ?_
      cases q : H b with
      | none => rfl
      | some u =>
        have e' : b = a := only_a b (by rw [q]; simp)
        rw [e'] at q e
        rw [out_a (by rw [q]; simp)] at e
        cases e
    have md : Mod K mg (hidT s1.heap H) := by
      obtain ⟨mc, h1, h2⟩ := hlim
      exact ⟨kin, ns_of hns, ⟨mb, ns_of hb, hbb⟩, ⟨mc, ns_of h1, h2⟩⟩
    have e0 : Env0 P w K mg (hidT s1.heap H) callerA [] s1 H := by
      refine ⟨rfl, md, fun b o e => of_hidT e, Nat.le_of_eq (hidT_size _ _), trivial, ?_, ok, .of_eq hg⟩
      intro b z
      exact absurd (show b ∈ ([] : List Addr) from z) (by simp)
    refine codeAny_mono ((F _ kin (ns_of hns)).go callerA [] s1 H ⟨[.ref a], []⟩ [.ref a] [.ref a] _ _ rfl hr e0
      (hbind s1 (.ref a)) (.cons rfl .nil) (hsp H only sq)) ?_
    intro r s' h
    cases r with
    | error e => exact False.elim h
    | ok fl =>
      cases fl with
      | next => exact False.elim h
      | brk => exact False.elim h
      | cont => exact False.elim h
      | ret u =>
        obtain ⟨v, H1, os, bare, un, ok1, rel, q⟩ := h
        have q' : v = .bl true := q
        subst q'
        obtain rfl : u = Value.bool true := rel
        refine ⟨rfl, OldK.of_keep ?_, os, bare⟩
        intro b o e
        cases q : H b with
        | none => exact un.keep b o e q (fun z => absurd (show b ∈ ([] : List Addr) from z) (by simp)) (by simp)
        | some u =>
          rcases only b with z | ⟨ob, xs, z⟩
          · rw [q] at z
            cases z
          · have z2 := un.frzs b ob _ z
            have e1 := (ok b _ z).1
            have e2 := (ok1 b _ z2).1
            rw [e] at e1
            cases e1
            exact e2
  cases hk : K.lookup a with
  | some o =>
    have e := KX a o hk
    rw [ha] at e
    cases e
    refine core (fun _ => none) (fun _ => .inl rfl) (.inr ⟨_, vs.toArray, _, hk, rfl, rfl, rfl, ?_, by simpa using rv⟩) ?_ (fun b z => absurd rfl z) (fun z => absurd rfl z)
    · rw [List.size_toArray, lenV]
      exact hl
    · intro b u z
      exact nomatch (show (none : Option HO) = some u from z)
  | none =>
    refine core (fun b => if b = a then some (.frz { cls := .type "list", data := .seq vs.toArray } (.lst (ns.map V.int))) else none) ?_ (.inl (.inr ⟨_, if_pos rfl⟩)) ?_ ?_ (fun _ => hk)
    · intro b
      by_cases hb : b = a
      · exact .inr ⟨_, _, if_pos hb⟩
      · exact .inl (if_neg hb)
    · intro b u z
      by_cases hb : b = a
      · have z1 := (if_pos hb).symm.trans z
        cases z1
        subst hb
        exact ⟨ha, by rw [List.length_map]; exact hl, vs, _, rv, ha⟩
      · have z1 := (if_neg hb).symm.trans z
        cases z1
    · intro b z
      by_cases hb : b = a
      · exact hb
      · exact absurd (if_neg hb) z

theorem walkG {l : PySem.W.OpenLaw} {n k : Nat} {q : Program} {loose : List Str} {XP : (Str → Option Value) → Heap → Prop} {YP : World → Heap → Prop}
    {d : DefRec} {K : Params → PySem.W.Frag} {sp : PySem.W.Frag → Sp} {x : Str}
    (hn : l.most = some n) (hn2 : n ≤ sizeLine) (hdf : d.params.defaults = []) (hr : Room k callerA)
    (hY : ∀ (w : World) (h : Heap), YP w h → (K w.params).In h)
    (F : ∀ (w : World) (mg : Str → Option Value) (fa : Addr) (h : Heap), (K w.params).In h → h.Ns mainGlobals mg → mg d.name = some (.ref fa) →
      ∃ fd : FuncData, (∀ (s : Shared) (u : Value), BindsTo s fd ⟨[u], []⟩ [(x, u)]) ∧
        ∀ base : Heap, (K w.params).In base → base.Ns mainGlobals mg → FnG l.prog w (K w.params) mg base CX0 k fa fd [x] (sp (K w.params)))
    (hsp : ∀ (K : PySem.W.Frag) (H : Hp) (a : Addr) (ns : List Int), ns.length ≤ n → Only H → SqL K H a (ns.map V.int) →
      sp K [.ref a] H (fun v _ => v = .bl true) fun _ _ _ => False) :
    PySem.W.WalkO q loose XP YP l.row.toRowW d [] (fun f vs => PySem.call f vs) := by
  refine Att.attach_call hn hdf ?_
  intro w s0 s1 mg mb fa o pm cd doc a vs ns G Y ho hd hcd hmg hobj hints hlen hg
  have KX := hY w _ Y
  obtain ⟨fd, hb, hF⟩ := F w mg fa _ KX G.T.g hmg
  exact law_callG KX G.T.g G.T.b G.T.builtins G.T.nolimit hg hobj hints (Nat.le_trans hlen hn2) hr hF hb
    (fun H hO hS => hsp _ H a ns hlen hO hS)
end Par
namespace Par
open PySem PySem.Spec PyProof.Rows L2

/-! ### how many distinct items there are -/
theorem nodup_le : ∀ {L M : List Int}, L.Nodup → (∀ k ∈ L, k ∈ M) → L.length ≤ M.length
  | [], M, _, _ => Nat.zero_le _
  | a :: L, M, hn, hs => by
    have ha : a ∈ M := hs a (List.mem_cons_self ..)
    have h1 := nodup_le (L := L) (M := M.erase a) (List.nodup_cons.mp hn).2 (fun k hk => by
      have hka : k ≠ a := fun e => (List.nodup_cons.mp hn).1 (e ▸ hk)
      exact (List.mem_erase_of_ne hka).mpr (hs k (List.mem_cons_of_mem _ hk)))
    have h2 := List.length_erase_of_mem ha
    have h3 : 0 < M.length := List.length_pos_of_mem ha
    show L.length + 1 ≤ M.length
    omega
theorem nodup_lt : ∀ {M L : List Int}, L.Nodup → (∀ k ∈ L, k ∈ M) → ¬ M.Nodup → L.length < M.length
  | [], _, _, _, h => absurd List.nodup_nil h
  | a :: M, L, hn, hs, hM => by
    by_cases ha : a ∈ M
    · have h := nodup_le (L := L) (M := M) hn (fun k hk => by
        rcases List.mem_cons.mp (hs k hk) with e | e
        · exact e ▸ ha
        · exact e)
      show L.length < M.length + 1
      omega
    · have hM' : ¬ M.Nodup := fun z => hM (List.nodup_cons.mpr ⟨ha, z⟩)
      have h := nodup_lt (M := M) (L := L.erase a) (hn.erase a) (fun k hk => by
        have hk2 := (hn.mem_erase_iff).mp hk
        rcases List.mem_cons.mp (hs k hk2.2) with e | e
        · exact absurd e hk2.1
        · exact e) hM'
      have h2 : L.length ≤ (L.erase a).length + 1 := by
        by_cases hL : a ∈ L
        · have := List.length_erase_of_mem hL
          omega
        · rw [List.erase_of_not_mem hL]
          omega
      show L.length < M.length + 1
      omega
theorem distinct_iff {L M : List Int} (hn : L.Nodup) (hs : ∀ k, k ∈ L ↔ k ∈ M) : L.length ≤ M.length ∧ (L.length = M.length ↔ M.Nodup) := by
  have h1 := nodup_le hn (fun k hk => (hs k).mp hk)
  refine ⟨h1, fun e => ?_, fun e => ?_⟩
  · by_cases h : M.Nodup
    · exact h
    · have := nodup_lt hn (fun k hk => (hs k).mp hk) h
      omega
  · have := nodup_le e (fun k hk => (hs k).mpr hk)
    omega
theorem firstMet_nodup2 (val : Nat → Int) : ∀ i, (firstMet val i).Nodup
  | 0 => List.nodup_nil
  | i + 1 => by
    rw [firstMet_succ]
    have ih := firstMet_nodup2 val i
    unfold step_dedup
    split
    · exact ih
    · rename_i h
      refine List.nodup_append.mpr ⟨ih, by simp, ?_⟩
      intro a ha b hb e
      have hb' : b = val i := by simpa using hb
      apply h
      rw [List.any_eq_true]
      exact ⟨a, ha, by simp [e, hb']⟩
theorem firstMet_mem (ns : List Int) (k : Int) : k ∈ firstMet (fun i => ns.getD i 0) ns.length ↔ k ∈ ns := by
  have h := firstMet_any (fun i => ns.getD i 0) ns.length k
  have e : (List.range ns.length).map (fun i => ns.getD i 0) = ns := by
    refine List.ext_getElem (by simp) (fun i h1 h2 => ?_)
    simp [List.getD_eq_getElem?_getD, List.getElem?_eq_getElem h2]
  rw [e] at h
  constructor
  · intro z
    have y : (firstMet (fun i => ns.getD i 0) ns.length).any (· == k) = true := List.any_eq_true.mpr ⟨k, z, by simp⟩
    rw [h] at y
    obtain ⟨x, hx, ex⟩ := List.any_eq_true.mp y
    have : x = k := by simpa using ex
    exact this ▸ hx
  · intro z
    have y : ns.any (· == k) = true := List.any_eq_true.mpr ⟨k, z, by simp⟩
    rw [← h] at y
    obtain ⟨x, hx, ex⟩ := List.any_eq_true.mp y
    have : x = k := by simpa using ex
    exact this ▸ hx

/-- len(set(x)), x a list or tuple of ints -/
def tLenSetQ (K : PySem.W.Frag) (ta : TE) : TE := fun σ H Q => ta σ H fun x H1 => ∃ (l : Addr) (ns : List Int), x = .ref l ∧
  (SqL K H1 l (ns.map V.int) ∨ SqT K H1 l (ns.map V.int)) ∧ ns.length ≤ 4000 ∧
  ∀ c : Nat, c ≤ ns.length → (c = ns.length ↔ ns.Nodup) → Q (.int (c : Nat)) H1
theorem numbers_of : ∀ {ns : List Int} {us : List Value}, Vals (ns.map V.int) us → IntsAre us ns
  | [], _, h => by
    cases h
    exact .nil
  | n :: ns, _, h => by
    cases h with
    | cons r t =>
      obtain ⟨tk, rfl⟩ := r
      exact .cons n tk (numbers_of t)
theorem pe_lenSetQ {X : Cx} {a : Expr} {ta : TE} {p p2 q pos : Pos} (hg : Gl X "len") (hm : X.mg "len" = none) (hg2 : Gl X "set") (hm2 : X.mg "set" = none) (ha : PE X a ta)
    (hc : X.calm = true := by rfl) (na : starEach [a] X.env = (false, eval a X.env) :: starEach [] X.env := by rfl) :
    PE X (.Call (.Name "len" p) [.Call (.Name "set" p2) [a] [] q] [] pos) (tLenSetQ X.K ta) := by
  constructor
  intro pins s σ H Q I h
  refine Call_ (ld_blt I hg hm boot_len ?_)
  refine PyProof.Rows.callWith_builtin1 (PyProof.Rows.args_cons (Call_ (ld_blt I hg2 hm2 boot_set ?_)) rfl) rfl rfl
  refine PyProof.Rows.callWith_type1 (PyProof.Rows.args_cons (thn (ha.run pins s σ H _ I h) ?_) na) na rfl
  rintro v s1 ⟨x, H1, I1, r1, l, ns, rfl, hq, hl, q1⟩
  refine PyProof.Rows.args_nil ?_
  cases r1
  rcases hq with hq | hq
  · obtain ⟨its, r, plain, hz⟩ := I1.list hq
    have hlen : its.toArray.size = ns.length := by
      rw [List.size_toArray, ← r.length]
      exact List.length_map ..
    refine call_set_list (I1.ok.hd hc) plain.isList (by simpa using numbers_of r) (by rw [hlen]; unfold scanBound; omega) ?_
    intro h' tk hS hk
    refine PyProof.Rows.args_nil ?_
    rw [hlen] at hS
    obtain ⟨o, es, ep, t, ho, hex, hd, _, _, _, hf, hn⟩ := hS
    have I2 : L2.Inv X pins σ H1 { s1 with heap := h', toks := tk } := I1.kept fun b o e => hk b o (Heap.lt_size e) e
    obtain ⟨d1, d2⟩ := distinct_iff (firstMet_nodup2 (fun i => ns.getD i 0) ns.length) (fun k => firstMet_mem ns k)
    exact call_len_set ho hex hd hf (by rw [hn]; unfold sizeLine at *; omega) ⟨.int _, H1, I2.tok _, ⟨_, by rw [hn]⟩, q1 _ d1 d2⟩
  · obtain ⟨its, r, tup, hz⟩ := I1.tuple hq
    have hlen : its.toArray.size = ns.length := by
      rw [List.size_toArray, ← r.length]
      exact List.length_map ..
    refine L2.call_set_tupI ns (I1.ok.hd hc) tup (by simpa using numbers_of r) (by unfold scanBound; omega) ?_
    intro h' tk c hS hcn hk
    refine PyProof.Rows.args_nil ?_
    obtain ⟨o, es, ep, t, ho, hex, hd, _, nd, mem, _, hf, hn, _, _⟩ := hS
    have I2 : L2.Inv X pins σ H1 { s1 with heap := h', toks := tk } := I1.kept hk
    have hmem : ∀ k, k ∈ es.toList.map keyOf ↔ k ∈ ns := fun k => (mem k).symm.trans (by simp)
    obtain ⟨d1, d2⟩ := distinct_iff nd hmem
    have hc2 : (es.toList.map keyOf).length = c := by rw [List.length_map, Array.length_toList, hn]
    rw [hc2] at d1 d2
    exact call_len_set ho hex hd hf (by rw [hn]; omega) ⟨.int (c : Nat), H1, I2.tok _, ⟨_, by rw [hn]⟩, q1 c d1 d2⟩
end Par
namespace Par
open PySem PySem.Spec PyProof.Rows L2

/-! ### a loop that changes nothing -/
section
variable {M : Model} {A : Around} {E : Value → Shared → Prop} {s : Shared}
theorem wp_forSame {α β : Type} {b : β} {f : α → β → Sem (ForInStep β)} {Q : β → Shared → Prop} : ∀ (l : List α),
    (∀ a ∈ l, ∀ Q' : ForInStep β → Shared → Prop, Q' (.yield b) s → wpAny M A (f a b) Q' E s) → Q b s → wpAny M A (forIn l b f) Q E s
  | [], _, h => by
    rw [List.forIn_nil]
    exact wpAny_pure h
  | a :: l, hf, h => by
    rw [List.forIn_cons]
    refine wpAny_bind (hf a (List.mem_cons_self ..) _ ?_)
    exact wp_forSame l (fun x hx => hf x (List.mem_cons_of_mem _ hx)) h
end
section
variable {P : Program} {w : World} {A : Around} {E : Value → Shared → Prop} {s : Shared} {a f : Addr} {S Sf : Int → Bool} {n nf : Nat}
theorem quiet_sets {sets : List Addr} {Q : Bool → Shared → Prop} (hs : ∀ b ∈ sets, ∃ S n, SetR w s.heap b S n) (h : Q true s) :
    wpAny (model P w) A (setsQuiet sets) Q E s := by
  unfold setsQuiet
  refine wpAny_bind (wp_forSame sets (fun b hb Q' q => ?_) (wpAny_pure h))
  obtain ⟨S, n, o, es, ep, t, ho, hx, hd, g, _, _, _, hf, _⟩ := hs b hb
  refine wpAny_bind (wpAny_setEntries_of ho hd hf ?_)
  rw [← Array.forIn_toList]
  refine wpAny_bind (wp_forSame es.toList (fun e he Q2 q2 => ?_) (wpAny_pure q))
  obtain ⟨k, tk, h1, _⟩ := g e he
  obtain ⟨hh, x⟩ := e
  subst h1
  exact wpAny_pure q2
/-- what a walk that nobody sees gives -/
def Given (S : Int → Bool) (n : Nat) (l : Array (Int × Value)) : Prop :=
  (∀ e ∈ l.toList, GoodE e) ∧ (l.toList.map keyOf).Nodup ∧ (∀ k, S k = true ↔ k ∈ l.toList.map keyOf) ∧ l.size = n
theorem Given.perm {l l' : Array (Int × Value)} (g : Given S n l) (p : l'.toList.Perm l.toList) : Given S n l' :=
  ⟨fun e he => g.1 e (p.mem_iff.mp he), (p.map keyOf).nodup_iff.mpr g.2.1, fun k => (g.2.2.1 k).trans (p.map keyOf).mem_iff.symm, by
    rw [← Array.length_toList, p.length_eq, Array.length_toList]
    exact g.2.2.2⟩
theorem walk_unseen {others : List Addr} {Q : Array (Int × Value) → Shared → Prop} (R : SetR w s.heap a S n) (hs : ∀ b ∈ others, ∃ S n, SetR w s.heap b S n) (Rf : SetR w s.heap f Sf nf)
    (hQ : ∀ l h', Heap.SameBut f s.heap h' → SetR w h' f Sf nf → Given S n l → Q l { s with heap := h' }) :
    wpAny (model P w) A (setWalkUnseen a others (some f)) Q E s := by
  obtain ⟨o, es, ep, t, ho, hx, hd, g, nd, hm, hb, hf, hn, hr, hl⟩ := id R
  have gv : Given S n es := ⟨g, nd, hm, hn⟩
  have same : ∀ l, Given S n l → Q l s := fun l gl => hQ l s.heap (Heap.SameBut.refl f s.heap) Rf gl
  unfold setWalkUnseen
  refine wpAny_bind (wpAny_setState_of ho hd hf ?_)
  dsimp only
  refine wpAny_bind (wpAny_byText ?_)
  cases hbt : w.params.followText "set-order" with
  | true =>
    refine wp_if_pos (by simp) ?_
    unfold setWalk
    refine wpAny_bind (wpAny_setState_of ho hd hf ?_)
    dsimp only
    refine wpAny_bind (wpAny_byText ?_)
    refine wp_if_pos hbt ?_
    exact wpAny_bind (wpAny_askSetting (wpAny_pure (same _ (gv.perm (pick_perm _ es)))))
  | false =>
    have hled : t.led = true := hl.resolve_left (by rw [hbt]; exact Bool.false_ne_true)
    by_cases hc : (false || (t.led && t.plain) || decide (es.size ≤ 1)) = true
    · refine wp_if_pos hc ?_
      unfold setWalk
      refine wpAny_bind (wpAny_setState_of ho hd hf ?_)
      dsimp only
      refine wpAny_bind (wpAny_byText ?_)
      refine wp_if_neg (by rw [hbt]; exact Bool.false_ne_true) ?_
      try refine wpAny_bind (wpAny_pure ?_)
      refine wp_if_neg ?_ ?_
      · show ¬ ((!t.plain && decide (es.size > 1)) = true)
        intro z
        rw [Bool.and_eq_true, decide_eq_true_eq] at z
        rw [hled] at hc
        have hp : t.plain = false := by simpa using z.1
        rw [hp] at hc
        have : es.size ≤ 1 := by simpa using hc
        omega
      · try refine wpAny_bind (wpAny_pure ?_)
        refine wpAny_bind (wpAny_of_eq (a := ()) ?_ ?_)
        · show (if (!t.led && decide (es.size > 1)) = true then unsupported "set:maker-not-led" else pure ()) = pure ()
          rw [hled] <;> rfl
        · exact wpAny_pure (same es gv)
    · refine wp_if_neg hc ?_
      try refine wpAny_bind (wpAny_pure ?_)
      refine wpAny_bind (quiet_sets (fun b hb => ?_) ?_)
      · rcases List.mem_cons.mp hb with z | z
        · exact z ▸ ⟨S, n, R⟩
        · exact hs b z
      refine wp_if_neg (by simp) ?_
      try refine wpAny_bind (wpAny_pure ?_)
      refine wpAny_bind (wpAny_rule ?_)
      obtain ⟨o2, es2, ep2, t2, ho2, hx2, hd2, g2, nd2, hm2, hb2, hf2, hn2, hr2, hl2⟩ := id Rf
      refine wpAny_bind (wpAny_setState_of ho2 hd2 hf2 ?_)
      dsimp only
      split
      · refine wpAny_bind (wpAny_storeSet_of ho2 hd2 ?_ (fits_of_scanBound hb2))
        have ho3 := store_at (es' := es2) (t' := { t2 with led := t2.led && t.led, plain := t2.plain && t.plain }) ho2 hd2
        refine wpAny_pure (hQ es _ (Heap.SameBut.update s.heap f _) ?_ gv)
        exact ⟨_, es2, _, _, ho3, hx2, rfl, g2, nd2, hm2, hb2, hf2, hn2, hr2, hl2.imp id fun z => by show (t2.led && t.led) = true; rw [z, hled]; rfl⟩
      · exact wpAny_pure (same es gv)
end
end Par
namespace Par
open PySem PySem.Spec PyProof.Rows L2
section
variable {P : Program} {w : World} {A : Around} {E : Value → Shared → Prop} {s : Shared} {a : Addr} {S : Int → Bool} {n : Nat}
theorem eraseAt_list {α : Type} (xs : Array α) (i : Nat) : (SetTable.eraseAt xs i).toList = xs.toList.eraseIdx i := by
  unfold SetTable.eraseAt
  rw [Array.toList_append, Array.toList_extract, Array.toList_extract, List.eraseIdx_eq_take_drop_succ]
  simp [List.extract_eq_drop_take]
  rw [List.take_of_length_le (by simp)]
/-- where the member k lies -/
theorem find_at {k : Int} {tk : Tok} {o : Obj} {es : Array (Int × Value)} {ep : Nat} {t : SetTable} {Q : Option Nat → Shared → Prop} (ho : s.heap.get? a = some o) (hd : o.data = .set es ep t) (hf : t.fits es.size = true)
    (g : ∀ e ∈ es.toList, GoodE e) (hb : es.size < scanBound) (h : Q (es.toList.findIdx? fun e => (intKind P w).is k e.2) s) :
    wpAny (model P w) A (setFind a (.int k tk) ((intKind P w).hash k)) Q E s := by
  have hel : ElemsOf (intKind P w) es.toList := good_elems g
  unfold setFind setFindIn
  refine wpAny_bind (wpAny_setState_of ho hd hf ?_)
  dsimp only
  rw [byScan_of (x := .int k tk) rfl hb hel]
  simp only [↓reduceIte]
  refine wpAny_bind (wpAny_rule ?_)
  refine wpAny_bind (wpAny_setScan_of (intKind_is P w k tk) ho hd hf hel ?_)
  cases hr : List.findIdx? (fun e => (intKind P w).is k e.2) es.toList with
  | none =>
    dsimp only
    rw [hr] at h
    exact wpAny_pure h
  | some j =>
    dsimp only
    rw [hr] at h
    rw [Nat.zero_add]
    exact wpAny_pure h
theorem discard_hashed {k : Int} {tk : Tok} {Q : Bool → Shared → Prop} (R : SetR w s.heap a S n)
    (hQ : ∀ h' m, m ≤ n → Heap.SameBut a s.heap h' → SetR w h' a (fun j => S j && !decide (j = k)) m → Q (S k) { s with heap := h' }) :
    wpAny (model P w) A (setDiscardHashed a (.int k tk) ((intKind P w).hash k)) Q E s := by
  obtain ⟨o, es, ep, t, ho, hex, hd, g, nd, hm, hb, hf, hn, hr, hl⟩ := R
  unfold setDiscardHashed
  refine wpAny_bind (find_at ho hd hf g hb ?_)
  cases hwhere : List.findIdx? (fun e => (intKind P w).is k e.2) es.toList with
  | none =>
    dsimp only
    have hnot : k ∉ es.toList.map keyOf := fun z => by
      obtain ⟨e, he, q⟩ := (good_mem (P := P) (w := w) g k).1 z
      have c := List.findIdx?_eq_none_iff.mp hwhere e he
      rw [q] at c
      cases c
    have hyes : S k = false := by
      cases q : S k with
      | false => rfl
      | true => exact absurd ((hm k).1 q) hnot
    have q := hQ s.heap n (Nat.le_refl _) (Heap.SameBut.refl a s.heap) ⟨o, es, ep, t, ho, hex, hd, g, nd, fun i => by
      rw [← hm i, Bool.and_eq_true]
      constructor
      · exact fun z => z.1
      · intro z
        refine ⟨z, ?_⟩
        have : i ≠ k := fun e => by rw [e, hyes] at z; cases z
        simp [this], hb, hf, hn, hr, hl⟩
    rw [hyes] at q
    exact wpAny_pure q
  | some j =>
    dsimp only
    obtain ⟨hj, pj, _⟩ := List.findIdx?_eq_some_iff_getElem.mp hwhere
    have hyes : S k = true := (hm k).2 ((good_mem (P := P) (w := w) g k).2 ⟨es.toList[j], List.getElem_mem hj, pj⟩)
    have hkj : keyOf es.toList[j] = k := (good_is (P := P) (w := w) (g _ (List.getElem_mem hj)) k).1 pj
    have hjs : j < es.size := by rw [Array.length_toList] at hj; exact hj
    obtain ⟨f1, f2⟩ : t.place.size = es.size ∧ t.fill ≤ t.mask := by
      simpa [SetTable.fits] using hf
    have hpl : t.place[j]? = some (t.place[j]'(by omega)) := Array.getElem?_eq_getElem _
    have hdrop : t.drop j = { t with place := SetTable.eraseAt t.place j, dummies := SetTable.insertAt t.dummies (SetTable.below t.dummies (t.place[j]'(by omega))) (t.place[j]'(by omega)) } := by
      unfold SetTable.drop
      rw [hpl]
    have pe := erase_perm es.toList j _ (List.getElem?_eq_getElem hj)
    have pk : (k :: (es.toList.eraseIdx j).map keyOf).Perm (es.toList.map keyOf) := by
      have z := pe.map keyOf
      rw [List.map_cons, hkj] at z
      exact z
    have el : (SetTable.eraseAt es j).toList = es.toList.eraseIdx j := eraseAt_list es j
    have hsz : (SetTable.eraseAt es j).size + 1 = es.size := by
      rw [← Array.length_toList, el, List.length_eraseIdx_of_lt hj, Array.length_toList]
      omega
    have hb1 : (SetTable.eraseAt es j).size < scanBound := by omega
    refine wpAny_bind (wpAny_setState_of ho hd hf ?_)
    dsimp only
    refine wpAny_bind (wpAny_storeSet_of ho hd ?_ (fits_of_scanBound hb1))
    refine wpAny_bind (wpAny_point (wpAny_pure ?_))
    have ho1 := store_at (es' := SetTable.eraseAt es j) (t' := t.drop j) ho hd
    have ndk := pk.nodup_iff.mpr nd
    have q := hQ _ (SetTable.eraseAt es j).size (by omega) (Heap.SameBut.update s.heap a (Obj.putSet (SetTable.eraseAt es j) (t.drop j)))
      ⟨_, SetTable.eraseAt es j, _, t.drop j, ho1, hex, rfl, fun e he => by
        rw [el] at he
        exact g e ((List.eraseIdx_sublist _ _).subset he), by
        rw [el]
        exact (List.nodup_cons.mp ndk).2, fun i => by
        rw [el, Bool.and_eq_true, hm i, ← pk.mem_iff, List.mem_cons]
        constructor
        · rintro ⟨z | z, y⟩
          · simp [z] at y
          · exact z
        · intro z
          refine ⟨.inr z, ?_⟩
          have : i ≠ k := fun e => (List.nodup_cons.mp ndk).1 (e ▸ z)
          simp [this], hb1, by
        rw [hdrop]
        unfold SetTable.fits
        rw [Bool.and_eq_true]
        have h1 : (SetTable.eraseAt t.place j).size + 1 = t.place.size := by
          rw [← Array.length_toList, eraseAt_list, List.length_eraseIdx_of_lt (by rw [Array.length_toList]; omega), Array.length_toList]
          omega
        have h2 : (SetTable.insertAt t.dummies (SetTable.below t.dummies t.place[j]) t.place[j]).size = t.dummies.size + 1 := by
          rw [← Array.length_toList, SetTable.toList_insertAt]
          simp only [List.length_append, List.length_cons, List.length_take, List.length_drop, Array.length_toList]
          omega
        have h3 : t.place.size + t.dummies.size ≤ t.mask := f2
        refine ⟨beq_iff_eq.mpr ?_, decide_eq_true ?_⟩
        · show (SetTable.eraseAt t.place j).size = (SetTable.eraseAt es j).size
          omega
        · show (SetTable.eraseAt t.place j).size + (SetTable.insertAt t.dummies (SetTable.below t.dummies t.place[j]) t.place[j]).size ≤ t.mask
          rw [h2]
          omega, rfl, by
        rw [hdrop]
        show Ris (SetTable.eraseAt t.place j).toList
        rw [eraseAt_list]
        exact List.Pairwise.sublist (List.eraseIdx_sublist _ _) hr, hl.imp id fun z => by
        rw [hdrop]
        exact z⟩
    rw [hyes] at q
    exact q
end
end Par
namespace Par
open PySem PySem.Spec PyProof.Rows L2
/-! ### a clean table has room for few small ints -/
def way (mask : Nat) : Nat → Nat → Nat → List Nat
  | 0, _, _ => []
  | f + 1, i, p => i :: way mask f (SetTable.leap mask i p).1 (SetTable.leap mask i p).2
def marks : List Nat → Nat → Nat
  | [], b => b
  | i :: l, b => marks l (b ||| (1 <<< i))
theorem marks_mem : ∀ (l : List Nat) (b j : Nat), (marks l b).testBit j = true → b.testBit j = true ∨ j ∈ l
  | [], b, j, h => .inl h
  | i :: l, b, j, h => by
    rcases marks_mem l _ j h with z | z
    · rw [Nat.testBit_or, Bool.or_eq_true] at z
      rcases z with z | z
      · exact .inl z
      · right
        rw [Nat.testBit_shiftLeft, Bool.and_eq_true, decide_eq_true_eq] at z
        have : j = i := by
          have z2 : j - i = 0 := by
            cases hji : j - i with
            | zero => rfl
            | succ c =>
              rw [hji] at z
              have y := z.2
              simp [Nat.testBit_succ] at y
          omega
        rw [this]
        exact List.mem_cons_self ..
    · exact .inr (List.mem_cons_of_mem _ z)
def covers : Bool := [7, 15, 31, 63, 127].all fun m => (List.range 40).all fun h => marks (way m (m + 15) (h % (m + 1)) h) 0 == 2 ^ (m + 1) - 1
theorem covers_all : covers = true := by decide +kernel
theorem way_all {m h j : Nat} (hm : m ∈ [7, 15, 31, 63, 127]) (hh : h < 40) (hj : j ≤ m) : j ∈ way m (m + 15) (h % (m + 1)) h := by
  have h1 := List.all_eq_true.mp (List.all_eq_true.mp covers_all m hm) h (List.mem_range.mpr hh)
  have h2 : marks (way m (m + 15) (h % (m + 1)) h) 0 = 2 ^ (m + 1) - 1 := by simpa using h1
  rcases marks_mem (way m (m + 15) (h % (m + 1)) h) 0 j (by rw [h2, Nat.testBit_two_pow_sub_one, decide_eq_true_eq]; omega) with z | z
  · simp at z
  · exact z
theorem free_of {mask : Nat} {owner : Array (Option Nat)} {j : Nat} (hn : owner.getD j (some 0) = none) : ∀ (f i p : Nat), j ∈ way mask f i p →
    ∃ r, SetTable.layClean.free mask owner f i p = some r ∧ owner.getD r (some 0) = none
  | 0, i, p, h => by simp [way] at h
  | f + 1, i, p, h => by
    rw [SetTable.layClean.free]
    cases hf : (List.range (SetTable.runEnd mask i + 1 - i)).find? fun k => (owner.getD (i + k) (some 0)).isNone with
    | some k =>
      refine ⟨i + k, rfl, ?_⟩
      have z := List.find?_some hf
      simpa using z
    | none =>
      dsimp only
      have hrun : i ≤ SetTable.runEnd mask i := by
        unfold SetTable.runEnd
        split <;> omega
      rcases List.mem_cons.mp (show j ∈ i :: way mask f (SetTable.leap mask i p).1 (SetTable.leap mask i p).2 from h) with z | z
      · exfalso
        have := List.find?_eq_none.mp hf 0 (List.mem_range.mpr (by omega))
        rw [Nat.add_zero, ← z, hn] at this
        exact this rfl
      · exact free_of hn f _ _ z
theorem some_none {l : List (Option Nat)} (h : (l.filterMap id).length < l.length) : ∃ j : Nat, l[j]? = some none := by
  induction l with
  | nil => simp at h
  | cons a l ih =>
    cases a with
    | none => exact ⟨0, rfl⟩
    | some x =>
      obtain ⟨j, hj⟩ := ih (by simpa using h)
      exact ⟨j + 1, by simpa using hj⟩
theorem set_none : ∀ {l : List (Option Nat)} {j k : Nat}, l[j]? = some none → ((l.set j (some k)).filterMap id).Perm (k :: l.filterMap id)
  | [], j, k, h => by simp at h
  | a :: l, 0, k, h => by
    have e : a = none := by simpa using h
    subst e
    simp
  | a :: l, j + 1, k, h => by
    have z := set_none (l := l) (j := j) (k := k) (by simpa using h)
    cases a with
    | none => simpa using z
    | some x =>
      rw [List.set_cons_succ]
      simp only [List.filterMap_cons, id_eq]
      exact (z.cons x).trans (List.Perm.swap ..)
/-- one number more, laid into its own place -/
def layStep (mask : Nat) (acc : Option (Array (Option Nat) × Nat)) (h : Int) : Option (Array (Option Nat) × Nat) :=
  acc.bind fun q => (SetTable.layClean.free mask q.1 (mask + 15) (SetTable.bits h % (mask + 1)) (SetTable.bits h)).bind fun j => some (q.1.setIfInBounds j (some q.2), q.2 + 1)
theorem fold_ok {mask : Nat} (hm : mask ∈ [7, 15, 31, 63, 127]) : ∀ (hs : List Int) (owner : Array (Option Nat)) (k : Nat), (∀ h ∈ hs, SetTable.bits h < 40) → owner.size = mask + 1 →
    (owner.toList.filterMap id).Perm (List.range k) → k + hs.length ≤ mask →
    ∃ owner', hs.foldl (layStep mask) (some (owner, k)) = some (owner', k + hs.length) ∧ owner'.size = mask + 1 ∧ (owner'.toList.filterMap id).Perm (List.range (k + hs.length))
  | [], owner, k, _, hz, hp, _ => ⟨owner, rfl, hz, hp⟩
  | h :: hs, owner, k, hb, hz, hp, hk => by
    have hlt : (owner.toList.filterMap id).length < owner.toList.length := by
      rw [hp.length_eq, List.length_range, Array.length_toList, hz]
      simp only [List.length_cons] at hk
      omega
    obtain ⟨j, hj⟩ := some_none hlt
    have hjs : j < owner.size := by
      have := (List.getElem?_eq_some_iff.mp hj).1
      rw [Array.length_toList] at this
      exact this
    have hn : owner.getD j (some 0) = none := by
      rw [Array.getElem?_toList] at hj
      simp [Array.getD_eq_getD_getElem?, hj]
    obtain ⟨r, hr, hrn⟩ := free_of hn (mask + 15) _ _ (way_all (j := j) hm (hb h (List.mem_cons_self ..)) (by omega))
    have hrs : r < owner.size := by
      by_cases c : r < owner.size
      · exact c
      · simp [Array.getD_eq_getD_getElem?, Array.getElem?_eq_none (Nat.le_of_not_lt c)] at hrn
    have hrl : owner.toList[r]? = some none := by
      rw [Array.getElem?_toList, Array.getElem?_eq_getElem hrs]
      simp [Array.getD_eq_getD_getElem?, Array.getElem?_eq_getElem hrs] at hrn
      rw [hrn]
    have hstep : layStep mask (some (owner, k)) h = some (owner.setIfInBounds r (some k), k + 1) := by
      unfold layStep
      show (SetTable.layClean.free mask owner (mask + 15) _ _).bind _ = _
      rw [hr]
      rfl
    obtain ⟨o2, e1, e2, e3⟩ := fold_ok hm hs (owner.setIfInBounds r (some k)) (k + 1) (fun x hx => hb x (List.mem_cons_of_mem _ hx)) (by rw [Array.size_setIfInBounds]; exact hz) (by
      rw [Array.toList_setIfInBounds]
      refine (set_none hrl).trans ?_
      rw [List.range_succ]
      exact (hp.cons k).trans (List.perm_append_singleton _ _).symm) (by simp only [List.length_cons] at hk; omega)
    refine ⟨o2, ?_, e2, ?_⟩
    · rw [List.foldl_cons, hstep, e1, List.length_cons]
      congr 2
      omega
    · rw [List.length_cons]
      have : k + (hs.length + 1) = k + 1 + hs.length := by omega
      rw [this]
      exact e3
theorem owner_list {owner : Array (Option Nat)} {n : Nat} (h : owner.size = n) : (List.range n).filterMap (fun j => owner.getD j none) = owner.toList.filterMap id := by
  have e : (List.range n).map (fun j => owner.getD j none) = owner.toList := by
    refine List.ext_getElem (by simp [h]) (fun i h1 h2 => ?_)
    have hi : i < owner.size := by rw [Array.length_toList] at h2; exact h2
    simp [Array.getD_eq_getD_getElem?, Array.getElem?_eq_getElem hi]
  rw [← e, List.filterMap_map]
  rfl
theorem clean_ok {mask finger moves : Nat} {led plain : Bool} {hashes : Array Int} (hm : mask ∈ [7, 15, 31, 63, 127]) (hb : ∀ h ∈ hashes.toList, SetTable.bits h < 40) (hz : hashes.size ≤ mask) :
    ∃ t order, SetTable.laid mask finger moves led plain hashes = some (t, order) ∧ order.toList.Perm (List.range hashes.size) ∧ Ris t.place.toList ∧ t.led = led ∧ t.place.size = hashes.size ∧ t.dummies = #[] ∧ t.mask = mask := by
  obtain ⟨owner, e1, e2, e3⟩ := fold_ok hm hashes.toList (Array.replicate (mask + 1) none) 0 hb (by simp) (by simp) (by rw [Array.length_toList]; omega)
  have e : SetTable.layClean mask hashes = some owner := by
    unfold SetTable.layClean
    rw [← Array.foldl_toList]
    show Option.map _ (hashes.toList.foldl (layStep mask) (some (Array.replicate (mask + 1) none, 0))) = _
    rw [e1]
    rfl
  have p2 : (((List.range (mask + 1)).filterMap fun j => (owner.getD j none).map (j, ·)).map (·.2)).Perm (List.range hashes.size) := by
    have : ((List.range (mask + 1)).filterMap fun j => (owner.getD j none).map (j, ·)).map (·.2) = (List.range (mask + 1)).filterMap fun j => owner.getD j none := by
      rw [List.map_filterMap]
      congr 1
      funext j
      cases owner.getD j none <;> rfl
    rw [this, owner_list e2]
    rw [Nat.zero_add, Array.length_toList] at e3
    exact e3
  unfold SetTable.laid
  rw [e]
  refine ⟨_, _, rfl, p2, ?_, rfl, ?_, rfl, rfl⟩
  · exact (ris_live (fun j => owner.getD j none) (List.range (mask + 1)) (by unfold Ris; first | exact List.pairwise_lt_range | exact List.pairwise_lt_range _)).1
  · show (((List.range (mask + 1)).filterMap fun j => (owner.getD j none).map (j, ·)).map (·.1)).toArray.size = _
    have := p2.length_eq
    rw [List.length_map, List.length_range] at this
    rw [List.size_toArray, List.length_map]
    exact this
end Par
namespace Par
open PySem PySem.Spec PyProof.Rows L2
def Cell (k : Int) : Prop := 0 ≤ k ∧ k < 40
theorem cells_few {L : List Int} (hn : L.Nodup) (h : ∀ k ∈ L, Cell k) : L.length ≤ 40 := by
  have := nodup_le (M := (List.range 40).map Int.ofNat) hn (fun k hk => by
    obtain ⟨h1, h2⟩ := h k hk
    exact List.mem_map.mpr ⟨k.toNat, List.mem_range.mpr (by omega), by simp; omega⟩)
  simpa using this
theorem bits_small : ∀ k : Nat, k < 40 → SetTable.bits (hashInt (k : Int)) < 40 := by decide +kernel
theorem bits_cell {k : Int} (h : Cell k) : SetTable.bits (hashInt k) < 40 := by
  have := bits_small k.toNat (by have := h.1; have := h.2; omega)
  rwa [Int.toNat_of_nonneg h.1] at this
theorem wide_enough : ∀ n : Nat, n ≤ 40 → SetTable.sizeAbove (n * 2) - 1 ∈ [7, 15, 31, 63, 127] ∧ n ≤ SetTable.sizeAbove (n * 2) - 1 ∧ SetTable.sizeAbove (n * 2) ≤ 128 := by decide +kernel
section
variable {P : Program} {w : World} {A : Around} {E : Value → Shared → Prop} {s : Shared} {a : Addr} {S : Int → Bool} {n : Nat}
theorem SetR.few (R : SetR w s.heap a S n) (h : ∀ k, S k = true → Cell k) : n ≤ 40 := by
  obtain ⟨o, es, ep, t, ho, hx, hd, g, nd, hm, hb, hf, hn, hr, hl⟩ := R
  have := cells_few nd (fun k hk => h k ((hm k).2 hk))
  rw [List.length_map, Array.length_toList, hn] at this
  exact this
/-- a set that is still empty, its table -/
def NewSet (w : World) (h : Heap) (r : Addr) (n : Nat) : Prop := ∃ o ep t, h.get? r = some o ∧ o.ExactSet ∧ o.data = .set #[] ep t ∧ t.place = #[] ∧ t.dummies = #[] ∧ (w.params.followText "set-order" = true ∨ t.led = true) ∧
  t.mask ∈ [7, 15, 31, 63, 127] ∧ n ≤ t.mask
theorem room_new {r : Addr} {Q : Unit → Shared → Prop} (hn : n ≤ 40)
    (hr : s.heap.get? r = some { cls := .type "set", dict := none, data := .set #[] 0 (.fresh 0 0 (!w.params.followText "set-order")) })
    (hQ : ∀ h', Heap.SameBut r s.heap h' → NewSet w h' r n → Q () { s with heap := h' }) : wpAny (model P w) A (setRoomFor r n) Q E s := by
  have led : w.params.followText "set-order" = true ∨ (!w.params.followText "set-order") = true := by
    cases w.params.followText "set-order"
    · exact .inr rfl
    · exact .inl rfl
  unfold setRoomFor
  refine wpAny_bind (wpAny_setState_of hr rfl rfl ?_)
  dsimp only
  by_cases h5 : n * 5 ≥ 21
  · have e : (SetTable.fresh 0 0 (!w.params.followText "set-order")).roomFor n = some (n * 2) := by
      unfold SetTable.roomFor SetTable.fill SetTable.fresh
      simp [h5]
    rw [e]
    dsimp only
    unfold setRelay
    refine wpAny_bind (wpAny_setState_of hr rfl rfl ?_)
    dsimp only
    obtain ⟨w1, w2, w3⟩ := wide_enough n hn
    refine wp_if_neg (by rw [sizeLine_eq]; omega) ?_
    try refine wpAny_bind (wpAny_pure ?_)
    obtain ⟨t, order, e1, e2, e3, e4, e5, e6, e7⟩ := clean_ok (finger := 0) (moves := (SetTable.fresh 0 0 (!w.params.followText "set-order")).movedTo (SetTable.sizeAbove (n * 2) - 1)) (led := !w.params.followText "set-order") (plain := true) (hashes := #[]) w1 (by simp) (by simp)
    have e8 : (SetTable.fresh 0 0 (!w.params.followText "set-order")).relaid ((#[] : Array (Int × Value)).map (·.1)) (n * 2) = some (t, order) := by
      have q : ((#[] : Array (Int × Value)).map (·.1)) = #[] := by simp
      rw [q]
      exact e1
    rw [e8]
    have eo : order = #[] := by
      have : order.toList = [] := List.length_eq_zero_iff.mp (by rw [e2.length_eq]; simp)
      exact Array.toList_eq_nil_iff.mp this
    subst eo
    refine wpAny_bind (wpAny_pure ?_)
    refine wpAny_storeSet_of hr rfl ?_ (by simp)
    have ho1 := store_at (es' := #[]) (t' := t) hr rfl
    refine hQ _ (Heap.SameBut.update s.heap r _) ⟨_, _, t, ho1, ⟨rfl, rfl, rfl⟩, rfl, by simpa using e5, e6, by rw [e4]; exact led, by rw [e7]; exact w1, by rw [e7]; exact w2⟩
  · have e : (SetTable.fresh 0 0 (!w.params.followText "set-order")).roomFor n = none := by
      unfold SetTable.roomFor SetTable.fill SetTable.fresh
      simp [h5]
    rw [e]
    dsimp only
    exact wpAny_pure (hQ s.heap (Heap.SameBut.refl r s.heap) ⟨_, _, _, hr, ⟨rfl, rfl, rfl⟩, rfl, rfl, rfl, led, by simp [SetTable.fresh], by show n ≤ 7; omega⟩)
theorem merge_new {r o : Addr} {each : Sem Unit} {Q : Unit → Shared → Prop}
    (hr : s.heap.get? r = some { cls := .type "set", dict := none, data := .set #[] 0 (.fresh 0 0 (!w.params.followText "set-order")) })
    (R : SetR w s.heap o S n) (hne : r ≠ o) (hS : ∀ k, S k = true → Cell k)
    (hQ : ∀ h', Heap.SameBut r s.heap h' → SetR w h' r S n → Q () { s with heap := h' }) : wpAny (model P w) A (setMerge r o each) Q E s := by
  have hn40 := SetR.few R hS
  obtain ⟨oo, es, ep, t, ho, hx, hd, g, nd, hm, hb, hf, hn, hrs, hl⟩ := id R
  have led : w.params.followText "set-order" = true ∨ (!w.params.followText "set-order") = true := by
    cases w.params.followText "set-order"
    · exact .inr rfl
    · exact .inl rfl
  unfold setMerge
  refine wp_if_neg (by simpa using hne) ?_
  try refine wpAny_bind (wpAny_pure ?_)
  refine wpAny_bind (wpAny_setState_of ho hd hf ?_)
  dsimp only
  by_cases he : es.isEmpty = true
  · refine wp_if_pos he ?_
    have e0 : es = #[] := by simpa using he
    subst e0
    refine wpAny_pure (hQ s.heap (Heap.SameBut.refl r s.heap) ⟨_, #[], _, _, hr, ⟨rfl, rfl, rfl⟩, rfl, g, nd, hm, hb, rfl, hn, List.Pairwise.nil, led⟩)
  · refine wp_if_neg he ?_
    try refine wpAny_bind (wpAny_pure ?_)
    rw [hn]
    refine wpAny_bind (room_new hn40 hr fun h1 sb1 new => ?_)
    obtain ⟨o1, ep1, t1, ho1, hx1, hd1, hp1, hdm1, hl1, hm1, hk1⟩ := new
    have hf1 : t1.fits (#[] : Array (Int × Value)).size = true := by
      simp [SetTable.fits, SetTable.fill, hp1, hdm1]
    refine wpAny_bind (wpAny_setState_of (es := #[]) ho1 hd1 hf1 ?_)
    dsimp only
    have hfill : t1.fill = 0 := by simp [SetTable.fill, hp1, hdm1]
    cases hroad : t1.road t with
    | oneByOne =>
      exfalso
      unfold SetTable.road at hroad
      rw [hfill] at hroad
      simp at hroad
      split at hroad <;> simp at hroad
    | slotForSlot =>
      dsimp only
      refine wpAny_storeSet_of ho1 hd1 ?_ (fits_of_scanBound hb)
      have ho2 := store_at (es' := es) (t' := { t with finger := t1.finger, led := t1.led && t.led, moves := t1.moves, plain := t1.plain && t.plain }) ho1 hd1
      refine hQ _ (sb1.trans (Heap.SameBut.update h1 r _)) ⟨_, es, _, _, ho2, hx1, rfl, g, nd, hm, hb, hf, hn, hrs, ?_⟩
      rcases hl with z | z
      · exact .inl z
      · rcases hl1 with y | y
        · exact .inl y
        · exact .inr (by show (t1.led && t.led) = true; rw [z, y]; rfl)
    | clean =>
      dsimp only
      have hsm : (es.map (·.1)).size = es.size := Array.size_map ..
      obtain ⟨t2, order, e1, e2, e3, e4, e5, e6, e7⟩ := clean_ok (finger := t1.finger) (moves := t1.moves) (led := t1.led && t.led) (plain := t1.plain && t.plain) (hashes := es.map (·.1)) hm1 (fun h hh => by
        rw [Array.toList_map] at hh
        obtain ⟨e, he, rfl⟩ := List.mem_map.mp hh
        obtain ⟨k, tk, q1, q2⟩ := g e he
        rw [q2]
        refine bits_cell (hS k ((hm k).2 (List.mem_map.mpr ⟨e, he, ?_⟩)))
        unfold keyOf
        rw [q1]) (by rw [hsm]; omega)
      rw [e1]
      rw [hsm] at e2 e5
      have pm : (order.filterMap (es[·]?)).toList.Perm es.toList := by
        rw [Array.toList_filterMap]
        exact (e2.filterMap _).trans (by rw [filterMap_getElem?_range])
      have hsz : (order.filterMap (es[·]?)).size = es.size := by rw [← Array.length_toList, pm.length_eq, Array.length_toList]
      refine wpAny_bind (wpAny_of_eq (a := (order.filterMap (es[·]?), t2)) ?_ ?_)
      · show (do
          if ((order.filterMap (es[·]?)).size != es.size) = true then unsupported "internal:set-table-lost-an-element"
          pure (order.filterMap (es[·]?), t2)) = _
        rw [if_neg (by rw [hsz]; simp)]
        try rfl
      · dsimp only
        refine wpAny_storeSet_of ho1 hd1 ?_ (by rw [hsz]; exact fits_of_scanBound hb)
        have ho2 := store_at (es' := order.filterMap (es[·]?)) (t' := t2) ho1 hd1
        refine hQ _ (sb1.trans (Heap.SameBut.update h1 r _)) ⟨_, _, _, t2, ho2, hx1, rfl, fun e he => g e (pm.mem_iff.mp he), (pm.map keyOf).nodup_iff.mpr nd, fun k => (hm k).trans (pm.map keyOf).mem_iff.symm, by rw [hsz]; exact hb, ?_, by rw [hsz]; exact hn, e3, ?_⟩
        · rw [hsz]
          have : t2.place.size + t2.dummies.size ≤ t2.mask := by
            rw [e5, e6, e7]
            simp
            omega
          simp [SetTable.fits, SetTable.fill, e5, e6, e7]
          omega
        · rw [e4]
          rcases hl with z | z
          · exact .inl z
          · rcases hl1 with y | y
            · exact .inl y
            · exact .inr (by rw [z, y]; rfl)
end
end Par
namespace Par
open PySem PySem.Spec PyProof.Rows L2
theorem entry_set_xor : entryFor table "set.__xor__" = some Builtin.«frozenset.__xor__» :=
  entryFor_alias (id' := "frozenset.__xor__") (by kernel_rfl) rfl (by decide +kernel) (by kernel_rfl)
theorem entry_set_and : entryFor table "set.__and__" = some Builtin.«frozenset.__and__» :=
  entryFor_alias (id' := "frozenset.__and__") (by kernel_rfl) rfl (by decide +kernel) (by kernel_rfl)
section
variable {P : Program} {w : World} {A : Around} {E : Value → Shared → Prop} {s : Shared} {a : Addr} {S : Int → Bool} {n : Nat}
theorem set_typ (R : SetR w s.heap a S n) : s.TypeIs (.ref a) "set" := by
  obtain ⟨o, es, ep, t, ho, hx, _⟩ := R
  exact ⟨o, ho, hx.1⟩
theorem any_set {Q : Bool → Shared → Prop} (hT : s.TypeIs (.ref a) "set") (h : Q true s) : wpAny (model P w) A (Builtin.Frozenset.isAnySet (.ref a)) Q E s := by
  unfold Builtin.Frozenset.isAnySet
  refine wpAny_bind (wpAny_isInstance hT sub_set_self ?_)
  exact wpAny_pure h
theorem base_set {Q : Value → Shared → Prop} (hT : s.TypeIs (.ref a) "set") (h : Q (.type "set") s) : wpAny (model P w) A (Builtin.Frozenset.baseOf a) Q E s := by
  unfold Builtin.Frozenset.baseOf
  refine wpAny_bind (wpAny_isInstance hT sub_set_self ?_)
  exact wpAny_pure h
theorem new_set {Q : Value → Shared → Prop} (h : Q (.ref s.heap.objs.size) { s with heap := s.heap.push { cls := .type "set", dict := none, data := .set #[] 0 (.fresh 0 0 (!w.params.followText "set-order")) } }) :
    wpAny (model P w) A (newSet (.type "set")) Q E s := by
  unfold newSet
  refine wpAny_bind (wpAny_byText ?_)
  dsimp only
  simp only [newObj]
  refine wpAny_bind (wpAny_alloc (wpAny_pure ?_))
  exact h
theorem flip_one {k : Int} {tk : Tok} {Q : Unit → Shared → Prop} (R : SetR w s.heap a S n) (room : n + 1 < scanBound)
    (hQ : ∀ h' m, m ≤ n + 1 → Heap.SameBut a s.heap h' → SetR w h' a (fun j => xor (S j) (decide (j = k))) m → Q () { s with heap := h' }) :
    wpAny (model P w) A (holding [.int k tk] (do
      if !(← setDiscardHashed a (.int k tk) ((intKind P w).hash k)) then
        let _ ← setAddHashed a (.int k tk) ((intKind P w).hash k))) Q E s := by
  refine wpAny_holding (wpAny_bind (discard_hashed R fun h1 m hm sb1 R1 => ?_))
  cases hk : S k with
  | true =>
    refine wp_if_neg (by simp) ?_
    refine wpAny_pure (hQ h1 m (by omega) sb1 (R1.congr fun j => ?_))
    by_cases e : j = k
    · subst e
      rw [hk]
      simp
    · simp [e]
  | false =>
    refine wp_if_pos (by simp) ?_
    refine wpAny_bind (setR_add_hashed (s := { s with heap := h1 }) R1 (by omega) fun h2 sb2 R2 => ?_)
    refine wpAny_pure (hQ h2 _ (by split <;> omega) (sb1.trans sb2) (R2.congr fun j => ?_))
    by_cases e : j = k
    · subst e
      rw [hk]
      simp
    · simp [e]
theorem flip_all {body : Int × Value → PUnit → Sem (ForInStep PUnit)} {o : Addr} {oo : Obj} (hne : o ≠ a)
    (hb : ∀ (e : Int × Value) (s : Shared) (S : Int → Bool) (n : Nat) (Q : ForInStep PUnit → Shared → Prop), GoodE e → s.heap.get? o = some oo → SetR w s.heap a S n → n + 1 < scanBound →
      (∀ h' m, m ≤ n + 1 → Heap.SameBut a s.heap h' → SetR w h' a (fun j => xor (S j) (decide (j = keyOf e))) m → Q (.yield ⟨⟩) { s with heap := h' }) → wpAny (model P w) A (body e ⟨⟩) Q E s) :
    ∀ (l : List (Int × Value)) (s : Shared) (S : Int → Bool) (n : Nat) (Q : PUnit → Shared → Prop), (∀ e ∈ l, GoodE e) → (l.map keyOf).Nodup → s.heap.get? o = some oo → SetR w s.heap a S n → n + l.length + 1 < scanBound →
      (∀ h' m, Heap.SameBut a s.heap h' → SetR w h' a (fun j => xor (S j) (decide (j ∈ l.map keyOf))) m → Q ⟨⟩ { s with heap := h' }) → wpAny (model P w) A (forIn l ⟨⟩ body) Q E s
  | [], s, S, n, Q, _, _, _, R, _, hQ => by
    rw [List.forIn_nil]
    exact wpAny_pure (hQ s.heap n (Heap.SameBut.refl a s.heap) (R.congr fun j => by simp))
  | e :: l, s, S, n, Q, g, nd, Ro, R, room, hQ => by
    rw [List.forIn_cons]
    simp only [List.length_cons] at room
    refine wpAny_bind (hb e s S n _ (g e (List.mem_cons_self ..)) Ro R (by omega) fun h1 m hm sb1 R1 => ?_)
    have nd' := List.nodup_cons.mp (show (keyOf e :: l.map keyOf).Nodup from nd)
    refine flip_all hne hb l { s with heap := h1 } _ m Q (fun x hx => g x (List.mem_cons_of_mem _ hx)) nd'.2 ((sb1.2 o hne).trans Ro) R1 (by omega) fun h2 m2 sb2 R2 => ?_
    refine hQ h2 m2 (sb1.trans sb2) (R2.congr fun j => ?_)
    show xor (S j) (decide (j ∈ keyOf e :: l.map keyOf)) = xor (xor (S j) (decide (j = keyOf e))) (decide (j ∈ l.map keyOf))
    by_cases e1 : j = keyOf e
    · have : j ∉ l.map keyOf := fun z => nd'.1 (e1 ▸ z)
      have hin : j ∈ keyOf e :: l.map keyOf := by
        rw [e1]
        exact List.mem_cons_self ..
      rw [decide_eq_true hin, decide_eq_true e1, decide_eq_false this]
      simp
    · by_cases e2 : j ∈ l.map keyOf
      · rw [decide_eq_true (List.mem_cons_of_mem _ e2), decide_eq_true e2, decide_eq_false e1]
        simp
      · have hout : j ∉ keyOf e :: l.map keyOf := fun z => by
          rcases List.mem_cons.mp z with z | z
          · exact e1 z
          · exact e2 z
        rw [decide_eq_false hout, decide_eq_false e2, decide_eq_false e1]
        simp
def symOf (id : String) (l : Addr) (r : Value) : Sem Value := do
  let result ← Builtin.Frozenset.newFrom id (← Builtin.Frozenset.baseOf l) r
  holding [result] (Builtin.Frozenset.symmetricDifferenceUpdate id (← Builtin.Frozenset.addrOf result) (.ref l))
  return result
theorem call_xor {b : Addr} {T : Int → Bool} {m : Nat} {Q : Value → Shared → Prop} (Ra : SetR w s.heap a S n) (Rb : SetR w s.heap b T m) (hS : ∀ k, S k = true → Cell k) (hT : ∀ k, T k = true → Cell k)
    (hQ : ∀ h' c, (∀ x u, s.heap.get? x = some u → h'.get? x = some u) → SetR w h' s.heap.objs.size (fun k => xor (S k) (T k)) c → c ≤ 40 → Q (.ref s.heap.objs.size) { s with heap := h' }) :
    wpAny (model P w) A (call (.builtin "set.__xor__") [.ref a, .ref b]) Q E s := by
  have ta : s.TypeIs (.ref a) "set" := set_typ Ra
  have tb : s.TypeIs (.ref b) "set" := set_typ Rb
  have la := Ra.lt
  have lb := Rb.lt
  refine wpAny_call_entry F.slot_set_xor ta entry_set_xor ?_ (F.args_set_xor_2 _ _)
  unfold Builtin.«frozenset.__xor__»
  show wpAny _ _ (do
    let (self, other) ← Builtin.Frozenset.slot1 "__xor__" ⟨[.ref a, .ref b], []⟩
    let (l, r) := if false = true then (other, self) else (self, other)
    if !(← Builtin.Frozenset.isAnySet l <&&> Builtin.Frozenset.isAnySet r) then rule s!"frozenset.{"__xor__"}.declined"; return ← ret .notImplemented
    ret (← symOf s!"frozenset.{"__xor__"}" (← Builtin.Frozenset.addrOf l) r)) _ _ s
  refine wpAny_bind (wpAny_of_eq (a := (Value.ref a, Value.ref b)) (by rfl) ?_)
  dsimp only
  rw [if_neg Bool.false_ne_true]
  dsimp only
  refine wpAny_bind (wpAny_bind (any_set ta ?_))
  show wpAny _ _ (Builtin.Frozenset.isAnySet (.ref b)) _ _ s
  refine any_set tb ?_
  refine wp_if_neg (by simp) ?_
  refine wpAny_bind (m := Builtin.Frozenset.addrOf (.ref a)) (wpAny_pure ?_)
  refine wpAny_bind ?_
  unfold symOf
  refine wpAny_bind (base_set ta ?_)
  refine wpAny_bind ?_
  unfold Builtin.Frozenset.newFrom
  refine wpAny_bind (new_set ?_)
  generalize hr : s.heap.objs.size = r at *
  have hget : (s.heap.push { cls := .type "set", dict := none, data := .set #[] 0 (.fresh 0 0 (!w.params.followText "set-order")) }).get? s.heap.objs.size = some { cls := .type "set", dict := none, data := .set #[] 0 (.fresh 0 0 (!w.params.followText "set-order")) } := Heap.get?_push_size _ rfl
  generalize hg : s.heap.push { cls := .type "set", dict := none, data := .set #[] 0 (.fresh 0 0 (!w.params.followText "set-order")) } = g at *
  have keep : ∀ x u, s.heap.get? x = some u → g.get? x = some u := fun x u e => by
    rw [← hg]
    exact Heap.get?_push_of_some _ e
  have Ra1 : SetR w g a S n := Ra.at fun u e => keep a u e
  have Rb1 : SetR w g b T m := Rb.at fun u e => keep b u e
  refine wpAny_bind (m := Builtin.Frozenset.addrOf (.ref r)) (wpAny_pure ?_)
  refine wpAny_bind (wpAny_holding ?_)
  unfold Builtin.Frozenset.updateFrom
  refine wpAny_bind (any_set (s := { s with heap := g }) (set_typ Rb1) ?_)
  refine wp_if_pos rfl ?_
  refine wpAny_bind (m := Builtin.Frozenset.addrOf (.ref b)) (wpAny_pure ?_)
  unfold Builtin.Frozenset.merge
  obtain ⟨ob, esb, epb, tb2, hob, hxb, hdb, _, _, _, _, hfb, _⟩ := id Rb1
  refine wpAny_bind (wpAny_setEpoch_of hob hdb hfb ?_)
  rw [hr] at hget
  refine merge_new (s := { s with heap := g }) hget Rb1 (Nat.ne_of_gt lb) hT fun h1 sb1 R1 => ?_
  refine wpAny_pure ?_
  refine wpAny_bind (m := Builtin.Frozenset.addrOf (.ref r)) (wpAny_pure ?_)
  refine wpAny_bind (wpAny_holding ?_)
  have hra : a ≠ r := Nat.ne_of_lt la
  have Ra2 : SetR w h1 a S n := Ra1.at fun u e => (sb1.2 a hra).trans e
  unfold Builtin.Frozenset.symmetricDifferenceUpdate
  refine wp_if_neg (by simpa using hra) ?_
  try refine wpAny_bind (wpAny_pure ?_)
  dsimp only
  refine wpAny_bind (wpAny_typeOf (s := { s with heap := h1 }) (set_typ Ra2) ?_)
  refine wp_if_neg (by decide) ?_
  try refine wpAny_bind (wpAny_pure ?_)
  refine wpAny_bind (any_set (s := { s with heap := h1 }) (set_typ Ra2) ?_)
  refine wp_if_pos rfl ?_
  refine wpAny_bind (wpAny_pure ?_)
  refine wpAny_bind (m := Builtin.Frozenset.addrOf (.ref a)) (wpAny_pure ?_)
  obtain ⟨oa, esa, epa, ta2, hoa, hxa, hda, _, _, _, _, hfa, _⟩ := id Ra2
  refine wpAny_bind (wpAny_setEpoch_of hoa hda hfa ?_)
  refine wpAny_holding ?_
  refine wpAny_bind (walk_unseen (s := { s with heap := h1 }) (f := r) Ra2 (fun x hx => by rw [List.mem_singleton.mp hx]; exact ⟨T, m, R1⟩) R1 fun l h2 sb2 R2 gl => ?_)
  obtain ⟨gl1, gl2, gl3, gl4⟩ := gl
  have n40 : n ≤ 40 := SetR.few (s := { s with heap := h1 }) Ra2 hS
  have m40 : m ≤ 40 := SetR.few (s := { s with heap := h1 }) R1 hT
  rw [← Array.forIn_toList]
  refine wpAny_bind (flip_all (a := r) (o := a) (oo := oa) hra ?_ l.toList { s with heap := h2 } T m _ gl1 gl2 ((sb2.2 a hra).trans hoa) R2 (by rw [Array.length_toList, gl4]; unfold scanBound; omega) fun h3 c sb3 R3 => ?_)
  · intro e s0 S0 n0 Q0 ge ho0 R0 room q0
    obtain ⟨k, tk, e1, e2⟩ := ge
    obtain ⟨eh, ev⟩ := e
    dsimp only at e1 e2
    subst e1
    subst e2
    refine wpAny_bind (flip_one R0 room fun h' m' hm' sb' R' => ?_)
    refine wpAny_bind ?_
    unfold Builtin.Frozenset.unchanged
    refine wpAny_bind (wpAny_setEpoch_of ((sb'.2 a hra).trans ho0) hda hfa ?_)
    refine wp_if_neg (by simp) ?_
    exact wpAny_pure (wpAny_pure (q0 h' m' hm' sb' R'))
  refine wpAny_pure (wpAny_pure (wpAny_pure ⟨_, rfl, ?_⟩))
  have Rf : SetR w h3 r (fun k => xor (S k) (T k)) c := R3.congr fun k => by
    have : S k = decide (k ∈ l.toList.map keyOf) := by
      cases h : S k with
      | true => rw [decide_eq_true ((gl3 k).1 h)]
      | false =>
        have : k ∉ l.toList.map keyOf := fun z => by
          have := (gl3 k).2 z
          rw [h] at this
          cases this
        rw [decide_eq_false this]
    rw [this]
    exact Bool.xor_comm _ _
  refine hQ h3 c (fun x u e => ?_) Rf (SetR.few (s := { s with heap := h3 }) Rf fun k hk => ?_)
  · have hxr : x ≠ r := by
      rw [← hr]
      exact Nat.ne_of_lt (Heap.lt_size e)
    exact (sb3.2 x hxr).trans ((sb2.2 x hxr).trans ((sb1.2 x hxr).trans (keep x u e)))
  · cases h : S k with
    | true => exact hS k h
    | false =>
      rw [h] at hk
      exact hT k (by simpa using hk)
end
end Par
namespace Par
open PySem PySem.Spec PyProof.Rows L2
section
variable {X : Cx}
/-- set(t), t a tuple of ints -/
def rSetTup (K : PySem.W.Frag) (w : World) : List V → Hp → VK → Prop := fun xs H Q => ∃ (l : Addr) (ns : List Int), xs = [V.ref l] ∧ SqT K H l (ns.map V.int) ∧ ns.length ≤ 4000 ∧
  ∀ p c, H p = none → Q (.ref p) (upd H p (SetO w p (fun j => decide (j ∈ ns)) c))
theorem cr_setTup (hc : X.calm = true) : CallR X (.type "set") (rSetTup X.K X.w) := by
  intro pins s σ H xs us Q I r h
  obtain ⟨l, ns, rfl, hq, hl, q⟩ := h
  rw [Vals.ref1 r]
  obtain ⟨its, rv, tup, hz⟩ := I.tuple hq
  refine L2.call_set_tupI ns (I.ok.hd hc) tup (by simpa using numbers_of rv) (by unfold scanBound; omega) ?_
  intro h' tk c hS hcn hk
  exact ⟨.ref _, _, I.laid (t' := tk) hk (Nat.le_refl _) (setO_new hS), rfl, q _ c (I.hok.fresh (Nat.le_refl _))⟩
/-- one ^ other, sets of cells -/
def rXor (w : World) : V → V → Hp → VK → Prop := fun x y H Q => ∃ (a b : Addr) (S T : Int → Bool) (n m : Nat), x = V.ref a ∧ y = V.ref b ∧ H a = some (SetO w a S n) ∧ H b = some (SetO w b T m) ∧
  (∀ k, S k = true → Cell k) ∧ (∀ k, T k = true → Cell k) ∧ ∀ p c, H p = none → c ≤ 40 → Q (.ref p) (upd H p (SetO w p (fun k => xor (S k) (T k)) c))
theorem op_xorS : OpR X (binaryOp .BitXor) (rXor X.w) := by
  intro pins s σ H x y v u Q I rx ry h
  obtain ⟨a, b, S, T, n, m, rfl, rfl, ha, hb, hS, hT, q⟩ := h
  cases rx
  cases ry
  have Ra := setO_get I ha
  have Rb := setO_get I hb
  refine wpAny_binaryOp_same (op := .BitXor) (T := "set") (set_typ Ra) (set_typ Rb) F.fills_set_xor F.slot_set_xor ?_
  refine call_xor Ra Rb hS hT fun h' c k R c40 => ⟨by simp, ?_⟩
  exact ⟨.ref _, _, I.laid (t' := s.toks) k (Nat.le_refl _) (setO_new R), rfl, q _ c (I.hok.fresh (Nat.le_refl _)) c40⟩
end
end Par
namespace Par
open PySem PySem.Spec PyProof.Rows L2
section
variable {prog : Program} {w : World} {A : Around} {E : Value → Shared → Prop} {s : Shared}
theorem collect_tup {tp : Addr} {vs : List Value} {Q : List Value → Shared → Prop} (htp : IsTup s.heap tp vs.toArray)
    (h : Q vs { s with heap := (s.heap.push (seqObj "list" #[] 0)).update s.heap.objs.size (Obj.mapSeq (· ++ vs.toArray)) })
    (len : vs.length ≤ sizeLine) : wpAny (model prog w) A (collect (.ref tp)) Q E s := by
  obtain ⟨o, hob, hcl, n, hdt⟩ := id htp
  unfold collect
  refine wpAny_bind (wpAny_runValue ?_)
  refine codeAny_builtin entry_proto_collect' ?_
  show wpAny _ _ (do again (.builtin "list.__iadd__" ⟨[← newList [], .ref tp], []⟩)) _ _ s
  refine wpAny_bind (wpAny_newList (wpAny_pure ?_))
  refine ⟨Code.quiet_builtin _ (by decide +kernel), codeAny_builtin entry_list_iadd' ?_⟩
  show wpAny _ _ (Builtin.List.listExtendWith (.ref s.heap.objs.size) (.ref tp) (.ref s.heap.objs.size)) _ _ { s with heap := s.heap.push (seqObj "list" #[] 0) }
  unfold Builtin.List.listExtendWith -- a tuple's items go over at once
  have ho2 : (s.heap.push (seqObj "list" #[] 0)).get? tp = some o := Heap.get?_push_of_some _ hob
  refine wpAny_bind (wpAny_typeOf (T := "tuple") ⟨o, ho2, hcl⟩ ?_)
  have ht : (Value.type "tuple" == Value.type "tuple") = true := by rfl
  rw [if_pos (by simp [ht])]
  refine wpAny_bind (listItems_at ho2 hdt ?_)
  refine wpAny_bind (listItems_at (n := 0) (xs := #[]) (Heap.get?_push_size _ rfl) rfl ?_)
  rw [if_neg (by simp)]
  have room : (#[] ++ vs.toArray).size ≤ sizeLine + 1 := by
    simp only [Array.size_append, List.size_toArray, List.length_nil]
    omega
  refine wpAny_bind (listUpdate_at (xs := #[]) (n := 0) (Heap.get?_push_size _ rfl) rfl ?_ (Nat.zero_le _) room)
  refine wpAny_pure ?_
  have flat : ((#[] : Array Value) ++ vs.toArray).toList = vs := by simp
  refine wpAny_bind (wpAny_load (get?_update_seq (Heap.get?_push_size s.heap rfl) _) ?_)
  show wpAny _ _ (pure (#[] ++ vs.toArray).toList) Q E _
  rw [flat]
  exact wpAny_pure h
theorem sorted_tupOrd {tp : Addr} {vs : List Value} {ltv : Value → Value → Bool} {Q : Value → Shared → Prop} (O : SrtO.Swo ltv) (htp : IsTup s.heap tp vs.toArray) (hz : vs.length ≤ sizeLine)
    (can : 2 ≤ vs.length → ∀ (h1 : Heap) (a : Addr), h1.get? a = some (seqObj "list" vs.toArray 0) → (∀ b o, s.heap.get? b = some o → b ≠ a ∧ h1.get? b = some o) → SrtO.SortableO prog w A.in1.in1 { s with heap := h1 } a vs ltv)
    (h : ∀ out : List Value, SrtO.Srtd ltv out → SrtO.Stb ltv out vs → Q (.ref (s.heap.objs.size + 1)) { s with heap := sortedAll s.heap vs out.toArray }) :
    wpAny (model prog w) A (call (.builtin "sorted") [.ref tp]) Q E s := by
  refine Calls.call_function_entry kind_sorted plain_sorted entry_sorted (args_sorted1 (.ref tp)) ?_
  unfold Builtin.«sorted»
  refine wpAny_bind (m := checkCount "sorted" 1 1 _) ?_
  refine wpAny_pure ?_
  refine wpAny_bind (collect_tup htp ?_ hz)
  refine wpAny_bind (wpAny_newList (s := _) ?_ hz)
  generalize eg : (s.heap.push (seqObj "list" #[] 0)).update s.heap.objs.size (Obj.mapSeq (· ++ vs.toArray)) = g
  have hsz : g.objs.size = s.heap.objs.size + 1 := by rw [← eg, Heap.size_update, size_push']
  have hoL : (g.push (seqObj "list" vs.toArray 0)).get? (s.heap.objs.size + 1) = some (seqObj "list" vs.toArray 0) := by
    rw [← hsz]
    exact Heap.get?_push_size g rfl
  have keep : ∀ b o, s.heap.get? b = some o → b ≠ s.heap.objs.size + 1 ∧ (g.push (seqObj "list" vs.toArray 0)).get? b = some o := by
    intro b o q
    have hbl : b < s.heap.objs.size := Heap.lt_size q
    refine ⟨Nat.ne_of_lt (Nat.lt_succ_of_lt hbl), Heap.get?_push_of_some (seqObj "list" vs.toArray 0) ?_⟩
    rw [← eg, Heap.get?_update_ne _ _ _ _ (Nat.ne_of_lt hbl)]
    exact Heap.get?_push_of_some (seqObj "list" #[] 0) q
  show wpAny _ _ _ _ _ { s with heap := g.push (seqObj "list" vs.toArray 0) }
  rw [hsz]
  refine wpAny_bind (wpAny_holding (wpAny_call_entry slot_list_sort ⟨_, hoL, rfl⟩ entry_list_sort (SrtO.list_sort_ord O hoL hz (fun h2 => can h2 _ _ hoL keep) ?_) (args_list_sort _)))
  intro out hs hb
  refine ⟨_, rfl, ?_⟩
  subst eg
  exact wpAny_pure ⟨.ref (s.heap.objs.size + 1), rfl, h out hs hb⟩
end
/-- sorted(t), t a tuple of ints -/
theorem cr_sortedTup {X : Cx} : CallR X (.builtin "sorted") (fun vs H Q => ∃ (a : Addr) (ns : List Int), vs = [V.ref a] ∧ SqT X.K H a (ns.map V.int) ∧
    ∀ (ms : List Int) (p : Addr), ms.Perm ns → ms.Pairwise (· ≤ ·) → H p = none → Q (.ref p) (upd H p (.lst (ms.map V.int)))) := by
  intro pins s σ H vs us Q I r h
  obtain ⟨a, ns, rfl, hs, q⟩ := h
  obtain ⟨its, rv, htp, hz⟩ := I.tuple hs
  rw [Vals.ref1 r]
  have hi := rv.ints
  refine sorted_tupOrd SrtO.swo_int htp (by rw [← rv.length]; exact hz) (fun h2 h1 a2 _ _ => SrtO.ints_sortable hi h2) ?_
  intro out h1 h2
  obtain ⟨o1, o2, o3⟩ := SrtO.ints_out hi h1 h2
  obtain ⟨ep, he⟩ := PyProof.Rows.sortedAll_at s.heap its out.toArray
  have hshort : ((out.map SrtO.iv).map V.int).length ≤ sizeLine := by
    rw [List.length_map, o2.length_eq]
    rw [List.length_map] at hz
    exact hz
  have lay := I.laid (t' := s.toks) (a := s.heap.objs.size + 1) (o := .lst ((out.map SrtO.iv).map V.int)) (fun _ _ => PyProof.Rows.sortedAll_old) (Nat.le_succ _)
    ⟨hshort, out, ep, vals_of_ints o1, he⟩
  exact ⟨.ref _, _, lay, rfl, q _ _ o2 o3 (I.hok.fresh (Nat.le_succ _))⟩
end Par
namespace Par
open PySem PySem.Spec PyProof.Rows L2
theorem meets_enumT (l : Addr) (items : Array Value) :
    Meets (Builtin.«enumerate.__new__» ⟨[.type "enumerate", .ref l], []⟩) (fun _ R s => s.heap.IsTuple l items ∧
      R (.ok (.ret (.ref (s.heap.push { cls := .type "tuple_iterator", data := .fields #[.ref l, .int 0 0] }).objs.size)))
        { s with heap := (s.heap.push { cls := .type "tuple_iterator", data := .fields #[.ref l, .int 0 0] }).push { cls := .type "enumerate", data := .fields #[.none, .bool false, .ref s.heap.objs.size, rawInt 0, .none, .none] } }) := by
  refine .of_wp ?_
  rintro prog w A R ⟨hp, g, d, tk, os⟩ ⟨h1, h⟩
  have sub1 := sub_enumerate
  have it1 : ∀ {B : Around} {E : Value → Shared → Prop} {Q : Value → Shared → Prop},
      Q (.ref hp.objs.size) ⟨hp.push { cls := .type "tuple_iterator", data := .fields #[.ref l, .int 0 0] }, g, d, tk, os⟩ → wpAny (model prog w) B (pyIter (.ref l)) Q E ⟨hp, g, d, tk, os⟩ :=
    fun q => (begins_tuple l items).iter prog w _ _ ⟨hp, g, d, tk, os⟩ _ h1 q
  wp_walk using it1
  refine wpAny_stack_any (fun st => wpAny_pure ?_)
  split
  · rename_i c _ _ _ _ _
    cases (c == Value.type "enumerate") <;> (wp_walk using it1; exact ⟨_, rfl, h⟩)
  · wp_walk using it1
    exact ⟨_, rfl, h⟩
section
variable {prog : Program} {w : World} {A : Around} {E : Value → Shared → Prop} {s : Shared}
theorem call_enumT {l : Addr} {items : Array Value} {Q : Value → Shared → Prop} (hL : s.heap.IsTuple l items)
    (h : ∀ h', IsEnum h' (s.heap.objs.size + 1) s.heap.objs.size 0 .none → h'.IsTupleIter s.heap.objs.size l 0 → (∀ b o, s.heap.get? b = some o → h'.get? b = some o) →
      Q (.ref (s.heap.objs.size + 1)) { s with heap := h' }) : wpAny (model prog w) A (call (.type "enumerate") [.ref l]) Q E s := by
  refine callType_new F.called_enumerate (by decide) (F.typeCall_enumerate_1 _) (F.newCall_enumerate_1 _) (fun obj => F.args_object_init_2 obj _) F.entry_enumerate_new (meets_enumT l items) ⟨hL, ?_⟩
  generalize eg : s.heap.push { cls := .type "tuple_iterator", data := .fields #[.ref l, .int 0 0] } = g
  have hz : g.objs.size = s.heap.objs.size + 1 := by rw [← eg]; exact Heap.size_push ..
  have hi : g.get? s.heap.objs.size = some { cls := .type "tuple_iterator", data := .fields #[.ref l, .int 0 0] } := by rw [← eg]; exact Heap.get?_push_size _ rfl
  have hk : ∀ b o, s.heap.get? b = some o → g.get? b = some o := by rw [← eg]; exact fun b o x => Heap.get?_push_of_some _ x
  show _ ∧ _
  have he := Heap.get?_push_size g (o := { cls := .type "enumerate", data := .fields #[.none, .bool false, .ref s.heap.objs.size, rawInt 0, .none, .none] }) rfl
  rw [hz] at he ⊢
  exact ⟨⟨_, he, rfl⟩, h _ he ⟨_, Heap.get?_push_of_some _ hi, rfl, rfl⟩ fun b o x => Heap.get?_push_of_some _ (hk b o x)⟩
end
/-- the tuple at a, each item in a new pair -/
def ItEnT (K : PySem.W.Frag) (a : Addr) : It where
  go := fun i H => ∃ (xs : List V) (x : V), SqT K H a xs ∧ xs[i]? = some x
  yld := fun i H v H' => ∃ T x, v = .ref T ∧ H T = none ∧ H' = upd H T (.tup [.int (i : Nat), x]) ∧ ∀ xs, SqT K H a xs → xs[i]? = some x
  stop := fun i H => ∃ xs : List V, SqT K H a xs ∧ xs.length ≤ i
theorem turn_enumT {P : Program} {w : World} {K : PySem.W.Frag} {elts : List Expr} {kk : Nat} {tpos : Pos} (a e it : Addr) :
    Turn P w K (.Tuple elts kk tpos) (ItEnT K a) [e, it] e (fun i h => (∃ old, IsEnum h e it ((i : Nat) : Int) old) ∧ h.IsTupleIter it a i ∧ e ≠ it ∧ a ≠ it ∧ a ≠ e) where
  mem := by simp
  obj := by
    rintro i h ⟨⟨old, he⟩, ⟨o, ho, hc, hd⟩, _⟩ b hb
    rcases (show b = e ∨ b = it by simpa using hb) with rfl | rfl
    · exact ⟨_, he, fun v q => nomatch q⟩
    · exact ⟨o, ho, fun v q => by rw [hd] at q; cases q⟩
  keep := by
    rintro i h h' ⟨⟨old, he⟩, ⟨o, ho, r⟩, ne⟩ k
    exact ⟨⟨old, k e (by simp) _ he⟩, ⟨o, k it (by simp) o ho, r⟩, ne⟩
  item := by
    intro X hP hw hK hc i pins s σ H E I hf st hg
    subst hP hw hK
    obtain ⟨⟨old, he⟩, hit, hne, n1, n2⟩ := st
    obtain ⟨xs, x, hq, hx⟩ := hg
    obtain ⟨its, rv, p, hz⟩ := I.tuple hq
    obtain ⟨u, hu, ru⟩ := rv.get hx
    have hel : e < s.heap.objs.size := Heap.lt_size he
    have hil : it < s.heap.objs.size := let ⟨_, q, _⟩ := hit; Heap.lt_size q
    have hlt : i < its.toArray.size := by
      rcases Nat.lt_or_ge i its.length with z | z
      · simpa using z
      · rw [List.getElem?_eq_none z] at hu
        cases hu
    have hh : X.A.in1.handled = none := I.ok.hd hc
    refine wpAny_pyNext_enum_itemD (Draws.tuple hh it a n1 its.toArray) he ⟨hit, p⟩ hlt hne (by simp [hne, Ne.symm n2]) ?_
    intro y h1 tk hy ho hit1 hT hsz hk
    have ey : y = u := by
      have q : its.toArray[i]? = some u := by simpa using hu
      rw [hy] at q
      exact Option.some.inj q
    subst ey
    refine ⟨_, rfl, wpAny_letOwnedTupleGo_enum (s := { s with heap := h1, toks := tk + 1 }) ho ?_⟩
    intro h2 he2 sb
    have hT2 : h2.get? s.heap.objs.size = some { cls := .type "tuple", data := .seq #[.int i tk, y] } := (sb.2 _ (Nat.ne_of_gt hel)).trans hT
    have new : ObjOk X.prog X.w (upd H s.heap.objs.size (.tup [.int (i : Nat), x])) h2 s.heap.objs.size (.tup [.int (i : Nat), x]) :=
      ⟨by show 2 ≤ sizeLine; decide, [.int i tk, y], .cons ⟨_, rfl⟩ (.cons ru .nil), ⟨_, hT2, rfl, _, rfl⟩⟩
    have I1 : L2.Inv X pins σ (upd H s.heap.objs.size (.tup [.int (i : Nat), x])) { s with heap := h2, toks := tk + 1 } := by
      refine I.turnedNew (ch := [e, it]) ?_ hf (Nat.le_refl _) new
      intro b ob hb q
      have b1 : b ≠ e := fun z => hb (by simp [z])
      exact (sb.2 b b1).trans (hk b ob b1 (fun z => hb (by simp [z])) q)
    refine ⟨.ref s.heap.objs.size, _, I1, rfl, ⟨_, x, rfl, I.hok.fresh (Nat.le_refl _), rfl, ?_⟩, ⟨⟨y, ?_⟩, ?_, hne, n1, n2⟩, ?_⟩
    · intro ys hy
      rw [I.tuple_inj hy hq]
      exact hx
    · have e1 : ((i + 1 : Nat) : Int) = (i : Int) + 1 := by omega
      rw [e1]
      exact he2
    · obtain ⟨o, q, r⟩ := hit1.1
      exact ⟨o, (sb.2 it (Ne.symm hne)).trans q, r⟩
    · intro b hb
      have hb2 : b < s.heap.objs.size := by
        rcases (show b = e ∨ b = it by simpa using hb) with rfl | rfl
        · exact hel
        · exact hil
      rw [upd_ne (Nat.ne_of_lt hb2)]
      exact (hf b hb).1
  done := by
    intro X hP hw hK hc i pins s σ H E I hf st hg
    subst hP hw hK
    obtain ⟨⟨old, he⟩, hit, hne, n1, n2⟩ := st
    obtain ⟨xs, hq, hx⟩ := hg
    obtain ⟨its, rv, p, hz⟩ := I.tuple hq
    obtain ⟨f0, f1, f2, f3, f4, f5⟩ := hf it (by simp)
    have hh : X.A.in1.handled = none := I.ok.hd hc
    by_cases hi : i = its.toArray.size
    · subst hi
      refine wpAny_pyNext_enum_endD (Draws.tuple hh it a n1 its.toArray) he ⟨hit, p⟩ ?_
      intro h1 ex
      exact ⟨rfl, I.turned (t' := s.toks) (fun b o hb q => ex b o hb q) f0 f1 f3 f4 f5⟩
    · refine wpAny_bind (wpAny_attempt (wpAny_callSpecial?_slot (s := s) (name := Str.ofString "__next__") ⟨_, he, rfl⟩ F.slot_enumerate_next
        (wpAny_call_entry (s := s) F.slot_enumerate_next ⟨_, he, rfl⟩ F.entry_enumerate_next ?_ (F.args_enumerate_next_1 _))))
      show wpAny _ _ (field (Value.ref e) 2 >>= _) _ _ s
      refine wpAny_bind (wpAny_field (s := s) he rfl (x := .ref it) rfl ?_)
      refine wpAny_bind (wpAny_nextOf_tuple_end hh hit p (by simp; have := rv.length; omega) ?_)
      rintro h1 z ex ⟨o, ho, hcl⟩
      refine wpAny_bind (wpAny_isInstance (T := "StopIteration") (b := true) ⟨o, ho, hcl⟩ isSubtype_stop ?_)
      exact wpAny_pure ⟨rfl, I.turned (t' := s.toks) (fun b o hb q => ex b o hb q) f0 f1 f3 f4 f5⟩
  self := by
    rintro A i s Q E ⟨⟨_, he⟩, _⟩ h
    exact wpAny_pyIter_enum he h
def iEnumT (K : PySem.W.Frag) (ta : TA) : TI := fun σ H R => ta σ H fun vs H1 => ∃ a xs, vs = [.ref a] ∧ SqT K H1 a xs ∧ R (ItEnT K a) H1
/-- for i, x in enumerate(t), t a tuple -/
theorem pi_enumT {X : Cx} {e : Expr} {ta : TA} {p pos tpos : Pos} {elts : List Expr} {kk : Nat} (hg : Gl X "enumerate") (hm : X.mg "enumerate" = none) (ha : PA X [e] ta)
    (hs : starEach [e] X.env = [(false, eval e X.env)] := by rfl) : PI X (.Tuple elts kk tpos) (.Call (.Name "enumerate" p) [e] [] pos) (iEnumT X.K ta) := by
  constructor
  intro pins s σ H R I h
  refine Call_ (ld_blt I hg hm boot_enumerate (PyProof.Rows.callWith_type1 (thn (ha.run pos pins s σ H _ I h) ?_) hs rfl))
  rintro us s1 ⟨vs, H1, I1, r1, a, xs, rfl, hq, q⟩
  cases r1 with
  | cons r rr =>
    cases rr
    cases r
    obtain ⟨its, rv, pl, hz⟩ := I1.tuple hq
    refine call_enumT pl ?_
    intro h1 he hit hk
    refine wpAny_pyIter_enum he ?_
    have I2 : L2.Inv X pins σ H1 { s1 with heap := h1 } := I1.kept (t' := s1.toks) hk
    have al : a < s1.heap.objs.size := pl.lt
    refine ⟨s1.heap.objs.size + 1, [s1.heap.objs.size + 1, s1.heap.objs.size], _, _, H1, rfl, I2, turn_enumT a (s1.heap.objs.size + 1) s1.heap.objs.size,
      ⟨⟨.none, he⟩, hit, Nat.succ_ne_self _, Nat.ne_of_lt al, Nat.ne_of_lt (Nat.lt_succ_of_lt al)⟩, ?_, q⟩
    intro b hb
    have hle : s1.heap.objs.size ≤ b := by
      rcases (show b = s1.heap.objs.size + 1 ∨ b = s1.heap.objs.size by simpa using hb) with z | z
      · rw [z]
        exact Nat.le_succ _
      · rw [z]
        exact Nat.le_refl _
    exact I1.fpOk hle (I1.hok.fresh hle)
theorem walk_enumT {K : PySem.W.Frag} {a : Addr} {xs : List V} :
    Walk (ItEnT K a) xs.length (fun H => SqT K H a xs) (YPair (fun i => some (.int (i : Nat))) (fun i => xs[i]?)) where
  goes := fun i H hi h => ⟨xs, xs[i], h, by simp [hi]⟩
  stops := fun H h => ⟨xs, h, Nat.le_refl _⟩
  yields := by
    rintro i H v H' hi h ⟨T, x, rfl, hn, rfl, hx⟩
    exact ⟨T, _, x, rfl, hn, rfl, rfl, hx xs h⟩
end Par
namespace Par
open PySem PySem.Spec PyProof.Rows L2

section
variable {X : Cx} {CX : CXT} {k : Nat} {f : Addr} {fd : FuncData} {ps ks : List Str} {sp : Sp} {E : XK} {x : Str} {p pos : Pos} {kws : List Keyword} {tk : TA}
  {g : List Value → List Value → List Value} {gV : List V → List V → List V}
/-- f(k = v, ..), no positional argument -/
theorem pe_callN0 (F : FnOk X.prog X.w X.K X.mg X.base CX k f fd ps sp) (hr : Room k X.A) (hg : Gl X x) (hm : X.mg x = some (.ref f))
    (hk : PySem.W.keepIn X.K (.ref f) = true) (hb : KBn X.K fd ps 0 ks g gV) (hx : Passes CX X E) (hkw : PK X kws tk)
    (hall : (backToKw pos (keywordEach kws X.env)).all (·.1.isSome) = true := by rfl)
    (hks : (backToKw pos (keywordEach kws X.env)).filterMap (·.1) = ks := by rfl)
    (hdb : (x == ("__debug__" : Str)) = false := by decide)
    (hpl : ((backTo pos (starEach [] X.env)).any (·.1) || (backToKw pos (keywordEach kws X.env)).any (·.1.isNone)) = false := by rfl) :
    PE X (.Call (.Name x p) [] kws pos) (tCallN 0 ks.length sp gV E tNil tk) := by
  constructor
  intro pins s σ H Q I h
  refine wpAny_Call_Name_kw (ld_glob I hg hm ?_ hdb)
  refine PySem.W.callWith_KW0 (h₀ := X.base) I.ok.mod.kin hk hall ?_ hpl
  refine thn (hkw.run pos pins s σ H _ I h) ?_
  rintro ws s2 ⟨zs, H2, I2, rz, l1, l2, q2⟩
  refine ⟨I2.kIn, ?_⟩
  rw [hks]
  exact run_fnN F hr hb hx I2 .nil rz l1 l2 q2
end

/-! ### a new list whose place is not that of sys.modules -/
def tLstS (t : TA) : TE := fun σ H Q => t σ H fun xs H1 => xs.length ≤ sizeLine ∧ ∀ p, H1 p = none → p ≠ sysModules → Q (.ref p) (upd H1 p (.lst xs))
theorem new_ne_sys {X : Cx} {pins : List (Addr × Obj)} {σ : L2.St} {H : Hp} {s : Shared} (I : Inv X pins σ H s) : s.heap.objs.size ≠ sysModules := by
  obtain ⟨o, _, _, e, _⟩ := I.ok.mod.glob
  have h1 := Heap.lt_size (I.bk _ _ e)
  intro z
  rw [z] at h1
  exact absurd h1 (by decide)
theorem pe_lstS {X : Cx} {es : List Expr} {t : TA} {pos : Pos} (h : PA X es t) : PE X (.List es pos) (tLstS t) := by
  constructor
  intro pins s σ H Q I hq
  refine wpAny_List_spliced (thn (h.run pos pins s σ H _ I hq) ?_)
  rintro us s1 ⟨xs, H1, I1, r, z, q⟩
  refine ⟨by rw [← r.length]; exact z, ?_⟩
  have free : H1 s1.heap.objs.size = none := I1.hok.fresh (Nat.le_refl _)
  have lay := I1.laid (t' := s1.toks) (o := .lst xs) (h' := s1.heap.push { cls := .type "list", data := .seq us.toArray 0 })
    (fun b u e => Heap.get?_push_of_some _ e) (Nat.le_refl _) ⟨z, us, 0, r, Heap.get?_push_size _ rfl⟩
  exact ⟨V.ref s1.heap.objs.size, _, lay, rfl, q _ free (new_ne_sys I1)⟩

/-! ### repr -/
/-- a value that is no container, or a dict with keys and values that are none -/
inductive Fl (H : Hp) : V → PyData → Prop
  | non : Fl H .non .none
  | bl (b : Bool) : Fl H (.bl b) (.bool b)
  | int (i : Int) : Fl H (.int i) (.int i)
  | str (x : Str) : Fl H (.str x) (.str x)
  | dic0 {a : Addr} : H a = some (.dK []) → Fl H (.ref a) (.dict [])
  | dic1 {a : Addr} {i j : Int} : H a = some (.dK [(Sum.inl i, .int j)]) → Fl H (.ref a) (.dict [(.int i, .int j)])
inductive FlAll (H : Hp) : List V → List PyData → Prop
  | nil : FlAll H [] []
  | cons {v : V} {vs : List V} {d : PyData} {ds : List PyData} : Fl H v d → FlAll H vs ds → FlAll H (v :: vs) (d :: ds)
/-- what repr is asked of: data without a dict, a flat thing, a list of flat things -/
inductive Dx (K : PySem.W.Frag) (H : Hp) : V → PyData → Prop
  | dp {v : V} {d : PyData} : Dp K H v d → Dx K H v d
  | fl {v : V} {d : PyData} : Fl H v d → Dx K H v d
  | lst {a : Addr} {xs : List V} {ds : List PyData} : H a = some (.lst xs) → a ≠ sysModules → FlAll H xs ds → Dx K H (.ref a) (.list ds)

mutual
theorem dp_nodict {K : PySem.W.Frag} {H : Hp} : ∀ (d : PyData) (v : V), Dp K H v d → d.hasDict = false
  | .none, _, _ => rfl
  | .bool _, _, _ => rfl
  | .int _, _, _ => rfl
  | .str _, _, _ => rfl
  | .list ds, _, h => by
    cases h with
    | lst _ ha => exact dps_nodict ds _ ha
  | .tuple ds, _, h => by
    cases h with
    | tup _ ha => exact dps_nodict ds _ ha
  | .dict _, _, h => by cases h
theorem dps_nodict {K : PySem.W.Frag} {H : Hp} : ∀ (ds : List PyData) (vs : List V), DpAll K H vs ds → PyData.hasDictAll ds = false
  | [], _, _ => rfl
  | d :: ds, _, h => by
    cases h with
    | cons h1 h2 =>
      show (d.hasDict || PyData.hasDictAll ds) = false
      rw [dp_nodict d _ h1, dps_nodict ds _ h2]
      rfl
end

section
variable {X : Cx} {pins : List (Addr × Obj)} {σ : L2.St} {H : Hp} {s : Shared}
theorem fl_reads (I : Inv X pins σ H s) {v : V} {d : PyData} {u : Value} (h : Fl H v d) (r : RelV v u) : ∃ as, Reads s.heap u d as ∧ sysModules ∉ as := by
  cases h with
  | non =>
    cases r
    exact ⟨_, Reads.none, by simp⟩
  | bl b =>
    cases r
    exact ⟨_, Reads.bool b, by simp⟩
  | int i =>
    obtain ⟨t, rfl⟩ := r
    exact ⟨_, Reads.int i t, by simp⟩
  | str x =>
    obtain ⟨t, rfl⟩ := r
    exact ⟨_, Reads.str x t, by simp⟩
  | @dic0 a e =>
    cases r
    obtain ⟨_, ns, vs, kv, o, es, ep, ho, hx, hd, hk, hp, _⟩ := dk_of I.hok e
    cases kv
    have ne : sysModules ≠ a := fun z => by rw [← z] at ns; exact absurd ns (by decide)
    cases hes : es.toList with
    | cons e1 t1 => rw [hes] at hp; cases hp
    | nil =>
      refine ⟨_, Reads.dict (kvs := []) (as := []) (bs := []) ho hx.1 hd (by rw [hes]; exact ReadsAll.nil) (by rw [hes]; exact ReadsAll.nil), ?_⟩
      simpa using ne
  | @dic1 a i j e =>
    cases r
    obtain ⟨_, ns, vs, kv, o, es, ep, ho, hx, hd, hk, hp, _⟩ := dk_of I.hok e
    have ne : sysModules ≠ a := fun z => by rw [← z] at ns; exact absurd ns (by decide)
    cases kv with
    | @cons _ q _ _ k1 k2 =>
      cases k2
      obtain ⟨k, u⟩ := q
      obtain ⟨e1, t, e2⟩ := k1
      have e1' : Sum.inl i = k := e1
      have e2' : u = Value.int j t := e2
      subst e1' e2'
      cases hes : es.toList with
      | nil => rw [hes] at hp; cases hp
      | cons e1 t1 =>
        rw [hes] at hp
        cases hp with
        | cons p1 p3 p2 =>
          cases p2
          have p1' : keyIs (Sum.inl i) e1.key = true := p1
          rcases keyIs_shape p1' with ⟨i2, t2, w1, w2⟩ | ⟨x2, t2, w1, w2⟩
          · cases w1
            have p3' : e1.val = Value.int j t := p3
            refine ⟨_, Reads.dict (kvs := [(.int i, .int j)]) ho hx.1 hd (as := [] ++ []) (bs := [] ++ []) ?_ ?_, ?_⟩
            · rw [hes]
              show ReadsAll s.heap [e1.key] [PyData.int i] ([] ++ [])
              rw [w2]
              exact ReadsAll.cons (Reads.int i t2) ReadsAll.nil
            · rw [hes]
              show ReadsAll s.heap [e1.val] [PyData.int j] ([] ++ [])
              rw [p3']
              exact ReadsAll.cons (Reads.int j t) ReadsAll.nil
            · simpa using ne
          · cases w1
theorem flAll_reads (I : L2.Inv X pins σ H s) : ∀ {vs : List V} {ds : List PyData} {us : List Value}, FlAll H vs ds → Vals vs us → ∃ as, ReadsAll s.heap us ds as ∧ sysModules ∉ as
  | _, _, _, .nil, .nil => ⟨_, ReadsAll.nil, by simp⟩
  | _, _, _, .cons h1 h2, .cons r1 r2 => by
    obtain ⟨as, q1, n1⟩ := fl_reads I h1 r1
    obtain ⟨bs, q2, n2⟩ := flAll_reads I h2 r2
    refine ⟨_, ReadsAll.cons q1 q2, ?_⟩
    intro z
    rcases List.mem_append.mp z with z | z
    · exact n1 z
    · exact n2 z
theorem dx_reads (I : L2.Inv X pins σ H s) {v : V} {d : PyData} {u : Value} (h : Dx X.K H v d) (r : RelV v u) :
    ∃ as, Reads s.heap u d as ∧ (d.hasDict = true → sysModules ∉ as) := by
  cases h with
  | dp h =>
    obtain ⟨as, q⟩ := Dp.reads I d v u h r
    refine ⟨as, q, fun z => ?_⟩
    rw [dp_nodict d v h] at z
    cases z
  | fl h =>
    obtain ⟨as, q, n⟩ := fl_reads I h r
    exact ⟨as, q, fun _ => n⟩
  | @lst a xs ds e ne h =>
    cases r
    obtain ⟨its, rv, ⟨o, n, ho, hc, _, hd⟩, _⟩ := I.list (a := a) (xs := xs) (SqL.of e)
    obtain ⟨as, q, nn⟩ := flAll_reads I h rv
    refine ⟨_, Reads.list ho hc hd q, fun _ z => ?_⟩
    rcases List.mem_cons.mp z with z | z
    · exact ne z.symm
    · exact nn z
end

section
variable {X : Cx}
/-- repr(x) where the guards are none -/
theorem cr_repr (gs : X.A.guards = some []) (hu : X.A.units + 64 < cLine) : CallR X (.builtin "repr") (fun xs H Q => ∃ v d, xs = [v] ∧ Dx X.K H v d ∧
    d.showable = true ∧ d.depth ≤ 40 ∧ d.shown.length ≤ sizeLine ∧ Q (.str d.shown) H) := by
  intro pins s σ H xs us Q I r h
  obtain ⟨v, d, rfl, hd, sh, dep, len, q⟩ := h
  cases r with
  | @cons _ u _ _ r1 r2 =>
    cases r2
    obtain ⟨as, rd, ns⟩ := dx_reads I hd r1
    have fin : ∀ (h' : Heap) (tk u' : Nat), (∀ b o, s.heap.get? b = some o → h'.get? b = some o) → EP X pins σ Q (.str d.shown u') { s with heap := h', toks := tk } :=
      fun h' tk u' k => ⟨.str d.shown, H, I.un (t' := tk) (Un.kept k) (I.hok.kept k), ⟨_, rfl⟩, q⟩
    cases u with
    | ref a => exact repr_of_reads' rd sh ns gs (by omega) (fun _ _ z => z) (fun h' u tk k => fin h' tk u k) len
    | none => cases rd; exact PySem.P.repr_of_none (fin s.heap _ _ fun _ _ z => z)
    | bool b => cases rd; exact PySem.P.repr_of_bool (fin s.heap _ _ fun _ _ z => z)
    | int i t => cases rd; exact PySem.P.repr_of_int (by simpa [PyData.showable] using sh) (fin s.heap _ _ fun _ _ z => z)
    | str x t => cases rd; exact PySem.P.repr_of_str (fin s.heap _ _ fun _ _ z => z) len
    | _ => cases rd
end
end Par
namespace Par
open PySem PySem.Spec PyProof.Rows L2
/-! ### data stays data -/
theorem sqL_same {K : PySem.W.Frag} {H H' : Hp} {a : Addr} {xs : List V} (s : Same H H') (h : SqL K H a xs) : SqL K H' a xs := s.seq h
theorem sqT_same {K : PySem.W.Frag} {H H' : Hp} {a : Addr} {xs : List V} (s : Same H H') (h : SqT K H a xs) : SqT K H' a xs := by
  rcases h with (h | ⟨o, h⟩) | h
  · exact .inl (.inl (s _ _ h))
  · exact .inl (.inr ⟨o, s _ _ h⟩)
  · exact .inr h
mutual
theorem dp_same {K : PySem.W.Frag} {H H' : Hp} (s : Same H H') : ∀ (d : PyData) (v : V), Dp K H v d → Dp K H' v d
  | .none, _, h => by cases h; exact .non
  | .bool b, _, h => by cases h; exact .bl b
  | .int i, _, h => by cases h; exact .int i
  | .str x, _, h => by cases h; exact .str x
  | .list ds, _, h => by
    cases h with
    | lst q ha => exact .lst (sqL_same s q) (dps_same s ds _ ha)
  | .tuple ds, _, h => by
    cases h with
    | tup q ha => exact .tup (sqT_same s q) (dps_same s ds _ ha)
  | .dict _, _, h => by cases h
theorem dps_same {K : PySem.W.Frag} {H H' : Hp} (s : Same H H') : ∀ (ds : List PyData) (vs : List V), DpAll K H vs ds → DpAll K H' vs ds
  | [], _, h => by cases h; exact .nil
  | d :: ds, _, h => by
    cases h with
    | cons h1 h2 => exact .cons (dp_same s d _ h1) (dps_same s ds _ h2)
end
theorem fl_same {H H' : Hp} (s : Same H H') {v : V} {d : PyData} (h : Fl H v d) : Fl H' v d := by
  cases h with
  | non => exact .non
  | bl b => exact .bl b
  | int i => exact .int i
  | str x => exact .str x
  | dic0 e => exact .dic0 (s _ _ e)
  | dic1 e => exact .dic1 (s _ _ e)
/-- a thing that is handed in: flat, a dict, or a list or tuple of data -/
inductive Giv (K : PySem.W.Frag) (H : Hp) : V → PyData → Prop
  | fl {v : V} {d : PyData} : Fl H v d → Giv K H v d
  | lst {a : Addr} {xs : List V} {ds : List PyData} : H a = some (.lst xs) → DpAll K H xs ds → xs.length ≤ 200 → Giv K H (.ref a) (.list ds)
  | tup {a : Addr} {xs : List V} {ds : List PyData} : H a = some (.tup xs) → DpAll K H xs ds → xs.length ≤ 200 → Giv K H (.ref a) (.tuple ds)
theorem giv_same {K : PySem.W.Frag} {H H' : Hp} (s : Same H H') {v : V} {d : PyData} (h : Giv K H v d) : Giv K H' v d := by
  cases h with
  | fl f => exact .fl (fl_same s f)
  | lst e q l => exact .lst (s _ _ e) (dps_same s _ _ q) l
  | tup e q l => exact .tup (s _ _ e) (dps_same s _ _ q) l
theorem giv_dx {K : PySem.W.Frag} {H : Hp} {v : V} {d : PyData} (h : Giv K H v d) : Dx K H v d := by
  cases h with
  | fl f => exact .fl f
  | lst e q _ => exact .dp (.lst (SqL.of e) q)
  | tup e q _ => exact .dp (.tup (SqT.of e) q)
theorem dps_ints {K : PySem.W.Frag} {H : Hp} : ∀ ns : List Int, DpAll K H (ns.map V.int) (ns.map PyData.int)
  | [] => .nil
  | n :: ns => .cons (.int n) (dps_ints ns)
theorem dps_bools {K : PySem.W.Frag} {H : Hp} : ∀ bs : List Bool, DpAll K H (bs.map V.bl) (bs.map PyData.bool)
  | [] => .nil
  | n :: ns => .cons (.bl n) (dps_bools ns)
theorem dps_append {K : PySem.W.Frag} {H : Hp} : ∀ {xs ys : List V} {ds es : List PyData}, DpAll K H xs ds → DpAll K H ys es → DpAll K H (xs ++ ys) (ds ++ es)
  | _, _, _, _, .nil, h => h
  | _, _, _, _, .cons h1 h2, h => .cons h1 (dps_append h2 h)

/-! ### what is shown is short -/
def small (d : PyData) : Prop := d.showable = true ∧ d.depth ≤ 4 ∧ d.shown.length ≤ 200
def good (d : PyData) : Prop := d.showable = true ∧ d.depth ≤ 8 ∧ d.shown.length ≤ 200000
theorem log_lt {n k : Nat} (h : n < 2 ^ k) (hk : 0 < k) : n.log2 < k := by
  by_cases h0 : n = 0
  · subst h0
    exact hk
  · exact (Nat.log2_lt h0).mpr h
theorem small_int {i : Int} (h : i.natAbs < 2 ^ 100) : small (.int i) := by
  have h1 := log_lt h (by decide)
  refine ⟨?_, Nat.zero_le _, ?_⟩
  · show decide (i.natAbs.log2 < 1920) = true
    exact decide_eq_true (by omega)
  · show (Str.ofString (toString i)).length ≤ 200
    have h2 := int_text_length_le (a := i) (k := 100) (by decide) h1
    rw [PySem.ofString_length]
    omega
theorem small_bool (b : Bool) : small (.bool b) := by cases b <;> exact ⟨by decide, by decide, by decide +kernel⟩
theorem small_good {d : PyData} (h : small d) : good d := ⟨h.1, by have := h.2.1; omega, by have := h.2.2; omega⟩
theorem showAll {ds : List PyData} : (∀ d ∈ ds, d.showable = true) → PyData.showableAll ds = true := by
  induction ds with
  | nil => intro _; rfl
  | cons d ds ih =>
    intro h
    show (d.showable && PyData.showableAll ds) = true
    rw [h d (List.mem_cons_self ..), ih fun e he => h e (List.mem_cons_of_mem _ he)]
    rfl
theorem depthAll {ds : List PyData} {n : Nat} : (∀ d ∈ ds, d.depth ≤ n) → PyData.depthAll ds ≤ n := by
  induction ds with
  | nil => intro _; exact Nat.zero_le _
  | cons d ds ih =>
    intro h
    show max d.depth (PyData.depthAll ds) ≤ n
    have h1 := h d (List.mem_cons_self ..)
    have h2 := ih fun e he => h e (List.mem_cons_of_mem _ he)
    omega
theorem piledAll {ds : List PyData} {n : Nat} : (∀ d ∈ ds, d.shown.length ≤ n) → piled (PyData.shownAll ds) ≤ ds.length * (n + 2) := by
  induction ds with
  | nil => intro _; show 0 ≤ _; exact Nat.zero_le _
  | cons d ds ih =>
    intro h
    show piled (d.shown :: PyData.shownAll ds) ≤ _
    rw [piled_cons, List.length_cons, Nat.add_mul]
    have h1 := h d (List.mem_cons_self ..)
    have h2 := ih fun e he => h e (List.mem_cons_of_mem _ he)
    omega
theorem listText_le : ∀ ts : List Str, (listText ts).length ≤ piled ts + 2
  | [] => by
    rw [listText_nil]
    show Str.length (Str.ofString "[]") ≤ 2
    decide +kernel
  | t :: ts => by
    have h := textFrom_length_pos ts 1 (Str.ofString "[" ++ Str.ofString "" ++ t) (by decide)
    have e1 : (Str.ofString "[" ++ Str.ofString "" ++ t).length = 1 + t.length := by
      rw [strLen_append, strLen_append]
      rfl
    have e2 : (listText (t :: ts)).length = (textFrom 1 (Str.ofString "[" ++ Str.ofString "" ++ t) ts).length + 1 := strLen_append _ _
    rw [e2, h, e1, piled_cons]
    omega
theorem tupleText_le (ts : List Str) : (tupleText ts).length ≤ piled ts + 4 := by
  have e1 : (Str.ofString "(").length = 1 := by decide +kernel
  have e3 : (Str.ofString (if ts.length == 1 then ",)" else ")")).length ≤ 2 := by split <;> decide +kernel
  have e4 : (tupleText ts).length = (Str.ofString "(").length + (Str.join ", " ts).length + (Str.ofString (if ts.length == 1 then ",)" else ")")).length := by
    unfold tupleText
    rw [strLen_append, strLen_append]
  by_cases h : ts = []
  · subst h
    decide +kernel
  · have := join_length_add ts h
    omega
theorem good_list {ds : List PyData} (h : ∀ d ∈ ds, small d) (hl : ds.length ≤ 300) : good (.list ds) := by
  refine ⟨showAll fun d hd => (h d hd).1, ?_, ?_⟩
  · show PyData.depthAll ds + 1 ≤ 8
    have := depthAll (n := 4) fun d hd => (h d hd).2.1
    omega
  · show (listText (PyData.shownAll ds)).length ≤ 200000
    have h1 := listText_le (PyData.shownAll ds)
    have h2 := piledAll (n := 200) fun d hd => (h d hd).2.2
    have h3 : ds.length * (200 + 2) ≤ 300 * (200 + 2) := Nat.mul_le_mul_right _ hl
    omega
theorem good_tuple {ds : List PyData} (h : ∀ d ∈ ds, small d) (hl : ds.length ≤ 300) : good (.tuple ds) := by
  refine ⟨showAll fun d hd => (h d hd).1, ?_, ?_⟩
  · show PyData.depthAll ds + 1 ≤ 8
    have := depthAll (n := 4) fun d hd => (h d hd).2.1
    omega
  · show (tupleText (PyData.shownAll ds)).length ≤ 200000
    have h1 := tupleText_le (PyData.shownAll ds)
    have h2 := piledAll (n := 200) fun d hd => (h d hd).2.2
    have h3 : ds.length * (200 + 2) ≤ 300 * (200 + 2) := Nat.mul_le_mul_right _ hl
    omega
/-- a short list of good things can be shown -/
theorem shown_list {ds : List PyData} (h : ∀ d ∈ ds, good d) (hl : ds.length ≤ 8) : (PyData.list ds).showable = true ∧ (PyData.list ds).depth ≤ 40 ∧ (PyData.list ds).shown.length ≤ sizeLine := by
  refine ⟨showAll fun d hd => (h d hd).1, ?_, ?_⟩
  · show PyData.depthAll ds + 1 ≤ 40
    have := depthAll (n := 8) fun d hd => (h d hd).2.1
    omega
  · show (listText (PyData.shownAll ds)).length ≤ sizeLine
    have h1 := listText_le (PyData.shownAll ds)
    have h2 := piledAll (n := 200000) fun d hd => (h d hd).2.2
    have h3 : ds.length * (200000 + 2) ≤ 8 * (200000 + 2) := Nat.mul_le_mul_right _ hl
    rw [sizeLine_eq]
    omega
theorem shown_good {d : PyData} (h : good d) : d.showable = true ∧ d.depth ≤ 40 ∧ d.shown.length ≤ sizeLine := by
  obtain ⟨h1, h2, h3⟩ := h
  refine ⟨h1, by omega, ?_⟩
  rw [sizeLine_eq]
  omega
end Par
namespace Par
open PySem PySem.Spec PyProof.Rows L2
/-- a statement that is never reached -/
theorem ps_off {X : Cx} {st : Stmt} : PS X st (fun _ _ _ => False) := ⟨fun _ _ _ _ _ _ h => h.elim⟩
/-- o.m(k = v, ..) -/
def tMethK (C : Addr) (m : Str) (n : Nat) (sp : Sp) (gV : List V → List V → List V) (E : XK) (ta : TE) (tk : TA) : TE := fun σ H Q => ta σ H fun x H1 => ∃ a dx fs, x = .ref a ∧ H1 a = some (.ins C dx fs) ∧ fs.lookup m = none ∧
  tk σ H1 fun zs H2 => zs.length = n ∧ sp (gV [x] zs) H2 Q E
section
variable {X : Cx} {CX : CXT} {k : Nat} {f C : Addr} {fd : FuncData} {ps ks : List Str} {sp : Sp} {E : XK} {x m : Str} {p pos apos : Pos} {e o : Expr} {es : List Expr} {kws : List Keyword} {ta : TE} {t tk : TA}
  {g : List Value → List Value → List Value} {gV : List V → List V → List V}
theorem pe_methK {pl : Sem Bool} (he : PE X o ta) (c : Cls X.K C) (hm : Meth X.K C m f) (F : FnOk X.prog X.w X.K X.mg X.base CX k f fd ps sp) (hr : Room k X.A) (hb : KBn X.K fd ps 1 ks g gV) (hx : Passes CX X E) (hkw : PK X kws tk)
    (hall : (backToKw pos (keywordEach kws X.env)).all (·.1.isSome) = true := by rfl) (hks : (backToKw pos (keywordEach kws X.env)).filterMap (·.1) = ks := by rfl)
    (hpl : ((backTo pos (starEach [] X.env)).any (·.1) || (backToKw pos (keywordEach kws X.env)).any (·.1.isNone)) = false := by rfl)
    (ht : eval (.Call (.Attribute o m apos) [] kws pos) X.env = (do
      let ov ← eval o X.env
      standAt apos.atName
      let (f, first) ← holding [ov] (getMethod ov m pl)
      callWith pos f first (backTo pos (starEach [] X.env)) (backToKw pos (keywordEach kws X.env))) := by rfl) :
    PE X (.Call (.Attribute o m apos) [] kws pos) (tMethK C m ks.length sp gV E ta tk) := by
  refine ⟨fun pins s σ H Q I h => ?_⟩
  refine PySem.W.methodCall_KW (pl := pl) (thn (he.run pins s σ H _ I h) ?_) ht
  rintro u s1 ⟨x, H1, I1, rx, a, dx, fs, ex, ea, l, q⟩
  subst ex
  obtain rfl : u = Value.ref a := rx
  refine getmeth_ok I1 ea c hm l ?_
  refine PySem.W.callWith_KW0 (first := [.ref a]) (h₀ := X.base) I.ok.mod.kin hm.kp hall ?_ hpl
  refine thn (hkw.run pos pins s1 σ H1 _ I1 q) ?_
  rintro ws s2 ⟨zs, H2, I2, rz, l2, q2⟩
  refine ⟨I2.kIn, ?_⟩
  rw [hks]
  have r1 : Vals [V.ref a] ([.ref a] ++ []) := .cons rfl .nil
  refine wpAny_call (codeAny_mono (F.run X.A X.stack s2 H2 ⟨[.ref a] ++ [], ks.zip ws⟩ (g [.ref a] ws) (gV [.ref a] zs) Q E hr I2.env0
    (hb.to s2 [.ref a] ws I2.kIn rfl (rz.length.symm.trans l2)) (hb.rel r1 rz) q2) ?_)
  intro res s3 hq
  cases res with
  | error er => exact hx pins σ H2 s2 er s3 I2 hq
  | ok fl =>
    cases fl with
    | ret u => exact I2.after hq
    | next => exact False.elim hq
    | brk => exact False.elim hq
    | cont => exact False.elim hq
/-- len(o), o an own instance whose class has __len__ -/
theorem cr_lenOwn (c : PySem.W.findIn X.K (.ref C) "__len__" = some (some (.ref f))) (hf : PySem.W.isFn X.K (.ref f) = true) (F : FnOk X.prog X.w X.K X.mg X.base CX k f fd ps sp) (hr : Room (k + 1) X.A) (hb : Binds X.K fd ps []) (hx : Passes CX X E) :
    CallR X (.builtin "len") (fun vs H Q => ∃ a dx fs, vs = [.ref a] ∧ H a = some (.ins C dx fs) ∧ sp [.ref a] H (fun v H2 => ∃ n : Int, v = .int n ∧ 0 ≤ n ∧ n < 2 ^ 63 ∧ Q (.int n) H2) E) := by
  intro pins s σ H vs us Q I r h
  obtain ⟨a, dx, fs, rfl, ha, q⟩ := h
  rw [Vals.ref1 r]
  obtain ⟨mA, O, _⟩ := ins_get I.hok ha
  obtain ⟨od, J, hl⟩ := O.look
  refine Calls.call_function_entry kind_len plain_len entry_len (args_len1 _) ?_
  unfold Builtin.«len»
  refine wpAny_bind (m := oneArg "len" _) (wpAny_pure ?_)
  refine wpAny_bind (m := callSpecial? (.ref a) (Str.ofString "__len__")) (PySem.W.special_fn I.kIn J c (beq_iff_eq.mp hf) ?_)
  have hlen : ([Value.ref a] ++ []).length = ps.length := F.len _ _ _ _ q
  refine wpAny_call (codeAny_mono (F.run X.A.in1 X.stack s H ⟨[.ref a], []⟩ [.ref a] [.ref a] _ E hr.in1 I.env0.in1 (hb s [.ref a] I.kIn hlen) (.cons rfl .nil) q) ?_)
  intro res s3 hq
  cases res with
  | error er => exact hx pins σ H s er s3 I hq
  | ok fl =>
    cases fl with
    | next => exact False.elim hq
    | brk => exact False.elim hq
    | cont => exact False.elim hq
    | ret u =>
      obtain ⟨v, H3, I3, rv, n, rfl, n0, n1, q3⟩ := I.after hq
      obtain ⟨tk, rfl⟩ := rv
      refine wpAny_bind (wpAny_holding (wpAny_pure ?_))
      refine wpAny_bind (wpAny_letGo ?_)
      show wpAny _ _ (if n < 0 then _ else _) _ _ _
      rw [if_neg (by omega)]
      show wpAny _ _ (if n ≥ 2 ^ 63 then _ else _) _ _ _
      rw [if_neg (by omega)]
      exact wpAny_bind (wpAny_mkInt (wpAny_pure ⟨_, rfl, .int n, H3, I3.tok _, ⟨_, rfl⟩, q3⟩))
end
end Par
namespace K49
open PySem PySem.Spec PyProof.Rows L2 Par
def topS (i : Nat) : Stmt := PySem.Challenge.pw_paritycells_k49_depths_by_turns.main.body.getD i (.Pass ⟨0, 0, 0, 0⟩)
abbrev sInteger : Stmt := topS 14
abbrev sBetween : Stmt := topS 15
abbrev sIsSize : Stmt := topS 18
abbrev sIsCell : Stmt := topS 19
abbrev sAre : Stmt := topS 20
abbrev sCells : Stmt := topS 21
abbrev sAdded : Stmt := topS 22
abbrev sPot : Stmt := topS 62
abbrev sDraw : Stmt := topS 63
abbrev sWidth : Stmt := topS 64
abbrev sSpots : Stmt := topS 65
abbrev sBits : Stmt := topS 67
abbrev sParity : Stmt := topS 68
abbrev sUp : Stmt := topS 71
abbrev sShare : Stmt := topS 23
abbrev sFit : Stmt := topS 43
abbrev sLaw : Stmt := topS 81
abbrev sPair : Stmt := topS 66
abbrev sAfter : Stmt := topS 69
abbrev sMade : Stmt := topS 72
abbrev sFlipOf : Stmt := topS 73
abbrev sRev : Stmt := topS 45
abbrev sWritten : Stmt := topS 24
abbrev slAfterAll : Stmt := topS 70
abbrev slChanged : Stmt := topS 74
abbrev slBasicBits : Stmt := topS 75
abbrev slPairs : Stmt := topS 76
abbrev slTable : Stmt := topS 77
abbrev slWorld : Stmt := topS 78
abbrev slAsked : Stmt := topS 79
abbrev slShown : Stmt := topS 80
abbrev mInit : Stmt := inClass (topS 26) 0
abbrev mEq : Stmt := inClass (topS 26) 1
abbrev mLen : Stmt := inClass (topS 26) 2
abbrev mRepr : Stmt := inClass (topS 26) 3
abbrev mStr : Stmt := inClass (topS 26) 4
abbrev mSize : Stmt := inClass (topS 26) 5
abbrev mUps : Stmt := inClass (topS 26) 6
abbrev mIsUp : Stmt := inClass (topS 26) 7
abbrev mPar : Stmt := inClass (topS 26) 8
abbrev mTog : Stmt := inClass (topS 26) 9
abbrev gInit : Stmt := inClass (topS 42) 0
abbrev gEq : Stmt := inClass (topS 42) 1
abbrev gRepr : Stmt := inClass (topS 42) 2
abbrev gStr : Stmt := inClass (topS 42) 3
abbrev gTested : Stmt := inClass (topS 42) 4
abbrev gToggled : Stmt := inClass (topS 42) 5
abbrev gIdle : Stmt := inClass (topS 42) 6
abbrev gWidth : Stmt := inClass (topS 42) 7
abbrev sWIni : Stmt := inClass (topS 11) 0
/-- the built-in names that the module leaves alone -/
structure Bl (mg : Str → Option Value) : Prop where
  len : mg "len" = none
  abs : mg "abs" = none
  max : mg "max" = none
  min : mg "min" = none
  divmod : mg "divmod" = none
  list : mg "list" = none
  tuple : mg "tuple" = none
  range : mg "range" = none
  isinstance : mg "isinstance" = none
  bool : mg "bool" = none
  int : mg "int" = none
  sorted : mg "sorted" = none
  set : mg "set" = none
  all : mg "all" = none
  enumerate : mg "enumerate" = none
  repr : mg "repr" = none
  sum : mg "sum" = none

/-! ### the pot: two numbers that are not negative, the second one small -/
def PotAt (H : Hp) (p : Addr) : Prop := ∃ a b : Int, H p = some (.lst [.int a, .int b]) ∧ 0 ≤ a ∧ 0 ≤ b ∧ b < 2147483648
/-- all but what stands at p is as it was -/
def But (p : Addr) (H H' : Hp) : Prop := ∀ b o, b ≠ p → H b = some o → H' b = some o
theorem But.refl (p : Addr) (H : Hp) : But p H H := fun _ _ _ h => h
theorem But.trans {p : Addr} {H H1 H2 : Hp} (a : But p H H1) (b : But p H1 H2) : But p H H2 := fun c o n h => b c o n (a c o n h)
theorem But.upd {p : Addr} {H : Hp} (o : HO) : But p H (L2.upd H p o) := fun b u n h => by rw [upd_ne n]; exact h
theorem But.new {p q : Addr} {H : Hp} {o : HO} (n : H q = none) : But p H (L2.upd H q o) := fun b u _ h => by rw [upd_ne (ne_of_none h n)]; exact h
theorem But.same {p : Addr} {H H' : Hp} (h : Same H H') : But p H H' := fun b o _ e => h b o e
theorem PotAt.same {p : Addr} {H H' : Hp} (x : PotAt H p) (s : Same H H') : PotAt H' p := by
  obtain ⟨a, b, e, r⟩ := x
  exact ⟨a, b, s _ _ e, r⟩
theorem same_new {H : Hp} {q : Addr} {o : HO} (n : H q = none) : Same H (upd H q o) := fun b u h => by
  rw [upd_ne (ne_of_none h n)]
  exact h
theorem But.free {p q : Addr} {H H' : Hp} (h : But p H H') (x : PotAt H p) (n : H' q = none) (x' : PotAt H' p) : H q = none := by
  cases e : H q with
  | none => rfl
  | some o =>
    by_cases z : q = p
    · subst z
      obtain ⟨_, _, e', _⟩ := x'
      rw [n] at e'
      cases e'
    · rw [h q o z e] at n
      cases n

section
variable {P : Program} {w : World} {K : PySem.W.Frag} {mg : Str → Option Value} {base : Heap}

def spPot (K : PySem.W.Frag) : Sp := fun vs H Q _ => ∃ (a : Addr) (ns : List Int) (k : Nat), vs = [.ref a, .int (k : Int)] ∧ SqL K H a (ns.map V.int) ∧ k ≤ 1000 ∧
  ∀ p H', H p = none → Same H H' → PotAt H' p → Q (.ref p) H'
theorem scPot : FnScope ["_law_script", "_law_k", "_law_cell"] ["_law_script", "_law_k"] (defScope sPot) := ⟨rfl, rfl, rfl, by decide +kernel, rfl, by decide +kernel, by decide +kernel⟩
theorem ok_pot {f : Addr} {fd : FuncData} (F : Fun K "_law_pot" "_law_pot" sPot f fd) (B : Bl mg) : FnOk P w K mg base CX0 2 f fd ["_law_script", "_law_k"] (spPot K) := by
  refine F.ok scPot (fun vs H Q E h => ?_) (fun cdv A outer s H vs Q E hr h => ?_)
  · obtain ⟨a, ns, k, rfl, _⟩ := h
    rfl
  · obtain ⟨a, ns, k, rfl, hS, hk, out⟩ := h
    refine ⟨_, pss_cons (ps_set (i := 2) scPot.nd rfl (Or.inl rfl) (pe_ifExp (pt_cmpR op_lt (pv 1) (pe_callB call_len_seq (by rfl) B.len PySem.boot_len (pa_cons (pv 0) pa_nil)) (nomark _)) (pe_ix ix_list (pv 0) (pv 1) (fun _ _ => rfl)) pe_int))
      (pss_one (ps_ret (pe_lst (pa_cons
        (pe_callB (call_max2 rfl) (by rfl) B.max (by decide +kernel) (pa_cons pe_int (pa_cons (pe_op op_sub (pe_callB call_abs (by rfl) B.abs (by decide +kernel) (pa_cons (pv 2) pa_nil)) (pe_op op_pow pe_int pe_int)) pa_nil)))
        (pa_cons (pe_op op_mod (pe_op op_add (pe_op op_add (pe_op op_mul (pe_op op_mod (pe_callB call_abs (by rfl) B.abs (by decide +kernel) (pa_cons (pv 2) pa_nil)) pe_int) pe_int) (pe_op op_mul pe_int (pv 1))) pe_int) pe_int) pa_nil))))), ?_⟩
    have hm : ∀ d : Int, (0 : Int) ≤ (if d < 0 then -d else d) % 2147483587 ∧ (if d < 0 then -d else d) % 2147483587 < 2147483587 := fun d => ⟨Int.emod_nonneg _ (by decide), Int.emod_lt_of_pos _ (by decide)⟩
    have two : ∀ x : Int, 0 ≤ (if x > 0 then x else 0) := fun x => by split <;> omega
    have fin : ∀ d : Int, ∀ p, H p = none → Q (.ref p) (upd H p (.lst [.int (if (if d < 0 then -d else d) - 10 ^ 18 > 0 then (if d < 0 then -d else d) - 10 ^ 18 else 0),
        .int (((if d < 0 then -d else d) % 2147483587 * 48271 + 60013 * (k : Int) + 29) % 2147483647)])) := by
      intro d p hp
      refine out p _ hp (same_new hp) ⟨_, _, upd_same, two _, Int.emod_nonneg _ (by decide), ?_⟩
      have := Int.emod_lt_of_pos ((if d < 0 then -d else d) % 2147483587 * 48271 + 60013 * (k : Int) + 29) (b := 2147483647) (by decide)
      omega
    refine ⟨_, rfl, _, rfl, a, _, rfl, .inl hS, _, _, rfl, rfl, _, rfl, ?_⟩
    refine ite2 (fun hlt => ?_) (fun _ => ?_)
    · have hlt2 : (k : Int) < ((ns.map V.int).length : Int) := of_decide_eq_true hlt
      rw [List.length_map] at hlt2
      have hk2 : k < ns.length := by omega
      refine ⟨_, rfl, _, rfl, a, _, _, .int ns[k], rfl, rfl, hS, atI_nat (by simp [hk2]), ?_⟩
      refine ⟨_, rfl, _, rfl, 10, 18, rfl, rfl, ⟨by decide, by decide, by decide⟩, _, _, rfl, rfl, 0, _, rfl, ?_⟩
      refine ⟨_, rfl, _, rfl, _, _, rfl, rfl, (by show (0 : Int) < _; decide), _, _, rfl, rfl, .inl ⟨by have := hm ns[k]; omega, by have := hm ns[k]; omega⟩, _, rfl, 60013, _, rfl, rfl, .inl ⟨by decide, by decide⟩, _, _, rfl, rfl, _, _, rfl, rfl, _, _, rfl, rfl, (by show (0 : Int) < _; decide), ?_⟩
      exact ⟨(by show 2 ≤ sizeLine; decide), fin ns[k]⟩
    · refine ⟨_, rfl, _, rfl, 10, 18, rfl, rfl, ⟨by decide, by decide, by decide⟩, _, _, rfl, rfl, 0, _, rfl, ?_⟩
      refine ⟨_, rfl, _, rfl, _, _, rfl, rfl, (by show (0 : Int) < _; decide), _, _, rfl, rfl, .inl ⟨by have := hm 0; omega, by have := hm 0; omega⟩, _, rfl, 60013, _, rfl, rfl, .inl ⟨by decide, by decide⟩, _, _, rfl, rfl, _, _, rfl, rfl, _, _, rfl, rfl, (by show (0 : Int) < _; decide), ?_⟩
      exact ⟨(by show 2 ≤ sizeLine; decide), fin 0⟩

/-- one draw: a digit below many; the pot goes on -/
def spDraw : Sp := fun vs H Q _ => ∃ (p : Addr) (m : Int), vs = [.ref p, .int m] ∧ PotAt H p ∧ 0 < m ∧ m < 1073741824 ∧
  ∀ d H', 0 ≤ d → d < m → But p H H' → PotAt H' p → Q (.int d) H'
theorem scDraw : FnScope ["_law_pot_here", "_law_many", "_law_digit"] ["_law_pot_here", "_law_many"] (defScope sDraw) := ⟨rfl, rfl, rfl, by decide +kernel, rfl, by decide +kernel, by decide +kernel⟩
theorem ok_draw {f : Addr} {fd : FuncData} (F : Fun K "_law_draw" "_law_draw" sDraw f fd) (B : Bl mg) : FnOk P w K mg base CX0 2 f fd ["_law_pot_here", "_law_many"] spDraw := by
  refine F.ok scDraw (fun vs H Q E h => ?_) (fun cdv A outer s H vs Q E hr h => ?_)
  · obtain ⟨p, m, rfl, _⟩ := h
    rfl
  · obtain ⟨p, m, rfl, ⟨a, b, hp, ha, hb, hb2⟩, hm, hm2, out⟩ := h
    refine ⟨_, pss_cons (ps_if (pt_cmpR op_gt (pe_ix ix_list (pv 0) pe_int (fun _ _ => rfl)) pe_int (nomark _))
        (pss_cons (ps_asg (pe_callB call_divmod (by rfl) B.divmod (by decide +kernel) (pa_cons (pe_ix ix_list (pv 0) pe_int (fun _ _ => rfl)) (pa_cons (pv 1) pa_nil))) (pg_tup rfl (pgs_cons (pg_sub (pv 0) pe_int set_list) (pgs_cons (pg_name (i := 2) scDraw.nd rfl (Or.inl rfl)) pgs_nil))))
          (pss_one (ps_ret (pv 2)))) pss_nil)
      (pss_cons (ps_asg (pe_op op_mod (pe_op op_add (pe_op op_mul (pe_ix ix_list (pv 0) pe_int (fun _ _ => rfl)) pe_int) pe_int) pe_int) (pg_sub (pv 0) pe_int set_list))
      (pss_one (ps_ret (pe_op op_mod (pe_op op_fdiv (pe_op op_mod (pe_op op_mul (pe_ix ix_list (pv 0) pe_int (fun _ _ => rfl)) (pe_ix ix_list (pv 0) pe_int (fun _ _ => rfl))) pe_int) pe_int) (pv 1))))), ?_⟩
    have hL : SqL K H p [.int a, .int b] := SqL.of hp
    refine ⟨_, rfl, p, _, 0, .int a, rfl, rfl, hL, rfl, a, 0, rfl, rfl, _, rfl, ?_⟩
    refine ite2 (fun hpos => ?_) (fun hneg => ?_)
    · refine ⟨_, rfl, p, _, 0, .int a, rfl, rfl, hL, rfl, _, rfl, a, m, rfl, ⟨hm, hm2⟩, fun q hq => ?_⟩
      have hne : p ≠ q := ne_of_none hp hq
      have hT : SqT K (upd H q (.tup [.int (a / m), .int (a % m)])) q [.int (a / m), .int (a % m)] := SqT.of upd_same
      have hp2 : (upd H q (.tup [.int (a / m), .int (a % m)])) p = some (.lst [.int a, .int b]) := by
        rw [upd_ne hne]
        exact hp
      refine ⟨q, _, rfl, hT, rfl, _, _, rfl, _, rfl, p, _, 0, 0, rfl, rfl, hp2, rfl, _, _, rfl, rfl, _, rfl, ?_⟩
      exact out (a % m) _ (Int.emod_nonneg _ (by omega)) (Int.emod_lt_of_pos _ hm) ((But.new hq).trans (But.upd _)) ⟨a / m, b, upd_same, Int.ediv_nonneg ha (by omega), hb, hb2⟩
    · have h0 : (0 : Int) ≤ (b * 39373 + 12227) % 2147483629 := Int.emod_nonneg _ (by decide)
      have h1 : (b * 39373 + 12227) % 2147483629 < 2147483629 := Int.emod_lt_of_pos _ (by decide)
      refine ⟨_, rfl, p, _, 1, .int b, rfl, rfl, hL, rfl, b, 39373, rfl, rfl, .inl ⟨by omega, by omega⟩, _, _, rfl, rfl, _, _, rfl, rfl, (by show (0 : Int) < _; decide), _, rfl, p, _, 1, 1, rfl, rfl, hp, rfl, ?_⟩
      have hL2 : SqL K (upd H p (.lst [.int a, .int ((b * 39373 + 12227) % 2147483629)])) p [.int a, .int ((b * 39373 + 12227) % 2147483629)] := SqL.of upd_same
      refine ⟨_, rfl, p, _, 1, _, rfl, rfl, hL2, rfl, _, rfl, p, _, 1, _, rfl, rfl, hL2, rfl, _, _, rfl, rfl, .inl ⟨by omega, by omega⟩, _, _, rfl, rfl, (by show (0 : Int) < _; decide), _, _, rfl, rfl, ⟨by decide, by decide⟩, _, rfl, _, m, rfl, rfl, hm, ?_⟩
      exact out _ _ (Int.emod_nonneg _ (by omega)) (Int.emod_lt_of_pos _ hm) (But.upd _) ⟨a, _, upd_same, ha, h0, by omega⟩
end
end K49
namespace K49
open PySem PySem.Spec PyProof.Rows L2 Par
section
variable {P : Program} {w : World} {K : PySem.W.Frag} {mg : Str → Option Value} {base : Heap}
/-- a def of the module that raises nothing -/
def Has (P : Program) (w : World) (K : PySem.W.Frag) (mg : Str → Option Value) (base : Heap) (x : Str) (lv : Nat) (ps : List Str) (sp : Sp) : Prop :=
  ∃ f fd, FnOk P w K mg base CX0 lv f fd ps sp ∧ mg x = some (.ref f) ∧ PySem.W.keepIn K (.ref f) = true ∧ Binds K fd ps []

/-- a new list of rising numbers from least to width - 1 -/
def spSpots : Sp := fun vs H Q _ => ∃ (p : Addr) (l m : Int), vs = [.ref p, .int l, .int m] ∧ PotAt H p ∧ 0 ≤ l ∧ l ≤ 1000 ∧ 0 ≤ m ∧ m ≤ 1000 ∧
  ∀ q (ns : List Int) H', H q = none → ns.Pairwise (· < ·) → (∀ n ∈ ns, l ≤ n ∧ n < m) → But p H H' → PotAt H' p → H' q = some (.lst (ns.map V.int)) → Q (.ref q) H'
abbrev nSpots : List Str := ["_law_pot_here", "_law_least", "_law_width_here", "_law_way", "_law_spot"]
theorem scSpots : FnScope nSpots ["_law_pot_here", "_law_least", "_law_width_here"] (defScope sSpots) := ⟨rfl, rfl, rfl, by decide +kernel, rfl, by decide +kernel, by decide +kernel⟩
theorem rgV_ints (a : Int) (n : Nat) : ∃ ns : List Int, rgV a (a + n) = ns.map V.int ∧ ns.Pairwise (· < ·) ∧ ∀ k ∈ ns, a ≤ k ∧ k < a + n := by
  refine ⟨(List.range n).map fun i => a + (i : Nat), ?_, ?_, ?_⟩
  · unfold rgV
    rw [List.map_map, show (a + (n : Int) - a).toNat = n by omega]
    rfl
  · rw [List.pairwise_map]
    exact List.pairwise_lt_range.imp (fun h => by omega)
  · intro k hk
    obtain ⟨i, hi, rfl⟩ := List.mem_map.mp hk
    have := List.mem_range.mp hi
    omega
theorem ok_spots {f : Addr} {fd : FuncData} (F : Fun K "_law_spots" "_law_spots" sSpots f fd) (B : Bl mg) (D : Has P w K mg base "_law_draw" 2 ["_law_pot_here", "_law_many"] spDraw) :
    FnOk P w K mg base CX0 3 f fd ["_law_pot_here", "_law_least", "_law_width_here"] spSpots := by
  obtain ⟨fD, fdD, GD, mD, kD, bD⟩ := D
  refine F.ok scSpots (fun vs H Q E h => ?_) (fun cdv A outer s H vs Q E hr h => ?_)
  · obtain ⟨p, l, m, rfl, _⟩ := h
    rfl
  · obtain ⟨p, l, m, rfl, hp, l0, l1, m0, m1, out⟩ := h
    refine ⟨_, pss_cons (ps_set (i := 3) scSpots.nd rfl (Or.inl rfl) (pe_call GD hr (by rfl) mD kD bD .nil pass0 (pa_cons (pv 0) (pa_cons pe_int pa_nil))))
      (pss_cons (ps_if (PW.pt (pw_or (pt_cmpR op_eq (pv 3) pe_int (nomark _)) (pw_or1 (pt_cmpR op_le (pv 2) (pv 1) (nomark _))))) (pss_one (ps_ret (pe_lst pa_nil))) pss_nil)
      (pss_cons (ps_if (pt_cmpR op_eq (pv 3) pe_int (nomark _)) (pss_one (ps_ret (pe_lst (pa_cons (pe_op op_add (pv 1) (pe_call GD hr (by rfl) mD kD bD .nil pass0 (pa_cons (pv 0) (pa_cons (pe_op op_sub (pv 2) (pv 1)) pa_nil)))) pa_nil)))) pss_nil)
      (pss_cons (ps_if (pt_cmpR op_eq (pv 3) pe_int (nomark _)) (pss_one (ps_ret (pe_listRg rfl (by rfl) B.list (prg_2 (by rfl) B.range (pv 1) (pv 2))))) pss_nil)
      (pss_one (ps_ret (pe_lc (own := [("_law_spot", 4)]) (g := gName 4) rfl scSpots.nd (pi_range2 (by rfl) B.range (pa_cons (pv 1) (pa_cons (pv 2) pa_nil))) (blkOk_by (own := [("_law_spot", 4)]) (N := nSpots) (sc := defScope sSpots) (by decide +kernel))
        (fun _ _ _ _ _ => pg_name (i := 4) scSpots.nd rfl (Or.inl rfl))
        (fun _ _ _ _ _ => pts_one (pt_cmpR op_eq (pe_call GD hr (by rfl) mD kD bD .nil pass0 (pa_cons (pv 0) (pa_cons pe_int pa_nil))) pe_int (nomark _)))
        (fun _ _ _ _ _ => pv 4))))))), ?_⟩
    refine ⟨_, rfl, p, 5, rfl, hp, by decide, by decide, ?_⟩
    intro d H1 d0 d1 b1 hp1
    have fr : ∀ q, H1 q = none → H q = none := fun q hq => b1.free hp hq hp1
    refine ⟨_, rfl, rfl, _, rfl, ?_⟩
    have nil : ∀ q, H1 q = none → Q (.ref q) (upd H1 q (.lst [])) := by
      intro q hq
      refine out q [] _ (fr q hq) List.Pairwise.nil (fun n hn => nomatch hn) (b1.trans (But.new hq)) (hp1.same (same_new hq)) upd_same
    refine ite2 (fun _ => ?_) (fun _ => ?_)
    · refine iteT ⟨by decide, nil⟩
    refine ⟨_, rfl, _, rfl, _, _, rfl, rfl, _, rfl, ?_⟩
    refine ite2 (fun _ => ?_) (fun hlt => ?_)
    · exact ⟨by decide, nil⟩
    have hlt2 : l < m := by
      have := of_decide_eq_false (by simpa using hlt : decide (m ≤ l) = false)
      omega
    refine ⟨_, rfl, rfl, _, rfl, ?_⟩
    refine ite2 (fun _ => ?_) (fun _ => ?_)
    · refine ⟨_, rfl, _, rfl, _, rfl, _, rfl, m, l, rfl, rfl, p, m - l, rfl, hp1, by omega, by omega, ?_⟩
      intro d2 H2 e0 e1 b2 hp2
      refine ⟨l, d2, rfl, rfl, (by show 1 ≤ sizeLine; decide), ?_⟩
      intro q hq
      refine out q [l + d2] _ (fr q (b2.free hp1 hq hp2)) (by simp) (fun n hn => by
        have : n = l + d2 := by simpa using hn
        omega) ((b1.trans b2).trans (But.new hq)) (hp2.same (same_new hq)) upd_same
    refine ⟨_, rfl, rfl, _, rfl, ?_⟩
    refine ite2 (fun _ => ?_) (fun _ => ?_)
    · refine ⟨_, rfl, _, rfl, l, m, rfl, rfl, RgOk.of_le l0 (by omega) (by omega) m0, ?_⟩
      intro q hq
      obtain ⟨ns, e, h1, h2⟩ := rgV_ints l (m - l).toNat
      have em : l + ((m - l).toNat : Int) = m := by omega
      rw [em] at e h2
      rw [e]
      exact out q ns _ (fr q hq) h1 h2 (b1.trans (But.new hq)) (hp1.same (same_new hq)) upd_same
    · refine ⟨_, rfl, _, rfl, l, m, rfl, ⟨by omega, by omega, by omega, by omega⟩, ?_⟩
      intro D hD
      have hDH := fr D hD
      have hDp : D ≠ p := fun z => by
        subst z
        obtain ⟨_, _, e, _⟩ := hp1
        rw [hD] at e
        cases e
      refine lc_range (lo := l) (n := (m - l).toNat) (fun i H' => ∃ ns : List Int, H' D = some (.lst (ns.map V.int)) ∧ ns.length ≤ i ∧ ns.Pairwise (· < ·) ∧ (∀ n ∈ ns, l ≤ n ∧ n < l + i) ∧ But p H H' ∧ PotAt H' p)
        ⟨[], upd_same, Nat.le_refl _, List.Pairwise.nil, fun n hn => (by cases hn), b1.trans (But.new hD), hp1.same (same_new hD)⟩ ?_ ?_
      · rintro i H2 hi ⟨ns, hns, hlen, pw, bd, b2, hp2⟩
        refine ⟨rfl, ?_⟩
        refine ⟨_, rfl, p, 2, rfl, hp2, by decide, by decide, ?_⟩
        intro d2 H3 e0 e1 b3 hp3
        have hD3 : H3 D = some (.lst (ns.map V.int)) := b3 D _ hDp hns
        refine ⟨rfl, _, rfl, ?_⟩
        refine ite2 (fun _ => ?_) (fun _ => ?_)
        · refine ⟨_, rfl, _, hD3, (by rw [List.length_map]; exact small1000 (by omega)), ns ++ [l + (i : Int)], ?_, ?_, ?_, ?_, ?_, ?_⟩
          · rw [upd_same, List.map_append]
            rfl
          · rw [List.length_append]
            show ns.length + 1 ≤ i + 1
            omega
          · refine List.pairwise_append.mpr ⟨pw, by simp, fun a ha b hb => ?_⟩
            have hb2 : b = l + (i : Int) := by simpa using hb
            have := bd a ha
            omega
          · intro n hn
            rcases List.mem_append.mp hn with hn | hn
            · have := bd n hn
              omega
            · have : n = l + (i : Int) := by simpa using hn
              omega
          · exact fun b o n e => by
              have e2 := b2.trans b3 b o n e
              rw [upd_ne (ne_of_none e hDH)]
              exact e2
          · obtain ⟨x, y, e, r⟩ := hp3
            exact ⟨x, y, by rw [upd_ne (Ne.symm hDp)]; exact e, r⟩
        · exact ⟨ns, hD3, by omega, pw, fun n hn => by have := bd n hn; omega, b2.trans b3, hp3⟩
      · rintro H2 ⟨ns, hns, hlen, pw, bd, b2, hp2⟩
        exact out D ns H2 hDH pw (fun n hn => by have := bd n hn; omega) b2 hp2 hns
end
end K49
namespace K49
open PySem PySem.Spec PyProof.Rows L2 Par
theorem perm_erase : ∀ {l : List Int} {i : Nat} {x : Int}, l[i]? = some x → (x :: l.eraseIdx i).Perm l
  | [], i, x, h => by simp at h
  | a :: l, 0, x, h => by
    have e : a = x := by simpa using h
    subst e
    exact List.Perm.refl _
  | a :: l, i + 1, x, h => by
    have h2 : l[i]? = some x := by simpa using h
    have ih := perm_erase h2
    show (x :: a :: l.eraseIdx i).Perm (a :: l)
    exact (List.Perm.swap a x _).trans (ih.cons a)
/-- what len of a list or tuple asks -/
def rLenQ (K : PySem.W.Frag) : List V → Hp → VK → Prop := fun xs H Q => ∃ p ys, xs = [.ref p] ∧ (SqL K H p ys ∨ SqT K H p ys) ∧ Q (.int ys.length) H
theorem map_eraseIdx : ∀ (l : List Int) (i : Nat), (l.map V.int).eraseIdx i = (l.eraseIdx i).map V.int
  | [], _ => rfl
  | _ :: _, 0 => rfl
  | a :: l, i + 1 => by
    show V.int a :: (l.map V.int).eraseIdx i = V.int a :: (l.eraseIdx i).map V.int
    rw [map_eraseIdx l i]
theorem yesT {σ : L2.St} {H : Hp} {A B : Hp → Prop} (h : A H) : tYes σ H (fun b H3 => if b = true then A H3 else B H3) := by
  unfold tYes
  show (if true = true then A H else B H)
  rw [if_pos rfl]
  exact h
section
variable {P : Program} {w : World} {K : PySem.W.Frag} {mg : Str → Option Value} {base : Heap}
end
end K49
namespace K49
open PySem PySem.Spec PyProof.Rows L2 Par
theorem sq_ty {K : PySem.W.Frag} {H : Hp} {a : Addr} {xs : List V} (h : SqL K H a xs) : TyX K H (.ref a) (.type "list") := by
  rcases h with (h | ⟨o, h⟩) | ⟨o, its, n, hk, hc, _⟩
  · exact .base (.lst h)
  · exact .base (.frz h)
  · exact .kList hk hc
theorem sqt_ty {K : PySem.W.Frag} {H : Hp} {a : Addr} {xs : List V} (h : SqT K H a xs) : TyX K H (.ref a) (.type "tuple") := by
  rcases h with (h | ⟨o, h⟩) | ⟨o, its, n, hk, hc, _⟩
  · exact .base (.tup h)
  · exact .fTuple h
  · exact .kTuple hk hc
/-- a list or tuple of xs -/
def Sq (K : PySem.W.Frag) (H : Hp) (a : Addr) (xs : List V) : Prop := SqL K H a xs ∨ SqT K H a xs
section
variable {P : Program} {w : World} {K : PySem.W.Frag} {mg : Str → Option Value} {base : Heap}
theorem kit_seq {n : String} (h : n = "list" ∨ n = "tuple") : PySem.W.kitAny K (.type n) [.type "list", .type "tuple"] = some true := by
  rcases h with rfl | rfl
  · exact kitAny_cons (b := true) (kit_ty (by decide +kernel)) (fun z => nomatch z) (fun _ => rfl)
  · exact kitAny_cons (b := false) (kit_ty (by decide +kernel)) (fun _ => kitAny_cons (b := true) (kit_ty (by decide +kernel)) (fun z => nomatch z) (fun _ => rfl)) (fun z => nomatch z)
theorem same_sq {H H' : Hp} {a : Addr} {xs : List V} (s : Same H H') (h : SqL K H a xs) : SqL K H' a xs := s.seq h
theorem same_sqt {H H' : Hp} {a : Addr} {xs : List V} (s : Same H H') (h : SqT K H a xs) : SqT K H' a xs := by
  rcases h with (h | ⟨o, h⟩) | h
  · exact .inl (.inl (s _ _ h))
  · exact .inl (.inr ⟨o, s _ _ h⟩)
  · exact .inr h
theorem same_tyx {H H' : Hp} {v : V} {t : Value} (s : Same H H') (h : TyX K H v t) : TyX K H' v t := by
  cases h with
  | base b =>
    refine .base ?_
    cases b with
    | non => exact .non
    | bl y => exact .bl y
    | int i => exact .int i
    | str y => exact .str y
    | flt y => exact .flt y
    | lst e => exact .lst (s _ _ e)
    | frz e => exact .frz (s _ _ e)
    | tup e => exact .tup (s _ _ e)
    | dK e => exact .dK (s _ _ e)
    | dT e => exact .dT (s _ _ e)
    | ins e cl ha hn htk hm => exact .ins (s _ _ e) cl ha hn htk hm
  | byt y => exact .byt y
  | set e => exact .set (s _ _ e)
  | kList e c => exact .kList e c
  | kTuple e c => exact .kTuple e c
  | kDict e c => exact .kDict e c
  | fTuple e => exact .fTuple (s _ _ e)
  | fDict e => exact .fDict (s _ _ e)
theorem Sq.same {H H' : Hp} {a : Addr} {xs : List V} (s : Same H H') (h : Sq K H a xs) : Sq K H' a xs := h.imp (same_sq s) (same_sqt s)
/-- is_integer -/
def spInteger : Sp := fun vs H Q _ => ∃ i : Int, vs = [.int i] ∧ Q (.bl true) H
theorem scInteger : FnScope ["thing"] ["thing"] (defScope sInteger) := ⟨rfl, rfl, rfl, by decide +kernel, rfl, by decide +kernel, by decide +kernel⟩
theorem ok_integer {f : Addr} {fd : FuncData} (F : Fun K "is_integer" "is_integer" sInteger f fd) (B : Bl mg) : FnOk P w K mg base CX0 1 f fd ["thing"] spInteger := by
  refine F.ok scInteger (fun vs H Q E h => ?_) (fun cdv A outer s H vs Q E hr h => ?_)
  · obtain ⟨i, rfl, _⟩ := h
    rfl
  · obtain ⟨i, rfl, out⟩ := h
    refine ⟨_, pss_one (ps_ret (pe_and (pe_callB call_isi (by rfl) B.isinstance (by decide +kernel) (pa_cons (pv 0) (pa_cons (pe_bltn (v := .ty "int") (by rfl) B.int (by decide +kernel) rfl) pa_nil))) (pe_one (pe_not (pe_callB call_isi (by rfl) B.isinstance (by decide +kernel) (pa_cons (pv 0) (pa_cons (pe_bltn (v := .ty "bool") (by rfl) B.bool (by decide +kernel) rfl) pa_nil))))))), ?_⟩
    refine ⟨_, rfl, _, _, _, _, true, rfl, .ty "int", .base (.int i), kit_ty (by decide +kernel), _, rfl, iteT ?_⟩
    exact ⟨_, rfl, _, _, _, _, false, rfl, .ty "bool", .base (.int i), kit_ty (by decide +kernel), _, rfl, out⟩
/-- is_integer_between, of whole numbers -/
def spBetween : Sp := fun vs H Q _ => ∃ i lo hi : Int, vs = [.int i, .int lo, .int hi] ∧ Q (.bl (decide (lo ≤ i) && decide (i ≤ hi))) H
theorem scBetween : FnScope ["thing", "low", "high"] ["thing", "low", "high"] (defScope sBetween) := ⟨rfl, rfl, rfl, by decide +kernel, rfl, by decide +kernel, by decide +kernel⟩
theorem ok_between {f : Addr} {fd : FuncData} (F : Fun K "is_integer_between" "is_integer_between" sBetween f fd) (B : Bl mg) (D : Has P w K mg base "is_integer" 1 ["thing"] spInteger) : FnOk P w K mg base CX0 2 f fd ["thing", "low", "high"] spBetween := by
  obtain ⟨fD, fdD, GD, mD, kD, bD⟩ := D
  refine F.ok scBetween (fun vs H Q E h => ?_) (fun cdv A outer s H vs Q E hr h => ?_)
  · obtain ⟨i, lo, hi, rfl, _⟩ := h
    rfl
  · obtain ⟨i, lo, hi, rfl, out⟩ := h
    refine ⟨_, pss_one (ps_ret (pe_and (pe_call GD hr (by rfl) mD kD bD .nil pass0 (pa_cons (pv 0) pa_nil)) (pe_one (pe_chain op_le op_le (pv 1) (pv 0) (pv 2))))), ?_⟩
    refine ⟨_, rfl, i, rfl, _, rfl, iteT ?_⟩
    refine ⟨_, rfl, _, rfl, lo, i, rfl, rfl, _, rfl, ite2 (fun h1 => ?_) (fun h1 => ?_)⟩
    · refine ⟨_, rfl, i, hi, rfl, rfl, ?_⟩
      rw [h1, Bool.true_and] at out
      exact out
    · have e : decide (lo ≤ i) = false := by simpa using h1
      rw [e, Bool.false_and] at out
      exact out
def spIsSize : Sp := fun vs H Q _ => ∃ i : Int, vs = [.int i] ∧ Q (.bl (decide (1 ≤ i) && decide (i ≤ 40))) H
theorem scIsSize : FnScope ["thing"] ["thing"] (defScope sIsSize) := ⟨rfl, rfl, rfl, by decide +kernel, rfl, by decide +kernel, by decide +kernel⟩
theorem ok_issize {f : Addr} {fd : FuncData} (F : Fun K "is_size" "is_size" sIsSize f fd) (hM : ∃ t, mg "MOST_CELLS" = some (.int 40 t)) (D : Has P w K mg base "is_integer_between" 2 ["thing", "low", "high"] spBetween) :
    FnOk P w K mg base CX0 3 f fd ["thing"] spIsSize := by
  obtain ⟨fD, fdD, GD, mD, kD, bD⟩ := D
  obtain ⟨tM, hM⟩ := hM
  refine F.ok scIsSize (fun vs H Q E h => ?_) (fun cdv A outer s H vs Q E hr h => ?_)
  · obtain ⟨i, rfl, _⟩ := h
    rfl
  · obtain ⟨i, rfl, out⟩ := h
    refine ⟨_, pss_one (ps_ret (pe_call GD hr (by rfl) mD kD bD .nil pass0 (pa_cons (pv 0) (pa_cons pe_int (pa_cons (pe_glob (v := .int 40) (by rfl) hM ⟨_, rfl⟩) pa_nil))))), ?_⟩
    exact ⟨_, rfl, i, 1, 40, rfl, out⟩
def spIsCell : Sp := fun vs H Q _ => ∃ i n : Int, vs = [.int i, .int n] ∧ Q (.bl (decide (0 ≤ i) && decide (i ≤ n - 1))) H
theorem scIsCell : FnScope ["thing", "size"] ["thing", "size"] (defScope sIsCell) := ⟨rfl, rfl, rfl, by decide +kernel, rfl, by decide +kernel, by decide +kernel⟩
theorem ok_iscell {f : Addr} {fd : FuncData} (F : FunD K "is_cell" "is_cell" (defArgs sIsCell) (defBody sIsCell) (defScope sIsCell) [] [("size", .int 40)] f fd)
    (D : Has P w K mg base "is_integer_between" 2 ["thing", "low", "high"] spBetween) : FnOk P w K mg base CX0 3 f fd ["thing", "size"] spIsCell := by
  obtain ⟨fD, fdD, GD, mD, kD, bD⟩ := D
  refine F.ok scIsCell (fun vs H Q E h => ?_) (fun cdv A outer s H vs Q E hr h => ?_)
  · obtain ⟨i, n, rfl, _⟩ := h
    rfl
  · obtain ⟨i, n, rfl, out⟩ := h
    refine ⟨_, pss_one (ps_ret (pe_call GD hr (by rfl) mD kD bD .nil pass0 (pa_cons (pv 0) (pa_cons pe_int (pa_cons (pe_op op_sub (pv 1) pe_int) pa_nil))))), ?_⟩
    exact ⟨_, rfl, _, rfl, n, 1, rfl, rfl, i, 0, n - 1, rfl, out⟩
/-- a def called with size = .. -/
def HasN (P : Program) (w : World) (K : PySem.W.Frag) (mg : Str → Option Value) (base : Heap) (x : Str) (lv : Nat) (y : Str) (sp : Sp) : Prop :=
  ∃ f fd, FnOk P w K mg base CX0 lv f fd [y, "size"] sp ∧ mg x = some (.ref f) ∧ PySem.W.keepIn K (.ref f) = true ∧ KBn K fd [y, "size"] 1 ["size"] (fun us ws => us ++ ws) (fun vs zs => vs ++ zs)
/-- are_cells of cells of this size -/
def spAre (K : PySem.W.Frag) : Sp := fun vs H Q _ => ∃ (a : Addr) (n : Int) (ns : List Int), vs = [.ref a, .int n] ∧ Sq K H a (ns.map V.int) ∧ ns.length ≤ 500 ∧ (∀ k ∈ ns, 0 ≤ k ∧ k < n) ∧ ns.Nodup ∧
  ∀ H', Same H H' → Q (.bl true) H'
abbrev nCells : List Str := ["things", "size", "thing"]
theorem scAre : FnScope nCells ["things", "size"] (defScope sAre) := ⟨rfl, rfl, rfl, by decide +kernel, rfl, by decide +kernel, by decide +kernel⟩
theorem all_true {l : List Bool} (h : ∀ b ∈ l, b = true) : l.all id = true := List.all_eq_true.mpr fun b hb => h b hb
theorem ok_are {f : Addr} {fd : FuncData} (F : Fun K "are_cells" "are_cells" sAre f fd) (B : Bl mg)
    (D : HasN P w K mg base "is_cell" 3 "thing" spIsCell) : FnOk P w K mg base CX0 4 f fd ["things", "size"] (spAre K) := by
  obtain ⟨fD, fdD, GD, mD, kD, bD⟩ := D
  refine F.ok scAre (fun vs H Q E h => ?_) (fun cdv A outer s H vs Q E hr h => ?_)
  · obtain ⟨a, n, ns, rfl, _⟩ := h
    rfl
  · obtain ⟨a, n, ns, rfl, hq, hl, hin, hnd, good⟩ := h
    rcases hq with hq | hq
    · refine ⟨_, pss_cons (ps_if (pt_not (pt_val (pe_callB call_isiT (by rfl) B.isinstance (by decide +kernel) (pa_cons (pv 0) (pa_cons (pe_tup (pa_cons (pe_bltn (v := .ty "list") (by rfl) B.list (by decide +kernel) rfl) (pa_cons (pe_bltn (v := .ty "tuple") (by rfl) B.tuple (by decide +kernel) rfl) pa_nil))) pa_nil))))) (pss_one ps_off) pss_nil)
      (pss_cons (ps_if (pt_not (pt_val (pe_callB (cr_all rfl) (by rfl) B.all (by decide +kernel) (pa_cons (pe_lc (own := [("thing", 2)]) (g := gName 2) (te := tCallN 1 (["size"] : List Str).length spIsCell (fun vs zs => vs ++ zs) E0 (tCons (tVar 2) tNil) (tCons (tVar 1) tNil)) rfl scAre.nd (pi_list (pv 0)) (blkOk_by (own := [("thing", 2)]) (N := nCells) (sc := defScope sAre) (by decide +kernel))
          (fun _ _ _ _ _ => pg_name (i := 2) scAre.nd rfl (Or.inl rfl)) (fun _ _ _ _ _ => pts_nil) (fun _ _ _ _ _ => by exact pe_callN (n := 1) (ks := ["size"]) GD hr (by rfl) mD kD bD pass0 (pa_cons (pv 2) pa_nil) (pk_cons (pv 1) pk_nil))) pa_nil)))) (pss_one ps_off) pss_nil)
      (pss_one (ps_ret (pe_cmpR op_eq (pe_lenSetQ (by rfl) B.len (by rfl) B.set (pv 0)) (pe_callB call_len_seq (by rfl) B.len PySem.boot_len (pa_cons (pv 0) pa_nil)) (nomark _))))), ?_⟩
      refine ⟨_, rfl, by decide, fun p hp => ?_⟩
      have s1 : Same H (upd H p (.tup [.ty "list", .ty "tuple"])) := same_new hp
      refine ⟨_, p, _, _, _, true, rfl, upd_same, .cons (.ty _) (.cons (.ty _) .nil), sq_ty (same_sq s1 hq), kit_seq (by simp), _, rfl, iteF ?_⟩
      refine ⟨_, rfl, a, rfl, ⟨_, same_sq s1 hq⟩, fun D hD => ?_⟩
      refine lc_list (K := K) (a := a) (xs := ns.map V.int) (fun i H' => Same H H' ∧ H' D = some (.lst ((ns.take i).map fun k => V.bl (decide (0 ≤ k) && decide (k ≤ n - 1))))) ⟨s1.trans (same_new hD), upd_same⟩ (fun i H' _ h => same_sq h.1 hq) ?_ ?_
      · rintro i x H2 hx ⟨s2, hD2⟩
        rw [List.getElem?_map] at hx
        obtain ⟨k, hk, rfl⟩ : ∃ k, ns[i]? = some k ∧ x = V.int k := by
          cases e : ns[i]? with
          | none => rw [e] at hx; cases hx
          | some k => rw [e] at hx; exact ⟨k, rfl, (Option.some.inj hx).symm⟩
        refine ⟨rfl, yesT ?_⟩
        refine ⟨_, rfl, _, rfl, rfl, rfl, k, n, rfl, _, hD2, ?_, ?_, ?_⟩
        · rw [List.length_map, List.length_take]
          exact small1000 (by omega)
        · intro b o e
          have hDb : H D = none := s1.free hD
          rw [upd_ne (ne_of_none e hDb)]
          exact s2 b o e
        · rw [upd_same, List.take_succ, hk, List.map_append]
          rfl
      rintro H2 ⟨s2, hD2⟩
      rw [List.length_map, List.take_length] at hD2
      refine ⟨D, ns.map fun k => decide (0 ≤ k) && decide (k ≤ n - 1), rfl, SqL.of (by rw [hD2, List.map_map]; rfl), _, rfl, ?_⟩
      have eall : (ns.map fun k => decide (0 ≤ k) && decide (k ≤ n - 1)).all id = true := by
        refine all_true fun b hb => ?_
        obtain ⟨k, hk, rfl⟩ := List.mem_map.mp hb
        obtain ⟨h1, h2⟩ := hin k hk
        have h3 : k ≤ n - 1 := by omega
        simp [h1, h3]
      rw [eall]
      refine iteF ⟨_, rfl, a, ns, rfl, .inl (same_sq s2 hq), by omega, fun c hc hiff => ?_⟩
      refine ⟨_, rfl, a, _, rfl, .inl (same_sq s2 hq), ?_⟩
      rw [List.length_map]
      have ec : c = ns.length := hiff.mpr hnd
      subst ec
      refine ⟨rfl, ?_⟩
      rw [decide_eq_true rfl]
      exact good H2 s2
    · refine ⟨_, pss_cons (ps_if (pt_not (pt_val (pe_callB call_isiT (by rfl) B.isinstance (by decide +kernel) (pa_cons (pv 0) (pa_cons (pe_tup (pa_cons (pe_bltn (v := .ty "list") (by rfl) B.list (by decide +kernel) rfl) (pa_cons (pe_bltn (v := .ty "tuple") (by rfl) B.tuple (by decide +kernel) rfl) pa_nil))) pa_nil))))) (pss_one ps_off) pss_nil)
      (pss_cons (ps_if (pt_not (pt_val (pe_callB (cr_all rfl) (by rfl) B.all (by decide +kernel) (pa_cons (pe_lc (own := [("thing", 2)]) (g := gName 2) (te := tCallN 1 (["size"] : List Str).length spIsCell (fun vs zs => vs ++ zs) E0 (tCons (tVar 2) tNil) (tCons (tVar 1) tNil)) rfl scAre.nd (pi_tup (pv 0)) (blkOk_by (own := [("thing", 2)]) (N := nCells) (sc := defScope sAre) (by decide +kernel))
          (fun _ _ _ _ _ => pg_name (i := 2) scAre.nd rfl (Or.inl rfl)) (fun _ _ _ _ _ => pts_nil) (fun _ _ _ _ _ => by exact pe_callN (n := 1) (ks := ["size"]) GD hr (by rfl) mD kD bD pass0 (pa_cons (pv 2) pa_nil) (pk_cons (pv 1) pk_nil))) pa_nil)))) (pss_one ps_off) pss_nil)
      (pss_one (ps_ret (pe_cmpR op_eq (pe_lenSetQ (by rfl) B.len (by rfl) B.set (pv 0)) (pe_callB call_len_seq (by rfl) B.len PySem.boot_len (pa_cons (pv 0) pa_nil)) (nomark _))))), ?_⟩
      refine ⟨_, rfl, by decide, fun p hp => ?_⟩
      have s1 : Same H (upd H p (.tup [.ty "list", .ty "tuple"])) := same_new hp
      refine ⟨_, p, _, _, _, true, rfl, upd_same, .cons (.ty _) (.cons (.ty _) .nil), sqt_ty (same_sqt s1 hq), kit_seq (by simp), _, rfl, iteF ?_⟩
      refine ⟨_, rfl, a, rfl, ⟨_, same_sqt s1 hq⟩, fun D hD => ?_⟩
      refine lc_tup (K := K) (a := a) (xs := ns.map V.int) (fun i H' => Same H H' ∧ H' D = some (.lst ((ns.take i).map fun k => V.bl (decide (0 ≤ k) && decide (k ≤ n - 1))))) ⟨s1.trans (same_new hD), upd_same⟩ (fun i H' _ h => same_sqt h.1 hq) ?_ ?_
      · rintro i x H2 hx ⟨s2, hD2⟩
        rw [List.getElem?_map] at hx
        obtain ⟨k, hk, rfl⟩ : ∃ k, ns[i]? = some k ∧ x = V.int k := by
          cases e : ns[i]? with
          | none => rw [e] at hx; cases hx
          | some k => rw [e] at hx; exact ⟨k, rfl, (Option.some.inj hx).symm⟩
        refine ⟨rfl, yesT ?_⟩
        refine ⟨_, rfl, _, rfl, rfl, rfl, k, n, rfl, _, hD2, ?_, ?_, ?_⟩
        · rw [List.length_map, List.length_take]
          exact small1000 (by omega)
        · intro b o e
          have hDb : H D = none := s1.free hD
          rw [upd_ne (ne_of_none e hDb)]
          exact s2 b o e
        · rw [upd_same, List.take_succ, hk, List.map_append]
          rfl
      rintro H2 ⟨s2, hD2⟩
      rw [List.length_map, List.take_length] at hD2
      refine ⟨D, ns.map fun k => decide (0 ≤ k) && decide (k ≤ n - 1), rfl, SqL.of (by rw [hD2, List.map_map]; rfl), _, rfl, ?_⟩
      have eall : (ns.map fun k => decide (0 ≤ k) && decide (k ≤ n - 1)).all id = true := by
        refine all_true fun b hb => ?_
        obtain ⟨k, hk, rfl⟩ := List.mem_map.mp hb
        obtain ⟨h1, h2⟩ := hin k hk
        have h3 : k ≤ n - 1 := by omega
        simp [h1, h3]
      rw [eall]
      refine iteF ⟨_, rfl, a, ns, rfl, .inr (same_sqt s2 hq), by omega, fun c hc hiff => ?_⟩
      refine ⟨_, rfl, a, _, rfl, .inr (same_sqt s2 hq), ?_⟩
      rw [List.length_map]
      have ec : c = ns.length := hiff.mpr hnd
      subst ec
      refine ⟨rfl, ?_⟩
      rw [decide_eq_true rfl]
      exact good H2 s2
/-- cell_tuple of cells of this size -/
def spCells (K : PySem.W.Frag) : Sp := fun vs H Q _ => ∃ (a : Addr) (n : Int) (ns : List Int), vs = [.ref a, .int n] ∧ Sq K H a (ns.map V.int) ∧ ns.length ≤ 500 ∧ (∀ k ∈ ns, 0 ≤ k ∧ k < n) ∧ ns.Nodup ∧
  ∀ p (ms : List Int) H', H p = none → Same H H' → ms.Perm ns → ms.Pairwise (· ≤ ·) → H' p = some (.tup (ms.map V.int)) → Q (.ref p) H'
theorem scCells : FnScope ["things", "size"] ["things", "size"] (defScope sCells) := ⟨rfl, rfl, rfl, by decide +kernel, rfl, by decide +kernel, by decide +kernel⟩
theorem ok_cells {f : Addr} {fd : FuncData} (F : FunD K "cell_tuple" "cell_tuple" (defArgs sCells) (defBody sCells) (defScope sCells) [] [("size", .int 40)] f fd) (B : Bl mg)
    (D : Has P w K mg base "are_cells" 4 ["things", "size"] (spAre K)) : FnOk P w K mg base CX0 5 f fd ["things", "size"] (spCells K) := by
  obtain ⟨fD, fdD, GD, mD, kD, bD⟩ := D
  refine F.ok scCells (fun vs H Q E h => ?_) (fun cdv A outer s H vs Q E hr h => ?_)
  · obtain ⟨a, n, ns, rfl, _⟩ := h
    rfl
  · obtain ⟨a, n, ns, rfl, hq, hl, hin, hnd, good⟩ := h
    rcases id hq with hq1 | hq1
    · refine ⟨_, pss_cons (ps_if (pt_not (pt_val (pe_call GD hr (by rfl) mD kD bD .nil pass0 (pa_cons (pv 0) (pa_cons (pv 1) pa_nil))))) (pss_one ps_off) pss_nil)
      (pss_one (ps_ret (pe_callTy call_tuple_of (by rfl) B.tuple (by decide +kernel) (pa_cons (pe_callB cr_sortedI (by rfl) B.sorted (by decide +kernel) (pa_cons (pv 0) pa_nil)) pa_nil)))), ?_⟩
      refine ⟨_, rfl, _, rfl, a, n, ns, rfl, hq, hl, hin, hnd, fun H2 s2 => ⟨_, rfl, iteF ?_⟩⟩
      refine ⟨_, rfl, a, ns, rfl, same_sq s2 hq1, fun ms p2 pm pw hp2 => ?_⟩
      refine ⟨p2, _, rfl, .inl ⟨SqL.of upd_same, fun l hl2 => ?_⟩⟩
      have hl3 : H l = none := s2.free ((same_new hp2).free hl2)
      exact good l ms _ hl3 ((s2.trans (same_new hp2)).trans (same_new hl2)) pm pw upd_same
    · refine ⟨_, pss_cons (ps_if (pt_not (pt_val (pe_call GD hr (by rfl) mD kD bD .nil pass0 (pa_cons (pv 0) (pa_cons (pv 1) pa_nil))))) (pss_one ps_off) pss_nil)
      (pss_one (ps_ret (pe_callTy call_tuple_of (by rfl) B.tuple (by decide +kernel) (pa_cons (pe_callB cr_sortedTup (by rfl) B.sorted (by decide +kernel) (pa_cons (pv 0) pa_nil)) pa_nil)))), ?_⟩
      refine ⟨_, rfl, _, rfl, a, n, ns, rfl, hq, hl, hin, hnd, fun H2 s2 => ⟨_, rfl, iteF ?_⟩⟩
      refine ⟨_, rfl, a, ns, rfl, same_sqt s2 hq1, fun ms p2 pm pw hp2 => ?_⟩
      refine ⟨p2, _, rfl, .inl ⟨SqL.of upd_same, fun l hl2 => ?_⟩⟩
      have hl3 : H l = none := s2.free ((same_new hp2).free hl2)
      exact good l ms _ hl3 ((s2.trans (same_new hp2)).trans (same_new hl2)) pm pw upd_same
/-- added_cells of two tuples of cells -/
def spAdded (K : PySem.W.Frag) : Sp := fun vs H Q _ => ∃ (a b : Addr) (ns ms : List Int), vs = [.ref a, .ref b] ∧ SqT K H a (ns.map V.int) ∧ SqT K H b (ms.map V.int) ∧ ns.length ≤ 500 ∧ ms.length ≤ 500 ∧ (∀ k ∈ ns, Cell k) ∧ (∀ k ∈ ms, Cell k) ∧
  ∀ p (ks : List Int) H', H p = none → Same H H' → ks.Pairwise (· < ·) → (∀ k, k ∈ ks ↔ xor (decide (k ∈ ns)) (decide (k ∈ ms)) = true) → H' p = some (.tup (ks.map V.int)) → Q (.ref p) H'
theorem scAdded : FnScope ["one", "other"] ["one", "other"] (defScope sAdded) := ⟨rfl, rfl, rfl, by decide +kernel, rfl, by decide +kernel, by decide +kernel⟩
theorem ok_added {f : Addr} {fd : FuncData} (F : Fun K "added_cells" "added_cells" sAdded f fd) (B : Bl mg) : FnOk P w K mg base CX0 2 f fd ["one", "other"] (spAdded K) := by
  refine F.ok scAdded (fun vs H Q E h => ?_) (fun cdv A outer s H vs Q E hr h => ?_)
  · obtain ⟨a, b, ns, ms, rfl, _⟩ := h
    rfl
  · obtain ⟨a, b, ns, ms, rfl, ha, hb, l1, l2, c1, c2, out⟩ := h
    refine ⟨_, pss_one (ps_ret (pe_callTy call_tuple_of (by rfl) B.tuple (by decide +kernel) (pa_cons (pe_callB (cr_sortedSet rfl) (by rfl) B.sorted (by decide +kernel) (pa_cons (pe_op op_xorS (pe_callTy (cr_setTup rfl) (by rfl) B.set (by decide +kernel) (pa_cons (pv 0) pa_nil)) (pe_callTy (cr_setTup rfl) (by rfl) B.set (by decide +kernel) (pa_cons (pv 1) pa_nil))) pa_nil)) pa_nil))), ?_⟩
    refine ⟨_, rfl, a, ns, rfl, ha, by omega, fun p1 n1 hp1 => ?_⟩
    have s1 := same_new (o := SetO w p1 (fun j => decide (j ∈ ns)) n1) hp1
    refine ⟨_, rfl, b, ms, rfl, same_sqt s1 hb, by omega, fun p2 n2 hp2 => ?_⟩
    have s2 := same_new (o := SetO w p2 (fun j => decide (j ∈ ms)) n2) hp2
    refine ⟨p1, p2, _, _, n1, n2, rfl, rfl, s2 _ _ upd_same, upd_same, fun k hk => c1 k (of_decide_eq_true hk), fun k hk => c2 k (of_decide_eq_true hk), fun p3 c hp3 hc => ?_⟩
    have s3 := same_new (o := SetO w p3 (fun k => xor (decide (k ∈ ns)) (decide (k ∈ ms))) c) hp3
    refine ⟨p3, _, c, rfl, upd_same, by omega, fun ks p4 pw hk hlen hp4 => ?_⟩
    refine ⟨p4, _, rfl, .inl ⟨SqL.of upd_same, fun l hl => ?_⟩⟩
    have s4 := same_new (o := .lst (ks.map V.int)) hp4
    have s5 := same_new (o := .tup (ks.map V.int)) hl
    have sm := ((s1.trans s2).trans s3).trans s4
    exact out l ks _ (sm.free hl) (sm.trans s5) pw hk upd_same
end
end K49
namespace K49
open PySem PySem.Spec PyProof.Rows L2 Par
/-! ### bits -/
def upF : Nat → List Int → List Int
  | _, [] => []
  | i, b :: bs => if b = 1 then (i : Int) :: upF (i + 1) bs else upF (i + 1) bs
theorem upF_snoc : ∀ (j : Nat) (l : List Int) (b : Int), upF j (l ++ [b]) = upF j l ++ (if b = 1 then [((j + l.length : Nat) : Int)] else [])
  | j, [], b => by
    show (if b = 1 then [(j : Int)] else []) = [] ++ _
    simp
  | j, a :: l, b => by
    have h := upF_snoc (j + 1) l b
    have e : j + 1 + l.length = j + (l.length + 1) := by omega
    show (if a = 1 then (j : Int) :: upF (j + 1) (l ++ [b]) else upF (j + 1) (l ++ [b])) = (if a = 1 then (j : Int) :: upF (j + 1) l else upF (j + 1) l) ++ _
    rw [h, e, List.length_cons]
    split <;> rfl
theorem upF_step {bs : List Int} {i : Nat} {b : Int} (h : bs[i]? = some b) : upF 0 (bs.take (i + 1)) = upF 0 (bs.take i) ++ (if b = 1 then [(i : Int)] else []) := by
  have hi : i < bs.length := (List.getElem?_eq_some_iff.mp h).1
  rw [List.take_succ, h]
  show upF 0 (bs.take i ++ [b]) = _
  rw [upF_snoc, List.length_take]
  have : 0 + min i bs.length = i := by omega
  rw [this]
theorem mem_upF : ∀ (j : Nat) (bs : List Int) (k : Int), k ∈ upF j bs ↔ ∃ i : Nat, bs[i]? = some 1 ∧ k = ((j + i : Nat) : Int)
  | j, [], k => by simp [upF]
  | j, b :: bs, k => by
    have ih := mem_upF (j + 1) bs k
    unfold upF
    constructor
    · intro h
      split at h
      · rename_i hb
        rcases List.mem_cons.mp h with e | e
        · exact ⟨0, by simp [hb], by simpa using e⟩
        · obtain ⟨i, h1, h2⟩ := ih.mp e
          exact ⟨i + 1, by simpa using h1, by omega⟩
      · obtain ⟨i, h1, h2⟩ := ih.mp h
        exact ⟨i + 1, by simpa using h1, by omega⟩
    · rintro ⟨i, h1, h2⟩
      cases i with
      | zero =>
        have hb : b = 1 := by simpa using h1
        rw [if_pos hb]
        rw [h2]
        exact List.mem_cons_self ..
      | succ i =>
        have h3 : k ∈ upF (j + 1) bs := ih.mpr ⟨i, by simpa using h1, by omega⟩
        split
        · exact List.mem_cons_of_mem _ h3
        · exact h3
theorem upF_up : ∀ (j : Nat) (bs : List Int), (upF j bs).Pairwise (· < ·)
  | j, [] => List.Pairwise.nil
  | j, b :: bs => by
    unfold upF
    split
    · refine List.pairwise_cons.mpr ⟨fun k hk => ?_, upF_up (j + 1) bs⟩
      obtain ⟨i, _, e⟩ := (mem_upF (j + 1) bs k).mp hk
      omega
    · exact upF_up (j + 1) bs
theorem nodup_lt_ {l : List Int} (h : l.Pairwise (· < ·)) : l.Nodup := h.imp (fun a e => by omega)
theorem upF_in {bs : List Int} {k : Int} (h : k ∈ upF 0 bs) : 0 ≤ k ∧ k < bs.length := by
  obtain ⟨i, h1, e⟩ := (mem_upF 0 bs k).mp h
  have := (List.getElem?_eq_some_iff.mp h1).1
  omega
theorem upF_len : ∀ (j : Nat) (bs : List Int), (upF j bs).length ≤ bs.length
  | j, [] => Nat.le_refl _
  | j, b :: bs => by
    have := upF_len (j + 1) bs
    unfold upF
    split
    · simp only [List.length_cons]; omega
    · simp only [List.length_cons]; omega
/-- the bits of a board of n cells, those of S up, cell 0 too -/
def mkB (n : Nat) (S : Int → Bool) : List Int := (List.range n).map fun (i : Nat) => if (decide (i = 0) || S (i : Int)) = true then 1 else 0
def flipB (bs ns : List Int) : List Int := (List.range bs.length).map fun (i : Nat) => if decide ((i : Int) ∈ ns) = true then 1 - bs.getD i 0 else bs.getD i 0
/-- what is a board's bits: zeros and ones, the first one 1, at most 40 -/
def OkB (bs : List Int) : Prop := (∀ x ∈ bs, x = 0 ∨ x = 1) ∧ bs[0]? = some 1 ∧ bs.length ≤ 40
theorem mkB_len (n : Nat) (S : Int → Bool) : (mkB n S).length = n := by simp [mkB]
theorem flipB_len (bs ns : List Int) : (flipB bs ns).length = bs.length := by simp [flipB]
theorem mkB_ok {n : Nat} {S : Int → Bool} (h1 : 1 ≤ n) (h2 : n ≤ 40) : OkB (mkB n S) := by
  refine ⟨fun x hx => ?_, ?_, by rw [mkB_len]; exact h2⟩
  · obtain ⟨i, _, rfl⟩ := List.mem_map.mp hx
    split <;> simp
  · unfold mkB
    rw [List.getElem?_map, List.getElem?_range (by omega)]
    simp
theorem bit_at {bs : List Int} (h : OkB bs) {i : Nat} (hi : i < bs.length) : bs.getD i 0 = 0 ∨ bs.getD i 0 = 1 := by
  rw [List.getD_eq_getElem?_getD, List.getElem?_eq_getElem hi]
  exact h.1 _ (List.getElem_mem hi)
theorem up_iff {bs : List Int} (i : Nat) (hi : i < bs.length) : ((i : Int) ∈ upF 0 bs) ↔ bs.getD i 0 = 1 := by
  rw [mem_upF, List.getD_eq_getElem?_getD, List.getElem?_eq_getElem hi]
  constructor
  · rintro ⟨j, h1, h2⟩
    have : i = j := by omega
    subst this
    rw [List.getElem?_eq_getElem hi] at h1
    exact Option.some.inj h1
  · intro h
    exact ⟨i, by rw [List.getElem?_eq_getElem hi]; exact congrArg some h, by omega⟩
theorem tog_eq {bs ns : List Int} (h : OkB bs) (h0 : ∀ k ∈ ns, 1 ≤ k) {S : Int → Bool} (hS : ∀ k, S k = xor (decide (k ∈ upF 0 bs)) (decide (k ∈ ns))) : mkB bs.length S = flipB bs ns := by
  unfold mkB flipB
  refine List.map_congr_left fun i hi => ?_
  have hi2 : i < bs.length := List.mem_range.mp hi
  rw [hS]
  by_cases z : i = 0
  · subst z
    have n0 : ¬ ((0 : Nat) : Int) ∈ ns := fun q => by have := h0 _ q; omega
    have b0 : bs.getD 0 0 = 1 := by
      rw [List.getD_eq_getElem?_getD, h.2.1]
      rfl
    rw [decide_eq_false n0, b0]
    simp
  · rw [decide_eq_false z, Bool.false_or]
    by_cases u : (i : Int) ∈ upF 0 bs
    · have b1 := (up_iff i hi2).mp u
      rw [decide_eq_true u, b1]
      by_cases m : (i : Int) ∈ ns
      · rw [decide_eq_true m]; simp
      · rw [decide_eq_false m]; simp
    · have b1 : bs.getD i 0 = 0 := (bit_at h hi2).resolve_right fun q => u ((up_iff i hi2).mpr q)
      rw [decide_eq_false u, b1]
      by_cases m : (i : Int) ∈ ns
      · rw [decide_eq_true m]; simp
      · rw [decide_eq_false m]; simp
theorem flip_ok {bs ns : List Int} (h : OkB bs) (h0 : ∀ k ∈ ns, 1 ≤ k) : OkB (flipB bs ns) := by
  have hl : 1 ≤ bs.length := by
    have := (List.getElem?_eq_some_iff.mp h.2.1).1
    omega
  rw [← tog_eq h h0 (S := fun k => xor (decide (k ∈ upF 0 bs)) (decide (k ∈ ns))) (fun _ => rfl)]
  exact mkB_ok hl h.2.2
theorem flip_flip {bs ns : List Int} : flipB (flipB bs ns) ns = bs := by
  refine List.ext_getElem (by rw [flipB_len, flipB_len]) fun i h1 h2 => ?_
  have e : ∀ (cs : List Int) (h : i < (flipB cs ns).length), (flipB cs ns)[i] = if decide ((i : Int) ∈ ns) = true then 1 - cs.getD i 0 else cs.getD i 0 := fun cs h => by
    unfold flipB
    simp
  rw [e]
  have g : (flipB bs ns).getD i 0 = (flipB bs ns)[i]'(by rw [flipB_len]; exact h2) := by
    rw [List.getD_eq_getElem?_getD, List.getElem?_eq_getElem]
    rfl
  rw [g, e]
  have g2 : bs.getD i 0 = bs[i] := by
    rw [List.getD_eq_getElem?_getD, List.getElem?_eq_getElem h2]
    rfl
  rw [g2]
  split
  · omega
  · rfl
end K49
namespace K49
open PySem PySem.Spec PyProof.Rows L2 Par
theorem in_ints (x : Int) (ns : List Int) : inV (.int x) (ns.map V.int) = decide (x ∈ ns) := by
  unfold inV
  rw [List.any_map]
  rw [Bool.eq_iff_iff, List.any_eq_true, decide_eq_true_eq]
  constructor
  · rintro ⟨y, hy, e⟩
    have e2 : (y == x) = true := e
    have e3 : y = x := by simpa using e2
    exact e3 ▸ hy
  · intro h
    refine ⟨x, h, ?_⟩
    show (x == x) = true
    simp
theorem flat_ints (ns : List Int) : (ns.map V.int).all flatV = true := by
  rw [List.all_map, List.all_eq_true]
  intro x _
  rfl
theorem perm_sum : ∀ {l m : List Int}, l.Perm m → l.sum = m.sum := by
  intro l m h
  induction h with
  | nil => rfl
  | cons x _ ih => rw [List.sum_cons, List.sum_cons, ih]
  | swap x y l =>
    simp only [List.sum_cons]
    omega
  | trans _ _ h1 h2 => exact h1.trans h2
theorem no_fld {m : Str} {v : V} (h : (m == ("states" : Str)) = false) : ([("states", v)] : List (Str × V)).lookup m = none := by
  simp [List.lookup, h]
theorem fld_ {v : V} : ([("states", v)] : List (Str × V)).lookup ("states" : Str) = some v := by
  simp [List.lookup]
/-- a board at b, with these bits -/
def Bd (C : Addr) (H : Hp) (b : Addr) (bs : List Int) : Prop := ∃ dx t, H b = some (.ins C dx [("states", .ref t)]) ∧ H t = some (.tup (bs.map V.int))
theorem Bd.same {C : Addr} {H H' : Hp} {b : Addr} {bs : List Int} (s : Same H H') (h : Bd C H b bs) : Bd C H' b bs := by
  obtain ⟨dx, t, h1, h2⟩ := h
  exact ⟨dx, t, s _ _ h1, s _ _ h2⟩
theorem Bd.but {C p : Addr} {H H' : Hp} {b : Addr} {bs : List Int} (hp : PotAt H p) (s : But p H H') (h : Bd C H b bs) : Bd C H' b bs := by
  obtain ⟨dx, t, h1, h2⟩ := h
  obtain ⟨x, y, e, _⟩ := hp
  have n1 : b ≠ p := fun z => by rw [z, e] at h1; cases h1
  have n2 : t ≠ p := fun z => by rw [z, e] at h2; cases h2
  exact ⟨dx, t, s _ _ n1 h1, s _ _ n2 h2⟩
structure BC (K : PySem.W.Frag) (mg : Str → Option Value) (C : Addr) : Prop where
  cl : Cls K C
  nS : NoAttr K C "states"
  mgC : mg "Board" = some (.ref C)
section
variable {P : Program} {w : World} {K : PySem.W.Frag} {mg : Str → Option Value} {base : Heap}
/-- a method that is called by places -/
def HasM (P : Program) (w : World) (K : PySem.W.Frag) (mg : Str → Option Value) (base : Heap) (C : Addr) (m : Str) (lv : Nat) (ps : List Str) (sp : Sp) : Prop :=
  ∃ f fd, FnOk P w K mg base CX0 lv f fd ps sp ∧ Meth K C m f ∧ Binds K fd ps []
/-- len(self.states) -/
def spSize (C : Addr) : Sp := fun vs H Q _ => ∃ (b : Addr) (bs : List Int), vs = [.ref b] ∧ Bd C H b bs ∧ Q (.int (bs.length : Nat)) H
theorem scSize : FnScope ["self"] ["self"] (defScope mSize) := ⟨rfl, rfl, rfl, by decide +kernel, rfl, by decide +kernel, by decide +kernel⟩
theorem scLen : FnScope ["self"] ["self"] (defScope mLen) := ⟨rfl, rfl, rfl, by decide +kernel, rfl, by decide +kernel, by decide +kernel⟩
theorem ok_size {f C : Addr} {fd : FuncData} (F : Fun K "size" "Board.size" mSize f fd) (B : Bl mg) (T : BC K mg C) : FnOk P w K mg base CX0 2 f fd ["self"] (spSize C) := by
  refine F.ok scSize (fun vs H Q E h => ?_) (fun cdv A outer s H vs Q E hr h => ?_)
  · obtain ⟨b, bs, rfl, _⟩ := h
    rfl
  · obtain ⟨b, bs, rfl, ⟨dx, t, h1, h2⟩, out⟩ := h
    refine ⟨_, pss_one (ps_ret (pe_callB call_len_seq (by rfl) B.len PySem.boot_len (pa_cons (pe_fld (pv 0) rfl) pa_nil))), ?_⟩
    refine ⟨_, rfl, b, C, dx, _, _, rfl, h1, T.cl, T.nS, fld_, t, _, rfl, .inr (SqT.of h2), ?_⟩
    rw [List.length_map]
    exact out
theorem ok_len {f C : Addr} {fd : FuncData} (F : Fun K "__len__" "Board.__len__" mLen f fd) (B : Bl mg) (T : BC K mg C) : FnOk P w K mg base CX0 2 f fd ["self"] (spSize C) := by
  refine F.ok scLen (fun vs H Q E h => ?_) (fun cdv A outer s H vs Q E hr h => ?_)
  · obtain ⟨b, bs, rfl, _⟩ := h
    rfl
  · obtain ⟨b, bs, rfl, ⟨dx, t, h1, h2⟩, out⟩ := h
    refine ⟨_, pss_one (ps_ret (pe_callB call_len_seq (by rfl) B.len PySem.boot_len (pa_cons (pe_fld (pv 0) rfl) pa_nil))), ?_⟩
    refine ⟨_, rfl, b, C, dx, _, _, rfl, h1, T.cl, T.nS, fld_, t, _, rfl, .inr (SqT.of h2), ?_⟩
    rw [List.length_map]
    exact out
/-- up -/
def spUps (C : Addr) : Sp := fun vs H Q _ => ∃ (b : Addr) (bs : List Int), vs = [.ref b] ∧ Bd C H b bs ∧ bs.length ≤ 40 ∧ ∀ p H', H p = none → Same H H' → H' p = some (.tup ((upF 0 bs).map V.int)) → Q (.ref p) H'
abbrev nUps : List Str := ["self", "cell", "state"]
theorem scUps : FnScope nUps ["self"] (defScope mUps) := ⟨rfl, rfl, rfl, by decide +kernel, rfl, by decide +kernel, by decide +kernel⟩
theorem ok_ups {f C : Addr} {fd : FuncData} (F : Fun K "up" "Board.up" mUps f fd) (B : Bl mg) (T : BC K mg C) : FnOk P w K mg base CX0 2 f fd ["self"] (spUps C) := by
  refine F.ok scUps (fun vs H Q E h => ?_) (fun cdv A outer s H vs Q E hr h => ?_)
  · obtain ⟨b, bs, rfl, _⟩ := h
    rfl
  · obtain ⟨b, bs, rfl, ⟨dx, t, h1, h2⟩, hl, out⟩ := h
    refine ⟨_, pss_one (ps_ret (pe_callTy call_tuple_of (by rfl) B.tuple (by decide +kernel) (pa_cons (pe_lc (own := [("cell", 1), ("state", 2)]) (g := gTup K 2 (gCons (gName 1) (gCons (gName 2) gNil))) rfl scUps.nd (pi_enumT (by rfl) B.enumerate (pa_cons (pe_fld (pv 0) rfl) pa_nil)) (blkOk_by (own := [("cell", 1), ("state", 2)]) (N := nUps) (sc := defScope mUps) (by decide +kernel))
        (fun _ _ _ _ _ => by exact pg_tup rfl (pgs_cons (pg_name (i := 1) scUps.nd rfl (Or.inl rfl)) (pgs_cons (pg_name (i := 2) scUps.nd rfl (Or.inl rfl)) pgs_nil)))
        (fun _ _ _ _ _ => pts_one (pt_cmpR op_eq (pv 2) pe_int (nomark _))) (fun _ _ _ _ _ => pv 1)) pa_nil))), ?_⟩
    refine ⟨_, rfl, b, C, dx, _, _, rfl, h1, T.cl, T.nS, fld_, t, _, rfl, SqT.of h2, fun D hD => ?_⟩
    refine lc_it walk_enumT (fun i H' => Same H H' ∧ H' D = some (.lst ((upF 0 (bs.take i)).map V.int))) ⟨same_new hD, upd_same⟩ (fun i H' _ h => SqT.of (h.1 _ _ h2)) ?_ ?_
    · rintro i x H3 H4 hi ⟨s3, hD3⟩ ⟨T1, x1, y1, rfl, hT, rfl, ex, ey⟩
      have hi2 : i < bs.length := by rw [List.length_map] at hi; exact hi
      have hbi : bs[i]? = some bs[i] := List.getElem?_eq_getElem hi2
      have ey2 : y1 = .int bs[i] := by
        have ey' : (bs.map V.int)[i]? = some y1 := ey
        rw [List.getElem?_map, hbi] at ey'
        exact (Option.some.inj ey').symm
      have ex2 : x1 = .int (i : Nat) := (Option.some.inj ex).symm
      subst ey2 ex2
      have s4 : Same H (upd H3 T1 (.tup [.int (i : Nat), .int bs[i]])) := s3.trans (same_new hT)
      have hD4 := (same_new (o := .tup [.int (i : Nat), .int bs[i]]) hT) _ _ hD3
      have st := upF_step hbi
      refine ⟨T1, _, rfl, SqT.of upd_same, rfl, _, _, rfl, _, _, rfl, rfl, rfl, _, rfl, rfl, _, rfl, ite2 (fun hb => ?_) (fun hb => ?_)⟩
      · have hb1 : bs[i] = 1 := by
          have := of_decide_eq_true hb
          injection this
        refine ⟨_, rfl, _, hD4, ?_, ?_, ?_⟩
        · have := upF_len 0 (bs.take i)
          rw [List.length_take] at this
          rw [List.length_map]
          exact small1000 (by omega)
        · intro z o e
          have hDH : H D = none := hD
          rw [upd_ne (ne_of_none e hDH)]
          exact s4 z o e
        · rw [upd_same, st, if_pos hb1, List.map_append]
          rfl
      · have hb1 : ¬ bs[i] = 1 := fun z => hb (decide_eq_true (by rw [z]))
        refine ⟨s4, ?_⟩
        rw [st, if_neg hb1, List.append_nil]
        exact hD4
    · rintro H3 ⟨s3, hD3⟩
      rw [List.length_map, List.take_length] at hD3
      refine ⟨D, _, rfl, .inl ⟨SqL.of hD3, fun l hl2 => ?_⟩⟩
      exact out l _ (s3.free hl2) (s3.trans (same_new hl2)) upd_same
/-- parity -/
def spPar (K : PySem.W.Frag) (C : Addr) : Sp := fun vs H Q _ => ∃ (b a : Addr) (bs ns : List Int), vs = [.ref b, .ref a] ∧ Bd C H b bs ∧ Sq K H a (ns.map V.int) ∧ ns.length ≤ 500 ∧ (∀ k ∈ ns, 0 ≤ k ∧ k < bs.length) ∧ ns.Nodup ∧
  ∀ H', Same H H' → Q (.int ((ns.map fun k => bs.getD k.toNat 0).sum % 2)) H'
abbrev nPar : List Str := ["self", "cells", "chosen", "cell"]
theorem scPar : FnScope nPar ["self", "cells"] (defScope mPar) := ⟨rfl, rfl, rfl, by decide +kernel, rfl, by decide +kernel, by decide +kernel⟩
theorem ok_par {f C : Addr} {fd : FuncData} (F : Fun K "parity" "Board.parity" mPar f fd) (B : Bl mg) (T : BC K mg C) (DS : HasM P w K mg base C "size" 2 ["self"] (spSize C)) (DC : HasN P w K mg base "cell_tuple" 5 "things" (spCells K)) :
    FnOk P w K mg base CX0 6 f fd ["self", "cells"] (spPar K C) := by
  obtain ⟨fS, fdS, GS, mS, bS⟩ := DS
  obtain ⟨fD, fdD, GD, mD, kD, bD⟩ := DC
  refine F.ok scPar (fun vs H Q E h => ?_) (fun cdv A outer s H vs Q E hr h => ?_)
  · obtain ⟨b, a, bs, ns, rfl, _⟩ := h
    rfl
  · obtain ⟨b, a, bs, ns, rfl, hB, hq, hl, hin, hnd, out⟩ := h
    obtain ⟨dx, t, h1, h2⟩ := id hB
    have r1 : Room 2 _ := hr.mono (by decide)
    refine ⟨_, pss_cons (ps_set (i := 2) scPar.nd rfl (Or.inl rfl) (pe_callN (n := 1) (ks := ["size"]) GD hr (by rfl) mD kD bD pass0 (pa_cons (pv 1) pa_nil) (pk_cons (pe_meth0 (pv 0) T.cl mS GS r1 bS .nil pass0) pk_nil)))
      (pss_one (ps_ret (pe_op op_mod (pe_callB (cr_sum rfl) (by rfl) B.sum (by decide +kernel) (pa_cons (pe_lc (own := [("cell", 3)]) (g := gName 3) (te := tOp (rIxT K) (tFld K (tVar 0) "states") (tVar 3)) rfl scPar.nd (pi_tup (pv 2)) (blkOk_by (own := [("cell", 3)]) (N := nPar) (sc := defScope mPar) (by decide +kernel))
        (fun _ _ _ _ _ => pg_name (i := 3) scPar.nd rfl (Or.inl rfl)) (fun _ _ _ _ _ => pts_nil) (fun _ _ _ _ _ => by exact pe_ix ix_tup (pe_fld (pv 0) rfl) (pv 3) (fun _ _ => rfl))) pa_nil)) pe_int))), ?_⟩
    refine ⟨_, rfl, _, rfl, b, dx, _, rfl, h1, no_fld (by decide +kernel), b, bs, rfl, hB, rfl, rfl, a, (bs.length : Nat), ns, rfl, hq, hl, hin, hnd, ?_⟩
    intro p ms H1 hp s1 pm pw hp1
    refine ⟨_, rfl, p, rfl, ⟨_, SqT.of hp1⟩, fun D hD => ?_⟩
    have hDH : H D = none := s1.free hD
    refine lc_tup (K := K) (a := p) (xs := ms.map V.int) (fun i H' => Same H1 H' ∧ H' D = some (.lst (((ms.take i).map fun k => bs.getD k.toNat 0).map V.int))) ⟨same_new hD, upd_same⟩ (fun i H' _ h => SqT.of (h.1 _ _ hp1)) ?_ ?_
    · rintro i x H2 hx ⟨s2, hD2⟩
      rw [List.getElem?_map] at hx
      obtain ⟨k, hk, rfl⟩ : ∃ k, ms[i]? = some k ∧ x = V.int k := by
        cases e : ms[i]? with
        | none => rw [e] at hx; cases hx
        | some k => rw [e] at hx; exact ⟨k, rfl, (Option.some.inj hx).symm⟩
      obtain ⟨k0, k1⟩ := hin k (pm.mem_iff.mp (List.mem_of_getElem? hk))
      have kl : k.toNat < bs.length := by omega
      have ek : k = ((k.toNat : Nat) : Int) := by omega
      have hat : atI (bs.map V.int) k = some (.int bs[k.toNat]) := by
        have z : atI (bs.map V.int) ((k.toNat : Nat) : Int) = some (.int bs[k.toNat]) := atI_nat (by simp [kl])
        rwa [Int.toNat_of_nonneg k0] at z
      have s12 : Same H H2 := s1.trans s2
      refine ⟨rfl, yesT ?_⟩
      refine ⟨_, rfl, b, C, dx, _, _, rfl, s12 _ _ h1, T.cl, T.nS, fld_, _, rfl, t, _, _, .int bs[k.toNat], rfl, rfl, SqT.of (s12 _ _ h2), hat, ?_⟩
      refine ⟨_, hD2, ?_, ?_, ?_⟩
      · rw [List.length_map, List.length_map, List.length_take, pm.length_eq]
        exact small1000 (by omega)
      · intro z o e
        rw [upd_ne (ne_of_none e hD)]
        exact s2 z o e
      · rw [upd_same, List.take_succ, hk, List.map_append, List.map_append]
        show some (HO.lst (_ ++ [V.int bs[k.toNat]])) = some (HO.lst (_ ++ [V.int (bs.getD k.toNat 0)]))
        rw [List.getD_eq_getElem?_getD, List.getElem?_eq_getElem kl]
        rfl
    · rintro H2 ⟨s2, hD2⟩
      rw [List.length_map, List.take_length] at hD2
      refine ⟨D, _, rfl, SqL.of hD2, _, _, rfl, rfl, (by show (0 : Int) < 2; decide), ?_⟩
      have es : (ms.map fun k => bs.getD k.toNat 0).sum = (ns.map fun k => bs.getD k.toNat 0).sum := perm_sum (pm.map _)
      have := out H2 (s1.trans s2)
      rw [← es] at this
      exact this
end
end K49
namespace K49
open PySem PySem.Spec PyProof.Rows L2 Par
section
variable {P : Program} {w : World} {K : PySem.W.Frag} {mg : Str → Option Value} {base : Heap}
/-- __init__ -/
def spInit (K : PySem.W.Frag) (C : Addr) : Sp := fun vs H Q _ => ∃ (b dx u : Addr) (n : Nat) (ns : List Int), vs = [.ref b, .int (n : Nat), .ref u] ∧ H b = some (.ins C dx []) ∧ Sq K H u (ns.map V.int) ∧ ns.length ≤ 500 ∧ 1 ≤ n ∧ n ≤ 40 ∧
  (∀ k ∈ ns, 0 ≤ k ∧ k < (n : Nat)) ∧ ns.Nodup ∧
  ∀ H' t, But b H H' → H' b = some (.ins C dx [("states", .ref t)]) → H' t = some (.tup ((mkB n fun k => decide (k ∈ ns)).map V.int)) → Q .non H'
abbrev nInit : List Str := ["self", "size", "up", "raised", "cell"]
theorem scInit : FnScope nInit ["self", "size", "up"] (defScope mInit) := ⟨rfl, rfl, rfl, by decide +kernel, rfl, by decide +kernel, by decide +kernel⟩
theorem ok_init {f C e : Addr} {fd : FuncData} (F : FunD K "__init__" "Board.__init__" (defArgs mInit) (defBody mInit) (defScope mInit) [] [("up", .ref e)] f fd) (B : Bl mg) (T : BC K mg C)
    (DZ : Has P w K mg base "is_size" 3 ["thing"] spIsSize) (DC : HasN P w K mg base "cell_tuple" 5 "things" (spCells K)) : FnOk P w K mg base CX0 6 f fd ["self", "size", "up"] (spInit K C) := by
  obtain ⟨fZ, fdZ, GZ, mZ, kZ, bZ⟩ := DZ
  obtain ⟨fD, fdD, GD, mD, kD, bD⟩ := DC
  refine F.ok scInit (fun vs H Q E h => ?_) (fun cdv A outer s H vs Q E hr h => ?_)
  · obtain ⟨b, dx, u, n, ns, rfl, _⟩ := h
    rfl
  · obtain ⟨b, dx, u, n, ns, rfl, hb, hq, hl, n1, n2, hin, hnd, out⟩ := h
    have r2 : Room 3 _ := hr.mono (by decide)
    refine ⟨_, pss_cons (ps_if (pt_not (pt_val (pe_call GZ r2 (by rfl) mZ kZ bZ .nil pass0 (pa_cons (pv 1) pa_nil)))) (pss_one ps_off) pss_nil)
      (pss_cons (ps_set (i := 3) scInit.nd rfl (Or.inr rfl) (pe_callN (n := 1) (ks := ["size"]) GD hr (by rfl) mD kD bD pass0 (pa_cons (pv 2) pa_nil) (pk_cons (pv 1) pk_nil)))
      (pss_one (ps_fld (pv 0) (pe_callTy call_tuple_of (by rfl) B.tuple (by decide +kernel) (pa_cons (pe_lc (own := [("cell", 4)]) (g := gName 4) (te := tIf (tOr (tTest (tOp rEq (tVar 4) (tC (.int 0)))) (tTest (tOp (rIn K false) (tVar 4) (tVar 3)))) (tC (.int 1)) (tC (.int 0))) rfl scInit.nd (pi_range1 (by rfl) B.range (pa_cons (pv 1) pa_nil)) (blkOk_by (own := [("cell", 4)]) (N := nInit) (sc := defScope mInit) (by decide +kernel))
        (fun _ _ _ _ _ => pg_name (i := 4) scInit.nd rfl (Or.inl rfl)) (fun _ _ _ _ _ => pts_nil)
        (fun _ _ _ _ _ => by exact pe_ifExp (PW.pt (pw_or (pt_cmpR op_eq (pv 4) pe_int (nomark _)) (pw_or1 (pt_cmpR op_in_seq (pv 4) (pv 3) (by rfl))))) pe_int pe_int)) pa_nil)) rfl))), ?_⟩
    refine ⟨_, rfl, (n : Nat), rfl, _, rfl, ?_⟩
    have e1 : decide ((1 : Int) ≤ (n : Nat)) = true := decide_eq_true (by omega)
    have e2 : decide (((n : Nat) : Int) ≤ 40) = true := decide_eq_true (by omega)
    rw [e1, e2]
    refine iteF ?_
    refine ⟨_, rfl, _, rfl, rfl, rfl, u, (n : Nat), ns, rfl, hq, hl, hin, hnd, ?_⟩
    intro p ms H1 hp s1 pm pw hp1
    refine ⟨_, rfl, _, rfl, by omega, by omega, fun D hD => ?_⟩
    rw [Int.toNat_natCast]
    have hms : ∀ k : Int, decide (k ∈ ms) = decide (k ∈ ns) := fun k => by
      by_cases z : k ∈ ns
      · rw [decide_eq_true z, decide_eq_true (pm.mem_iff.mpr z)]
      · rw [decide_eq_false z, decide_eq_false (fun q => z (pm.mem_iff.mp q))]
    refine lc_range (lo := 0) (n := n) (fun i H' => Same H1 H' ∧ H' D = some (.lst ((mkB i fun k => decide (k ∈ ns)).map V.int))) ⟨same_new hD, upd_same⟩ ?_ ?_
    · rintro i H2 hi ⟨s2, hD2⟩
      have e0 : (0 : Int) + (i : Nat) = (i : Nat) := by omega
      rw [e0]
      have step : ∀ x : Int, (if (decide (i = 0) || decide ((i : Int) ∈ ns)) = true then (1 : Int) else 0) = x → ∃ acc, H2 D = some (.lst acc) ∧ acc.length < sizeLine ∧
          Same H1 (upd H2 D (.lst (acc ++ [V.int x]))) ∧ (upd H2 D (.lst (acc ++ [V.int x]))) D = some (.lst ((mkB (i + 1) fun k => decide (k ∈ ns)).map V.int)) := by
        intro x hx
        refine ⟨_, hD2, by rw [List.length_map, mkB_len]; exact small1000 (by omega), ?_, ?_⟩
        · intro z o e
          rw [upd_ne (ne_of_none e hD)]
          exact s2 z o e
        · rw [upd_same]
          unfold mkB
          rw [List.range_succ, List.map_append, List.map_append]
          show some (HO.lst (_ ++ [V.int x])) = some (HO.lst (_ ++ [V.int (if (decide (i = 0) || decide ((i : Int) ∈ ns)) = true then (1 : Int) else 0)]))
          rw [hx]
      refine ⟨rfl, yesT ?_⟩
      refine ⟨_, rfl, rfl, _, rfl, ite2 (fun hz => iteT ?_) (fun hz => ?_)⟩
      · have hz1 : i = 0 := by
          have z := of_decide_eq_true hz
          have z2 : ((i : Nat) : Int) = 0 := by injection z
          omega
        exact step 1 (by rw [decide_eq_true hz1]; rfl)
      · have hz1 : ¬ i = 0 := fun z => hz (decide_eq_true (by rw [z]; rfl))
        refine ⟨_, rfl, _, rfl, p, _, rfl, .inr (SqT.of (s2 _ _ hp1)), rfl, flat_ints _, _, rfl, ?_⟩
        show if inV (V.int ((i : Nat) : Int)) (ms.map V.int) = true then _ else _
        rw [in_ints, hms]
        by_cases hm : ((i : Nat) : Int) ∈ ns
        · rw [decide_eq_true hm]
          exact iteT (step 1 (by rw [decide_eq_true hm, Bool.or_true]; rfl))
        · rw [decide_eq_false hm]
          exact iteF (step 0 (by rw [decide_eq_false hm, decide_eq_false hz1]; rfl))
    · rintro H2 ⟨s2, hD2⟩
      refine ⟨D, _, rfl, .inl ⟨SqL.of hD2, fun t ht => ?_⟩⟩
      have s3 := same_new (o := .tup ((mkB n fun k => decide (k ∈ ns)).map V.int)) ht
      have s123 : Same H _ := (s1.trans s2).trans s3
      have nb : t ≠ b := fun z => by
        have := (s1.trans s2) _ _ hb
        rw [← z, ht] at this
        cases this
      refine ⟨_, rfl, b, C, dx, [], rfl, s123 _ _ hb, T.cl, T.nS, (by show 0 < 1000; decide), ?_⟩
      refine out _ t (fun x o nx e => ?_) upd_same ?_
      · rw [upd_ne nx]
        exact s123 _ _ e
      · rw [upd_ne nb, upd_same]
/-- Board as a class whose __init__ keeps its promise -/
def HasIni (P : Program) (w : World) (K : PySem.W.Frag) (mg : Str → Option Value) (base : Heap) (C : Addr) : Prop :=
  ∃ f fd, FnOk P w K mg base CX0 6 f fd ["self", "size", "up"] (spInit K C) ∧ Mk K C f ∧ KBn K fd ["self", "size", "up"] 2 ["up"] (fun us ws => us ++ ws) (fun vs zs => vs ++ zs) ∧
    KBn K fd ["self", "size", "up"] 1 ["size", "up"] (fun us ws => us ++ ws) (fun vs zs => vs ++ zs) ∧ ∃ (e : Addr) (ds : List Value), (∀ H, SqT K H e []) ∧ Vals [V.ref e] ds ∧ Binds K fd ["self", "size", "up"] ds
/-- what Board(..) leads to -/
theorem made_board {C : Addr} {H : Hp} {n : Nat} {u : Addr} {ns : List Int} {W : Addr → Hp → Prop} (hq : Sq K H u (ns.map V.int)) (hl : ns.length ≤ 500) (n1 : 1 ≤ n) (n2 : n ≤ 40) (hin : ∀ k ∈ ns, 0 ≤ k ∧ k < (n : Nat)) (hnd : ns.Nodup)
    (out : ∀ x H', H x = none → Same H H' → Bd C H' x (mkB n fun k => decide (k ∈ ns)) → W x H') :
    ∀ x dx, H x = none → H dx = none → dx ≠ x → spInit K C [.ref x, .int (n : Nat), .ref u] (upd (upd H dx (.own x)) x (.ins C dx [])) (fun v H3 => v = .non ∧ W x H3) (fun _ _ _ => False) := by
  intro x dx hx hdx ne
  have s1 : Same H (upd (upd H dx (.own x)) x (.ins C dx [])) := fun z o e => by
    rw [upd_ne (ne_of_none e hx), upd_ne (ne_of_none e hdx)]
    exact e
  refine ⟨x, dx, u, n, ns, rfl, upd_same, hq.same s1, hl, n1, n2, hin, hnd, fun H' t bt h1 h2 => ⟨rfl, ?_⟩⟩
  refine out x H' hx (fun z o e => ?_) ⟨dx, t, h1, h2⟩
  exact bt z o (ne_of_none e hx) (s1 z o e)
/-- toggled -/
def spTog (K : PySem.W.Frag) (C : Addr) : Sp := fun vs H Q _ => ∃ (b a : Addr) (bs ns : List Int), vs = [.ref b, .ref a] ∧ Bd C H b bs ∧ OkB bs ∧ Sq K H a (ns.map V.int) ∧ ns.length ≤ 500 ∧ (∀ k ∈ ns, 1 ≤ k ∧ k < bs.length) ∧ ns.Nodup ∧
  ∀ q H', H q = none → Same H H' → Bd C H' q (flipB bs ns) → Q (.ref q) H'
abbrev nTog : List Str := ["self", "cells", "changed"]
theorem scTog : FnScope nTog ["self", "cells"] (defScope mTog) := ⟨rfl, rfl, rfl, by decide +kernel, rfl, by decide +kernel, by decide +kernel⟩
theorem ok_tog {f C : Addr} {fd : FuncData} (F : Fun K "toggled" "Board.toggled" mTog f fd) (B : Bl mg) (T : BC K mg C) (DS : HasM P w K mg base C "size" 2 ["self"] (spSize C)) (DU : HasM P w K mg base C "up" 2 ["self"] (spUps C))
    (DC : HasN P w K mg base "cell_tuple" 5 "things" (spCells K)) (DA : Has P w K mg base "added_cells" 2 ["one", "other"] (spAdded K)) (DI : HasIni P w K mg base C) :
    FnOk P w K mg base CX0 8 f fd ["self", "cells"] (spTog K C) := by
  obtain ⟨fS, fdS, GS, mS, bS⟩ := DS
  obtain ⟨fU, fdU, GU, mU, bU⟩ := DU
  obtain ⟨fD, fdD, GD, mD, kD, bD⟩ := DC
  obtain ⟨fA, fdA, GA, mA, kA, bA⟩ := DA
  obtain ⟨fI, fdI, GI, MI, kb2, _⟩ := DI
  refine F.ok scTog (fun vs H Q E h => ?_) (fun cdv A outer s H vs Q E hr h => ?_)
  · obtain ⟨b, a, bs, ns, rfl, _⟩ := h
    rfl
  · obtain ⟨b, a, bs, ns, rfl, hB, hO, hq, hl, hin, hnd, out⟩ := h
    obtain ⟨dx, t, h1, h2⟩ := id hB
    have r1 : Room 2 _ := hr.mono (by decide)
    have r3 : Room 5 _ := hr.mono (by decide)
    refine ⟨_, pss_cons (ps_set (i := 2) scTog.nd rfl (Or.inl rfl) (pe_callN (n := 1) (ks := ["size"]) GD r3 (by rfl) mD kD bD pass0 (pa_cons (pv 1) pa_nil) (pk_cons (pe_meth0 (pv 0) T.cl mS GS r1 bS .nil pass0) pk_nil)))
      (pss_cons (ps_if (pt_cmpR op_in_seq pe_int (pv 2) (by rfl)) (pss_one ps_off) pss_nil)
      (pss_one (ps_ret (pe_makeN (n := 1) (ks := ["up"]) (E := E0) MI GI hr (by rfl) T.mgC kb2 pass0 (pa_cons (pe_meth0 (pv 0) T.cl mS GS r1 bS .nil pass0) pa_nil) (pk_cons (pe_call GA r1 (by rfl) mA kA bA .nil pass0 (pa_cons (pe_meth0 (pv 0) T.cl mU GU r1 bU .nil pass0) (pa_cons (pv 2) pa_nil))) pk_nil))))), ?_⟩
    have hin0 : ∀ k ∈ ns, 0 ≤ k ∧ k < ((bs.length : Nat) : Int) := fun k hk => by
      have := hin k hk
      omega
    refine ⟨_, rfl, _, rfl, b, dx, _, rfl, h1, no_fld (by decide +kernel), b, bs, rfl, hB, rfl, rfl, a, (bs.length : Nat), ns, rfl, hq, hl, hin0, hnd, ?_⟩
    intro p ms H1 hp s1 pm pw hp1
    refine ⟨_, rfl, p, _, rfl, .inr (SqT.of hp1), rfl, flat_ints _, _, rfl, ?_⟩
    have h0 : ¬ (0 : Int) ∈ ms := fun z => by
      have := hin 0 (pm.mem_iff.mp z)
      omega
    show if inV (V.int 0) (ms.map V.int) = true then _ else _
    rw [in_ints, decide_eq_false h0]
    refine iteF ?_
    have hB1 := hB.same s1
    refine ⟨_, rfl, b, dx, _, rfl, s1 _ _ h1, no_fld (by decide +kernel), b, bs, rfl, hB1, ?_⟩
    refine ⟨_, rfl, b, dx, _, rfl, s1 _ _ h1, no_fld (by decide +kernel), b, bs, rfl, hB1, hO.2.2, ?_⟩
    intro p2 H2 hp2 s2 hup
    refine ⟨_, rfl, p2, p, upF 0 bs, ms, rfl, SqT.of hup, SqT.of (s2 _ _ hp1), ?_, ?_, ?_, ?_, ?_⟩
    · have := upF_len 0 bs
      have := hO.2.2
      omega
    · rw [pm.length_eq]
      exact hl
    · intro k hk
      have := upF_in hk
      have := hO.2.2
      exact ⟨by omega, by omega⟩
    · intro k hk
      have := hin k (pm.mem_iff.mp hk)
      have := hO.2.2
      exact ⟨by omega, by omega⟩
    intro p3 ks H3 hp3 s3 pk hks hp3'
    have hlen1 : 1 ≤ bs.length := by
      have := (List.getElem?_eq_some_iff.mp hO.2.1).1
      omega
    have hinks : ∀ k ∈ ks, 0 ≤ k ∧ k < ((bs.length : Nat) : Int) := fun k hk => by
      have z := (hks k).mp hk
      by_cases u : k ∈ upF 0 bs
      · exact upF_in u
      · rw [decide_eq_false u] at z
        have z2 : k ∈ ms := by simpa using z
        exact hin0 k (pm.mem_iff.mp z2)
    have hlks : ks.length ≤ 40 := cells_few (nodup_lt_ pk) fun k hk => by
      have := hinks k hk
      have := hO.2.2
      exact ⟨by omega, by omega⟩
    refine ⟨rfl, rfl, made_board (n := bs.length) (ns := ks) (.inr (SqT.of hp3')) (by omega) hlen1 hO.2.2 hinks (nodup_lt_ pk) fun x H' hx sx hb => ?_⟩
    have s123 := (s1.trans s2).trans s3
    refine out x H' (s123.free hx) (s123.trans sx) ?_
    have e := tog_eq (bs := bs) (ns := ns) hO (fun k hk => (hin k hk).1) (S := fun k => decide (k ∈ ks)) (fun k => by
      have z := hks k
      have em : decide (k ∈ ms) = decide (k ∈ ns) := by
        by_cases q : k ∈ ns
        · rw [decide_eq_true q, decide_eq_true (pm.mem_iff.mpr q)]
        · rw [decide_eq_false q, decide_eq_false (fun y => q (pm.mem_iff.mp y))]
      rw [← em]
      by_cases q : k ∈ ks
      · rw [decide_eq_true q]
        exact (z.mp q).symm
      · rw [decide_eq_false q]
        cases y : xor (decide (k ∈ upF 0 bs)) (decide (k ∈ ms)) with
        | false => rfl
        | true => exact absurd (z.mpr y) q)
    rw [← e]
    exact hb
end
end K49
namespace K49
open PySem PySem.Spec PyProof.Rows L2 Par
section
variable {P : Program} {w : World} {K : PySem.W.Frag} {mg : Str → Option Value} {base : Heap}
/-- a width from 1 to most -/
def spWidth : Sp := fun vs H Q _ => ∃ (p : Addr) (m : Int), vs = [.ref p, .int m] ∧ PotAt H p ∧ 4 ≤ m ∧ m ≤ 1000 ∧ ∀ (n : Nat) H', 1 ≤ n → (n : Int) ≤ m → But p H H' → PotAt H' p → Q (.int (n : Nat)) H'
theorem scWidth : FnScope ["_law_pot_here", "_law_most"] ["_law_pot_here", "_law_most"] (defScope sWidth) := ⟨rfl, rfl, rfl, by decide +kernel, rfl, by decide +kernel, by decide +kernel⟩
theorem ok_width {f : Addr} {fd : FuncData} (F : Fun K "_law_width" "_law_width" sWidth f fd) (B : Bl mg) (D : Has P w K mg base "_law_draw" 2 ["_law_pot_here", "_law_many"] spDraw) : FnOk P w K mg base CX0 3 f fd ["_law_pot_here", "_law_most"] spWidth := by
  obtain ⟨fD, fdD, GD, mD, kD, bD⟩ := D
  refine F.ok scWidth (fun vs H Q E h => ?_) (fun cdv A outer s H vs Q E hr h => ?_)
  · obtain ⟨p, m, rfl, _⟩ := h
    rfl
  · obtain ⟨p, m, rfl, hp, m1, m2, out⟩ := h
    refine ⟨_, pss_one (ps_ret (pe_ix ix_list (pe_lst (pa_cons (pe_callB (call_min2 rfl) (by rfl) B.min (by decide +kernel) (pa_cons pe_int (pa_cons (pv 1) pa_nil))) (pa_cons (pe_callB (call_min2 rfl) (by rfl) B.min (by decide +kernel) (pa_cons pe_int (pa_cons (pv 1) pa_nil)))
      (pa_cons (pe_op op_add pe_int (pe_call GD hr (by rfl) mD kD bD .nil pass0 (pa_cons (pv 0) (pa_cons (pv 1) pa_nil)))) pa_nil)))) (pe_call GD hr (by rfl) mD kD bD .nil pass0 (pa_cons (pv 0) (pa_cons pe_int pa_nil))) (fun _ _ => rfl))), ?_⟩
    refine ⟨_, rfl, 2, m, rfl, ?_⟩
    refine ⟨_, rfl, 4, m, rfl, ?_⟩
    refine ⟨_, rfl, _, rfl, p, m, rfl, hp, by omega, by omega, ?_⟩
    intro d H1 d0 d1 b1 hp1
    refine ⟨1, d, rfl, rfl, (by show 3 ≤ sizeLine; decide), fun q hq => ?_⟩
    have hp2 := hp1.same (same_new (o := .lst [.int (if m < 2 then m else 2), .int (if m < 4 then m else 4), .int (1 + d)]) hq)
    refine ⟨_, rfl, p, 3, rfl, hp2, by decide, by decide, ?_⟩
    intro e H2 e0 e1 b2 hp3
    have nq : q ≠ p := fun z => by
      obtain ⟨_, _, y, _⟩ := hp1
      rw [← z, hq] at y
      cases y
    have hq2 := b2 q _ nq upd_same
    have bb : But p H H2 := (b1.trans (But.new hq)).trans b2
    rcases (show e = 0 ∨ e = 1 ∨ e = 2 by omega) with rfl | rfl | rfl
    · refine ⟨q, _, 0, _, rfl, rfl, SqL.of hq2, rfl, ?_⟩
      rw [if_neg (by omega)]
      exact out 2 H2 (by decide) (by omega) bb hp3
    · refine ⟨q, _, 1, _, rfl, rfl, SqL.of hq2, rfl, ?_⟩
      rw [if_neg (by omega)]
      exact out 4 H2 (by decide) (by omega) bb hp3
    · refine ⟨q, _, 2, _, rfl, rfl, SqL.of hq2, rfl, ?_⟩
      have z := out (1 + d).toNat H2 (by omega) (by omega) bb hp3
      have y : (((1 + d).toNat : Nat) : Int) = 1 + d := by omega
      rw [y] at z
      exact z
/-- new bits -/
def spBits : Sp := fun vs H Q _ => ∃ (p : Addr) (n : Nat), vs = [.ref p, .int (n : Nat)] ∧ PotAt H p ∧ 1 ≤ n ∧ n ≤ 40 ∧ ∀ q (bs : List Int) H', H q = none → OkB bs → bs.length = n → But p H H' → PotAt H' p → H' q = some (.lst (bs.map V.int)) → Q (.ref q) H'
abbrev nBits : List Str := ["_law_pot_here", "_law_width_here", "_law_spot"]
theorem scBits : FnScope nBits ["_law_pot_here", "_law_width_here"] (defScope sBits) := ⟨rfl, rfl, rfl, by decide +kernel, rfl, by decide +kernel, by decide +kernel⟩
theorem ok_bits {f : Addr} {fd : FuncData} (F : Fun K "_law_bits" "_law_bits" sBits f fd) (B : Bl mg) (D : Has P w K mg base "_law_draw" 2 ["_law_pot_here", "_law_many"] spDraw) : FnOk P w K mg base CX0 3 f fd ["_law_pot_here", "_law_width_here"] spBits := by
  obtain ⟨fD, fdD, GD, mD, kD, bD⟩ := D
  refine F.ok scBits (fun vs H Q E h => ?_) (fun cdv A outer s H vs Q E hr h => ?_)
  · obtain ⟨p, n, rfl, _⟩ := h
    rfl
  · obtain ⟨p, n, rfl, hp, n1, n2, out⟩ := h
    refine ⟨_, pss_one (ps_ret (pe_op op_cat (pe_lst (pa_cons pe_int pa_nil)) (pe_lc (own := [("_law_spot", 2)]) (g := gName 2) (te := tCall spDraw [] E0 (tCons (tVar 0) (tCons (tC (.int 2)) tNil))) rfl scBits.nd (pi_range2 (by rfl) B.range (pa_cons pe_int (pa_cons (pv 1) pa_nil))) (blkOk_by (own := [("_law_spot", 2)]) (N := nBits) (sc := defScope sBits) (by decide +kernel))
        (fun _ _ _ _ _ => pg_name (i := 2) scBits.nd rfl (Or.inl rfl)) (fun _ _ _ _ _ => pts_nil) (fun _ _ _ _ _ => by exact pe_call GD hr (by rfl) mD kD bD .nil pass0 (pa_cons (pv 0) (pa_cons pe_int pa_nil)))))), ?_⟩
    refine ⟨by decide, fun q hq => ?_⟩
    have hp1 := hp.same (same_new (o := .lst [.int 1]) hq)
    have nq : q ≠ p := fun z => by
      obtain ⟨_, _, y, _⟩ := hp
      rw [← z, hq] at y
      cases y
    refine ⟨_, rfl, 1, (n : Nat), rfl, ⟨by omega, by omega, by omega, by omega⟩, fun D hD => ?_⟩
    have hDH : H D = none := (same_new hq).free hD
    have nD : D ≠ p := fun z => by
      obtain ⟨_, _, y, _⟩ := hp
      rw [← z, hDH] at y
      cases y
    have qD : q ≠ D := fun z => by
      rw [← z, upd_same] at hD
      cases hD
    have en : ((n : Nat) : Int) - 1 = ((n - 1 : Nat) : Int) := by omega
    rw [en, Int.toNat_natCast]
    refine lc_range (lo := 1) (n := n - 1) (fun i H' => ∃ cs : List Int, H' D = some (.lst (cs.map V.int)) ∧ cs.length = i ∧ (∀ c ∈ cs, c = 0 ∨ c = 1) ∧ H' q = some (.lst [.int 1]) ∧ But p H H' ∧ PotAt H' p)
      ⟨[], upd_same, rfl, by simp, by rw [upd_ne qD, upd_same], (But.new hq).trans (But.new hD), hp1.same (same_new hD)⟩ ?_ ?_
    · rintro i H2 hi ⟨cs, hc, hcl, hcb, hq2, b2, hp2⟩
      refine ⟨rfl, yesT ?_⟩
      refine ⟨_, rfl, p, 2, rfl, hp2, by decide, by decide, ?_⟩
      intro d H3 d0 d1 b3 hp3
      refine ⟨_, b3 D _ nD hc, (by rw [List.length_map]; exact small1000 (by omega)), cs ++ [d], ?_, ?_, ?_, ?_, ?_, ?_⟩
      · rw [upd_same, List.map_append]
        rfl
      · rw [List.length_append, hcl]
        rfl
      · intro c hc2
        rcases List.mem_append.mp hc2 with z | z
        · exact hcb c z
        · have : c = d := by simpa using z
          omega
      · rw [upd_ne qD]
        exact b3 q _ nq hq2
      · intro z o n3 e
        rw [upd_ne (ne_of_none e hDH)]
        exact b3 z o n3 (b2 z o n3 e)
      · obtain ⟨x, y, e, r⟩ := hp3
        exact ⟨x, y, by rw [upd_ne (Ne.symm nD)]; exact e, r⟩
    · rintro H2 ⟨cs, hc, hcl, hcb, hq2, b2, hp2⟩
      refine ⟨q, D, _, _, rfl, rfl, hq2, hc, (by rw [List.length_map]; show 1 + _ ≤ sizeLine; rw [sizeLine_eq]; omega), fun r hr2 => ?_⟩
      have hrH : H r = none := b2.free hp hr2 hp2
      refine out r (1 :: cs) _ hrH ⟨fun x hx => ?_, rfl, by rw [List.length_cons]; omega⟩ (by rw [List.length_cons]; omega) (b2.trans (But.new hr2)) (hp2.same (same_new hr2)) upd_same
      rcases List.mem_cons.mp hx with z | z
      · exact .inr z
      · exact hcb x z
/-- the sum of the bits at these places, by its rest -/
def parB (bs ns : List Int) : Int := (ns.map fun k => bs.getD k.toNat 0).sum % 2
def spParity (K : PySem.W.Frag) : Sp := fun vs H Q _ => ∃ (a b : Addr) (bs ns : List Int), vs = [.ref a, .ref b] ∧ H a = some (.lst (bs.map V.int)) ∧ H b = some (.lst (ns.map V.int)) ∧ ns.length ≤ 500 ∧ (∀ k ∈ ns, 0 ≤ k ∧ k < bs.length) ∧
  ∀ H', Same H H' → Q (.int (parB bs ns)) H'
abbrev nParity : List Str := ["_law_bits_here", "_law_spots_here", "_law_spot"]
theorem scParity : FnScope nParity ["_law_bits_here", "_law_spots_here"] (defScope sParity) := ⟨rfl, rfl, rfl, by decide +kernel, rfl, by decide +kernel, by decide +kernel⟩
theorem ok_parity {f : Addr} {fd : FuncData} (F : Fun K "_law_parity" "_law_parity" sParity f fd) (B : Bl mg) : FnOk P w K mg base CX0 2 f fd ["_law_bits_here", "_law_spots_here"] (spParity K) := by
  refine F.ok scParity (fun vs H Q E h => ?_) (fun cdv A outer s H vs Q E hr h => ?_)
  · obtain ⟨a, b, bs, ns, rfl, _⟩ := h
    rfl
  · obtain ⟨a, b, bs, ns, rfl, ha, hb, hl, hin, out⟩ := h
    refine ⟨_, pss_one (ps_ret (pe_op op_mod (pe_callB (cr_sum rfl) (by rfl) B.sum (by decide +kernel) (pa_cons (pe_lc (own := [("_law_spot", 2)]) (g := gName 2) (te := tOp (rIxL K) (tVar 0) (tVar 2)) rfl scParity.nd (pi_list (pv 1)) (blkOk_by (own := [("_law_spot", 2)]) (N := nParity) (sc := defScope sParity) (by decide +kernel))
        (fun _ _ _ _ _ => pg_name (i := 2) scParity.nd rfl (Or.inl rfl)) (fun _ _ _ _ _ => pts_nil) (fun _ _ _ _ _ => by exact pe_ix ix_list (pv 0) (pv 2) (fun _ _ => rfl))) pa_nil)) pe_int)), ?_⟩
    refine ⟨_, rfl, b, rfl, ⟨_, SqL.of hb⟩, fun D hD => ?_⟩
    refine lc_list (K := K) (a := b) (xs := ns.map V.int) (fun i H' => Same H H' ∧ H' D = some (.lst (((ns.take i).map fun k => bs.getD k.toNat 0).map V.int))) ⟨same_new hD, upd_same⟩ (fun i H' _ h => SqL.of (h.1 _ _ hb)) ?_ ?_
    · rintro i x H2 hx ⟨s2, hD2⟩
      rw [List.getElem?_map] at hx
      obtain ⟨k, hk, rfl⟩ : ∃ k, ns[i]? = some k ∧ x = V.int k := by
        cases e : ns[i]? with
        | none => rw [e] at hx; cases hx
        | some k => rw [e] at hx; exact ⟨k, rfl, (Option.some.inj hx).symm⟩
      obtain ⟨k0, k1⟩ := hin k (List.mem_of_getElem? hk)
      have kl : k.toNat < bs.length := by omega
      have hat : atI (bs.map V.int) k = some (.int bs[k.toNat]) := by
        have z : atI (bs.map V.int) ((k.toNat : Nat) : Int) = some (.int bs[k.toNat]) := atI_nat (by simp [kl])
        rwa [Int.toNat_of_nonneg k0] at z
      refine ⟨rfl, yesT ?_⟩
      refine ⟨_, rfl, _, rfl, a, _, _, .int bs[k.toNat], rfl, rfl, SqL.of (s2 _ _ ha), hat, ?_⟩
      refine ⟨_, hD2, ?_, ?_, ?_⟩
      · rw [List.length_map, List.length_map, List.length_take]
        exact small1000 (by omega)
      · intro z o e
        rw [upd_ne (ne_of_none e hD)]
        exact s2 z o e
      · rw [upd_same, List.take_succ, hk, List.map_append, List.map_append]
        show some (HO.lst (_ ++ [V.int bs[k.toNat]])) = some (HO.lst (_ ++ [V.int (bs.getD k.toNat 0)]))
        rw [List.getD_eq_getElem?_getD, List.getElem?_eq_getElem kl]
        rfl
    · rintro H2 ⟨s2, hD2⟩
      rw [List.length_map, List.take_length] at hD2
      refine ⟨D, _, rfl, SqL.of hD2, _, _, rfl, rfl, (by show (0 : Int) < 2; decide), ?_⟩
      exact out H2 s2
/-- the places of the ones -/
def spUpL (K : PySem.W.Frag) : Sp := fun vs H Q _ => ∃ (a : Addr) (bs : List Int), vs = [.ref a] ∧ H a = some (.lst (bs.map V.int)) ∧ bs.length ≤ 40 ∧ ∀ p H', H p = none → Same H H' → H' p = some (.lst ((upF 0 bs).map V.int)) → Q (.ref p) H'
abbrev nUpL : List Str := ["_law_bits_here", "_law_spot", "_law_bit"]
theorem scUpL : FnScope nUpL ["_law_bits_here"] (defScope sUp) := ⟨rfl, rfl, rfl, by decide +kernel, rfl, by decide +kernel, by decide +kernel⟩
theorem ok_upL {f : Addr} {fd : FuncData} (F : Fun K "_law_up" "_law_up" sUp f fd) (B : Bl mg) : FnOk P w K mg base CX0 2 f fd ["_law_bits_here"] (spUpL K) := by
  refine F.ok scUpL (fun vs H Q E h => ?_) (fun cdv A outer s H vs Q E hr h => ?_)
  · obtain ⟨b, bs, rfl, _⟩ := h
    rfl
  · obtain ⟨t, bs, rfl, h2, hl, out⟩ := h
    refine ⟨_, pss_one (ps_ret (pe_lc (own := [("_law_spot", 1), ("_law_bit", 2)]) (g := gTup K 2 (gCons (gName 1) (gCons (gName 2) gNil))) rfl scUpL.nd (pi_enum (by rfl) B.enumerate (pa_cons (pv 0) pa_nil)) (blkOk_by (own := [("_law_spot", 1), ("_law_bit", 2)]) (N := nUpL) (sc := defScope sUp) (by decide +kernel))
        (fun _ _ _ _ _ => by exact pg_tup rfl (pgs_cons (pg_name (i := 1) scUpL.nd rfl (Or.inl rfl)) (pgs_cons (pg_name (i := 2) scUpL.nd rfl (Or.inl rfl)) pgs_nil)))
        (fun _ _ _ _ _ => pts_one (pt_cmpR op_eq (pv 2) pe_int (nomark _))) (fun _ _ _ _ _ => pv 1))), ?_⟩
    refine ⟨_, rfl, t, _, rfl, SqL.of h2, fun D hD => ?_⟩
    refine lc_it walk_enum (fun i H' => Same H H' ∧ H' D = some (.lst ((upF 0 (bs.take i)).map V.int))) ⟨same_new hD, upd_same⟩ (fun i H' _ h => SqL.of (h.1 _ _ h2)) ?_ ?_
    · rintro i x H3 H4 hi ⟨s3, hD3⟩ ⟨T1, x1, y1, rfl, hT, rfl, ex, ey⟩
      have hi2 : i < bs.length := by rw [List.length_map] at hi; exact hi
      have hbi : bs[i]? = some bs[i] := List.getElem?_eq_getElem hi2
      have ey2 : y1 = .int bs[i] := by
        have ey' : (bs.map V.int)[i]? = some y1 := ey
        rw [List.getElem?_map, hbi] at ey'
        exact (Option.some.inj ey').symm
      have ex2 : x1 = .int (i : Nat) := (Option.some.inj ex).symm
      subst ey2 ex2
      have s4 : Same H (upd H3 T1 (.tup [.int (i : Nat), .int bs[i]])) := s3.trans (same_new hT)
      have hD4 := (same_new (o := .tup [.int (i : Nat), .int bs[i]]) hT) _ _ hD3
      have st := upF_step hbi
      refine ⟨T1, _, rfl, SqT.of upd_same, rfl, _, _, rfl, _, _, rfl, rfl, rfl, _, rfl, rfl, _, rfl, ite2 (fun hb => ?_) (fun hb => ?_)⟩
      · have hb1 : bs[i] = 1 := by
          have := of_decide_eq_true hb
          injection this
        refine ⟨_, rfl, _, hD4, ?_, ?_, ?_⟩
        · have := upF_len 0 (bs.take i)
          rw [List.length_take] at this
          rw [List.length_map]
          exact small1000 (by omega)
        · intro z o e
          rw [upd_ne (ne_of_none e hD)]
          exact s4 z o e
        · rw [upd_same, st, if_pos hb1, List.map_append]
          rfl
      · have hb1 : ¬ bs[i] = 1 := fun z => hb (decide_eq_true (by rw [z]))
        refine ⟨s4, ?_⟩
        rw [st, if_neg hb1, List.append_nil]
        exact hD4
    · rintro H3 ⟨s3, hD3⟩
      rw [List.length_map, List.take_length] at hD3
      exact out D _ hD s3 hD3
end
end K49
namespace Par
open PySem PySem.Spec PyProof.Rows L2
section
variable {P : Program} {w : World} {A : Around} {E : Value → Shared → Prop} {s : Shared} {a : Addr} {S : Int → Bool} {n : Nat}
/-- how many members a set has -/
theorem SetR.count (R : SetR w s.heap a S n) {L : List Int} (hn : L.Nodup) (hm : ∀ k, k ∈ L ↔ S k = true) : n = L.length := by
  obtain ⟨o, es, ep, t, ho, hx, hd, g, nd, hs, hb, hf, hz, hr, hl⟩ := R
  have h1 := nodup_le nd (fun k hk => (hm k).mpr ((hs k).2 hk))
  have h2 := nodup_le hn (fun k hk => (hs k).1 ((hm k).mp hk))
  have h3 : (es.toList.map keyOf).length = n := by rw [List.length_map, Array.length_toList, hz]
  rw [h3] at h1 h2
  omega
theorem both_one {q : Addr} {T : Int → Bool} {nq : Nat} {k : Int} {tk : Tok} {Q : Unit → Shared → Prop} (Rq : SetR w s.heap q T nq) (R : SetR w s.heap a S n) (room : n + 1 < scanBound)
    (hQ : ∀ h' m, m ≤ n + 1 → Heap.SameBut a s.heap h' → SetR w h' a (fun j => S j || (T j && decide (j = k))) m → Q () { s with heap := h' }) :
    wpAny (model P w) A (holding [.int k tk] (do
      if (← setFind q (.int k tk) ((intKind P w).hash k)).isSome then
        let _ ← setAddHashed a (.int k tk) ((intKind P w).hash k))) Q E s := by
  refine wpAny_holding (wpAny_bind (wpAny_setFind_of (knd := intKind P w) (intKind_is P w k tk) rfl Rq.setOf fun r hr => ?_))
  cases hT : T k with
  | true =>
    rw [hT] at hr
    refine wp_if_pos hr ?_
    refine wpAny_bind (setR_add_hashed R room fun h2 sb2 R2 => ?_)
    refine wpAny_pure (hQ h2 _ (by split <;> omega) sb2 (R2.congr fun j => ?_))
    by_cases e : j = k
    · subst e
      rw [hT]
      simp
    · simp [e]
  | false =>
    rw [hT] at hr
    refine wp_if_neg (by rw [hr]; exact Bool.false_ne_true) ?_
    refine wpAny_pure (hQ s.heap n (by omega) (Heap.SameBut.refl a s.heap) (R.congr fun j => ?_))
    by_cases e : j = k
    · subst e
      rw [hT]
      simp
    · simp [e]
theorem both_all {body : Int × Value → PUnit → Sem (ForInStep PUnit)} {o q : Addr} {oo : Obj} {T : Int → Bool} {nq : Nat} (hne : o ≠ a) (hnq : q ≠ a)
    (hb : ∀ (e : Int × Value) (s : Shared) (S : Int → Bool) (n : Nat) (Q : ForInStep PUnit → Shared → Prop), GoodE e → s.heap.get? o = some oo → SetR w s.heap q T nq → SetR w s.heap a S n → n + 1 < scanBound →
      (∀ h' m, m ≤ n + 1 → Heap.SameBut a s.heap h' → SetR w h' a (fun j => S j || (T j && decide (j = keyOf e))) m → Q (.yield ⟨⟩) { s with heap := h' }) → wpAny (model P w) A (body e ⟨⟩) Q E s) :
    ∀ (l : List (Int × Value)) (s : Shared) (S : Int → Bool) (n : Nat) (Q : PUnit → Shared → Prop), (∀ e ∈ l, GoodE e) → s.heap.get? o = some oo → SetR w s.heap q T nq → SetR w s.heap a S n → n + l.length + 1 < scanBound →
      (∀ h' m, Heap.SameBut a s.heap h' → SetR w h' a (fun j => S j || (T j && decide (j ∈ l.map keyOf))) m → Q ⟨⟩ { s with heap := h' }) → wpAny (model P w) A (forIn l ⟨⟩ body) Q E s
  | [], s, S, n, Q, _, _, _, R, _, hQ => by
    rw [List.forIn_nil]
    exact wpAny_pure (hQ s.heap n (Heap.SameBut.refl a s.heap) (R.congr fun j => by simp))
  | e :: l, s, S, n, Q, g, Ro, Rq, R, room, hQ => by
    rw [List.forIn_cons]
    simp only [List.length_cons] at room
    refine wpAny_bind (hb e s S n _ (g e (List.mem_cons_self ..)) Ro Rq R (by omega) fun h1 m hm sb1 R1 => ?_)
    refine both_all hne hnq hb l { s with heap := h1 } _ m Q (fun x hx => g x (List.mem_cons_of_mem _ hx)) ((sb1.2 o hne).trans Ro) (Rq.at fun u e' => (sb1.2 q hnq).trans e') R1 (by omega) fun h2 m2 sb2 R2 => ?_
    refine hQ h2 m2 (sb1.trans sb2) (R2.congr fun j => ?_)
    show (S j || (T j && decide (j ∈ keyOf e :: l.map keyOf))) = ((S j || (T j && decide (j = keyOf e))) || (T j && decide (j ∈ l.map keyOf)))
    have hd : decide (j ∈ keyOf e :: l.map keyOf) = (decide (j = keyOf e) || decide (j ∈ l.map keyOf)) := by
      rw [Bool.eq_iff_iff]
      simp only [decide_eq_true_eq, Bool.or_eq_true, List.mem_cons]
    rw [hd]
    cases S j <;> cases T j <;> simp
theorem call_and {b : Addr} {T : Int → Bool} {m : Nat} {Q : Value → Shared → Prop} (Ra : SetR w s.heap a S n) (Rb : SetR w s.heap b T m) (nab : a ≠ b) (hS : ∀ k, S k = true → Cell k) (hT : ∀ k, T k = true → Cell k)
    (hQ : ∀ h' c, (∀ x u, s.heap.get? x = some u → h'.get? x = some u) → SetR w h' s.heap.objs.size (fun k => S k && T k) c → Q (.ref s.heap.objs.size) { s with heap := h' }) :
    wpAny (model P w) A (call (.builtin "set.__and__") [.ref a, .ref b]) Q E s := by
  have ta : s.TypeIs (.ref a) "set" := set_typ Ra
  have tb : s.TypeIs (.ref b) "set" := set_typ Rb
  have la := Ra.lt
  have lb := Rb.lt
  have n40 : n ≤ 40 := SetR.few Ra hS
  have m40 : m ≤ 40 := SetR.few Rb hT
  refine wpAny_call_entry F.slot_set_and ta entry_set_and ?_ (F.args_set_and_2 _ _)
  unfold Builtin.«frozenset.__and__»
  show wpAny _ _ (do
    let (self, other) ← Builtin.Frozenset.slot1 "__and__" ⟨[.ref a, .ref b], []⟩
    let (l, r) := if false = true then (other, self) else (self, other)
    if !(← Builtin.Frozenset.isAnySet l <&&> Builtin.Frozenset.isAnySet r) then rule s!"frozenset.{"__and__"}.declined"; return ← ret .notImplemented
    ret (← Builtin.Frozenset.intersection s!"frozenset.{"__and__"}" (← Builtin.Frozenset.addrOf l) r)) _ _ s
  refine wpAny_bind (wpAny_of_eq (a := (Value.ref a, Value.ref b)) (by rfl) ?_)
  dsimp only
  rw [if_neg Bool.false_ne_true]
  dsimp only
  refine wpAny_bind (wpAny_bind (any_set ta ?_))
  show wpAny _ _ (Builtin.Frozenset.isAnySet (.ref b)) _ _ s
  refine any_set tb ?_
  refine wp_if_neg (by simp) ?_
  refine wpAny_bind (m := Builtin.Frozenset.addrOf (.ref a)) (wpAny_pure ?_)
  refine wpAny_bind ?_
  unfold Builtin.Frozenset.intersection
  refine wp_if_neg (by simpa using Ne.symm nab) ?_
  try refine wpAny_bind (wpAny_pure ?_)
  refine wpAny_bind (base_set ta ?_)
  refine wpAny_bind (new_set ?_)
  have fr := setR_fresh (h := s.heap) w
  generalize hr : s.heap.objs.size = r at *
  generalize hg : s.heap.push { cls := .type "set", dict := none, data := .set #[] 0 (.fresh 0 0 (!w.params.followText "set-order")) } = g at *
  have keep : ∀ x u, s.heap.get? x = some u → g.get? x = some u := fun x u e => by
    rw [← hg]
    exact Heap.get?_push_of_some _ e
  have Ra1 : SetR w g a S n := Ra.at fun u e => keep a u e
  have Rb1 : SetR w g b T m := Rb.at fun u e => keep b u e
  have hra : a ≠ r := Nat.ne_of_lt la
  have hrb : b ≠ r := Nat.ne_of_lt lb
  refine wpAny_bind (m := Builtin.Frozenset.addrOf (.ref r)) (wpAny_pure ?_)
  refine wpAny_bind (wpAny_holding ?_)
  refine wpAny_bind (any_set (s := { s with heap := g }) (set_typ Rb1) ?_)
  refine wp_if_pos rfl ?_
  refine wpAny_bind (m := Builtin.Frozenset.addrOf (.ref b)) (wpAny_pure ?_)
  obtain ⟨oa, esa, epa, ta2, hoa, hxa, hda, _, _, _, _, hfa, hna, _⟩ := id Ra1
  obtain ⟨ob, esb, epb, tb2, hob, hxb, hdb, _, _, _, _, hfb, hnb, _⟩ := id Rb1
  refine wpAny_bind (m := Builtin.Frozenset.sizeOf b) ?_
  unfold Builtin.Frozenset.sizeOf
  refine wpAny_bind (wpAny_setEntries_of hob hdb hfb (wpAny_pure ?_))
  refine wpAny_bind (m := do return (← setEntries a).size) ?_
  refine wpAny_bind (wpAny_setEntries_of hoa hda hfa (wpAny_pure ?_))
  by_cases hc : esb.size > esa.size
  all_goals first | rw [if_pos hc] | rw [if_neg hc]
  · dsimp only
    refine wpAny_bind (wpAny_setEpoch_of hoa hda hfa ?_)
    refine wpAny_bind (walk_unseen (s := { s with heap := g }) (f := r) Ra1 (fun x hx => by
      rcases List.mem_cons.mp hx with z | z
      · rw [z]
        exact ⟨_, _, Rb1⟩
      · rw [List.mem_singleton.mp z]
        exact ⟨_, _, fr⟩) fr fun l h2 sb2 R2 gl => ?_)
    obtain ⟨gl1, gl2, gl3, gl4⟩ := gl
    rw [← Array.forIn_toList]
    refine wpAny_bind (both_all (a := r) (o := a) (q := b) (oo := oa) hra hrb ?_ l.toList { s with heap := h2 } (fun _ => false) 0 _ gl1 ((sb2.2 a hra).trans hoa) (Rb1.at fun u e => (sb2.2 b hrb).trans e) R2 (by rw [Array.length_toList, gl4]; unfold scanBound; omega) fun h3 c sb3 R3 => ?_)
    · intro e s0 S0 n0 Q0 ge ho0 Rq0 R0 room q0
      obtain ⟨k, tk, e1, e2⟩ := ge
      obtain ⟨eh, ev⟩ := e
      dsimp only at e1 e2
      subst e1
      subst e2
      refine wpAny_bind (both_one Rq0 R0 room fun h' m' hm' sb' R' => ?_)
      refine wpAny_bind ?_
      unfold Builtin.Frozenset.unchanged
      refine wpAny_bind (wpAny_setEpoch_of ((sb'.2 a hra).trans ho0) hda hfa ?_)
      refine wp_if_neg (by simp) ?_
      exact wpAny_pure (wpAny_pure (q0 h' m' hm' sb' R'))
    refine wpAny_pure (wpAny_pure (wpAny_pure ⟨_, rfl, ?_⟩))
    have Rf : SetR w h3 r (fun k => S k && T k) c := R3.congr fun k => by
      have : S k = decide (k ∈ l.toList.map keyOf) := by
        cases h : S k with
        | true => rw [decide_eq_true ((gl3 k).1 h)]
        | false =>
          have : k ∉ l.toList.map keyOf := fun z => by
            have := (gl3 k).2 z
            rw [h] at this
            cases this
          rw [decide_eq_false this]
      rw [this]
      show _ = (false || _)
      rw [Bool.false_or]
      exact Bool.and_comm _ _
    refine hQ h3 c (fun x u e => ?_) Rf
    have hxr : x ≠ r := by
      rw [← hr]
      exact Nat.ne_of_lt (Heap.lt_size e)
    exact (sb3.2 x hxr).trans ((sb2.2 x hxr).trans (keep x u e))
  · dsimp only
    refine wpAny_bind (wpAny_setEpoch_of hob hdb hfb ?_)
    refine wpAny_bind (walk_unseen (s := { s with heap := g }) (f := r) Rb1 (fun x hx => by
      rcases List.mem_cons.mp hx with z | z
      · rw [z]
        exact ⟨_, _, Ra1⟩
      · rw [List.mem_singleton.mp z]
        exact ⟨_, _, fr⟩) fr fun l h2 sb2 R2 gl => ?_)
    obtain ⟨gl1, gl2, gl3, gl4⟩ := gl
    rw [← Array.forIn_toList]
    refine wpAny_bind (both_all (a := r) (o := b) (q := a) (oo := ob) hrb hra ?_ l.toList { s with heap := h2 } (fun _ => false) 0 _ gl1 ((sb2.2 b hrb).trans hob) (Ra1.at fun u e => (sb2.2 a hra).trans e) R2 (by rw [Array.length_toList, gl4]; unfold scanBound; omega) fun h3 c sb3 R3 => ?_)
    · intro e s0 S0 n0 Q0 ge ho0 Rq0 R0 room q0
      obtain ⟨k, tk, e1, e2⟩ := ge
      obtain ⟨eh, ev⟩ := e
      dsimp only at e1 e2
      subst e1
      subst e2
      refine wpAny_bind (both_one Rq0 R0 room fun h' m' hm' sb' R' => ?_)
      refine wpAny_bind ?_
      unfold Builtin.Frozenset.unchanged
      refine wpAny_bind (wpAny_setEpoch_of ((sb'.2 b hrb).trans ho0) hdb hfb ?_)
      refine wp_if_neg (by simp) ?_
      exact wpAny_pure (wpAny_pure (q0 h' m' hm' sb' R'))
    refine wpAny_pure (wpAny_pure (wpAny_pure ⟨_, rfl, ?_⟩))
    have Rf : SetR w h3 r (fun k => S k && T k) c := R3.congr fun k => by
      have : T k = decide (k ∈ l.toList.map keyOf) := by
        cases h : T k with
        | true => rw [decide_eq_true ((gl3 k).1 h)]
        | false =>
          have : k ∉ l.toList.map keyOf := fun z => by
            have := (gl3 k).2 z
            rw [h] at this
            cases this
          rw [decide_eq_false this]
      rw [this]
      show _ = (false || _)
      rw [Bool.false_or]
      skip
    refine hQ h3 c (fun x u e => ?_) Rf
    have hxr : x ≠ r := by
      rw [← hr]
      exact Nat.ne_of_lt (Heap.lt_size e)
    exact (sb3.2 x hxr).trans ((sb2.2 x hxr).trans (keep x u e))
/-- len of a set -/
theorem cr_lenSet {X : Cx} : CallR X (.builtin "len") (fun vs H Q => ∃ (a : Addr) (S : Int → Bool) (n : Nat), vs = [.ref a] ∧ H a = some (SetO X.w a S n) ∧ n ≤ 4000 ∧ Q (.int (n : Nat)) H) := by
  intro pins s σ H vs us Q I r h
  obtain ⟨a, S, n, rfl, ha, hn, q⟩ := h
  rw [Vals.ref1 r]
  obtain ⟨o, es, ep, t, ho, hex, hd, _, _, _, _, hf, hz, _, _⟩ := setO_get I ha
  exact call_len_set ho hex hd hf (by rw [hz]; omega) ⟨.int (n : Nat), H, I.tok _, ⟨_, by rw [hz]⟩, q⟩
/-- one & other, sets of cells -/
def rAnd (w : World) : V → V → Hp → VK → Prop := fun x y H Q => ∃ (a b : Addr) (S T : Int → Bool) (n m : Nat), x = V.ref a ∧ y = V.ref b ∧ a ≠ b ∧ H a = some (SetO w a S n) ∧ H b = some (SetO w b T m) ∧
  (∀ k, S k = true → Cell k) ∧ (∀ k, T k = true → Cell k) ∧ ∀ p c, H p = none → (∀ L : List Int, L.Nodup → (∀ k, k ∈ L ↔ (S k && T k) = true) → c = L.length) → Q (.ref p) (upd H p (SetO w p (fun k => S k && T k) c))
theorem op_andS {X : Cx} : OpR X (binaryOp .BitAnd) (rAnd X.w) := by
  intro pins s σ H x y v u Q I rx ry h
  obtain ⟨a, b, S, T, n, m, rfl, rfl, nab, ha, hb, hS, hT, q⟩ := h
  cases rx
  cases ry
  have Ra := setO_get I ha
  have Rb := setO_get I hb
  refine wpAny_binaryOp_same (op := .BitAnd) (T := "set") (set_typ Ra) (set_typ Rb) F.fills_set_and F.slot_set_and ?_
  refine call_and Ra Rb nab hS hT fun h' c k R => ⟨by simp, ?_⟩
  exact ⟨.ref _, _, I.laid (t' := s.toks) k (Nat.le_refl _) (setO_new R), rfl, q _ c (I.hok.fresh (Nat.le_refl _)) fun L hn hm => SetR.count (s := { s with heap := h' }) R hn hm⟩
end
end Par
namespace Par
open PySem PySem.Spec PyProof.Rows L2
/-! ### max(t, default = d), t a tuple of ints -/
/-- M is the greatest of the first i numbers -/
def Top (val : Nat → Int) (i : Nat) (M : Int) : Prop := (∃ j, j < i ∧ val j = M) ∧ ∀ j, j < i → val j ≤ M
def Cur (val : Nat → Int) (i : Nat) : Option Value → Prop
  | none => i = 0
  | some v => ∃ M t, v = .int M t ∧ Top val i M
def pair2 : Option Value → Array Value
  | none => #[]
  | some v => #[v, v]
section
variable {prog : Program} {w : World} {A : Around} {E : Value → Shared → Prop} {R : Result → Shared → Prop} {I : Addr} {fp wr : List Addr} {n : Nat} {P : Nat → Value → Prop} {St : Nat → Heap → Prop}
theorem gt_two {a b : Int} {t u : Tok} {s : Shared} {Q : Value → Shared → Prop} (h : Q (.bool (decide (a > b))) s) : wpAny (model prog w) A (richCompare .Gt (.int a t) (.int b u)) Q E s :=
  (CmpOf.ints_gt (prog := prog) (w := w) (A := A) (P := fun i v => if i = 0 then v = .int a t else v = .int b u) (fun i => if i = 0 then a else b) (fun i v hv => by
    by_cases z : i = 0
    · rw [if_pos z] at hv ⊢
      exact ⟨t, hv⟩
    · rw [if_neg z] at hv ⊢
      exact ⟨u, hv⟩)) 0 1 _ _ s Q E rfl rfl h
theorem maxD_loop (W : Walks prog w A.in1 I fp wr n P St) (val : Nat → Int) (hval : ∀ i v, P i v → ∃ t, v = .int (val i) t) (S : Addr) (far : S ∉ fp) (d : Value) :
    ∀ (k i : Nat) (s : Shared) (cur : Option Value) (c : Nat), n - i = k → i ≤ n → St i s.heap → Cur val i cur →
    s.heap.get? S = some { cls := .type "list", dict := none, data := .seq (pair2 cur) c, slots := #[] } →
    (∀ v h' tk, (n = 0 → v = d) → (0 < n → ∃ M t, v = .int M t ∧ Top val n M) → (∀ b o, b ∉ wr → b ≠ S → s.heap.get? b = some o → h'.get? b = some o) → R (.ok (.ret v)) { s with heap := h', toks := tk }) →
    codeAny (model prog w) A (.builtin "max.loop" ⟨[.ref I, .none, .ref S], [("default", d)]⟩) R s := by
  have farw : S ∉ wr := fun h => far (W.sub _ h)
  have nm : (toString "max" ++ toString ".loop" : String) = "max.loop" := by decide
  intro k
  induction k with
  | zero =>
    intro i s cur c hk hi hst hc hS out
    have hin : i = n := by omega
    subst hin
    refine codeAny_builtin F.entry_max_loop ?_
    rw [Around.under_plainId F.plain_max_loop _]
    show wpAny _ A.in1 (seqItems? (.ref S) >>= _) _ _ s
    refine wpAny_bind (wpAny_seqItems hS rfl ?_)
    show wpAny _ A.in1 (tryCatch (pyNext (.ref I)) _ >>= _) _ _ s
    refine wpAny_bind (wpAny_tryCatch (W.done s _ _ hst fun h' tk kp => ?_))
    have hS2 := kp S _ farw hS
    cases cur with
    | none =>
      have h0 : i = 0 := hc
      refine wpAny_bind (wpAny_rule (wpAny_pure ?_))
      exact out d h' tk (fun _ => rfl) (fun z => absurd h0 (by omega)) fun b o hb _ e => kp b o hb e
    | some v =>
      obtain ⟨M, t, ev, top⟩ := hc
      show wpAny _ A.in1 (updateSeq S (fun _ => #[]) >>= _) _ _ _
      refine wpAny_bind ?_
      refine wpAny_updateSeq hS2 rfl (wpAny_bind (wpAny_letGo (wpAny_pure ?_))) (hz := by show 2 ≤ sizeLine; decide)
      have h0 : 0 < i := by
        obtain ⟨j, hj, _⟩ := top.1
        omega
      exact out v _ tk (fun z => absurd z (by omega)) (fun _ => ⟨M, t, ev, top⟩) fun b o hb nb e => (Heap.get?_update_other _ _ (Ne.symm nb)).trans (kp b o hb e)
  | succ k ih =>
    intro i s cur c hk hi hst hc hS out
    have hlt : i < n := by omega
    refine codeAny_builtin F.entry_max_loop ?_
    rw [Around.under_plainId F.plain_max_loop _]
    show wpAny _ A.in1 (seqItems? (.ref S) >>= _) _ _ s
    refine wpAny_bind (wpAny_seqItems hS rfl ?_)
    show wpAny _ A.in1 (tryCatch (pyNext (.ref I)) _ >>= _) _ _ s
    refine wpAny_bind (wpAny_tryCatch (W.item i s _ _ hlt hst fun v h' tk hP hst2 kp => ?_))
    have hS2 := kp S _ farw hS
    obtain ⟨u, rfl⟩ := hval i v hP
    have go : ∀ (nv : Value) (g : Heap) (c2 : Nat), g.get? S = some { cls := .type "list", dict := none, data := .seq #[nv, nv] c2, slots := #[] } → (∀ b o, b ≠ S → h'.get? b = some o → g.get? b = some o) →
        (∃ M t, nv = .int M t ∧ Top val (i + 1) M) → codeAny (model prog w) A (.builtin "max.loop" ⟨[.ref I, .none, .ref S], [("default", d)]⟩) R { s with heap := g, toks := tk } := by
      intro nv g c2 hg kg top
      refine ih (i + 1) { s with heap := g, toks := tk } (some nv) c2 (by omega) hlt (W.frame _ _ _ hst2 fun b hb o e => kg b o (fun z => far (z ▸ hb)) e) top hg fun v2 h2 tk2 z1 z2 k2 => ?_
      exact out v2 h2 tk2 z1 z2 fun b o hb nb e => k2 b o hb nb (kg b o nb (kp b o hb e))
    cases cur with
    | none =>
      have h0 : i = 0 := hc
      subst h0
      show wpAny _ A.in1 (updateSeq S (fun _ => #[Value.int (val 0) u, Value.int (val 0) u]) >>= _) _ _ _
      refine wpAny_bind ?_
      refine wpAny_updateSeq hS2 rfl ?_
      rw [nm]
      refine wpAny_pure ⟨plainId_quiet F.plain_max_loop _, go _ _ _ (Heap.get?_update_self _ hS2 rfl) (fun b o nb e => (Heap.get?_update_other _ _ (Ne.symm nb)).trans e) ⟨_, u, rfl, ⟨0, by omega, rfl⟩, fun j hj => ?_⟩⟩
      have : j = 0 := by omega
      rw [this]
      exact Int.le_refl _
    | some b0 =>
      obtain ⟨M, t, rfl, top⟩ := hc
      show wpAny _ A.in1 (tryCatch (holding [Value.int (val i) u, Value.int (val i) u] (richCompare .Gt (.int (val i) u) (.int M t) >>= _)) _ >>= _) _ _ _
      refine wpAny_bind (wpAny_tryCatch (wpAny_holding (wpAny_bind (gt_two ?_))))
      refine wpAny_bind (wpAny_holding (wpAny_truthy_bool ?_))
      refine wpAny_bind (wpAny_letGo (wpAny_pure ?_))
      by_cases hb : val i > M
      · rw [decide_eq_true hb]
        simp only [if_true]
        refine wpAny_bind ?_
        refine wpAny_updateSeq hS2 rfl (wpAny_bind (wpAny_letGo ?_)) (hz := by show 2 ≤ sizeLine; decide)
        rw [nm]
        refine wpAny_pure ⟨plainId_quiet F.plain_max_loop _, go _ _ _ (Heap.get?_update_self _ hS2 rfl) (fun b o nb e => (Heap.get?_update_other _ _ (Ne.symm nb)).trans e) ⟨_, u, rfl, ⟨i, by omega, rfl⟩, fun j hj => ?_⟩⟩
        rcases (show j < i ∨ j = i by omega) with z | z
        · have := top.2 j z
          omega
        · rw [z]
          exact Int.le_refl _
      · rw [decide_eq_false hb]
        simp only [Bool.false_eq_true, if_false]
        refine wpAny_bind (wpAny_letGo ?_)
        rw [nm]
        refine wpAny_pure ⟨plainId_quiet F.plain_max_loop _, go _ _ _ hS2 (fun b o nb e => e) ⟨M, t, rfl, ?_, fun j hj => ?_⟩⟩
        · obtain ⟨j, hj, e⟩ := top.1
          exact ⟨j, by omega, e⟩
        · rcases (show j < i ∨ j = i by omega) with z | z
          · exact top.2 j z
          · rw [z]
            omega
end
theorem args_maxD (a d : Value) : argsOk "max" ⟨[a], [("default", d)]⟩ := by
  unfold argsOk
  kernel_rfl
section
variable {prog : Program} {w : World} {A : Around} {E : Value → Shared → Prop} {s : Shared}
/-- a built-in function called with a keyword, its code going on in another one -/
theorem tree_kw {id : String} {b : Builtin} {us : List Value} {kw : List (Str × Value)} {Q : Value → Shared → Prop} (hk : builtinKind id = none) (hp : plainId id = true) (hb : entryFor table id = some b) (ok : argsOk id ⟨us, kw⟩)
    (run : wpAny (model prog w) A.in1 (b ⟨us, kw⟩) (fun fin s' => match fin with
      | .done f => (match (Except.ok f : Result) with | .ok (.ret v) => Q v s' | .ok _ => False | .error e => E e s')
      | .again c' => c'.quiet = true ∧ codeAny (model prog w) A c' (fun r s' => match r with | .ok (.ret v) => Q v s' | .ok _ => False | .error e => E e s') s') E s) :
    wpAny (model prog w) A (call (.builtin id) us kw) Q E s := by
  refine wpAny_call (codeAny_call_builtin hp hb ?_)
  simp only [checkBuiltinCall, hk]
  cases sg : Manifest.signature? id with
  | none => exact wpAny_pure run
  | some z =>
    simp only [argsOk, sg] at ok
    have ok2 : Bind.checkArgs id z ⟨us, kw⟩ = pure () := ok
    show wpAny _ A.in1 (Bind.checkArgs id z ⟨us, kw⟩) _ _ s
    rw [ok2]
    exact wpAny_pure run
theorem max_tupD {l : Addr} {its : List Value} {ns : List Int} {d : Value} {Q : Value → Shared → Prop} (hh : A.handled = none) (hl : s.heap.IsTuple l its.toArray) (hi : IntsAre its ns)
    (h : ∀ v h' tk, (ns = [] → v = d) → (ns ≠ [] → ∃ M t, v = .int M t ∧ M ∈ ns ∧ ∀ y ∈ ns, y ≤ M) → (∀ b o, s.heap.get? b = some o → h'.get? b = some o) → Q v { s with heap := h', toks := tk }) :
    wpAny (model prog w) A (call (.builtin "max") [.ref l] [("default", d)]) Q E s := by
  have nm : (toString "max" ++ toString ".loop" : String) = "max.loop" := by decide
  have len := IntsAre.length hi
  have lt : l < s.heap.objs.size := by
    obtain ⟨_, e, _⟩ := hl
    exact Heap.lt_size e
  refine tree_kw F.kind_max F.plain_max F.entry_max (args_maxD _ _) ?_
  show wpAny _ A.in1 (Builtin.Builtins.bindParams "max" ["key", "default"] 0 ⟨[], [("default", d)]⟩ >>= _) _ _ s
  refine wpAny_bind (wpAny_of_eq (show Builtin.Builtins.bindParams "max" ["key", "default"] 0 ⟨[], [("default", d)]⟩ = pure [none, some d] from rfl) ?_)
  refine wpAny_bind (wpAny_pure ?_)
  refine wpAny_bind (wpAny_pyIter_tuple hl ?_)
  refine wpAny_bind (wpAny_newObj_type ?_)
  rw [nm]
  have hne : l ≠ s.heap.objs.size := Nat.ne_of_lt lt
  have h1z : (s.heap.push { cls := .type "tuple_iterator", data := .fields #[.ref l, .int 0 0] }).objs.size = s.heap.objs.size + 1 := Heap.size_push ..
  have far : (s.heap.push { cls := .type "tuple_iterator", data := .fields #[.ref l, .int 0 0] }).objs.size ∉ [s.heap.objs.size, l] := by
    rw [h1z]
    intro z
    rcases List.mem_cons.mp z with z | z
    · exact absurd z (Nat.succ_ne_self _)
    · have z2 := List.mem_singleton.mp z
      rw [← z2] at lt
      exact Nat.lt_irrefl _ (Nat.lt_trans (Nat.lt_succ_self _) lt)
  refine wpAny_pure ⟨plainId_quiet F.plain_max_loop _, maxD_loop (W := Walks.tuple (A := A.in1) hh s.heap.objs.size l hne its.toArray) (fun i => ns.getD i 0) (fun i v hv => ?_) _ far d its.length 0 _ none 0 (by simp) (Nat.zero_le _) ⟨⟨_, Heap.get?_push_of_some _ (Heap.get?_push_size _ rfl), rfl, rfl⟩, (hl.push _).push _⟩ rfl (Heap.get?_push_size _ rfl) fun v h' tk z1 z2 kp => ?_⟩
  · obtain ⟨t, e⟩ := PyProof.Rows.IntsAre.int_at hi i v (by simpa using hv)
    exact ⟨t, e⟩
  · have esz : its.toArray.size = ns.length := by simpa using len
    rw [esz] at z1 z2
    refine h v h' tk (fun e => z1 (by rw [e]; rfl)) (fun ne => ?_) fun b o e => ?_
    · obtain ⟨M, t, ev, ⟨j, hj, ej⟩, up⟩ := z2 (List.length_pos_iff.mpr ne)
      refine ⟨M, t, ev, ?_, fun y hy => ?_⟩
      · have ej2 : ns.getD j 0 = M := ej
        rw [← ej2, List.getD_eq_getElem?_getD, List.getElem?_eq_getElem hj]
        exact List.getElem_mem hj
      · obtain ⟨k, hk, e⟩ := List.getElem_of_mem hy
        have : ns.getD k 0 ≤ M := up k hk
        rw [List.getD_eq_getElem?_getD, List.getElem?_eq_getElem hk] at this
        rw [← e]
        exact this
    · have lb := Heap.lt_size e
      refine kp b o (fun z => ?_) (fun z => ?_) (Heap.get?_push_of_some _ (Heap.get?_push_of_some _ e))
      · rw [List.mem_singleton.mp z] at lb
        exact Nat.lt_irrefl _ lb
      · rw [z, h1z] at lb
        exact Nat.lt_irrefl _ (Nat.lt_trans (Nat.lt_succ_self _) lb)
end
/-- max(t, default = d) -/
def rMaxD (K : PySem.W.Frag) : List V → List V → Hp → VK → Prop := fun xs zs H Q => ∃ (a : Addr) (ns : List Int) (d : Int), xs = [.ref a] ∧ zs = [.int d] ∧ SqT K H a (ns.map V.int) ∧
  ∀ M, (ns = [] → M = d) → (ns ≠ [] → M ∈ ns ∧ ∀ y ∈ ns, y ≤ M) → Q (.int M) H
theorem cr_maxD {X : Cx} (hc : X.calm = true) : CallRK X (.builtin "max") ["default"] (rMaxD X.K) := by
  intro pins s σ H xs zs us ws Q I r rz h
  obtain ⟨a, ns, d, rfl, rfl, hq, q⟩ := h
  obtain ⟨its, rv, tup, hz⟩ := I.tuple hq
  rw [Vals.ref1 r]
  cases rz with
  | cons r1 r2 =>
    cases r2
    obtain ⟨tk0, rfl⟩ := r1
    refine max_tupD (ns := ns) (d := .int d tk0) (I.ok.hd hc) tup (by simpa using numbers_of rv) fun v h' tk z1 z2 kp => ?_
    by_cases hn : ns = []
    · have ev := z1 hn
      subst ev
      exact ⟨.int d, H, I.kept kp, ⟨_, rfl⟩, q d (fun _ => rfl) (fun z => absurd hn z)⟩
    · obtain ⟨M, t, rfl, m1, m2⟩ := z2 hn
      exact ⟨.int M, H, I.kept kp, ⟨_, rfl⟩, q M (fun z => absurd z hn) (fun _ => ⟨m1, m2⟩)⟩
end Par
namespace K49
open PySem PySem.Spec PyProof.Rows L2 Par
/-- how many of the first stand in the second, too -/
def comm (ns ms : List Int) : List Int := ns.filter fun k => decide (k ∈ ms)
theorem mem_comm {ns ms : List Int} (k : Int) : k ∈ comm ns ms ↔ (decide (k ∈ ns) && decide (k ∈ ms)) = true := by
  unfold comm
  rw [List.mem_filter, Bool.and_eq_true, decide_eq_true_eq, decide_eq_true_eq]
theorem comm_perm {ns ns' ms ms' : List Int} (h1 : ns'.Perm ns) (h2 : ms'.Perm ms) : (comm ns' ms').length = (comm ns ms).length := by
  have e : (fun k => decide (k ∈ ms')) = (fun k => decide (k ∈ ms)) := funext fun k => by
    by_cases z : k ∈ ms
    · rw [decide_eq_true z, decide_eq_true (h2.mem_iff.mpr z)]
    · rw [decide_eq_false z, decide_eq_false (fun q => z (h2.mem_iff.mp q))]
  unfold comm
  rw [e]
  exact (h1.filter _).length_eq
section
variable {P : Program} {w : World} {K : PySem.W.Frag} {mg : Str → Option Value} {base : Heap}
/-- share_odd of two tuples of cells -/
def spShare (K : PySem.W.Frag) : Sp := fun vs H Q _ => ∃ (a b : Addr) (ns ms : List Int), vs = [.ref a, .ref b] ∧ SqT K H a (ns.map V.int) ∧ SqT K H b (ms.map V.int) ∧ ns.length ≤ 500 ∧ ms.length ≤ 500 ∧ (∀ k ∈ ns, Cell k) ∧ (∀ k ∈ ms, Cell k) ∧ ns.Nodup ∧
  ∀ H', Same H H' → Q (.bl (decide ((comm ns ms).length % 2 = 1))) H'
theorem scShare : FnScope ["one", "other"] ["one", "other"] (defScope sShare) := ⟨rfl, rfl, rfl, by decide +kernel, rfl, by decide +kernel, by decide +kernel⟩
theorem ok_share {f : Addr} {fd : FuncData} (F : Fun K "share_odd" "share_odd" sShare f fd) (B : Bl mg) : FnOk P w K mg base CX0 2 f fd ["one", "other"] (spShare K) := by
  refine F.ok scShare (fun vs H Q E h => ?_) (fun cdv A outer s H vs Q E hr h => ?_)
  · obtain ⟨a, b, ns, ms, rfl, _⟩ := h
    rfl
  · obtain ⟨a, b, ns, ms, rfl, ha, hb, l1, l2, c1, c2, nd, out⟩ := h
    refine ⟨_, pss_one (ps_ret (pe_cmpR op_eq (pe_op op_mod (pe_callB cr_lenSet (by rfl) B.len PySem.boot_len (pa_cons (pe_op op_andS (pe_callTy (cr_setTup rfl) (by rfl) B.set (by decide +kernel) (pa_cons (pv 0) pa_nil)) (pe_callTy (cr_setTup rfl) (by rfl) B.set (by decide +kernel) (pa_cons (pv 1) pa_nil))) pa_nil)) pe_int) pe_int (nomark _))), ?_⟩
    refine ⟨_, rfl, a, ns, rfl, ha, by omega, fun p1 n1 hp1 => ?_⟩
    have s1 := same_new (o := SetO w p1 (fun j => decide (j ∈ ns)) n1) hp1
    refine ⟨_, rfl, b, ms, rfl, same_sqt s1 hb, by omega, fun p2 n2 hp2 => ?_⟩
    have s2 := same_new (o := SetO w p2 (fun j => decide (j ∈ ms)) n2) hp2
    have ne : p1 ≠ p2 := fun z => by
      rw [← z, upd_same] at hp2
      cases hp2
    refine ⟨p1, p2, _, _, n1, n2, rfl, rfl, ne, s2 _ _ upd_same, upd_same, fun k hk => c1 k (of_decide_eq_true hk), fun k hk => c2 k (of_decide_eq_true hk), fun p3 c hp3 hc => ?_⟩
    have s3 := same_new (o := SetO w p3 (fun k => decide (k ∈ ns) && decide (k ∈ ms)) c) hp3
    have ec : c = (comm ns ms).length := hc _ (nd.sublist List.filter_sublist) mem_comm
    have lc : (comm ns ms).length ≤ ns.length := List.length_filter_le ..
    subst ec
    refine ⟨p3, _, _, rfl, upd_same, by omega, _, _, rfl, rfl, (by show (0 : Int) < 2; decide), rfl, ?_⟩
    have := out _ ((s1.trans s2).trans s3)
    have e : decide ((comm ns ms).length % 2 = 1) = decide (V.int ((((comm ns ms).length : Nat) : Int) % 2) = V.int 1) := by
      by_cases z : (comm ns ms).length % 2 = 1
      · rw [decide_eq_true z, decide_eq_true (by congr 1; omega)]
      · rw [decide_eq_false z, decide_eq_false (fun q => z (by injection q with q; omega))]
    rw [e] at this
    exact this
/-- a flip at f, with these cells -/
def Fp (C : Addr) (H : Hp) (f : Addr) (ts hs : List Int) : Prop := ∃ dx t1 t2, H f = some (.ins C dx [("tested_cells", .ref t1), ("toggled_cells", .ref t2)]) ∧ H t1 = some (.tup (ts.map V.int)) ∧ H t2 = some (.tup (hs.map V.int))
theorem Fp.same {C : Addr} {H H' : Hp} {f : Addr} {ts hs : List Int} (s : Same H H') (h : Fp C H f ts hs) : Fp C H' f ts hs := by
  obtain ⟨dx, t1, t2, h1, h2, h3⟩ := h
  exact ⟨dx, t1, t2, s _ _ h1, s _ _ h2, s _ _ h3⟩
structure FC (K : PySem.W.Frag) (mg : Str → Option Value) (C : Addr) : Prop where
  cl : Cls K C
  nT : NoAttr K C "tested_cells"
  nG : NoAttr K C "toggled_cells"
  mgC : mg "Flip" = some (.ref C)
theorem fld1 {v u : V} : ([("tested_cells", v), ("toggled_cells", u)] : List (Str × V)).lookup ("tested_cells" : Str) = some v := by
  simp [List.lookup]
theorem fld2 {v u : V} : ([("tested_cells", v), ("toggled_cells", u)] : List (Str × V)).lookup ("toggled_cells" : Str) = some u := by
  have e : (("toggled_cells" : Str) == ("tested_cells" : Str)) = false := by decide +kernel
  simp [List.lookup, e]
theorem no2 {m : Str} {v u : V} (h : (m == ("tested_cells" : Str)) = false) (h2 : (m == ("toggled_cells" : Str)) = false) : ([("tested_cells", v), ("toggled_cells", u)] : List (Str × V)).lookup m = none := by
  simp [List.lookup, h, h2]
theorem put2 {v u : V} : putF "toggled_cells" u ([("tested_cells", v)] : List (Str × V)) = ([("tested_cells", v), ("toggled_cells", u)] : List (Str × V)) := by
  have e : ¬ (("tested_cells" : Str) = "toggled_cells") := by decide +kernel
  show (if ("tested_cells" : Str) = "toggled_cells" then _ else (("tested_cells" : Str), v) :: putF "toggled_cells" u []) = _
  rw [if_neg e]
  rfl
def spTested (C : Addr) : Sp := fun vs H Q _ => ∃ (f : Addr) (ts hs : List Int), vs = [.ref f] ∧ Fp C H f ts hs ∧ ∀ t, H t = some (.tup (ts.map V.int)) → Q (.ref t) H
def spToggled (C : Addr) : Sp := fun vs H Q _ => ∃ (f : Addr) (ts hs : List Int), vs = [.ref f] ∧ Fp C H f ts hs ∧ ∀ t, H t = some (.tup (hs.map V.int)) → Q (.ref t) H
theorem scTested : FnScope ["self"] ["self"] (defScope gTested) := ⟨rfl, rfl, rfl, by decide +kernel, rfl, by decide +kernel, by decide +kernel⟩
theorem scToggled : FnScope ["self"] ["self"] (defScope gToggled) := ⟨rfl, rfl, rfl, by decide +kernel, rfl, by decide +kernel, by decide +kernel⟩
theorem ok_tested {f C : Addr} {fd : FuncData} (F : Fun K "tested" "Flip.tested" gTested f fd) (T : FC K mg C) : FnOk P w K mg base CX0 2 f fd ["self"] (spTested C) := by
  refine F.ok scTested (fun vs H Q E h => ?_) (fun cdv A outer s H vs Q E hr h => ?_)
  · obtain ⟨b, ts, hs, rfl, _⟩ := h
    rfl
  · obtain ⟨b, ts, hs, rfl, ⟨dx, t1, t2, h1, h2, h3⟩, out⟩ := h
    refine ⟨_, pss_one (ps_ret (pe_fld (pv 0) rfl)), ?_⟩
    exact ⟨_, rfl, b, C, dx, _, _, rfl, h1, T.cl, T.nT, fld1, out t1 h2⟩
theorem ok_toggled {f C : Addr} {fd : FuncData} (F : Fun K "toggled" "Flip.toggled" gToggled f fd) (T : FC K mg C) : FnOk P w K mg base CX0 2 f fd ["self"] (spToggled C) := by
  refine F.ok scToggled (fun vs H Q E h => ?_) (fun cdv A outer s H vs Q E hr h => ?_)
  · obtain ⟨b, ts, hs, rfl, _⟩ := h
    rfl
  · obtain ⟨b, ts, hs, rfl, ⟨dx, t1, t2, h1, h2, h3⟩, out⟩ := h
    refine ⟨_, pss_one (ps_ret (pe_fld (pv 0) rfl)), ?_⟩
    exact ⟨_, rfl, b, C, dx, _, _, rfl, h1, T.cl, T.nG, fld2, out t2 h3⟩
/-- cell_tuple, called with its default size -/
def HasD (P : Program) (w : World) (K : PySem.W.Frag) (mg : Str → Option Value) (base : Heap) (x : Str) (lv : Nat) (y : Str) (sp : Sp) : Prop :=
  ∃ f fd ds, FnOk P w K mg base CX0 lv f fd [y, "size"] sp ∧ mg x = some (.ref f) ∧ PySem.W.keepIn K (.ref f) = true ∧ Vals [V.int 40] ds ∧ Binds K fd [y, "size"] ds
theorem Sq.updI {C b dx v : Addr} {H : Hp} {fs : List (Str × V)} {xs : List V} {o : HO} (hb : H b = some (.ins C dx fs)) (h : Sq K H v xs) : Sq K (upd H b o) v xs := by
  have ne : ∀ {u : HO}, H v = some u → (∀ C dx fs, u ≠ .ins C dx fs) → v ≠ b := fun {u} e n z => by
    rw [z, hb] at e
    exact n _ _ _ (Option.some.inj e).symm
  rcases h with (h | ⟨o2, h⟩) | (h | ⟨o2, h⟩)
  · rcases (show H v = some (.lst xs) ∨ ∃ o', H v = some (.frz o' (.lst xs)) from by first | exact .inl h | exact h) with h | ⟨o', h⟩
    · exact .inl (.inl (.inl (by rw [upd_ne (ne h (fun _ _ _ z => by cases z))]; exact h)))
    · exact .inl (.inl (.inr ⟨o', by rw [upd_ne (ne h (fun _ _ _ z => by cases z))]; exact h⟩))
  · exact .inl (.inr ⟨o2, h⟩)
  · rcases (show H v = some (.tup xs) ∨ ∃ o', H v = some (.frz o' (.tup xs)) from by first | exact .inl h | exact h) with h | ⟨o', h⟩
    · exact .inr (.inl (.inl (by rw [upd_ne (ne h (fun _ _ _ z => by cases z))]; exact h)))
    · exact .inr (.inl (.inr ⟨o', by rw [upd_ne (ne h (fun _ _ _ z => by cases z))]; exact h⟩))
  · exact .inr (.inr ⟨o2, h⟩)
/-- __init__ of a flip that can be made -/
def spFInit (K : PySem.W.Frag) (C : Addr) : Sp := fun vs H Q _ => ∃ (b dx u v : Addr) (ts hs : List Int), vs = [.ref b, .ref u, .ref v] ∧ H b = some (.ins C dx []) ∧ Sq K H u (ts.map V.int) ∧ Sq K H v (hs.map V.int) ∧ ts.length ≤ 500 ∧ hs.length ≤ 500 ∧
  (∀ k ∈ ts, 0 ≤ k ∧ k < 40) ∧ (∀ k ∈ hs, 1 ≤ k ∧ k < 40) ∧ ts.Nodup ∧ hs.Nodup ∧ (comm ts hs).length % 2 = 0 ∧
  ∀ H' (ts' hs' : List Int), But b H H' → ts'.Perm ts → hs'.Perm hs → ts'.Pairwise (· ≤ ·) → hs'.Pairwise (· ≤ ·) → Fp C H' b ts' hs' → Q .non H'
theorem scFInit : FnScope ["self", "tested", "toggled"] ["self", "tested", "toggled"] (defScope gInit) := ⟨rfl, rfl, rfl, by decide +kernel, rfl, by decide +kernel, by decide +kernel⟩
theorem ok_finit {f C : Addr} {fd : FuncData} (F : Fun K "__init__" "Flip.__init__" gInit f fd) (B : Bl mg) (T : FC K mg C) (DC : HasD P w K mg base "cell_tuple" 5 "things" (spCells K)) (DO : Has P w K mg base "share_odd" 2 ["one", "other"] (spShare K)) :
    FnOk P w K mg base CX0 6 f fd ["self", "tested", "toggled"] (spFInit K C) := by
  obtain ⟨fD, fdD, dsD, GD, mD, kD, hdD, bD⟩ := DC
  obtain ⟨fO, fdO, GO, mO, kO, bO⟩ := DO
  refine F.ok scFInit (fun vs H Q E h => ?_) (fun cdv A outer s H vs Q E hr h => ?_)
  · obtain ⟨b, dx, u, v, ts, hs, rfl, _⟩ := h
    rfl
  · obtain ⟨b, dx, u, v, ts, hs, rfl, hb, hu, hv, l1, l2, c1, c2, n1, n2, ev, out⟩ := h
    have r1 : Room 2 _ := hr.mono (by decide)
    refine ⟨_, pss_cons (ps_fld (pv 0) (pe_call GD hr (by rfl) mD kD bD hdD pass0 (pa_cons (pv 1) pa_nil)) rfl)
      (pss_cons (ps_fld (pv 0) (pe_call GD hr (by rfl) mD kD bD hdD pass0 (pa_cons (pv 2) pa_nil)) rfl)
      (pss_cons (ps_if (pt_cmpR op_in_seq pe_int (pe_fld (pv 0) rfl) (by rfl)) (pss_one ps_off) pss_nil)
      (pss_one (ps_if (pt_val (pe_call GO r1 (by rfl) mO kO bO .nil pass0 (pa_cons (pe_fld (pv 0) rfl) (pa_cons (pe_fld (pv 0) rfl) pa_nil)))) (pss_one ps_off) pss_nil)))), ?_⟩
    refine ⟨_, rfl, u, 40, ts, rfl, hu, l1, c1, n1, fun t1 ts' H1 ht1 s1 p1 w1 e1 => ?_⟩
    have nb1 : t1 ≠ b := fun z => by rw [z, hb] at ht1; cases ht1
    refine ⟨_, rfl, b, C, dx, [], rfl, s1 _ _ hb, T.cl, T.nT, (by show 0 < 1000; decide), ?_⟩
    have k2 : But b H (upd H1 b (.ins C dx [("tested_cells", .ref t1)])) := fun x o nx e => by
      rw [upd_ne nx]
      exact s1 _ _ e
    have hv2 : Sq K (upd H1 b (.ins C dx [("tested_cells", .ref t1)])) v (hs.map V.int) := (hv.same s1).updI (s1 _ _ hb)
    refine ⟨_, rfl, v, 40, hs, rfl, hv2, l2, fun k hk => by have := c2 k hk; omega, n2, fun t2 hs' H3 ht2 s3 p2 w2 e2 => ?_⟩
    have nb2 : t2 ≠ b := fun z => by rw [z, upd_same] at ht2; cases ht2
    have e13 : H3 t1 = some (.tup (ts'.map V.int)) := s3 _ _ (by rw [upd_ne nb1]; exact e1)
    refine ⟨_, rfl, b, C, dx, _, rfl, s3 _ _ upd_same, T.cl, T.nG, (by show 1 < 1000; decide), ?_⟩
    rw [show putF "toggled_cells" (V.ref t2) (putF "tested_cells" (V.ref t1) []) = ([("tested_cells", V.ref t1), ("toggled_cells", V.ref t2)] : List (Str × V)) from put2]
    have f1 : (upd H3 b (.ins C dx [("tested_cells", .ref t1), ("toggled_cells", .ref t2)])) t1 = some (.tup (ts'.map V.int)) := by
      rw [upd_ne nb1]
      exact e13
    have f2 : (upd H3 b (.ins C dx [("tested_cells", .ref t1), ("toggled_cells", .ref t2)])) t2 = some (.tup (hs'.map V.int)) := by
      rw [upd_ne nb2]
      exact e2
    refine ⟨_, rfl, b, C, dx, _, _, rfl, upd_same, T.cl, T.nG, fld2, t2, _, rfl, .inr (SqT.of f2), rfl, flat_ints _, _, rfl, ?_⟩
    have h0 : ¬ (0 : Int) ∈ hs' := fun z => by
      have := c2 0 (p2.mem_iff.mp z)
      omega
    show if inV (V.int 0) (hs'.map V.int) = true then _ else _
    rw [in_ints, decide_eq_false h0]
    refine iteF ?_
    refine ⟨_, rfl, b, C, dx, _, _, rfl, upd_same, T.cl, T.nT, fld1, _, rfl, b, C, dx, _, _, rfl, upd_same, T.cl, T.nG, fld2, t1, t2, ts', hs', rfl, SqT.of f1, SqT.of f2, by rw [p1.length_eq]; exact l1, by rw [p2.length_eq]; exact l2, ?_, ?_, p1.nodup_iff.mpr n1, fun H5 s5 => ⟨_, rfl, ?_⟩⟩
    · intro k hk
      have := c1 k (p1.mem_iff.mp hk)
      exact ⟨by omega, by omega⟩
    · intro k hk
      have := c2 k (p2.mem_iff.mp hk)
      exact ⟨by omega, by omega⟩
    have eo : decide ((comm ts' hs').length % 2 = 1) = false := decide_eq_false (by rw [comm_perm p1 p2]; omega)
    rw [eo]
    refine iteF ?_
    refine out H5 ts' hs' (fun x o nx e => ?_) p1 p2 w1 w2 ⟨dx, t1, t2, s5 _ _ upd_same, s5 _ _ f1, s5 _ _ f2⟩
    refine s5 _ _ ?_
    rw [upd_ne nx]
    exact s3 _ _ (k2 x o nx e)
end
end K49
namespace Par
open PySem PySem.Spec PyProof.Rows L2
/-- one + other, any two tuples: some tuple of all items, one of the two or a new one -/
def rCatB (K : PySem.W.Frag) : R2 := fun x y H Q => ∃ a b xs ys, x = .ref a ∧ y = .ref b ∧ SqT K H a xs ∧ SqT K H b ys ∧ xs.length + ys.length ≤ sizeLine ∧
  ∀ c H', Same H H' → SqT K H' c (xs ++ ys) → Q (.ref c) H'
theorem op_catB {X : Cx} : OpR X (binaryOp .Add) (rCatB X.K) := by
  intro pins s σ H x y v u Q I rx ry h
  obtain ⟨a, b, xs, ys, rfl, rfl, ha, hb, hz, q⟩ := h
  by_cases hx : xs = []
  · subst hx
    cases rx
    cases ry
    obtain ⟨its, r1, p1, _⟩ := I.tuple ha
    obtain ⟨its2, r2, p2, _⟩ := I.tuple hb
    cases r1
    obtain ⟨⟨c1, d1, da1, sl1⟩, ho, hc, n, hd⟩ := id p1
    obtain ⟨⟨c2, d2, da2, sl2⟩, ho2, hc2, n2, hd2⟩ := id p2
    simp only at hc hd hc2 hd2
    subst hc hd hc2 hd2
    exact concat_meets ⟨_, ho, rfl⟩ ⟨_, ho2, rfl⟩ noFill_tuple_add seq_tuple_add PySem.F.slot_tuple_add PySem.F.entry_tuple_add (PySem.F.args_tuple_add_2 _ _)
      (tuple_addW0 a b _ its2.toArray n n2 d1 d2 sl1 sl2 rfl) ⟨ho, ho2, ⟨.ref b, H, I, rfl, q b H (fun _ _ e => e) hb⟩⟩
  · refine op_catT pins s σ H (.ref a) (.ref b) v u Q I rx ry ⟨a, b, xs, ys, rfl, rfl, ha, hb, hx, hz, fun e => ?_, fun e p hp => ?_⟩
    · subst e
      exact q a H (fun _ _ e => e) (by rw [List.append_nil]; exact ha)
    · exact q p _ (fun z o e2 => by rw [upd_ne (ne_of_none e2 hp)]; exact e2) (SqT.of upd_same)
end Par
namespace K49
open PySem PySem.Spec PyProof.Rows L2 Par
section
variable {P : Program} {w : World} {K : PySem.W.Frag} {mg : Str → Option Value} {base : Heap}
/-- the least size that these cells fit -/
def Fits (ts hs : List Int) (M : Int) : Prop := (∀ k, k ∈ ts ∨ k ∈ hs → k < M) ∧ 1 ≤ M ∧ (M = 1 ∨ (M - 1) ∈ ts ∨ (M - 1) ∈ hs)
theorem Fits.one {ts hs : List Int} {M N : Int} (h1 : Fits ts hs M) (h2 : Fits ts hs N) : M = N := by
  have le : ∀ {M N : Int}, Fits ts hs M → Fits ts hs N → M ≤ N := fun {M N} a b => by
    rcases a.2.2 with z | z
    · have := b.2.1
      omega
    · have := b.1 _ z
      omega
  exact Int.le_antisymm (le h1 h2) (le h2 h1)
def spFWidth (C : Addr) : Sp := fun vs H Q _ => ∃ (f : Addr) (ts hs : List Int), vs = [.ref f] ∧ Fp C H f ts hs ∧ ts.length ≤ 500 ∧ hs.length ≤ 500 ∧ (∀ k ∈ ts, 0 ≤ k) ∧ (∀ k ∈ hs, 0 ≤ k) ∧ ∀ M H', Same H H' → Fits ts hs M → Q (.int M) H'
theorem scFWidth : FnScope ["self"] ["self"] (defScope gWidth) := ⟨rfl, rfl, rfl, by decide +kernel, rfl, by decide +kernel, by decide +kernel⟩
theorem ok_fwidth {f C : Addr} {fd : FuncData} (F : Fun K "width" "Flip.width" gWidth f fd) (B : Bl mg) (T : FC K mg C) : FnOk P w K mg base CX0 2 f fd ["self"] (spFWidth C) := by
  refine F.ok scFWidth (fun vs H Q E h => ?_) (fun cdv A outer s H vs Q E hr h => ?_)
  · obtain ⟨b, ts, hs, rfl, _⟩ := h
    rfl
  · obtain ⟨b, ts, hs, rfl, ⟨dx, t1, t2, h1, h2, h3⟩, l1, l2, p1, p2, out⟩ := h
    refine ⟨_, pss_one (ps_ret (pe_op op_add (pe_callBK (ks := ["default"]) (cr_maxD rfl) (by rfl) B.max (by decide +kernel) (pa_cons (pe_op op_catB (pe_fld (pv 0) rfl) (pe_fld (pv 0) rfl)) pa_nil) (pk_cons pe_int pk_nil)) pe_int)), ?_⟩
    refine ⟨_, rfl, b, C, dx, _, _, rfl, h1, T.cl, T.nT, fld1, _, rfl, b, C, dx, _, _, rfl, h1, T.cl, T.nG, fld2, t1, t2, _, _, rfl, rfl, SqT.of h2, SqT.of h3, (by rw [List.length_map, List.length_map, sizeLine_eq]; omega), fun c H1 s1 hc => ?_⟩
    rw [← List.map_append] at hc
    refine ⟨c, ts ++ hs, 0, rfl, rfl, hc, fun M m1 m2 => ⟨M, 1, rfl, rfl, out (M + 1) H1 s1 ?_⟩⟩
    by_cases hn : ts ++ hs = []
    · have e := m1 hn
      subst e
      refine ⟨fun k hk => ?_, by omega, .inl (by omega)⟩
      have : k ∈ ts ++ hs := List.mem_append.mpr hk
      rw [hn] at this
      cases this
    · obtain ⟨mm, up⟩ := m2 hn
      have m0 : 0 ≤ M := by
        rcases List.mem_append.mp mm with z | z
        · exact p1 M z
        · exact p2 M z
      refine ⟨fun k hk => ?_, by omega, .inr ?_⟩
      · have := up k (List.mem_append.mpr hk)
        omega
      · rw [show M + 1 - 1 = M by omega]
        exact List.mem_append.mp mm
end
end K49
namespace Par
open PySem PySem.Spec PyProof.Rows L2
/-- f(e, .., k = v, ..), what is raised wished for at the slots -/
def tCallNS (n m : Nat) (sp : Sp) (gV : List V → List V → List V) (E : L2.St → XK) (t tk : TA) : TE := fun σ H Q =>
  t σ H fun vs H1 => tk σ H1 fun zs H2 => vs.length = n ∧ zs.length = m ∧ sp (gV vs zs) H2 Q (E σ)
section
variable {X : Cx} {CX : CXT} {k n : Nat} {f : Addr} {fd : FuncData} {ps ks : List Str} {sp : Sp} {E : L2.St → XK} {x : Str} {p pos : Pos} {e : Expr} {es : List Expr} {kws : List Keyword} {t tk : TA}
  {g : List Value → List Value → List Value} {gV : List V → List V → List V}
theorem pe_callNS (F : FnOk X.prog X.w X.K X.mg X.base CX k f fd ps sp) (hr : Room k X.A) (hg : Gl X x) (hm : X.mg x = some (.ref f)) (hk : PySem.W.keepIn X.K (.ref f) = true)
    (hb : KBn X.K fd ps n ks g gV) (hx : ∀ σ, PassesAt CX X σ (E σ)) (ha : PA X (e :: es) t) (hkw : PK X kws tk)
    (hall : (backToKw pos (keywordEach kws X.env)).all (·.1.isSome) = true := by rfl)
    (hks : (backToKw pos (keywordEach kws X.env)).filterMap (·.1) = ks := by rfl)
    (hdb : (x == ("__debug__" : Str)) = false := by decide)
    (he : starEach (e :: es) X.env = (false, eval e X.env) :: starEach es X.env := by rfl)
    (hpl : ((backTo pos (starEach (e :: es) X.env)).any (·.1) || (backToKw pos (keywordEach kws X.env)).any (·.1.isNone)) = false := by rfl) :
    PE X (.Call (.Name x p) (e :: es) kws pos) (tCallNS n ks.length sp gV E t tk) := by
  constructor
  intro pins s σ H Q I h
  refine wpAny_Call_Name_kw (ld_glob I hg hm ?_ hdb)
  refine PySem.W.callWith_KW (h₀ := X.base) I.ok.mod.kin hk hall (thn (ha.run pos pins s σ H _ I h) ?_) hpl he
  rintro us s1 ⟨vs, H1, I1, r, q⟩
  refine thn (hkw.run pos pins s1 σ H1 _ I1 q) ?_
  rintro ws s2 ⟨zs, H2, I2, rz, l1, l2, q2⟩
  refine ⟨I2.kIn, ?_⟩
  rw [hks]
  refine wpAny_call (codeAny_mono (F.run X.A X.stack s2 H2 ⟨us, ks.zip ws⟩ (g us ws) (gV vs zs) Q (E σ) hr I2.env0
    (hb.to s2 us ws I2.kIn (r.length.symm.trans l1) (rz.length.symm.trans l2)) (hb.rel r rz) q2) ?_)
  intro res s3 hq
  cases res with
  | error er => exact hx σ pins H2 s2 er s3 I2 hq
  | ok fl =>
    cases fl with
    | ret u => exact I2.after hq
    | next => exact False.elim hq
    | brk => exact False.elim hq
    | cont => exact False.elim hq
end
section
variable {X : Cx} {a D : Addr} {oe : Obj} {cls : Value} {d : Option Addr} {pn : List (Addr × Obj)}
theorem held_inst {pins : List (Addr × Obj)} {σ : L2.St} {H : Hp} {s : Shared} {dd : Addr} {fs : List (Str × V)} (hz : Zc cls d oe) (hf : ∃ vs, oe.data = .fields vs)
    (I : L2.Inv (X.suite a ((a, oe) :: pn)) pins σ H s) (ec : cls = .ref D) (ed : d = some dd) (ea : H dd = some (.xd fs)) : ∃ od, PySem.W.InstAt s.heap a oe D (some od) := by
  subst ec ed
  have ha := (I.pin (a, oe) (List.mem_append_left _ List.mem_cons_self)).1
  obtain ⟨vs, hd⟩ := hf
  obtain ⟨mA, hns, hr⟩ := (show ObjOk X.prog X.w H s.heap dd (.xd fs) from I.hok dd _ ea)
  obtain ⟨od, ho, hl⟩ := lookIn_ns hns
  exact ⟨od, ha, hz.1, by unfold PySem.W.notCls; rw [hd] <;> rfl, by rw [hz.2]; exact ho⟩
theorem kit_held (C : ExcC X.K D) {od : Option Obj} : PySem.W.KitX X.K (.ref a) (.ref D) (fun h => PySem.W.InstAt h a oe D od) := by
  refine PySem.W.kitx_exc ?_ C.hg C.hk C.hs C.ha C.hn C.ht C.hm
  obtain ⟨cd, hc, _⟩ := PySem.W.any_some C.hd
  rw [hc]
  rfl
/-- isinstance(e, c), e the error that the suite holds, with its own dict -/
theorem call_isX (C : ExcC X.K D) (hz : Zc cls d oe) (hf : ∃ vs, oe.data = .fields vs) : CallR (X.suite a ((a, oe) :: pn)) (.builtin "isinstance")
    (fun xs H Q => ∃ (c : V) (u : Value) (b : Bool) (dd : Addr) (fs : List (Str × V)), xs = [.ref a, c] ∧ cls = .ref D ∧ d = some dd ∧ H dd = some (.xd fs) ∧ ClsV c u ∧ PySem.W.kitOne X.K (.ref D) u = some b ∧ Q (.bl b) H) := by
  intro pins s σ H xs us Q I r h
  obtain ⟨c, u, b, dd, fs, rfl, ec, ed, ea, k, e, q⟩ := h
  obtain ⟨u1, u2, rfl, r1, r2⟩ := vals2 r
  cases (show u1 = Value.ref a from r1)
  have e2 := k.eq r2
  subst e2
  obtain ⟨od, J⟩ := held_inst hz hf I ec ed ea
  exact PySem.W.kia_one (kit_held C) I.kIn J e (fun z => nomatch z) fun tk => ⟨.bl b, H, I.tok tk, rfl, q⟩
theorem call_isXT (C : ExcC X.K D) (hz : Zc cls d oe) (hf : ∃ vs, oe.data = .fields vs) : CallR (X.suite a ((a, oe) :: pn)) (.builtin "isinstance")
    (fun xs H Q => ∃ (tp : Addr) (cs : List V) (ws : List Value) (b : Bool) (dd : Addr) (fs : List (Str × V)), xs = [.ref a, .ref tp] ∧ H tp = some (.tup cs) ∧ Paired ClsV cs ws ∧ cls = .ref D ∧ d = some dd ∧ H dd = some (.xd fs) ∧
      PySem.W.kitAny X.K (.ref D) ws = some b ∧ Q (.bl b) H) := by
  intro pins s σ H xs us Q I r h
  obtain ⟨tp, cs, ws, b, dd, fs, rfl, hT, k, ec, ed, ea, e, q⟩ := h
  obtain ⟨u1, u2, rfl, r1, r2⟩ := vals2 r
  cases (show u1 = Value.ref a from r1)
  cases (show u2 = Value.ref tp from r2)
  obtain ⟨od, J⟩ := held_inst hz hf I ec ed ea
  obtain ⟨_, its, rv, o, h1, h2, n, h3⟩ := (show ObjOk X.prog X.w H s.heap tp (.tup cs) from I.hok tp _ hT)
  have e3 := ClsV.all k rv
  subst e3
  obtain ⟨oc, ood, dt, sl⟩ := o
  simp only at h2 h3
  subst h2 h3
  exact PySem.W.kia_tup (kit_held C) I.kIn J h1 e (fun z => nomatch z) fun tk => ⟨.bl b, H, I.tok tk, rfl, q⟩
end
end Par
namespace Par
open PySem PySem.Spec PyProof.Rows L2
/-! ### errors over any built-in base -/
/-- own classes, then the base's own line -/
def Over (tail l : List Value) : Prop := tail ≠ [] ∧ ∃ cs : List Addr, l = cs.map Value.ref ++ tail
theorem Over.cons {tail l : List Value} (h : Over tail l) (c : Addr) : Over tail (.ref c :: l) := by
  obtain ⟨h1, cs, e⟩ := h
  exact ⟨h1, c :: cs, by rw [e]; rfl⟩
theorem Over.nonempty {tail l : List Value} (h : Over tail l) : l.isEmpty = false := by
  obtain ⟨h1, cs, e⟩ := h
  subst e
  cases cs with
  | cons c cs => rfl
  | nil =>
    cases tail with
    | nil => exact absurd rfl h1
    | cons _ _ => rfl
theorem Over.has {tail l : List Value} (h : Over tail l) (T : String) : l.contains (.type T) = tail.contains (.type T) := by
  obtain ⟨_, cs, e⟩ := h
  subst e
  induction cs with
  | nil => rfl
  | cons c cs ih =>
    show ((Value.type T == Value.ref c) || _) = _
    rw [show (Value.type T == Value.ref c) = false from rfl, Bool.false_or]
    exact ih
theorem Over.lets {tail l : List Value} (h : Over tail l) (ok : ∀ self, refuseLoop self "__setattr__" tail = pure ()) (self : Value) : refuseLoop self "__setattr__" l = pure () := by
  obtain ⟨_, cs, e⟩ := h
  subst e
  induction cs with
  | nil => exact ok self
  | cons c cs ih =>
    show refuseLoop self "__setattr__" (Value.ref c :: (cs.map Value.ref ++ tail)) = pure ()
    rw [refuseLoop_ref]
    exact ih
section
variable {prog : Program} {w : World} {A : Around} {R : Result → Shared → Prop} {hp : Heap} {g : Array GenState} {d : Drawn} {t : Nat} {os : OsState}
open Builtin Builtin.ObjectAttr PySem.W PySem.HandSPX in
/-- the first field of an error -/
theorem first_field {K : PySem.W.Frag} {fld : Str} {tk : Tok} {v : Value} {x C : Addr} {fv : Array Value} {cd : ClassData} {tail : List Value} (X : K.In hp)
    (at_ : hp.get? x = some { cls := .ref C, data := .fields fv }) (isC : clsIn K C = some cd) (ov : Over tail cd.mro) (objd : tail.contains (.type "object") = true)
    (ok : ∀ self, refuseLoop self "__setattr__" tail = pure ()) (own : cd.hasDict = true) (no : findIn K (.ref C) fld = some none)
    (out : ∀ h' tk' dx, (∀ b o, b ≠ x → hp.get? b = some o → h'.get? b = some o) → hp.objs.size ≤ dx → dx ≠ x → h'.get? x = some { cls := .ref C, dict := some dx, data := .fields fv } →
      h'.Ns1 dx (fun y => if y = fld then some v else none) → R (.ok (.ret .none)) ⟨h', g, d, tk', os⟩) :
    codeAny (model prog w) A (.call (.builtin "object.__setattr__") ⟨[.ref x, .str fld tk, v], []⟩) R ⟨hp, g, d, t, os⟩ := by
  have inst : InstAt hp x { cls := .ref C, data := .fields fv } C none := ⟨at_, rfl, rfl, trivial⟩
  have st := F.store_object
  have hObj : cd.mro.contains (.type "object") = true := (ov.has "object").trans objd
  have far : x ≠ hp.objs.size := Nat.ne_of_lt (Heap.lt_size at_)
  have isObj : Looks (model prog w) hp (isInstance (.ref x) (.type "object")) true :=
    inst.type.andThen (looks_mroIn X (by unfold mroIn; rw [isC, Option.bind_some, if_neg (by rw [ov.nonempty]; decide), hObj]))
  refine codeAny_call_builtin st.slot.plain st.entry (@check_slot (model prog w) _ _ ⟨hp, g, d, t, os⟩ "object.__setattr__" "object" "__setattr__"
    (.ref x) [.str fld tk, v] [] _ st.kind st.split isObj (st.args (.ref x) (.str fld tk) v) ?_)
  have lm : Looks (model prog w) hp (mroOf (.ref C)) cd.mro := (looks_clsIn X isC).andThen .now
  have ln : Looks (model prog w) hp (storeTaker? none) none := .now
  have lc : Looks (model prog w) hp (classData C) cd := looks_clsIn X isC
  rw [osa_eq, refuse_eq]
  refine wpAny_bind (wpAny_bind (inst.type.at (wpAny_bind (lm.at ?_))))
  rw [ov.lets ok]
  refine wpAny_pure (wpAny_bind (inst.type.at (wpAny_bind ((looks_findIn X no).at (wpAny_bind (ln.at ?_))))))
  show wpAny _ _ (storeInOwnDict (.ref x) (.ref C) (.str fld tk) fld v false) _ _ _
  obtain ⟨nm, bs, mro, ns, qn, hd, sn, sb, ab, col, dl⟩ := cd
  dsimp only at own
  subst own
  unfold storeInOwnDict ownDictForStores
  repeat (first | with_reducible refine store_in_new ?_ ?_ | with_reducible refine wpAny_loadPart_at at_ ?_ | with_reducible refine lc.at ?_ | wp_step)
  · exact ⟨_, #[], _, (Heap.get?_update_ne _ _ _ _ far.symm).trans (Heap.get?_push_at rfl rfl), rfl, fun e z => absurd z (by simp), fun _ => rfl⟩
  · intro h' tk' made kept
    have old : (hp.push { cls := .type "dict", data := .dict #[] }).get? x = some { cls := .ref C, data := .fields fv } := Heap.get?_push_of_some _ at_
    refine out h' tk' hp.objs.size (fun b o nb e => ?_) (Nat.le_refl _) far.symm ?_ made
    · exact (kept.2 b (Nat.ne_of_lt (Heap.lt_size e))).trans ((Heap.get?_update_ne _ _ _ _ nb).trans (Heap.get?_push_of_some _ e))
    · exact (kept.2 x far).trans (Heap.get?_update_self _ old rfl)
open Builtin Builtin.ObjectAttr PySem.W PySem.HandSPX PySem.OEX in
/-- a further field of an error -/
theorem more_field {K : PySem.W.Frag} {fld : Str} {tk : Tok} {v : Value} {x C dx : Addr} {fv : Array Value} {cd : ClassData} {tail : List Value} {m0 : Str → Option Value} {nl : List Str} (X : K.In hp)
    (at_ : hp.get? x = some { cls := .ref C, dict := some dx, data := .fields fv }) (names : hp.Ns1 dx m0) (win : Within m0 nl) (few : nl.length ≤ 1000) (isC : clsIn K C = some cd) (ov : Over tail cd.mro)
    (objd : tail.contains (.type "object") = true) (ok : ∀ self, refuseLoop self "__setattr__" tail = pure ()) (own : cd.hasDict = true) (no : findIn K (.ref C) fld = some none)
    (out : ∀ h' tk', (∀ b o, b ≠ dx → hp.get? b = some o → h'.get? b = some o) → h'.Ns1 dx (fun y => if y = fld then some v else m0 y) → R (.ok (.ret .none)) ⟨h', g, d, tk', os⟩) :
    codeAny (model prog w) A (.call (.builtin "object.__setattr__") ⟨[.ref x, .str fld tk, v], []⟩) R ⟨hp, g, d, t, os⟩ := by
  obtain ⟨od, esd, epd, atD, dtD, _⟩ := names.count win
  have inst : InstAt hp x { cls := .ref C, dict := some dx, data := .fields fv } C (some od) := ⟨at_, rfl, rfl, atD⟩
  have st := F.store_object
  have hObj : cd.mro.contains (.type "object") = true := (ov.has "object").trans objd
  have isObj : Looks (model prog w) hp (isInstance (.ref x) (.type "object")) true :=
    inst.type.andThen (looks_mroIn X (by unfold mroIn; rw [isC, Option.bind_some, if_neg (by rw [ov.nonempty]; decide), hObj]))
  refine codeAny_call_builtin st.slot.plain st.entry (@check_slot (model prog w) _ _ ⟨hp, g, d, t, os⟩ "object.__setattr__" "object" "__setattr__"
    (.ref x) [.str fld tk, v] [] _ st.kind st.split isObj (st.args (.ref x) (.str fld tk) v) ?_)
  have lm : Looks (model prog w) hp (mroOf (.ref C)) cd.mro := (looks_clsIn X isC).andThen .now
  have ln : Looks (model prog w) hp (storeTaker? none) none := .now
  have lc : Looks (model prog w) hp (classData C) cd := looks_clsIn X isC
  rw [osa_eq, refuse_eq]
  refine wpAny_bind (wpAny_bind (inst.type.at (wpAny_bind (lm.at ?_))))
  rw [ov.lets ok]
  refine wpAny_pure (wpAny_bind (inst.type.at (wpAny_bind ((looks_findIn X no).at (wpAny_bind (ln.at ?_))))))
  show wpAny _ _ (storeInOwnDict (.ref x) (.ref C) (.str fld tk) fld v false) _ _ _
  obtain ⟨nm, bs, mro, ns, qn, hd, sn, sb, ab, col, dl⟩ := cd
  dsimp only at own
  subst own
  unfold storeInOwnDict ownDictForStores
  repeat (first | with_reducible refine store_in_old names win few ?_ | with_reducible refine wpAny_loadPart_at at_ ?_ | with_reducible refine lc.at ?_ | wp_step)
  intro h' tk' made kept
  exact out h' tk' (fun b o nb e => (kept.2 b nb).trans e) made
end
/-- what is known of a built-in base -/
structure Bas (newId : String) (tail : List Value) : Prop where
  base : ∃ B initId, ExcBaseFacts B newId initId tail
  full : tail ≠ []
  objd : tail.contains (.type "object") = true
  lets : ∀ self, refuseLoop self "__setattr__" tail = pure ()
theorem bas_value : Bas "ValueError.__new__" [.type "ValueError", .type "Exception", .type "BaseException", .type "object"] := ⟨⟨_, _, F.excBase_ValueError⟩, by simp, by decide +kernel, F.store_ValueError.passes⟩
theorem bas_lookup : Bas "LookupError.__new__" [.type "LookupError", .type "Exception", .type "BaseException", .type "object"] := ⟨⟨_, _, F.excBase_LookupError⟩, by simp, by decide +kernel, F.store_LookupError.passes⟩
theorem bas_runtime : Bas "RuntimeError.__new__" [.type "RuntimeError", .type "Exception", .type "BaseException", .type "object"] := ⟨⟨_, _, F.excBase_RuntimeError⟩, by simp, by decide +kernel, F.store_RuntimeError.passes⟩
theorem bas_arith : Bas "ArithmeticError.__new__" [.type "ArithmeticError", .type "Exception", .type "BaseException", .type "object"] := ⟨⟨_, _, F.excBase_ArithmeticError⟩, by simp, by decide +kernel, F.store_ArithmeticError.passes⟩
/-- an own class of errors over such a base -/
structure ErrC (K : PySem.W.Frag) (C : Addr) : Prop where
  is : ∃ newId tail nm q N bs bm sn sub ab col dd k0 k1 k2 k3 k5, Bas newId tail ∧ K.lookup C = some (excClassObj nm q C N bs bm true sn sub ab col dd k0 k1 k2 k3 k5 newId) ∧ ∃ cs : List Addr, bm = cs.map Value.ref ++ tail
  sets : PySem.W.findIn K (.ref C) "__setattr__" = some (some (.builtin "object.__setattr__"))
  exc : PySem.W.subIn K (.ref C) (.type "BaseException") = some true
  typ : PySem.W.typeIn K (.ref C) = some (.type "type")
  kept : PySem.W.keepIn K (.ref C) = true
section
variable {X : Cx} {pins : List (Addr × Obj)} {σ : L2.St} {H : Hp} {s : Shared} {a C dx : Addr} {f : Str} {y : V} {u : Value} {fs : List (Str × V)} {Q : Unit → Shared → Prop} {E : Value → Shared → Prop} {A : Around}
theorem err_first (T : ErrC X.K C) (I : L2.Inv X pins σ H s) (e : H a = some (exo a C none)) (no : PySem.W.findIn X.K (.ref C) f = some none) (ry : RelV y u)
    (out : ∀ dx s', H dx = none → dx ≠ a → L2.Inv X pins σ (upd (upd H dx (exd dx [(f, y)])) a (exo a C (some dx))) s' → Q () s') : wpAny (model X.prog X.w) A (setAttr (.ref a) f u) Q E s := by
  obtain ⟨newId, tail, nm, q, N, bs, bm, sn, sub, ab, col, dd, k0, k1, k2, k3, k5, bas, atC, cs, ebm⟩ := T.is
  have isC : PySem.W.clsIn X.K C = some { name := nm, bases := bs, mro := .ref C :: bm, ns := N, qualname := q, hasDict := true, slotNames := sn, subclasses := sub, abstract := ab, collection := col, hasDel := false } := by
    unfold PySem.W.clsIn
    rw [atC]
  have ov : Over tail (.ref C :: bm) := Over.cons ⟨bas.full, cs, ebm⟩ C
  obtain ⟨t1, ho⟩ := exo_at I.hok e
  obtain ⟨hp, g, d, t, os⟩ := s
  refine PySem.W.set_plain I.kIn (ox := { cls := .ref C, dict := none, data := .fields #[.ref t1, .none, .none, .none, .bool false, .none] }) (od := none) ⟨ho, rfl, rfl, trivial⟩ T.sets ?_
  refine first_field I.kIn ho isC ov bas.objd bas.lets rfl no fun h' tk' dx k dn dne hx hn => ?_
  have free : H dx = none := I.hok.fresh dn
  have apart : ∀ {b : Addr} {o : Obj}, hp.get? b = some o → b ≠ dx := fun {b o} z => Nat.ne_of_lt (Nat.lt_of_lt_of_le (Heap.lt_size z) dn)
  have else_ : ∀ {b : Addr}, H b = none → b ≠ a := fun {b} n z => by
    rw [z, e] at n
    cases n
  have un : Un X.fs [] H (upd (upd H dx (exd dx [(f, y)])) a (exo a C (some dx))) hp h' := {
    keep := fun b o z n _ _ => k b o (else_ n) z
    slot := fun b o z n _ _ => ⟨o.slots, k b o (else_ n) z⟩
    free := fun b o z n _ => by
      rw [upd_ne (else_ n), upd_ne (apart z)]
      exact n
    there := fun b o z _ => by
      by_cases hb : b = a
      · exact ⟨_, by rw [hb]; exact hx⟩
      · exact ⟨o, k b o hb z⟩
    tups := fun b xs z => by
      rw [upd_ne (at_ne e z exo_tup), upd_ne (ne_of_none z free)]
      exact z
    frzs := fun b o v z => by
      rw [upd_ne (at_ne e z exo_frz), upd_ne (ne_of_none z free)]
      exact z
    tbls := fun b ps z => ⟨#[], by
      rw [upd_ne (at_ne e z exo_tbl), upd_ne (ne_of_none z free), z]
      simp⟩ }
  refine out dx _ free dne (I.un (t' := tk') un fun b o z => ?_)
  by_cases hb : b = a
  · subst hb
    rw [upd_same] at z
    cases z
    exact exo_ok hx
  · rw [upd_ne hb] at z
    by_cases hd : b = dx
    · subst hd
      rw [upd_same] at z
      cases z
      exact exd_ok hn (relO_put (fs := []) ry fun g => True.intro)
    · rw [upd_ne hd] at z
      refine (I.hok b o z).stay (fun c v hc z2 => k c v ?_ z2) (fun c hc => ?_) (fun c xs hc => ?_)
      · rcases hc with hc | hc
        · rw [hc]
          exact hb
        · exact at_ne e hc exo_own
      · rw [upd_ne (at_ne e hc exo_own), upd_ne (ne_of_none hc free)]
        exact hc
      · rw [upd_ne (at_ne e hc exo_tup), upd_ne (ne_of_none hc free)]
        exact hc
theorem err_more (T : ErrC X.K C) (I : L2.Inv X pins σ H s) (e : H a = some (exo a C (some dx))) (ed : H dx = some (exd dx fs)) (few : fs.length ≤ 900) (no : PySem.W.findIn X.K (.ref C) f = some none) (ry : RelV y u)
    (out : ∀ s', L2.Inv X pins σ (upd H dx (exd dx ((f, y) :: fs))) s' → Q () s') : wpAny (model X.prog X.w) A (setAttr (.ref a) f u) Q E s := by
  obtain ⟨newId, tail, nm, q, N, bs, bm, sn, sub, ab, col, dd, k0, k1, k2, k3, k5, bas, atC, cs, ebm⟩ := T.is
  have isC : PySem.W.clsIn X.K C = some { name := nm, bases := bs, mro := .ref C :: bm, ns := N, qualname := q, hasDict := true, slotNames := sn, subclasses := sub, abstract := ab, collection := col, hasDel := false } := by
    unfold PySem.W.clsIn
    rw [atC]
  have ov : Over tail (.ref C :: bm) := Over.cons ⟨bas.full, cs, ebm⟩ C
  obtain ⟨t1, ho⟩ := exo_at I.hok e
  obtain ⟨mA, names, rel⟩ := exd_at I.hok ed
  have win := within_of rel
  obtain ⟨hp, g, d, t, os⟩ := s
  obtain ⟨oD, _, _, atD, _, _⟩ := names.count win
  refine PySem.W.set_plain I.kIn (ox := { cls := .ref C, dict := some dx, data := .fields #[.ref t1, .none, .none, .none, .bool false, .none] }) (od := some oD) ⟨ho, rfl, rfl, atD⟩ T.sets ?_
  refine more_field I.kIn ho names win (by rw [List.length_map]; omega) isC ov bas.objd bas.lets rfl no fun h' tk' k hn => ?_
  have stands : ∃ o, h'.get? dx = some o := by
    obtain ⟨o, _, _, z, _⟩ := hn
    exact ⟨o, z⟩
  exact out _ (I.write (t' := tk') (x := dx) (e := dx) (o := exd dx ((f, y) :: fs)) (by rw [ed]; exact True.intro) (.inl rfl) k stands (exd_ok hn (relO_put ry rel)))
end
/-- self.f = e in an error's __init__ -/
def tErrS (K : PySem.W.Frag) (f : Str) (to te : TE) : TS := fun D σ H => te σ H fun y H1 => to σ H1 fun x H2 => ∃ a C : Addr, x = .ref a ∧ ErrC K C ∧ PySem.W.findIn K (.ref C) f = some none ∧
  ((H2 a = some (exo a C none) ∧ ∀ dx, H2 dx = none → dx ≠ a → D.nx σ (upd (upd H2 dx (exd dx [(f, y)])) a (exo a C (some dx)))) ∨
    ∃ (dx : Addr) (fs : List (Str × V)), H2 a = some (exo a C (some dx)) ∧ H2 dx = some (exd dx fs) ∧ fs.length ≤ 900 ∧ D.nx σ (upd H2 dx (exd dx ((f, y) :: fs))))
section
variable {X : Cx} {o e : Expr} {es : List Expr} {to te : TE} {ta : TA} {f : Str} {p p' pos : Pos}
theorem ps_errS (ho : PE X o to) (he : PE X e te) (hs : swapsWith e (some (.Attribute o f p')) pos.line X.env = pure false := by rfl) : PS X (.Assign [.Attribute o f p'] e pos) (tErrS X.K f to te) := by
  refine ⟨fun pins s σ H D I h => ?_⟩
  refine plainObj_wpAny_Assign_Attribute (thn (he.run pins s σ H _ I h) ?_) hs
  rintro v s1 ⟨y, H1, I1, r1, q1⟩
  refine thn (ho.run pins s1 σ H1 _ I1 q1) ?_
  rintro u s2 ⟨x, H2, I2, r2, a, C, ex, T, no, q⟩
  subst ex
  obtain rfl : u = Value.ref a := r2
  rcases q with ⟨ea, q⟩ | ⟨dx, fs, ea, ed, few, q⟩
  · exact err_first T I2 ea no r1 fun dx s' n ne J => ⟨σ, _, J, q dx n ne⟩
  · exact err_more T I2 ea ed few no r1 fun s' J => ⟨σ, _, J, q⟩
/-- C(e, ..) of an error whose own __init__ keeps its promise -/
theorem pmk_err {CX : CXT} {x : Str} {C fI : Addr} {k : Nat} {fd : FuncData} {ps : List Str} {sp : Sp} {ds : List Value} {dvs : List V} (T : ErrC X.K C) (ini : PySem.W.findIn X.K (.ref C) "__init__" = some (some (.ref fI)))
    (isF : PySem.W.typeIn X.K (.ref fI) = some (.type "function")) (G : FnOk X.prog X.w X.K X.mg X.base CX k fI fd ps sp) (hr : Room (k + 1) X.A) (hb : Binds X.K fd ps ds) (hd : Vals dvs ds) (hx : Passes CX X (fun _ _ _ => False))
    (hg : Gl X x) (hm : X.mg x = some (.ref C)) (ha : PA X (e :: es) ta)
    (hdb : (x == ("__debug__" : Str)) = false := by decide) (he : starEach (e :: es) X.env = (false, eval e X.env) :: starEach es X.env := by rfl) (hpl : (backTo pos (starEach es X.env)).any (·.1) = false := by rfl) :
    PMk X (.Call (.Name x p) (e :: es) [] pos) (tMkO C sp dvs ta) := by
  intro pins s σ H Q I h
  obtain ⟨newId, tail, nm, q, N, bs, bm, sn, sub, ab, col, dd, k0, k1, k2, k3, k5, bas, atC, cs, ebm⟩ := T.is
  obtain ⟨B, initId, facts⟩ := bas.base
  have ov : Over tail bm := ⟨bas.full, cs, ebm⟩
  refine wpAny_Call_Name_kw (ld_glob I hg hm ?_ hdb)
  refine PySem.W.callWith_K (h₀ := X.base) I.ok.mod.kin T.kept (thn (ha.run pos pins s σ H _ I h) ?_) he hpl
  rintro us s1 ⟨vs, H1, I1, r1, few, q1⟩
  refine ⟨I1.kIn, ?_⟩
  show wpAny _ _ (call (.ref C) us) _ _ _
  obtain ⟨hp, g, dr, tk, os⟩ := s1
  have up : hp.objs.size ≤ hp.objs.size + 1 := Nat.le_succ _
  have want := q1 (hp.objs.size + 1) (I1.hok.fresh up)
  have old : ∀ b o, hp.get? b = some o → ((hp.push (PySem.W.kdv_tup us)).push (PySem.HandSPX.excO C hp.objs.size)).get? b = some o := fun b o z => Heap.get?_push_of_some _ (Heap.get?_push_of_some _ z)
  have made : ((hp.push (PySem.W.kdv_tup us)).push (PySem.HandSPX.excO C hp.objs.size)).get? (hp.objs.size + 1) = some (PySem.HandSPX.excO C hp.objs.size) := by heap_get
  have I2 : L2.Inv X pins σ (upd H1 (hp.objs.size + 1) (exo (hp.objs.size + 1) C none)) ⟨(hp.push (PySem.W.kdv_tup us)).push (PySem.HandSPX.excO C hp.objs.size), g, dr, tk, os⟩ :=
    I1.laid (t' := tk) (a := hp.objs.size + 1) (o := exo (hp.objs.size + 1) C none) (h' := (hp.push (PySem.W.kdv_tup us)).push (PySem.HandSPX.excO C hp.objs.size)) old up (exo_ok made)
  have rel : Vals (V.ref (hp.objs.size + 1) :: (vs ++ dvs)) (Value.ref (hp.objs.size + 1) :: (us ++ ds)) := .cons rfl (r1.append hd)
  have len : (Value.ref (hp.objs.size + 1) :: us ++ ds).length = ps.length := by
    have z := rel.length
    rw [G.len _ _ _ _ want] at z
    exact z.symm
  have short : us.length ≤ sizeLine := by
    rw [← Paired.length r1, sizeLine_eq]
    omega
  refine wpAny_call (PySem.HandSPX.call_own facts (fun Y => ov.has Y) (I1.kIn _ _ atC) (PySem.W.looks_findIn I1.kIn ini) (fun self => PySem.W.bind_fn I1.kIn self isF) short (codeAny_mono
    (G.run _ X.stack _ _ ⟨Value.ref (hp.objs.size + 1) :: us, []⟩ (Value.ref (hp.objs.size + 1) :: (us ++ ds)) _ _ (fun _ _ _ => False) (hr.make C us []) (I2.env0.make C us []) (hb _ (Value.ref (hp.objs.size + 1) :: us) I2.kIn len) rel want) ?_))
  intro r s' z
  cases r with
  | error er => exact hx pins σ _ _ er s' I2 z
  | ok fl =>
    cases fl with
    | next => exact False.elim z
    | brk => exact False.elim z
    | cont => exact False.elim z
    | ret u =>
      obtain ⟨v, H2, os2, bare2, un2, hok2, rv, ev, d, fs, ea, ed, hd1, q2⟩ := z
      subst ev
      obtain ⟨h2, g2, d2, t2, os'⟩ := s'
      exact ⟨rv, mk_end (raises_own T.exc T.typ) I1 up old un2 hok2 os2 bare2 ea ed hd1 q2⟩
end
end Par
namespace K49
open PySem PySem.Spec PyProof.Rows L2 Par
/-- what the module says of TooWide -/
structure WC (K : PySem.W.Frag) (mg : Str → Option Value) (C : Addr) : Prop where
  gC : mg "TooWide" = some (.ref C)
  err : ErrC K C
  no : PySem.W.findIn K (.ref C) "needed" = some none
section
variable {P : Program} {w : World} {K : PySem.W.Frag} {mg : Str → Option Value} {base : Heap}
def spWIni (C : Addr) : Sp := fun vs H Q _ => ∃ (a : Addr) (v : V), vs = [.ref a, v] ∧ H a = some (exo a C none) ∧
  ∀ dx, H dx = none → dx ≠ a → Q .non (upd (upd H dx (exd dx [("needed", v)])) a (exo a C (some dx)))
theorem scWIni : FnScope ["self", "needed"] ["self", "needed"] (defScope sWIni) := ⟨rfl, rfl, rfl, by decide +kernel, rfl, by decide +kernel, by decide +kernel⟩
theorem ok_wini {f C : Addr} {fd : FuncData} (F : Fun K "__init__" "TooWide.__init__" sWIni f fd) (T : WC K mg C) : FnOk P w K mg base CX0 2 f fd ["self", "needed"] (spWIni C) := by
  refine F.ok scWIni (fun vs H Q E h => ?_) (fun cdv A outer s H vs Q E hr h => ?_)
  · obtain ⟨a, v, rfl, _⟩ := h
    rfl
  · obtain ⟨a, v, rfl, ha, out⟩ := h
    refine ⟨_, pss_one (ps_errS (pv 0) (pv 1)), ?_⟩
    exact ⟨_, rfl, _, rfl, a, C, rfl, T.err, T.no, .inl ⟨ha, out⟩⟩
def HasW (P : Program) (w : World) (K : PySem.W.Frag) (mg : Str → Option Value) (base : Heap) (C : Addr) : Prop :=
  ∃ f fd, FnOk P w K mg base CX0 2 f fd ["self", "needed"] (spWIni C) ∧ PySem.W.findIn K (.ref C) "__init__" = some (some (.ref f)) ∧ PySem.W.typeIn K (.ref f) = some (.type "function") ∧ Binds K fd ["self", "needed"] []
/-- what raise TooWide(v) leads to -/
theorem made_wide {C : Addr} {H : Hp} {v : V} {W : Value → Option Addr → Hp → Prop} (h : ∀ d H', H d = none → Same H H' → H' d = some (.xd [("needed", v)]) → W (.ref C) (some d) H') :
    ∀ a, H a = none → spWIni C (.ref a :: ([v] ++ [])) (upd H a (exo a C none)) (fun u H2 => u = .non ∧ ∃ (d : Addr) (fs : List (Str × V)), H2 a = some (exo a C (some d)) ∧ H2 d = some (exd d fs) ∧ H d = none ∧
      W (.ref C) (some d) (upd (del H2 a) d (.xd fs))) (fun _ _ _ => False) := by
  intro a ha
  refine ⟨a, v, rfl, upd_same, fun dx hd ne => ?_⟩
  rw [upd_ne ne] at hd
  refine ⟨rfl, dx, [("needed", v)], upd_same, by rw [upd_ne ne, upd_same], hd, ?_⟩
  refine h dx _ hd (fun b o e => ?_) upd_same
  have n1 := ne_of_none e hd
  have n2 := ne_of_none e ha
  rw [upd_ne n1, del_ne n2, upd_ne n2, upd_ne n1, upd_ne n2]
  exact e
/-- cells that a flip may have -/
def OkF (ts hs : List Int) : Prop := (∀ k ∈ ts, 0 ≤ k ∧ k < 40) ∧ (∀ k ∈ hs, 1 ≤ k ∧ k < 40) ∧ ts.Nodup ∧ hs.Nodup ∧ ts.length ≤ 40 ∧ hs.length ≤ 40
def aftB (bs ts hs : List Int) : List Int := if decide (parB bs ts = 1) = true then flipB bs hs else bs
/-- check_fit -/
def spFit (CF CW : Addr) : Sp := fun vs H Q E => ∃ (f : Addr) (ts hs : List Int) (n : Int), vs = [.ref f, .int n] ∧ Fp CF H f ts hs ∧ OkF ts hs ∧
  (∀ M, Fits ts hs M → M ≤ n → ∀ H', Same H H' → Q .non H') ∧
  (∀ M, Fits ts hs M → n < M → ∀ d H', H d = none → Same H H' → H' d = some (.xd [("needed", .int M)]) → E (.ref CW) (some d) H')
theorem scFit : FnScope ["flip", "size"] ["flip", "size"] (defScope sFit) := ⟨rfl, rfl, rfl, by decide +kernel, rfl, by decide +kernel, by decide +kernel⟩
theorem ok_fit {f CF CW : Addr} {fd : FuncData} (F : Fun K "check_fit" "check_fit" sFit f fd) (TF : FC K mg CF) (TW : WC K mg CW) (DW : HasM P w K mg base CF "width" 2 ["self"] (spFWidth CF)) (DI : HasW P w K mg base CW) :
    FnOk P w K mg base (L2.CX P w) 4 f fd ["flip", "size"] (spFit CF CW) := by
  obtain ⟨fW, fdW, GW, mW, bW⟩ := DW
  obtain ⟨fI, fdI, GI, iI, tI, bI⟩ := DI
  refine F.okX scFit (fun vs H Q E h => ?_) (fun cdv A outer s H vs Q E hr h => ?_)
  · obtain ⟨g, ts, hs, n, rfl, _⟩ := h
    rfl
  · obtain ⟨g, ts, hs, n, rfl, hF, hK, good, bad⟩ := h
    obtain ⟨k1, k2, k3, k4, k5, k6⟩ := id hK
    have r1 : Room 2 _ := hr.mono (by decide)
    obtain ⟨dg, t1, t2, f1, f2, f3⟩ := id hF
    refine ⟨_, pss_one (ps_if (pt_cmpR op_gt (pe_meth0 (pv 0) TF.cl mW GW r1 bW .nil pass0) (pv 1) (nomark _)) (pss_one (ps_raise rfl (takes_of rfl rfl rfl rfl) (pmk_err TW.err iI tI GI hr bI .nil pass0 (by rfl) TW.gC (pa_cons (pe_meth0 (pv 0) TF.cl mW GW r1 bW .nil pass0) pa_nil)))) pss_nil), ?_⟩
    have n1 := no2 (v := V.ref t1) (u := V.ref t2) (m := "width") (by decide +kernel) (by decide +kernel)
    refine ⟨_, rfl, g, dg, _, rfl, f1, n1, g, ts, hs, rfl, hF, by omega, by omega, fun k hk => (k1 k hk).1, fun k hk => by have := k2 k hk; omega, fun M H1 s1 fit => ?_⟩
    refine ⟨_, rfl, M, n, rfl, rfl, _, rfl, ite2 (fun hgt => ?_) (fun hle => ?_)⟩
    · have gt : n < M := of_decide_eq_true hgt
      refine ⟨_, rfl, g, dg, _, rfl, s1 _ _ f1, n1, g, ts, hs, rfl, hF.same s1, by omega, by omega, fun k hk => (k1 k hk).1, fun k hk => by have := k2 k hk; omega, fun M2 H2 s2 fit2 => ?_⟩
      have e := fit.one fit2
      subst e
      refine ⟨(by show 1 ≤ 1000; decide), made_wide fun d H' hd sm ed => ?_⟩
      exact bad M fit gt d H' ((s1.trans s2).free hd) ((s1.trans s2).trans sm) ed
    · have le : M ≤ n := by
        have : ¬ (M > n) := fun z => hle (decide_eq_true z)
        omega
      exact good M fit le H1 s1
def HasFit (P : Program) (w : World) (K : PySem.W.Frag) (mg : Str → Option Value) (base : Heap) (CF CW : Addr) : Prop :=
  ∃ f fd, FnOk P w K mg base (L2.CX P w) 4 f fd ["flip", "size"] (spFit CF CW) ∧ mg "check_fit" = some (.ref f) ∧ PySem.W.keepIn K (.ref f) = true ∧ Binds K fd ["flip", "size"] []
theorem flip_nil (bs : List Int) : flipB bs [] = bs := by
  refine List.ext_getElem (by rw [flipB_len]) fun i h1 h2 => ?_
  unfold flipB
  simp [List.getElem?_eq_getElem h2]
end
end K49
namespace K49
open PySem PySem.Spec PyProof.Rows L2 Par
theorem up_cons {bs : List Int} (h : OkB bs) : ∃ t, bs = 1 :: t ∧ upF 0 bs = 0 :: upF 1 t := by
  cases bs with
  | nil => cases h.2.1
  | cons b t =>
    have e : b = 1 := by simpa using h.2.1
    subst e
    exact ⟨t, rfl, rfl⟩
theorem mk_all {bs : List Int} (h : OkB bs) : (mkB bs.length fun k => decide (k ∈ upF 0 bs)) = bs := by
  refine List.ext_getElem (mkB_len _ _) fun i h1 h2 => ?_
  have e : (mkB bs.length fun k => decide (k ∈ upF 0 bs))[i] = if (decide (i = 0) || decide ((i : Int) ∈ upF 0 bs)) = true then 1 else 0 := by
    unfold mkB
    simp
  rw [e]
  have g : bs.getD i 0 = bs[i] := by
    rw [List.getD_eq_getElem?_getD, List.getElem?_eq_getElem h2]
    rfl
  by_cases z : i = 0
  · subst z
    rw [decide_eq_true rfl, Bool.true_or, if_pos rfl, ← g, List.getD_eq_getElem?_getD, h.2.1]
    rfl
  · rw [decide_eq_false z, Bool.false_or]
    by_cases u : (i : Int) ∈ upF 0 bs
    · rw [decide_eq_true u, if_pos rfl, ← g]
      exact ((up_iff i h2).mp u).symm
    · rw [decide_eq_false u, if_neg Bool.false_ne_true, ← g]
      exact ((bit_at h h2).resolve_right fun q => u ((up_iff i h2).mpr q)).symm
theorem parB_perm {bs ns ms : List Int} (h : ns.Perm ms) : parB bs ns = parB bs ms := by
  unfold parB
  rw [perm_sum (h.map _)]
theorem flip_perm {bs ns ms : List Int} (h : ns.Perm ms) : flipB bs ns = flipB bs ms := by
  unfold flipB
  refine List.map_congr_left fun i _ => ?_
  have e : decide ((i : Int) ∈ ns) = decide ((i : Int) ∈ ms) := by
    by_cases z : (i : Int) ∈ ms
    · rw [decide_eq_true z, decide_eq_true (h.mem_iff.mpr z)]
    · rw [decide_eq_false z, decide_eq_false (fun q => z (h.mem_iff.mp q))]
  rw [e]
theorem aft_perm {bs ts hs ts' hs' : List Int} (h1 : ts'.Perm ts) (h2 : hs'.Perm hs) : aftB bs ts' hs' = aftB bs ts hs := by
  unfold aftB
  rw [parB_perm h1, flip_perm h2]
section
variable {P : Program} {w : World} {K : PySem.W.Frag} {mg : Str → Option Value} {base : Heap}
/-- a board of these bits -/
def spMade (C : Addr) : Sp := fun vs H Q _ => ∃ (a : Addr) (bs : List Int), vs = [.ref a] ∧ H a = some (.lst (bs.map V.int)) ∧ OkB bs ∧ ∀ q H', H q = none → Same H H' → Bd C H' q bs → Q (.ref q) H'
theorem scMade : FnScope ["_law_bits_here"] ["_law_bits_here"] (defScope sMade) := ⟨rfl, rfl, rfl, by decide +kernel, rfl, by decide +kernel, by decide +kernel⟩
theorem ok_made {f C : Addr} {fd : FuncData} (F : Fun K "_law_made" "_law_made" sMade f fd) (B : Bl mg) (T : BC K mg C) (DV : Has P w K mg base "_law_up" 2 ["_law_bits_here"] (spUpL K)) (DI : HasIni P w K mg base C) : FnOk P w K mg base CX0 8 f fd ["_law_bits_here"] (spMade C) := by
  obtain ⟨fV, fdV, GV, mV, kV, bV⟩ := DV
  obtain ⟨fI, fdI, GI, MI, kb2, _⟩ := DI
  refine F.ok scMade (fun vs H Q E h => ?_) (fun cdv A outer s H vs Q E hr h => ?_)
  · obtain ⟨a, bs, rfl, _⟩ := h
    rfl
  · obtain ⟨a, bs, rfl, ha, hO, out⟩ := h
    have r1 : Room 2 _ := hr.mono (by decide)
    have h40 := hO.2.2
    refine ⟨_, pss_one (ps_ret (pe_makeN (n := 1) (ks := ["up"]) (E := E0) MI GI hr (by rfl) T.mgC kb2 pass0 (pa_cons (pe_callB call_len_seq (by rfl) B.len PySem.boot_len (pa_cons (pv 0) pa_nil)) pa_nil) (pk_cons (pe_call GV r1 (by rfl) mV kV bV .nil pass0 (pa_cons (pv 0) pa_nil)) pk_nil))), ?_⟩
    refine ⟨_, rfl, a, _, rfl, .inl (SqL.of ha), ?_⟩
    rw [List.length_map]
    refine ⟨_, rfl, a, bs, rfl, ha, h40, fun u H1 hu s1 hu1 => ?_⟩
    have hl := upF_len 0 bs
    have h1 : 1 ≤ bs.length := by
      have := (List.getElem?_eq_some_iff.mp hO.2.1).1
      omega
    refine ⟨rfl, rfl, made_board (n := bs.length) (ns := upF 0 bs) (.inl (SqL.of hu1)) (by omega) h1 h40 (fun k hk => upF_in hk) (nodup_lt_ (upF_up 0 bs)) fun x H2 hx s2 hB => ?_⟩
    rw [mk_all hO] at hB
    exact out x H2 (s1.free hx) (s1.trans s2) hB
/-- two lists of cells that make a flip, in a tuple -/
def Pr (K : PySem.W.Frag) (H : Hp) (p : Addr) (ts hs : List Int) : Prop := ∃ t h, SqT K H p [.ref t, .ref h] ∧ H t = some (.lst (ts.map V.int)) ∧ H h = some (.lst (hs.map V.int))
theorem Pr.same {H H' : Hp} {p : Addr} {ts hs : List Int} (s : Same H H') (h : Pr K H p ts hs) : Pr K H' p ts hs := by
  obtain ⟨t, g, h1, h2, h3⟩ := h
  exact ⟨t, g, same_sqt s h1, s _ _ h2, s _ _ h3⟩
/-- Flip as a class whose __init__ keeps its promise -/
def HasFI (P : Program) (w : World) (K : PySem.W.Frag) (mg : Str → Option Value) (base : Heap) (C : Addr) : Prop :=
  ∃ f fd, FnOk P w K mg base CX0 6 f fd ["self", "tested", "toggled"] (spFInit K C) ∧ Mk K C f ∧ Binds K fd ["self", "tested", "toggled"] []
def spFlipOf (K : PySem.W.Frag) (C : Addr) : Sp := fun vs H Q _ => ∃ (p : Addr) (ts hs : List Int), vs = [.ref p] ∧ Pr K H p ts hs ∧ OkF ts hs ∧ (comm ts hs).length % 2 = 0 ∧
  ∀ q (ts' hs' : List Int) H', H q = none → Same H H' → ts'.Perm ts → hs'.Perm hs → Fp C H' q ts' hs' → Q (.ref q) H'
theorem scFlipOf : FnScope ["_law_pair_here"] ["_law_pair_here"] (defScope sFlipOf) := ⟨rfl, rfl, rfl, by decide +kernel, rfl, by decide +kernel, by decide +kernel⟩
theorem ok_flipOf {f C : Addr} {fd : FuncData} (F : Fun K "_law_flip_of" "_law_flip_of" sFlipOf f fd) (B : Bl mg) (T : FC K mg C) (DI : HasFI P w K mg base C) : FnOk P w K mg base CX0 8 f fd ["_law_pair_here"] (spFlipOf K C) := by
  obtain ⟨fI, fdI, GI, MI, bI⟩ := DI
  refine F.ok scFlipOf (fun vs H Q E h => ?_) (fun cdv A outer s H vs Q E hr h => ?_)
  · obtain ⟨p, ts, hs, rfl, _⟩ := h
    rfl
  · obtain ⟨p, ts, hs, rfl, ⟨t, g, h1, h2, h3⟩, ⟨k1, k2, k3, k4, k5, k6⟩, ev, out⟩ := h
    refine ⟨_, pss_one (ps_ret (pe_make (E := E0) MI GI hr (by rfl) T.mgC bI .nil pass0 (pa_cons (pe_callTy call_list_of (by rfl) B.list (by decide +kernel) (pa_cons (pe_ix ix_tup (pv 0) pe_int (fun _ _ => rfl)) pa_nil)) (pa_cons (pe_callTy call_list_of (by rfl) B.list (by decide +kernel) (pa_cons (pe_ix ix_tup (pv 0) pe_int (fun _ _ => rfl)) pa_nil)) pa_nil)))), ?_⟩
    refine ⟨_, rfl, p, _, 0, .ref t, rfl, rfl, h1, rfl, t, _, rfl, .inl (SqL.of h2), fun l1 hl1 => ?_⟩
    have s1 := same_new (o := .lst (ts.map V.int)) hl1
    refine ⟨_, rfl, p, _, 1, .ref g, rfl, rfl, same_sqt s1 h1, rfl, g, _, rfl, .inl (SqL.of (s1 _ _ h3)), fun l2 hl2 => ?_⟩
    have s2 := same_new (o := .lst (hs.map V.int)) hl2
    intro x dx hx hdx ne
    have s3 : Same (upd (upd H l1 (.lst (ts.map V.int))) l2 (.lst (hs.map V.int))) (upd (upd (upd (upd H l1 (.lst (ts.map V.int))) l2 (.lst (hs.map V.int))) dx (.own x)) x (.ins C dx [])) := fun z o e => by
      rw [upd_ne (ne_of_none e hx), upd_ne (ne_of_none e hdx)]
      exact e
    refine ⟨x, dx, l1, l2, ts, hs, rfl, upd_same, .inl (SqL.of (s3 _ _ (s2 _ _ upd_same))), .inl (SqL.of (s3 _ _ upd_same)), by omega, by omega, k1, k2, k3, k4, ev, fun H' ts' hs' bt p1 p2 _ _ fp => ⟨rfl, ?_⟩⟩
    have s12 := s1.trans s2
    refine out x ts' hs' H' (s12.free hx) (fun z o e => ?_) p1 p2 fp
    have e2 := s12 z o e
    exact bt z o (ne_of_none e2 hx) (s3 _ _ e2)
/-- the bits after a flip -/
def spAfter (K : PySem.W.Frag) : Sp := fun vs H Q _ => ∃ (a p : Addr) (bs ts hs : List Int), vs = [.ref a, .ref p] ∧ H a = some (.lst (bs.map V.int)) ∧ bs.length ≤ 40 ∧ Pr K H p ts hs ∧ ts.length ≤ 500 ∧ (∀ k ∈ ts, 0 ≤ k ∧ k < bs.length) ∧
  ∀ q H', H q = none → Same H H' → H' q = some (.lst ((aftB bs ts hs).map V.int)) → Q (.ref q) H'
abbrev nAfter : List Str := ["_law_bits_here", "_law_pair_here", "_law_spot", "_law_bit"]
theorem scAfter : FnScope nAfter ["_law_bits_here", "_law_pair_here"] (defScope sAfter) := ⟨rfl, rfl, rfl, by decide +kernel, rfl, by decide +kernel, by decide +kernel⟩
theorem ok_after {f : Addr} {fd : FuncData} (F : Fun K "_law_after" "_law_after" sAfter f fd) (B : Bl mg) (DP : Has P w K mg base "_law_parity" 2 ["_law_bits_here", "_law_spots_here"] (spParity K)) : FnOk P w K mg base CX0 3 f fd ["_law_bits_here", "_law_pair_here"] (spAfter K) := by
  obtain ⟨fP, fdP, GP, mP, kP, bP⟩ := DP
  refine F.ok scAfter (fun vs H Q E h => ?_) (fun cdv A outer s H vs Q E hr h => ?_)
  · obtain ⟨a, p, bs, ts, hs, rfl, _⟩ := h
    rfl
  · obtain ⟨a, p, bs, ts, hs, rfl, ha, h40, ⟨t, g, h1, h2, h3⟩, l1, hin, out⟩ := h
    refine ⟨_, pss_cons (ps_if (pt_cmpR op_eq (pe_call GP hr (by rfl) mP kP bP .nil pass0 (pa_cons (pv 0) (pa_cons (pe_ix ix_tup (pv 1) pe_int (fun _ _ => rfl)) pa_nil))) pe_int (nomark _)) (pss_one (ps_ret (pe_callTy call_list_of (by rfl) B.list (by decide +kernel) (pa_cons (pv 0) pa_nil)))) pss_nil)
      (pss_one (ps_ret (pe_lc (own := [("_law_spot", 2), ("_law_bit", 3)]) (g := gTup K 2 (gCons (gName 2) (gCons (gName 3) gNil))) (te := tIf (tTest (tOp (rIn K false) (tVar 2) (tOp (rIxT K) (tVar 1) (tC (.int 1))))) (tOp (rI0 fun i j => .int (i - j)) (tC (.int 1)) (tVar 3)) (tVar 3)) rfl scAfter.nd (pi_enum (by rfl) B.enumerate (pa_cons (pv 0) pa_nil)) (blkOk_by (own := [("_law_spot", 2), ("_law_bit", 3)]) (N := nAfter) (sc := defScope sAfter) (by decide +kernel))
        (fun _ _ _ _ _ => by exact pg_tup rfl (pgs_cons (pg_name (i := 2) scAfter.nd rfl (Or.inl rfl)) (pgs_cons (pg_name (i := 3) scAfter.nd rfl (Or.inl rfl)) pgs_nil))) (fun _ _ _ _ _ => pts_nil)
        (fun _ _ _ _ _ => by exact pe_ifExp (pt_cmpR op_in_seq (pv 2) (pe_ix ix_tup (pv 1) pe_int (fun _ _ => rfl)) (by rfl)) (pe_op op_sub pe_int (pv 3)) (pv 3))))), ?_⟩
    refine ⟨_, rfl, _, rfl, p, _, 0, .ref t, rfl, rfl, h1, rfl, a, t, bs, ts, rfl, ha, h2, l1, hin, fun H1 s1 => ⟨rfl, _, rfl, ite2 (fun hz => ?_) (fun hz => ?_)⟩⟩
    · have z : parB bs ts = 0 := by
        have q := of_decide_eq_true hz
        injection q
      refine ⟨_, rfl, a, _, rfl, .inl (SqL.of (s1 _ _ ha)), fun l hl => ?_⟩
      refine out l _ (s1.free hl) (s1.trans (same_new hl)) ?_
      have e : aftB bs ts hs = bs := by
        unfold aftB
        rw [decide_eq_false (by rw [z]; decide), if_neg Bool.false_ne_true]
      rw [e]
      exact upd_same
    · have z : parB bs ts = 1 := by
        have n0 : ¬ parB bs ts = 0 := fun q => hz (decide_eq_true (by rw [q]))
        have b0 := Int.emod_nonneg ((ts.map fun k => bs.getD k.toNat 0).sum) (b := 2) (by decide)
        have b1 := Int.emod_lt_of_pos ((ts.map fun k => bs.getD k.toNat 0).sum) (b := 2) (by decide)
        have e : parB bs ts = (ts.map fun k => bs.getD k.toNat 0).sum % 2 := rfl
        omega
      have e : aftB bs ts hs = flipB bs hs := by
        unfold aftB
        rw [decide_eq_true z, if_pos rfl]
      rw [e] at out
      refine ⟨_, rfl, a, _, rfl, SqL.of (s1 _ _ ha), fun D hD => ?_⟩
      refine lc_it walk_enum (fun i H' => Same H1 H' ∧ H' D = some (.lst (((List.range i).map fun (i : Nat) => if decide ((i : Int) ∈ hs) = true then 1 - bs.getD i 0 else bs.getD i 0).map V.int)))
        ⟨same_new hD, upd_same⟩ (fun i H' _ h => SqL.of (h.1 _ _ (s1 _ _ ha))) ?_ ?_
      · rintro i x H4 H5 hi ⟨s4, hD4⟩ ⟨T1, x1, y1, rfl, hT, rfl, ex, ey⟩
        have hi2 : i < bs.length := by rw [List.length_map] at hi; exact hi
        have ey2 : y1 = .int (bs.getD i 0) := by
          have ey' : (bs.map V.int)[i]? = some y1 := ey
          rw [List.getElem?_map, List.getElem?_eq_getElem hi2] at ey'
          rw [List.getD_eq_getElem?_getD, List.getElem?_eq_getElem hi2]
          exact (Option.some.inj ey').symm
        have ex2 : x1 = .int (i : Nat) := (Option.some.inj ex).symm
        subst ey2 ex2
        have s5 := s4.trans (same_new (o := .tup [.int (i : Nat), .int (bs.getD i 0)]) hT)
        have hD5 := (same_new (o := .tup [.int (i : Nat), .int (bs.getD i 0)]) hT) _ _ hD4
        have step : ∀ z : Int, (if decide ((i : Int) ∈ hs) = true then 1 - bs.getD i 0 else bs.getD i 0) = z → ∃ acc, (upd H4 T1 (.tup [.int (i : Nat), .int (bs.getD i 0)])) D = some (.lst acc) ∧ acc.length < sizeLine ∧
            Same H1 (upd (upd H4 T1 (.tup [.int (i : Nat), .int (bs.getD i 0)])) D (.lst (acc ++ [V.int z]))) ∧
            (upd (upd H4 T1 (.tup [.int (i : Nat), .int (bs.getD i 0)])) D (.lst (acc ++ [V.int z]))) D = some (.lst (((List.range (i + 1)).map fun (i : Nat) => if decide ((i : Int) ∈ hs) = true then 1 - bs.getD i 0 else bs.getD i 0).map V.int)) := by
          intro z hz
          refine ⟨_, hD5, by rw [List.length_map, List.length_map, List.length_range]; exact small1000 (by omega), ?_, ?_⟩
          · intro y o e
            rw [upd_ne (ne_of_none e hD)]
            exact s5 y o e
          · rw [upd_same, List.range_succ, List.map_append, List.map_append]
            show some (HO.lst (_ ++ [V.int z])) = some (HO.lst (_ ++ [V.int (if decide ((i : Int) ∈ hs) = true then 1 - bs.getD i 0 else bs.getD i 0)]))
            rw [hz]
        have s15 := s1.trans s5
        refine ⟨T1, _, rfl, SqT.of upd_same, rfl, _, _, rfl, _, _, rfl, rfl, rfl, yesT ?_⟩
        refine ⟨_, rfl, _, rfl, p, _, 1, .ref g, rfl, rfl, same_sqt s15 h1, rfl, g, _, rfl, .inl (SqL.of (s15 _ _ h3)), rfl, flat_ints _, _, rfl, ?_⟩
        show if inV (V.int ((i : Nat) : Int)) (hs.map V.int) = true then _ else _
        rw [in_ints]
        by_cases hm : ((i : Nat) : Int) ∈ hs
        · rw [decide_eq_true hm]
          exact iteT ⟨_, rfl, 1, bs.getD i 0, rfl, rfl, step _ (by rw [decide_eq_true hm]; rfl)⟩
        · rw [decide_eq_false hm]
          exact iteF ⟨_, rfl, step _ (by rw [decide_eq_false hm]; rfl)⟩
      · rintro H4 ⟨s4, hD4⟩
        rw [List.length_map] at hD4
        exact out D H4 (s1.free hD) (s1.trans s4) hD4
end
end K49
namespace K49
open PySem PySem.Spec PyProof.Rows L2 Par
theorem pot_ne {H : Hp} {p q : Addr} (h : PotAt H p) (hq : H q = none) : q ≠ p := fun z => by
  obtain ⟨_, _, y, _⟩ := h
  rw [← z, hq] at y
  cases y
theorem filter_one {l : List Int} {g : Int} (hn : l.Nodup) (hg : g ∈ l) : (l.filter fun k => decide (¬ k = g)).length + 1 = l.length := by
  induction l with
  | nil => cases hg
  | cons a l ih =>
    obtain ⟨h1, h2⟩ := List.nodup_cons.mp hn
    by_cases e : a = g
    · subst e
      have same : (l.filter fun k => decide (¬ k = a)) = l := List.filter_eq_self.mpr fun k hk => decide_eq_true fun z => h1 (z ▸ hk)
      rw [List.filter_cons_of_neg (by simp), same, List.length_cons]
    · have hg2 : g ∈ l := by
        rcases List.mem_cons.mp hg with z | z
        · exact absurd z.symm e
        · exact z
      rw [List.filter_cons_of_pos (by simp [e]), List.length_cons, List.length_cons, ih h2 hg2]
theorem comm_left {ts hs : List Int} (g : Int) : comm (ts.filter fun k => decide (¬ k = g)) hs = (comm ts hs).filter fun k => decide (¬ k = g) := by
  unfold comm
  rw [List.filter_filter, List.filter_filter]
  congr 1
  funext k
  exact Bool.and_comm _ _
theorem comm_right {ts hs : List Int} (g : Int) : comm ts (hs.filter fun k => decide (¬ k = g)) = (comm ts hs).filter fun k => decide (¬ k = g) := by
  unfold comm
  rw [List.filter_filter]
  congr 1
  funext k
  by_cases z : k = g
  · subst z
    simp
  · simp [List.mem_filter, z]
theorem filt_step {l : List Int} {f : Int → Bool} {i : Nat} {k : Int} (h : l[i]? = some k) : (l.take (i + 1)).filter f = (l.take i).filter f ++ (if f k = true then [k] else []) := by
  rw [List.take_succ, h, List.filter_append]
  congr 1
  by_cases z : f k = true
  · simp [z]
  · simp [z]
section
variable {P : Program} {w : World} {K : PySem.W.Frag} {mg : Str → Option Value} {base : Heap}
/-- a tuple of two lists, none of them at p -/
def PrP (p : Addr) (H : Hp) (q : Addr) (ts hs : List Int) : Prop := ∃ t h, t ≠ p ∧ h ≠ p ∧ H q = some (.tup [.ref t, .ref h]) ∧ H t = some (.lst (ts.map V.int)) ∧ H h = some (.lst (hs.map V.int))
theorem PrP.pr {p q : Addr} {H : Hp} {ts hs : List Int} (h : PrP p H q ts hs) : Pr K H q ts hs := by
  obtain ⟨t, g, _, _, h1, h2, h3⟩ := h
  exact ⟨t, g, SqT.of h1, h2, h3⟩
theorem PrP.same {p q : Addr} {H H' : Hp} {ts hs : List Int} (s : Same H H') (h : PrP p H q ts hs) : PrP p H' q ts hs := by
  obtain ⟨t, g, n1, n2, h1, h2, h3⟩ := h
  exact ⟨t, g, n1, n2, s _ _ h1, s _ _ h2, s _ _ h3⟩
theorem PrP.but {p q : Addr} {H H' : Hp} {ts hs : List Int} (hp : PotAt H p) (s : But p H H') (h : PrP p H q ts hs) : PrP p H' q ts hs := by
  obtain ⟨t, g, n1, n2, h1, h2, h3⟩ := h
  have nq : q ≠ p := fun z => by
    obtain ⟨_, _, e, _⟩ := hp
    rw [z, e] at h1
    cases h1
  exact ⟨t, g, n1, n2, s _ _ nq h1, s _ _ n1 h2, s _ _ n2 h3⟩
/-- the same, both lists new since H0 -/
def PrF (H0 : Hp) (p : Addr) (H : Hp) (q : Addr) (ts hs : List Int) : Prop := ∃ t h, H0 t = none ∧ H0 h = none ∧ t ≠ p ∧ h ≠ p ∧ H q = some (.tup [.ref t, .ref h]) ∧ H t = some (.lst (ts.map V.int)) ∧ H h = some (.lst (hs.map V.int))
theorem PrF.prp {H0 : Hp} {p q : Addr} {H : Hp} {ts hs : List Int} (h : PrF H0 p H q ts hs) : PrP p H q ts hs := by
  obtain ⟨t, g, _, _, r⟩ := h
  exact ⟨t, g, r⟩
/-- two lists that make a flip of this width -/
def spPairL : Sp := fun vs H Q _ => ∃ (p : Addr) (m : Nat), vs = [.ref p, .int (m : Nat)] ∧ PotAt H p ∧ 1 ≤ m ∧ m ≤ 40 ∧
  ∀ q (ts hs : List Int) H', H q = none → But p H H' → PotAt H' p → PrF H p H' q ts hs → OkF ts hs → (∀ k ∈ ts, k < m) → (∀ k ∈ hs, k < m) → (comm ts hs).length % 2 = 0 → ts.Pairwise (· < ·) → hs.Pairwise (· < ·) → Q (.ref q) H'
abbrev nPair : List Str := ["_law_pot_here", "_law_width_here", "_law_tests", "_law_hits", "_law_both", "_law_gone", "_law_spot"]
theorem scPair : FnScope nPair ["_law_pot_here", "_law_width_here"] (defScope sPair) := ⟨rfl, rfl, rfl, by decide +kernel, rfl, by decide +kernel, by decide +kernel⟩
theorem ok_pair {f : Addr} {fd : FuncData} (F : Fun K "_law_pair" "_law_pair" sPair f fd) (B : Bl mg) (DD : Has P w K mg base "_law_draw" 2 ["_law_pot_here", "_law_many"] spDraw) (DS : Has P w K mg base "_law_spots" 3 ["_law_pot_here", "_law_least", "_law_width_here"] spSpots) :
    FnOk P w K mg base CX0 4 f fd ["_law_pot_here", "_law_width_here"] spPairL := by
  obtain ⟨fD, fdD, GD, mD, kD, bD⟩ := DD
  obtain ⟨fS, fdS, GS, mS, kS, bS⟩ := DS
  refine F.ok scPair (fun vs H Q E h => ?_) (fun cdv A outer s H vs Q E hr h => ?_)
  · obtain ⟨p, m, rfl, _⟩ := h
    rfl
  · obtain ⟨p, m, rfl, hp, m1, m2, out⟩ := h
    have r1 : Room 2 _ := hr.mono (by decide)
    refine ⟨_, pss_cons (ps_asg (pe_tup (pa_cons (pe_call GS hr (by rfl) mS kS bS .nil pass0 (pa_cons (pv 0) (pa_cons pe_int (pa_cons (pv 1) pa_nil)))) (pa_cons (pe_call GS hr (by rfl) mS kS bS .nil pass0 (pa_cons (pv 0) (pa_cons pe_int (pa_cons (pv 1) pa_nil)))) pa_nil))) (pg_tup rfl (pgs_cons (pg_name (i := 2) scPair.nd rfl (Or.inl rfl)) (pgs_cons (pg_name (i := 3) scPair.nd rfl (Or.inr rfl)) pgs_nil))))
      (pss_cons (ps_setLc (i := 4) (own := [("_law_spot", 6)]) (g := gName 6) (tt := tTest (tOp (rIn K false) (tVar 6) (tVar 3))) rfl scPair.nd rfl rfl (sw_true rfl rfl rfl (by decide +kernel)) (pi_list (pv 2)) (blkOk_by (own := [("_law_spot", 6)]) (N := nPair) (sc := defScope sPair) (by decide +kernel))
          (fun _ _ _ _ _ => pg_name (i := 6) scPair.nd rfl (Or.inl rfl)) (fun _ _ _ _ _ => by exact pts_one (pt_cmpR op_in_seq (pv 6) (pv 3) (by rfl))) (fun _ _ _ _ _ => pv 6))
      (pss_cons (ps_if (pt_cmpR op_eq (pe_op op_mod (pe_callB call_len_seq (by rfl) B.len PySem.boot_len (pa_cons (pv 4) pa_nil)) pe_int) pe_int (nomark _))
        (pss_cons (ps_set (i := 5) scPair.nd rfl (Or.inr rfl) (pe_ix ix_list (pv 4) (pe_call GD r1 (by rfl) mD kD bD .nil pass0 (pa_cons (pv 0) (pa_cons (pe_callB call_len_seq (by rfl) B.len PySem.boot_len (pa_cons (pv 4) pa_nil)) pa_nil))) (fun _ _ => rfl)))
        (pss_one (ps_if (pt_cmpR op_eq (pe_call GD r1 (by rfl) mD kD bD .nil pass0 (pa_cons (pv 0) (pa_cons pe_int pa_nil))) pe_int (nomark _))
          (pss_one (ps_setLc (i := 2) (own := [("_law_spot", 6)]) (g := gName 6) rfl scPair.nd rfl rfl (sw_true rfl rfl rfl (by decide +kernel)) (pi_list (pv 2)) (blkOk_by (own := [("_law_spot", 6)]) (N := nPair) (sc := defScope sPair) (by decide +kernel))
            (fun _ _ _ _ _ => pg_name (i := 6) scPair.nd rfl (Or.inl rfl)) (fun _ _ _ _ _ => pts_one (pt_cmpR op_ne (pv 6) (pv 5) (nomark _))) (fun _ _ _ _ _ => pv 6)))
          (pss_one (ps_set (i := 3) scPair.nd rfl (Or.inr rfl) (pe_lc (own := [("_law_spot", 6)]) (g := gName 6) rfl scPair.nd (pi_list (pv 3)) (blkOk_by (own := [("_law_spot", 6)]) (N := nPair) (sc := defScope sPair) (by decide +kernel))
            (fun _ _ _ _ _ => pg_name (i := 6) scPair.nd rfl (Or.inl rfl)) (fun _ _ _ _ _ => pts_one (pt_cmpR op_ne (pv 6) (pv 5) (nomark _))) (fun _ _ _ _ _ => pv 6))))))) pss_nil)
      (pss_one (ps_ret (pe_tup (pa_cons (pv 2) (pa_cons (pv 3) pa_nil))))))), ?_⟩
    refine ⟨_, rfl, _, rfl, p, 0, (m : Nat), rfl, hp, by decide, by decide, by omega, by omega, fun a1 ts H1 ha1 w1 i1 b1 pot1 e1 => ?_⟩
    refine ⟨_, rfl, _, rfl, p, 1, (m : Nat), rfl, pot1, by decide, by decide, by omega, by omega, fun a2 hs H2 ha2 w2 i2 b2 pot2 e2 => ?_⟩
    have na1 := pot_ne hp ha1
    have na2 := pot_ne pot1 ha2
    have nd1 := nodup_lt_ w1
    have nd2 := nodup_lt_ w2
    have len1 : ts.length ≤ 40 := cells_few nd1 fun k hk => by
      have := i1 k hk
      exact ⟨by omega, by omega⟩
    have len2 : hs.length ≤ 40 := cells_few nd2 fun k hk => by
      have := i2 k hk
      exact ⟨by omega, by omega⟩
    have fr2 : H a2 = none := b1.free hp ha2 pot1
    have b02 : But p H H2 := b1.trans b2
    have e12 : H2 a1 = some (.lst (ts.map V.int)) := b2 a1 _ na1 e1
    refine ⟨(by show 2 ≤ sizeLine; decide), fun T hT => ⟨T, _, rfl, SqT.of upd_same, rfl, _, _, rfl, _, _, rfl, rfl, ?_⟩⟩
    have s3 := same_new (o := .tup [.ref a1, .ref a2]) hT
    -- both
    refine ⟨_, rfl, a1, rfl, ⟨_, SqL.of (s3 _ _ e12)⟩, fun D hD => ?_⟩
    have hDH2 : H2 D = none := s3.free hD
    refine lc_list (K := K) (a := a1) (xs := ts.map V.int) (fun i H' => Same (upd H2 T (.tup [.ref a1, .ref a2])) H' ∧ H' D = some (.lst (((ts.take i).filter fun k => decide (k ∈ hs)).map V.int))) ⟨same_new hD, upd_same⟩ (fun i H' _ h => SqL.of (h.1 _ _ (s3 _ _ e12))) ?_ ?_
    · rintro i x H4 hx ⟨s4, hD4⟩
      rw [List.getElem?_map] at hx
      obtain ⟨k, hk, rfl⟩ : ∃ k, ts[i]? = some k ∧ x = V.int k := by
        cases e : ts[i]? with
        | none => rw [e] at hx; cases hx
        | some k => rw [e] at hx; exact ⟨k, rfl, (Option.some.inj hx).symm⟩
      have st := filt_step (f := fun k => decide (k ∈ hs)) hk
      refine ⟨rfl, ?_⟩
      refine ⟨_, rfl, _, rfl, a2, _, rfl, .inl (SqL.of (s4 _ _ (s3 _ _ e2))), rfl, flat_ints _, _, rfl, ?_⟩
      show if inV (V.int k) (hs.map V.int) = true then _ else _
      rw [in_ints]
      by_cases hm : k ∈ hs
      · rw [decide_eq_true hm] at st ⊢
        refine iteT ⟨_, rfl, _, hD4, ?_, ?_, ?_⟩
        · have := List.length_filter_le (fun k => decide (k ∈ hs)) (ts.take i)
          rw [List.length_take] at this
          rw [List.length_map]
          exact small1000 (by omega)
        · intro y o e
          rw [upd_ne (ne_of_none e hD)]
          exact s4 y o e
        · rw [upd_same, st, if_pos rfl, List.map_append]
          rfl
      · rw [decide_eq_false hm] at st ⊢
        refine iteF ⟨s4, ?_⟩
        rw [st, if_neg Bool.false_ne_true, List.append_nil]
        exact hD4
    rintro H4 ⟨s4, hD4⟩
    rw [List.length_map, List.take_length] at hD4
    have hD4' : H4 D = some (.lst ((comm ts hs).map V.int)) := hD4
    have s24 : Same H2 H4 := s3.trans s4
    have nD := pot_ne pot2 hDH2
    have pot4 := pot2.same s24
    have c1 : H4 a1 = some (.lst (ts.map V.int)) := s24 _ _ e12
    have c2 : H4 a2 = some (.lst (hs.map V.int)) := s24 _ _ e2
    have ndc : (comm ts hs).Nodup := nd1.sublist List.filter_sublist
    have lenc : (comm ts hs).length ≤ ts.length := List.length_filter_le ..
    -- what is returned
    have fin : ∀ (ts' hs' : List Int) (x1 x2 : Addr) (H6 : Hp), But p H H6 → PotAt H6 p → H x1 = none → H x2 = none → x1 ≠ p → x2 ≠ p → H6 x1 = some (.lst (ts'.map V.int)) → H6 x2 = some (.lst (hs'.map V.int)) → (∀ k ∈ ts', k ∈ ts) → (∀ k ∈ hs', k ∈ hs) →
        ts'.Pairwise (· < ·) → hs'.Pairwise (· < ·) → ts'.length ≤ 40 → hs'.length ≤ 40 → (comm ts' hs').length % 2 = 0 → ∀ q, H6 q = none → Q (.ref q) (upd H6 q (.tup [.ref x1, .ref x2])) := by
      intro ts' hs' x1 x2 H6 b6 pot6 o1 o2 n1 n2 g1 g2 m1' m2' v1 v2 l1 l2 ev q hq
      have d1 := nodup_lt_ v1
      have d2 := nodup_lt_ v2
      have sq := same_new (o := .tup [.ref x1, .ref x2]) hq
      refine out q ts' hs' _ (b6.free hp hq pot6) (b6.trans (But.same sq)) (pot6.same sq) ⟨x1, x2, o1, o2, n1, n2, upd_same, sq _ _ g1, sq _ _ g2⟩ ⟨fun k hk => ?_, fun k hk => ?_, d1, d2, l1, l2⟩ (fun k hk => ?_) (fun k hk => ?_) ev v1 v2
      · have := i1 k (m1' k hk)
        omega
      · have := i2 k (m2' k hk)
        omega
      · exact (i1 k (m1' k hk)).2
      · exact (i2 k (m2' k hk)).2
    have b04 : But p H H4 := b02.trans (But.same s24)
    refine ⟨_, rfl, D, _, rfl, .inl (SqL.of hD4'), _, _, rfl, rfl, (by show (0 : Int) < 2; decide), rfl, _, rfl, ite2 (fun hodd => ?_) (fun heven => ?_)⟩
    · have od : (comm ts hs).length % 2 = 1 := by
        have z := of_decide_eq_true hodd
        rw [List.length_map] at z
        have z2 : (((comm ts hs).length : Nat) : Int) % 2 = 1 := by injection z
        omega
      refine ⟨_, rfl, _, rfl, _, rfl, D, _, rfl, .inl (SqL.of hD4'), p, _, rfl, pot4, ?_, ?_, fun d H5 d0 d1 b5 pot5 => ?_⟩
      · rw [List.length_map]
        omega
      · rw [List.length_map]
        omega
      rw [List.length_map] at d1
      have dl : d.toNat < (comm ts hs).length := by omega
      obtain ⟨gone, eg⟩ : ∃ gone, (comm ts hs)[d.toNat]? = some gone := ⟨_, List.getElem?_eq_getElem dl⟩
      have gm : gone ∈ comm ts hs := List.mem_of_getElem? eg
      have hat : atI ((comm ts hs).map V.int) d = some (.int gone) := by
        have z : atI ((comm ts hs).map V.int) ((d.toNat : Nat) : Int) = some (.int gone) := atI_nat (by rw [List.getElem?_map, eg]; rfl)
        rwa [Int.toNat_of_nonneg d0] at z
      refine ⟨D, _, d, .int gone, rfl, rfl, SqL.of (b5 D _ nD hD4'), hat, ?_⟩
      refine ⟨_, rfl, p, 2, rfl, pot5, by decide, by decide, fun c H6 c0 c1' b6 pot6 => ⟨rfl, _, rfl, ?_⟩⟩
      have b46 : But p H4 H6 := b5.trans b6
      have g1 : H6 a1 = some (.lst (ts.map V.int)) := b46 a1 _ na1 c1
      have g2 : H6 a2 = some (.lst (hs.map V.int)) := b46 a2 _ na2 c2
      have b06 : But p H H6 := b04.trans b46
      have one := filter_one ndc gm
      refine ite2 (fun _ => ?_) (fun _ => ?_)
      · skip
        refine ⟨_, rfl, a1, rfl, ⟨_, SqL.of g1⟩, fun D2 hD2 => ?_⟩
        have hD2H : H6 D2 = none := hD2
        have nD2 := pot_ne pot6 hD2
        refine lc_list (K := K) (a := a1) (xs := ts.map V.int) (fun i H' => Same H6 H' ∧ H' D2 = some (.lst (((ts.take i).filter fun k => decide (¬ k = gone)).map V.int))) ⟨same_new hD2, upd_same⟩ (fun i H' _ h => SqL.of (h.1 _ _ g1)) ?_ ?_
        · rintro i x H7 hx ⟨s7, hD7⟩
          rw [List.getElem?_map] at hx
          obtain ⟨k, hk, rfl⟩ : ∃ k, ts[i]? = some k ∧ x = V.int k := by
            cases e : ts[i]? with
            | none => rw [e] at hx; cases hx
            | some k => rw [e] at hx; exact ⟨k, rfl, (Option.some.inj hx).symm⟩
          have st := filt_step (f := fun k => decide (¬ k = gone)) hk
          refine ⟨rfl, ?_⟩
          refine ⟨_, rfl, _, rfl, rfl, _, rfl, ?_⟩
          by_cases hm : k = gone
          · subst hm
            refine iteNS rfl ⟨s7, ?_⟩
            rw [st, if_neg (by simp), List.append_nil]
            exact hD7
          · have hv : ¬ V.int k = V.int gone := fun z => hm (by injection z)
            rw [decide_eq_false hv]
            refine iteT ⟨_, rfl, _, hD7, ?_, ?_, ?_⟩
            · have := List.length_filter_le (fun k => decide (¬ k = gone)) (ts.take i)
              rw [List.length_take] at this
              rw [List.length_map]
              exact small1000 (by omega)
            · intro y o e
              rw [upd_ne (ne_of_none e hD2)]
              exact s7 y o e
            · rw [upd_same, st, if_pos (by simp [hm]), List.map_append]
              rfl
        rintro H7 ⟨s7, hD7⟩
        rw [List.length_map, List.take_length] at hD7
        refine ⟨_, rfl, _, rfl, (by show 2 ≤ sizeLine; decide), fin (ts.filter fun k => decide (¬ k = gone)) hs D2 a2 H7 (b06.trans (But.same s7)) (pot6.same s7) (b06.free hp hD2 pot6) fr2 nD2 na2 hD7 (s7 _ _ g2) (fun k hk => (List.mem_filter.mp hk).1) (fun _ h => h) (w1.sublist List.filter_sublist) w2 (Nat.le_trans (List.length_filter_le ..) len1) len2 ?_⟩
        rw [comm_left]
        omega
      · skip
        refine ⟨_, rfl, a2, rfl, ⟨_, SqL.of g2⟩, fun D2 hD2 => ?_⟩
        have hD2H : H6 D2 = none := hD2
        have nD2 := pot_ne pot6 hD2
        refine lc_list (K := K) (a := a2) (xs := hs.map V.int) (fun i H' => Same H6 H' ∧ H' D2 = some (.lst (((hs.take i).filter fun k => decide (¬ k = gone)).map V.int))) ⟨same_new hD2, upd_same⟩ (fun i H' _ h => SqL.of (h.1 _ _ g2)) ?_ ?_
        · rintro i x H7 hx ⟨s7, hD7⟩
          rw [List.getElem?_map] at hx
          obtain ⟨k, hk, rfl⟩ : ∃ k, hs[i]? = some k ∧ x = V.int k := by
            cases e : hs[i]? with
            | none => rw [e] at hx; cases hx
            | some k => rw [e] at hx; exact ⟨k, rfl, (Option.some.inj hx).symm⟩
          have st := filt_step (f := fun k => decide (¬ k = gone)) hk
          refine ⟨rfl, ?_⟩
          refine ⟨_, rfl, _, rfl, rfl, _, rfl, ?_⟩
          by_cases hm : k = gone
          · subst hm
            refine iteNS rfl ⟨s7, ?_⟩
            rw [st, if_neg (by simp), List.append_nil]
            exact hD7
          · have hv : ¬ V.int k = V.int gone := fun z => hm (by injection z)
            rw [decide_eq_false hv]
            refine iteT ⟨_, rfl, _, hD7, ?_, ?_, ?_⟩
            · have := List.length_filter_le (fun k => decide (¬ k = gone)) (hs.take i)
              rw [List.length_take] at this
              rw [List.length_map]
              exact small1000 (by omega)
            · intro y o e
              rw [upd_ne (ne_of_none e hD2)]
              exact s7 y o e
            · rw [upd_same, st, if_pos (by simp [hm]), List.map_append]
              rfl
        rintro H7 ⟨s7, hD7⟩
        rw [List.length_map, List.take_length] at hD7
        refine ⟨_, rfl, _, rfl, (by show 2 ≤ sizeLine; decide), fin ts (hs.filter fun k => decide (¬ k = gone)) a1 D2 H7 (b06.trans (But.same s7)) (pot6.same s7) ha1 (b06.free hp hD2 pot6) na1 nD2 (s7 _ _ g1) hD7 (fun _ h => h) (fun k hk => (List.mem_filter.mp hk).1) w1 (w2.sublist List.filter_sublist) len1 (Nat.le_trans (List.length_filter_le ..) len2) ?_⟩
        rw [comm_right]
        omega
    · have ev : (comm ts hs).length % 2 = 0 := by
        have z : ¬ (V.int (((((comm ts hs).map V.int).length : Nat) : Int) % 2) = V.int 1) := fun q => heven (decide_eq_true q)
        rw [List.length_map] at z
        have z2 : ¬ (((comm ts hs).length : Nat) : Int) % 2 = 1 := fun q => z (by rw [q])
        omega
      refine ⟨_, rfl, _, rfl, (by show 2 ≤ sizeLine; decide), fin ts hs a1 a2 H4 b04 pot4 ha1 fr2 na1 na2 c1 c2 (fun _ h => h) (fun _ h => h) w1 w2 len1 len2 ev⟩
end
end K49
namespace Par
open PySem PySem.Spec PyProof.Rows L2
/-- a class of the text's own with an own ==, no own != -/
structure EqC (K : PySem.W.Frag) (C f : Addr) : Prop where
  is : ∃ nm q N bs hd sn sub ab col dd k0 k1 k2 k3 k5 newId, K.lookup C = some (excClassObj nm q C N bs [.type "object"] hd sn sub ab col dd k0 k1 k2 k3 k5 newId) ∧ PySem.W.nsOkIn K N = true ∧ PySem.W.nsIn K N "__eq__" = some (some (.ref f)) ∧ PySem.W.nsIn K N "__ne__" = some none
  eq : PySem.W.findIn K (.ref C) "__eq__" = some (some (.ref f))
  fn : PySem.W.isFn K (.ref f) = true
theorem look_eq : typeLookup (.type "object") "__eq__" = pure (some (.builtin "object.__eq__")) := by
  rw [typeLookup_type, builtinLookup_eq_fast]
  kernel_rfl
theorem ns_some_of {K : PySem.W.Frag} {h : Heap} {N : Addr} {mg : Str → Option Value} {n : Str} {v : Value} (X : K.In h) (G : h.Ns N mg) (e : PySem.W.nsIn K N n = some (some v)) : mg n = some v := by
  obtain ⟨o, es, ep, ho, hd, _, hf⟩ := G
  unfold PySem.W.nsIn at e
  split at e
  · rename_i c d es' n' sl q
    have := X _ _ q
    rw [ho] at this
    cases this
    cases hd
    split at e
    · rename_i x he
      rw [← hf]
      unfold nsFind findBy
      rw [← Array.find?_toList, he]
      simpa using e
    · split at e <;> cases e
  · cases e
theorem fn_at {K : PySem.W.Frag} {h : Heap} {f : Addr} (X : K.In h) (e : PySem.W.isFn K (.ref f) = true) : ∃ o : Obj, h.get? f = some o ∧ o.cls = .type "function" := by
  unfold PySem.W.isFn PySem.W.typeIn at e
  cases q : K.lookup f with
  | none => simp [q] at e
  | some o =>
    simp [q] at e
    exact ⟨o, X _ _ q, e⟩
section
variable {X : Cx} {C f : Addr} {CX : CXT} {n : Nat} {fd : FuncData} {ps : List Str} {sp : Sp} {E : XK}
/-- the own ==, or !=, of two instances of the class -/
def rOwn (C : Addr) (sp : Sp) (E : XK) (neg : Bool) : R2 := fun x y H Q => ∃ a b dx dy fs gs, x = .ref a ∧ y = .ref b ∧ H a = some (.ins C dx fs) ∧ H b = some (.ins C dy gs) ∧
  sp [.ref a, .ref b] H (fun v H' => ∃ r : Bool, v = .bl r ∧ Q (.bl (xor neg r)) H') E
theorem own_call {pins : List (Addr × Obj)} {s : Shared} {σ : L2.St} {H : Hp} {a b : Addr} {A : Around} {Q : V → Hp → Prop} (I : Inv X pins σ H s) (F : FnOk X.prog X.w X.K X.mg X.base CX n f fd ps sp) (hr : Room n A) (hA : A.frames = X.A.frames) (hb : Binds X.K fd ps []) (hx : Passes CX X E)
    (h : sp [.ref a, .ref b] H Q E) : wpAny (model X.prog X.w) A (call (.ref f) [.ref a, .ref b]) (fun v s' => ∃ u H', Inv X pins σ H' s' ∧ RelV u v ∧ Q u H') X.xe s := by
  have e0 : Env0 X.prog X.w X.K X.mg X.base A X.stack s H := by
    have e := I.env0
    exact ⟨by rw [hA]; exact e.frames, e.mod, e.bs, e.bsz, e.funs, e.frf, e.hok, e.bare⟩
  have hl := F.len _ _ _ _ h
  have r2 : Vals [V.ref a, V.ref b] [Value.ref a, Value.ref b] := .cons rfl (.cons rfl .nil)
  refine wpAny_call (codeAny_mono (F.run A X.stack s H ⟨[.ref a, .ref b], []⟩ [.ref a, .ref b] [.ref a, .ref b] Q E hr e0 (by
    have := hb s [.ref a, .ref b] I.kIn (by simpa using hl)
    simpa using this) r2 h) fun r s' hq => ?_)
  cases r with
  | error e => exact hx pins σ H s e s' I hq
  | ok fl =>
    cases fl with
    | ret w =>
      obtain ⟨z, H', I', rz, q⟩ := I.after hq
      exact ⟨z, H', I', rz, q⟩
    | next => exact False.elim hq
    | brk => exact False.elim hq
    | cont => exact False.elim hq
theorem op_ownNe (T : EqC X.K C f) (F : FnOk X.prog X.w X.K X.mg X.base CX n f fd ps sp) (hr : Room (n + 1) X.A) (hb : Binds X.K fd ps []) (hx : Passes CX X E) : OpR X (compareOp .NotEq) (rOwn C sp E true) := by
  intro pins s σ H x y v u Q I rx ry h
  obtain ⟨a, b, dx, dy, fs, gs, rfl, rfl, ha, hb', h⟩ := h
  cases rx
  cases ry
  obtain ⟨mA, J, _⟩ := ins_get I.hok ha
  obtain ⟨mB, J', _⟩ := ins_get I.hok hb'
  obtain ⟨oda, Ja, _⟩ := J.look
  obtain ⟨odb, Jb, _⟩ := J'.look
  obtain ⟨nm, q, N, bs, hd, sn, sub, ab, col, dd, k0, k1, k2, k3, k5, newId, hC, hN, hE, hNe⟩ := T.is
  obtain ⟨of, h1, h2⟩ := fn_at I.kIn T.fn
  have G : s.heap.Ns N (s.heap.nsMap N) := .of_isNs (PySem.W.isNs_of_in I.kIn hN)
  have O : s.heap.OwnEqNoNe a C f "object" [.type "object"] := ⟨_, of, nm, q, N, bs, hd, sn, sub, ab, col, dd, k0, k1, k2, k3, k5, newId, _, _, Ja.at_, Ja.cls, I.kIn _ _ hC, G, ns_some_of I.kIn G hE, h1, h2, PySem.F.cmp_object.mro, look_eq, PySem.W.ns_none_of I.kIn G hNe⟩
  refine compareOp_ne_ownEq PySem.F.cmp_object O Jb.at_ Jb.cls (by have := hr.units; omega) ?_
  refine wpAny_mono (own_call I F hr.in1 rfl hb hx h) (fun v s' hv => ?_) fun _ _ e => e
  obtain ⟨z, H', I', rz, r, rfl, q⟩ := hv
  cases rz
  exact ⟨r, rfl, .bl (!r), H', I', rfl, by simpa using q⟩
theorem op_ownEq (T : EqC X.K C f) (F : FnOk X.prog X.w X.K X.mg X.base CX n f fd ps sp) (hr : Room n X.A) (hb : Binds X.K fd ps []) (hx : Passes CX X E) : OpR X (compareOp .Eq) (rOwn C sp E false) := by
  intro pins s σ H x y v u Q I rx ry h
  obtain ⟨a, b, dx, dy, fs, gs, rfl, rfl, ha, hb', h⟩ := h
  cases rx
  cases ry
  obtain ⟨mA, J, _⟩ := ins_get I.hok ha
  obtain ⟨mB, J', _⟩ := ins_get I.hok hb'
  obtain ⟨oda, Ja, _⟩ := J.look
  obtain ⟨odb, Jb, _⟩ := J'.look
  obtain ⟨m, hF⟩ := I.fr
  show wpAny (model X.prog X.w) X.A (richCompare .Eq (.ref a) (.ref b)) (EP X pins σ Q) X.xe s
  refine PySem.W.cmp_K (op := .Eq) (tb := .ref C) hr.units0 hF I.ok.mod.kin Ja Jb.type (by simp [PySem.W.notFirst]) T.eq T.fn ?_
  refine wpAny_mono (own_call I F hr rfl hb hx h) (fun v s' hv => ?_) fun _ _ e => e
  obtain ⟨z, H', I', rz, r, rfl, q⟩ := hv
  cases rz
  exact ⟨.bl r, H', I', rfl, by simpa using q⟩
end
end Par
namespace Par
open PySem PySem.Spec PyProof.Rows L2
section
variable {X : Cx} {C f : Addr} {CX : CXT} {n : Nat} {fd : FuncData} {ps : List Str} {sp : Sp} {E : XK}
/-- str(o), repr(o): by the own method -/
def rTxtOwn (C : Addr) (sp : Sp) (E : XK) : List V → Hp → VK → Prop := fun xs H Q => ∃ a dx fs, xs = [.ref a] ∧ H a = some (.ins C dx fs) ∧ sp [.ref a] H (fun v H' => ∃ t : Str, v = .str t ∧ Q (.str t) H') E
theorem one_call {pins : List (Addr × Obj)} {s : Shared} {σ : L2.St} {H : Hp} {a : Addr} {A : Around} {Q : V → Hp → Prop} (I : Inv X pins σ H s) (F : FnOk X.prog X.w X.K X.mg X.base CX n f fd ps sp) (hr : Room n A) (hA : A.frames = X.A.frames) (hb : Binds X.K fd ps []) (hx : Passes CX X E)
    (h : sp [.ref a] H Q E) : wpAny (model X.prog X.w) A (call (.ref f) [.ref a]) (fun v s' => ∃ u H', Inv X pins σ H' s' ∧ RelV u v ∧ Q u H') X.xe s := by
  have e0 : Env0 X.prog X.w X.K X.mg X.base A X.stack s H := by
    have e := I.env0
    exact ⟨by rw [hA]; exact e.frames, e.mod, e.bs, e.bsz, e.funs, e.frf, e.hok, e.bare⟩
  have hl := F.len _ _ _ _ h
  refine wpAny_call (codeAny_mono (F.run A X.stack s H ⟨[.ref a], []⟩ [.ref a] [.ref a] Q E hr e0 (by
    have := hb s [.ref a] I.kIn (by simpa using hl)
    simpa using this) (.cons rfl .nil) h) fun r s' hq => ?_)
  cases r with
  | error e => exact hx pins σ H s e s' I hq
  | ok fl =>
    cases fl with
    | ret w =>
      obtain ⟨z, H', I', rz, q⟩ := I.after hq
      exact ⟨z, H', I', rz, q⟩
    | next => exact False.elim hq
    | brk => exact False.elim hq
    | cont => exact False.elim hq
theorem one_callG {pins : List (Addr × Obj)} {s : Shared} {σ : L2.St} {H : Hp} {a : Addr} {A : Around} {Q : V → Hp → Prop} (I : Inv X pins σ H s) (F : FnG X.prog X.w X.K X.mg X.base CX n f fd ps sp) (gs : A.guards = some []) (hr : Room n A) (hA : A.frames = X.A.frames) (hb : Binds X.K fd ps []) (hx : Passes CX X E)
    (h : sp [.ref a] H Q E) : wpAny (model X.prog X.w) A (call (.ref f) [.ref a]) (fun v s' => ∃ u H', Inv X pins σ H' s' ∧ RelV u v ∧ Q u H') X.xe s := by
  have e0 : Env0 X.prog X.w X.K X.mg X.base A X.stack s H := by
    have e := I.env0
    exact ⟨by rw [hA]; exact e.frames, e.mod, e.bs, e.bsz, e.funs, e.frf, e.hok, e.bare⟩
  have hl := F.arity _ _ _ _ h
  refine wpAny_call (codeAny_mono (F.go A X.stack s H ⟨[.ref a], []⟩ [.ref a] [.ref a] Q E gs hr e0 (by
    have := hb s [.ref a] I.kIn (by simpa using hl)
    simpa using this) (.cons rfl .nil) h) fun r s' hq => ?_)
  cases r with
  | error e => exact hx pins σ H s e s' I hq
  | ok fl =>
    cases fl with
    | ret w =>
      obtain ⟨z, H', I', rz, q⟩ := I.after hq
      exact ⟨z, H', I', rz, q⟩
    | next => exact False.elim hq
    | brk => exact False.elim hq
    | cont => exact False.elim hq
theorem cr_reprOwn (c : PySem.W.findIn X.K (.ref C) "__repr__" = some (some (.ref f))) (hf : PySem.W.isFn X.K (.ref f) = true) (F : FnG X.prog X.w X.K X.mg X.base CX n f fd ps sp) (gs : X.A.guards = some []) (hr : Room (n + 1) X.A) (hb : Binds X.K fd ps []) (hx : Passes CX X E) :
    CallR X (.builtin "repr") (rTxtOwn C sp E) := by
  intro pins s σ H xs us Q I r h
  obtain ⟨a, dx, fs, rfl, ha, h⟩ := h
  cases r with
  | @cons _ u _ _ r1 r2 =>
    cases r2
    cases r1
    obtain ⟨mA, J, _⟩ := ins_get I.hok ha
    obtain ⟨oda, Ja, _⟩ := J.look
    obtain ⟨m, hF⟩ := I.fr
    refine PySem.W.repr_K (hr.in1).units0 hF I.ok.mod.kin Ja c hf ?_
    refine wpAny_mono (one_callG I F gs hr.in1 rfl hb hx h) (fun v s' hv => ?_) fun _ _ e => e
    obtain ⟨z, H', I', rz, t, rfl, q⟩ := hv
    obtain ⟨tk, rfl⟩ := rz
    exact ⟨.str t, H', I', ⟨_, rfl⟩, q⟩
theorem cr_strOwn (c : PySem.W.findIn X.K (.ref C) "__str__" = some (some (.ref f))) (hf : PySem.W.isFn X.K (.ref f) = true) (F : FnOk X.prog X.w X.K X.mg X.base CX n f fd ps sp) (hr : Room (n + 2) X.A) (hb : Binds X.K fd ps []) (hx : Passes CX X E) :
    CallR X (.type "str") (rTxtOwn C sp E) := by
  intro pins s σ H xs us Q I r h
  obtain ⟨a, dx, fs, rfl, ha, h⟩ := h
  cases r with
  | @cons _ u _ _ r1 r2 =>
    cases r2
    cases r1
    obtain ⟨mA, J, _⟩ := ins_get I.hok ha
    obtain ⟨oda, Ja, _⟩ := J.look
    refine PySem.W.kso_call (hr.in1.in1).units0 I.kIn Ja c hf ?_
    refine wpAny_mono (one_call I F hr.in1.in1 rfl hb hx h) (fun v s' hv => ?_) fun _ _ e => e
    obtain ⟨z, H', I', rz, t, rfl, q⟩ := hv
    obtain ⟨tk, rfl⟩ := rz
    exact ⟨.str t, H', I', ⟨_, rfl⟩, q⟩
/-- {x!r}, x a list or tuple of data, where the guards are none -/
def tFmtD (K : PySem.W.Frag) (te : TE) : TE := fun σ H Q => te σ H fun x H1 => ∃ (a : Addr) (d : PyData), x = .ref a ∧ Dp K H1 x d ∧ d.showable = true ∧ d.depth ≤ 40 ∧ d.shown.length ≤ sizeLine ∧ Q (.str d.shown) H1
theorem pe_fmtD {e : Expr} {te : TE} {pos : Pos} (gs : X.A.guards = some []) (hu : X.A.units + 64 < cLine) (he : PE X e te) : PE X (.FormattedValue e 114 none pos) (tFmtD X.K te) := by
  refine ⟨fun pins s σ H Q I h => ?_⟩
  refine wpAny_FormattedValue_repr (thn (he.run pins s σ H _ I h) fun w1 t1 got => ?_)
  obtain ⟨x, H1, I1, r1, a, d, rfl, hd, sh, dep, len, q⟩ := got
  cases r1
  obtain ⟨as, rd⟩ := Dp.reads I1 d _ _ hd rfl
  refine pyReprObj_of_reads rd sh (fun z => by rw [dp_nodict d _ hd] at z; cases z) gs (by omega) (fun _ _ z => z) ?_ len
  intro h' tk u k
  exact wpAny_formatField_str ⟨.str d.shown, H1, I1.un (Un.kept k) (I1.hok.kept k), ⟨_, rfl⟩, q⟩ ⟨.str d.shown, H1, I1.un (Un.kept k) (I1.hok.kept k), ⟨_, rfl⟩, q⟩ len
end
end Par
namespace K49
open PySem PySem.Spec PyProof.Rows L2 Par
theorem flip_at {bs hs : List Int} {i : Nat} (hi : i < bs.length) : (flipB bs hs).getD i 0 = if decide ((i : Int) ∈ hs) = true then 1 - bs.getD i 0 else bs.getD i 0 := by
  rw [List.getD_eq_getElem?_getD]
  unfold flipB
  rw [List.getElem?_map, List.getElem?_range hi]
  rfl
theorem sum_flip {bs hs : List Int} : ∀ (ts : List Int), (∀ k ∈ ts, 0 ≤ k ∧ k < bs.length) →
    ((ts.map fun k => (flipB bs hs).getD k.toNat 0).sum - (ts.map fun k => bs.getD k.toNat 0).sum - ((comm ts hs).length : Int)) % 2 = 0
  | [], _ => by simp [comm]
  | k :: ts, h => by
    have ih := sum_flip (bs := bs) (hs := hs) ts fun x hx => h x (List.mem_cons_of_mem _ hx)
    obtain ⟨h0, h1⟩ := h k (List.mem_cons_self ..)
    have e := flip_at (bs := bs) (hs := hs) (i := k.toNat) (by omega)
    rw [Int.toNat_of_nonneg h0] at e
    rw [List.map_cons, List.map_cons, List.sum_cons, List.sum_cons, e]
    by_cases z : k ∈ hs
    · have ec : comm (k :: ts) hs = k :: comm ts hs := by
        unfold comm
        rw [List.filter_cons_of_pos (by simp [z])]
      rw [ec, List.length_cons, decide_eq_true z, if_pos rfl]
      omega
    · have ec : comm (k :: ts) hs = comm ts hs := by
        unfold comm
        rw [List.filter_cons_of_neg (by simp [z])]
      rw [ec, decide_eq_false z, if_neg Bool.false_ne_true]
      omega
theorem par_flip {bs ts hs : List Int} (h : ∀ k ∈ ts, 0 ≤ k ∧ k < bs.length) (ev : (comm ts hs).length % 2 = 0) : parB (flipB bs hs) ts = parB bs ts := by
  have := sum_flip (bs := bs) (hs := hs) ts h
  unfold parB
  omega
theorem aft_len (bs ts hs : List Int) : (aftB bs ts hs).length = bs.length := by
  unfold aftB
  split
  · exact flipB_len _ _
  · rfl
theorem aft_ok {bs ts hs : List Int} (h : OkB bs) (h0 : ∀ k ∈ hs, 1 ≤ k) : OkB (aftB bs ts hs) := by
  unfold aftB
  split
  · exact flip_ok h h0
  · exact h
theorem aft_par {bs ts hs : List Int} (h : ∀ k ∈ ts, 0 ≤ k ∧ k < bs.length) (ev : (comm ts hs).length % 2 = 0) : parB (aftB bs ts hs) ts = parB bs ts := by
  unfold aftB
  split
  · exact par_flip h ev
  · rfl
theorem aft_back {bs ts hs : List Int} (h : ∀ k ∈ ts, 0 ≤ k ∧ k < bs.length) (ev : (comm ts hs).length % 2 = 0) : aftB (aftB bs ts hs) ts hs = bs := by
  have e := aft_par h ev
  unfold aftB at e ⊢
  by_cases z : parB bs ts = 1
  · rw [decide_eq_true z, if_pos rfl] at e ⊢
    rw [e, decide_eq_true z, if_pos rfl]
    exact flip_flip
  · rw [decide_eq_false z, if_neg Bool.false_ne_true] at e ⊢
    rw [decide_eq_false z, if_neg Bool.false_ne_true]
theorem fits_le {ts hs : List Int} {M : Int} {n : Nat} (f : Fits ts hs M) (h1 : ∀ k ∈ ts, k < n) (h2 : ∀ k ∈ hs, k < n) (h3 : 1 ≤ n) : M ≤ n := by
  rcases f.2.2 with z | z | z
  · omega
  · have := h1 _ z
    omega
  · have := h2 _ z
    omega
theorem par01 (bs t : List Int) : parB bs t = 0 ∨ parB bs t = 1 := by
  unfold parB
  omega
theorem aft_at {bs t h : List Int} {i : Nat} (hi : i < bs.length) : (aftB bs t h).getD i 0 = if parB bs t = 1 ∧ (i : Int) ∈ h then 1 - bs.getD i 0 else bs.getD i 0 := by
  unfold aftB
  by_cases z : parB bs t = 1
  · rw [decide_eq_true z, if_pos rfl, flip_at hi]
    by_cases y : (i : Int) ∈ h
    · rw [decide_eq_true y, if_pos rfl, if_pos ⟨z, y⟩]
    · rw [decide_eq_false y, if_neg Bool.false_ne_true, if_neg fun q => y q.2]
  · rw [decide_eq_false z, if_neg Bool.false_ne_true, if_neg fun q => z q.1]
theorem par_aft {bs t1 h1 t2 : List Int} (h : ∀ k ∈ t2, 0 ≤ k ∧ k < bs.length) : parB (aftB bs t1 h1) t2 = if parB bs t1 = 1 ∧ (comm t2 h1).length % 2 = 1 then 1 - parB bs t2 else parB bs t2 := by
  have f := sum_flip (bs := bs) (hs := h1) t2 h
  have p := par01 bs t2
  unfold aftB
  by_cases z : parB bs t1 = 1
  · rw [decide_eq_true z, if_pos rfl]
    by_cases y : (comm t2 h1).length % 2 = 1
    · rw [if_pos ⟨z, y⟩]
      unfold parB at p ⊢
      omega
    · rw [if_neg fun q => y q.2]
      unfold parB at p ⊢
      omega
  · rw [decide_eq_false z, if_neg Bool.false_ne_true, if_neg fun q => z q.1]
theorem depth_ints : ∀ ns : List Int, PyData.depthAll (ns.map PyData.int) = 0
  | [] => rfl
  | n :: ns => by
    show max 0 (PyData.depthAll (ns.map PyData.int)) = 0
    rw [depth_ints ns]
    rfl
theorem lay_ints : ∀ ns : List Int, (PyData.list (ns.map PyData.int)).canLay0 = true := by
  intro ns
  induction ns with
  | nil => rfl
  | cons n ns ih => exact ih
theorem shaped_ints (ns : List Int) : SeqAt.shaped (.list (ns.map PyData.int)) = true := by
  unfold SeqAt.shaped
  rw [lay_ints]
  have : (PyData.list (ns.map PyData.int)).depth = 1 := by
    show PyData.depthAll (ns.map PyData.int) + 1 = 1
    rw [depth_ints]
  rw [this]
  rfl
theorem sort_same {ns ms : List Int} (h : ms.Perm ns) (w1 : ms.Pairwise (· ≤ ·)) (w2 : ns.Pairwise (· < ·)) : ms = ns :=
  List.Perm.eq_of_pairwise (fun a b _ _ h1 h2 => Int.le_antisymm h1 h2) w1 (w2.imp (fun h => by omega)) h
/-- what isinstance asks of an own class -/
structure IsC (K : PySem.W.Frag) (C : Addr) : Prop where
  ha : PySem.W.findIn K (.ref C) "__class__" = some (some (.builtin "object.__class__"))
  hn : PySem.W.specialIn K (.builtin "object.__class__") "__get__" = some (some (.builtin "getset_descriptor.__get__"))
  ht : PySem.W.takesIn K (.builtin "object.__class__") = some true
  hm : PySem.W.mroIn K C (.type "object") = some true
theorem kit_self {K : PySem.W.Frag} {C : Addr} : PySem.W.kitOne K (.ref C) (.ref C) = some true := by
  show (if (Value.ref C == Value.ref C) = true then some true else _) = some true
  rw [if_pos (by simp)]
/-- what stands in just one of both -/
def symm (ns ms : List Int) : List Int := (ns.filter fun k => !decide (k ∈ ms)) ++ (ms.filter fun k => !decide (k ∈ ns))
theorem mem_symm {ns ms : List Int} (k : Int) : k ∈ symm ns ms ↔ xor (decide (k ∈ ns)) (decide (k ∈ ms)) = true := by
  unfold symm
  by_cases a : k ∈ ns <;> by_cases b : k ∈ ms <;> simp [List.mem_append, List.mem_filter, a, b]
theorem symm_nodup {ns ms : List Int} (h1 : ns.Nodup) (h2 : ms.Nodup) : (symm ns ms).Nodup := by
  unfold symm
  refine List.nodup_append.mpr ⟨h1.sublist List.filter_sublist, h2.sublist List.filter_sublist, fun a ha b hb e => ?_⟩
  subst e
  have z := (List.mem_filter.mp ha).2
  have y := (List.mem_filter.mp hb).1
  simp [y] at z
/-- the cells moved past a flip -/
def moved (ns ts hs : List Int) : List Int := if (comm ns hs).length % 2 = 1 then symm ns ts else ns
theorem up_same {l m : List Int} (h1 : l.Pairwise (· < ·)) (h2 : m.Pairwise (· < ·)) (h : ∀ k, k ∈ l ↔ k ∈ m) : l = m := by
  have n1 : l.Nodup := nodup_lt_ h1
  have n2 : m.Nodup := nodup_lt_ h2
  exact List.Perm.eq_of_pairwise (fun a b _ _ h1 h2 => by omega) h1 h2 ((List.perm_ext_iff_of_nodup n1 n2).mpr h)
theorem sum_part (f : Int → Int) (p : Int → Bool) : ∀ l : List Int, ((l.filter p).map f).sum + ((l.filter fun k => !p k).map f).sum = (l.map f).sum
  | [] => rfl
  | a :: l => by
    have ih := sum_part f p l
    by_cases z : p a = true
    · rw [List.filter_cons_of_pos z, List.filter_cons_of_neg (by simp [z]), List.map_cons, List.map_cons, List.sum_cons, List.sum_cons]
      omega
    · rw [List.filter_cons_of_neg z, List.filter_cons_of_pos (by simp [z]), List.map_cons, List.map_cons, List.sum_cons, List.sum_cons]
      omega
theorem sum_symm (f : Int → Int) {ns ms : List Int} (h1 : ns.Nodup) (h2 : ms.Nodup) : ((symm ns ms).map f).sum % 2 = ((ns.map f).sum + (ms.map f).sum) % 2 := by
  have a := sum_part f (fun k => decide (k ∈ ms)) ns
  have b := sum_part f (fun k => decide (k ∈ ns)) ms
  have pm : (ns.filter fun k => decide (k ∈ ms)).Perm (ms.filter fun k => decide (k ∈ ns)) := by
    refine (List.perm_ext_iff_of_nodup (h1.sublist List.filter_sublist) (h2.sublist List.filter_sublist)).mpr fun k => ?_
    simp [List.mem_filter, and_comm]
  have c := perm_sum (pm.map f)
  unfold symm
  rw [List.map_append, List.sum_append]
  omega
theorem comm_sum (ns ms : List Int) : ((comm ns ms).length : Int) = (ns.map fun k => if k ∈ ms then (1 : Int) else 0).sum := by
  induction ns with
  | nil => rfl
  | cons a l ih =>
    unfold comm at ih ⊢
    rw [List.map_cons, List.sum_cons, ← ih]
    by_cases z : a ∈ ms
    · rw [List.filter_cons_of_pos (by simp [z]), List.length_cons, if_pos z]
      omega
    · rw [List.filter_cons_of_neg (by simp [z]), if_neg z]
      omega
theorem comm_swap {ns ms : List Int} (h1 : ns.Nodup) (h2 : ms.Nodup) : (comm ns ms).length = (comm ms ns).length := by
  have pm : (comm ns ms).Perm (comm ms ns) := by
    unfold comm
    refine (List.perm_ext_iff_of_nodup (h1.sublist List.filter_sublist) (h2.sublist List.filter_sublist)).mpr fun k => ?_
    simp [List.mem_filter, and_comm]
  exact pm.length_eq
theorem comm_symm_l {a b c : List Int} (h1 : a.Nodup) (h2 : b.Nodup) : (comm (symm a b) c).length % 2 = ((comm a c).length + (comm b c).length) % 2 := by
  have z := sum_symm (fun k => if k ∈ c then (1 : Int) else 0) h1 h2
  rw [← comm_sum, ← comm_sum, ← comm_sum] at z
  omega
theorem comm_symm_r {a b c : List Int} (h1 : a.Nodup) (h2 : b.Nodup) (h3 : c.Nodup) : (comm a (symm b c)).length % 2 = ((comm a b).length + (comm a c).length) % 2 := by
  rw [comm_swap h1 (symm_nodup h2 h3), comm_symm_l h2 h3, comm_swap h2 h1, comm_swap h3 h1]
theorem par_symm {bs ns ms : List Int} (h1 : ns.Nodup) (h2 : ms.Nodup) : parB bs (symm ns ms) = (parB bs ns + parB bs ms) % 2 := by
  have a := sum_part (fun k => bs.getD k.toNat 0) (fun k => decide (k ∈ ms)) ns
  have b := sum_part (fun k => bs.getD k.toNat 0) (fun k => decide (k ∈ ns)) ms
  have pm : (ns.filter fun k => decide (k ∈ ms)).Perm (ms.filter fun k => decide (k ∈ ns)) := by
    refine (List.perm_ext_iff_of_nodup (h1.sublist List.filter_sublist) (h2.sublist List.filter_sublist)).mpr fun k => ?_
    simp [List.mem_filter, and_comm]
  have c := perm_sum (pm.map fun k => bs.getD k.toNat 0)
  unfold parB symm
  rw [List.map_append, List.sum_append]
  omega
/-- the parity before is the parity of the moved cells after -/
theorem par_moved {bs ns ts hs : List Int} (h1 : ∀ k ∈ ns, 0 ≤ k ∧ k < bs.length) (h2 : ∀ k ∈ ts, 0 ≤ k ∧ k < bs.length) (n1 : ns.Nodup) (n2 : ts.Nodup) (ev : (comm ts hs).length % 2 = 0) : parB (aftB bs ts hs) (moved ns ts hs) = parB bs ns := by
  have a := par_aft (bs := bs) (t1 := ts) (h1 := hs) (t2 := ns) h1
  have b := aft_par (bs := bs) h2 ev
  have p := par01 bs ns
  have q := par01 bs ts
  unfold moved
  by_cases z : (comm ns hs).length % 2 = 1
  · rw [if_pos z, par_symm n1 n2, b]
    by_cases y : parB bs ts = 1
    · rw [if_pos ⟨y, z⟩] at a
      omega
    · rw [if_neg fun c => y c.1] at a
      omega
  · rw [if_neg z, a, if_neg fun c => z c.2]
theorem le_lt {l : List Int} (h : l.Pairwise (· ≤ ·)) (n : l.Nodup) : l.Pairwise (· < ·) := (h.and n).imp fun ⟨a, b⟩ => by omega
end K49
namespace K49
open PySem PySem.Spec PyProof.Rows L2 Par
theorem lay_tints : ∀ ns : List Int, (PyData.tuple (ns.map PyData.int)).canLay0 = true := by
  intro ns
  induction ns with
  | nil => rfl
  | cons n ns ih => exact ih
theorem shaped_tints (ns : List Int) : SeqAt.shaped (.tuple (ns.map PyData.int)) = true := by
  unfold SeqAt.shaped
  rw [lay_tints]
  have : (PyData.tuple (ns.map PyData.int)).depth = 1 := by
    show PyData.depthAll (ns.map PyData.int) + 1 = 1
    rw [depth_ints]
  rw [this]
  rfl
theorem eqv_ints : ∀ ns ms : List Int, PyData.eqvAll (ns.map PyData.int) (ms.map PyData.int) = decide (ns = ms)
  | [], [] => by simp [PyData.eqvAll]
  | [], _ :: _ => by simp [PyData.eqvAll]
  | _ :: _, [] => by simp [PyData.eqvAll]
  | n :: ns, m :: ms => by
    have ih := eqv_ints ns ms
    show ((n == m) && PyData.eqvAll (ns.map PyData.int) (ms.map PyData.int)) = _
    rw [ih]
    by_cases z : n = m <;> by_cases y : ns = ms <;> simp [z, y]
theorem eqv_tints (ns ms : List Int) : PyData.eqv (.tuple (ns.map PyData.int)) (.tuple (ms.map PyData.int)) = decide (ns = ms) := eqv_ints ns ms
theorem len2 : ∀ n : Nat, n < 40 → (Str.ofString (toString ((n : Nat) : Int))).length ≤ 2 := by decide +kernel
theorem lenK {k : Int} (h : 0 ≤ k ∧ k < 40) : (Str.ofString (toString k)).length ≤ 2 := by
  have := len2 k.toNat (by omega)
  rwa [Int.toNat_of_nonneg h.1] at this
/-- the text of cells -/
def cellsT (ns : List Int) : Str := if ns.isEmpty = true then "-" else Txt.join "," (ns.map fun k => Str.ofString (toString k))
theorem join_len (y : Str) : ∀ parts : List Str, (Str.join y parts).length ≤ (parts.map (·.length)).sum + parts.length * y.length
  | [] => Nat.zero_le _
  | [x] => by
    show x.length ≤ _
    simp
  | x :: z :: r => by
    have ih := join_len y (z :: r)
    have e : (Str.join y (x :: z :: r)).length = x.length + y.length + (Str.join y (z :: r)).length := by
      show (x ++ y ++ Str.join y (z :: r)).length = _
      simp [Str.length, Str.cps_append]
      omega
    have f : (r.length + 1 + 1) * y.length = (r.length + 1) * y.length + y.length := Nat.succ_mul _ _
    simp only [List.map_cons, List.sum_cons, List.length_cons] at ih ⊢
    omega
theorem two_sum : ∀ {ns : List Int}, (∀ k ∈ ns, 0 ≤ k ∧ k < 40) → ((ns.map fun k => Str.ofString (toString k)).map (·.length)).sum ≤ 2 * ns.length
  | [], _ => by simp
  | k :: ns, h => by
    have ih := two_sum fun x hx => h x (List.mem_cons_of_mem _ hx)
    have := lenK (h k (List.mem_cons_self ..))
    simp only [List.map_cons, List.sum_cons, List.length_cons] at ih ⊢
    omega
theorem cellsT_len {ns : List Int} (h : ∀ k ∈ ns, 0 ≤ k ∧ k < 40) (l : ns.length ≤ 40) : (cellsT ns).length ≤ 200 := by
  unfold cellsT
  split
  · decide +kernel
  · have a := join_len "," (ns.map fun k => Str.ofString (toString k))
    rw [← TL.join_eq] at a
    have b := two_sum h
    rw [List.length_map] at a
    have c : (Str.ofString ",").length = 1 := by decide +kernel
    rw [c] at a
    omega
section
variable {P : Program} {w : World} {K : PySem.W.Frag} {mg : Str → Option Value} {base : Heap}
/-- the flips at fs are these -/
def Fls (CF : Addr) (H : Hp) : List Addr → List (List Int × List Int) → Prop
  | [], [] => True
  | f :: fs, p :: ps => Fp CF H f p.1 p.2 ∧ OkF p.1 p.2 ∧ Fls CF H fs ps
  | _, _ => False
theorem Fls.same {CF : Addr} {H H' : Hp} (s : Same H H') : ∀ {fs : List Addr} {ps : List (List Int × List Int)}, Fls CF H fs ps → Fls CF H' fs ps
  | [], [], _ => True.intro
  | _ :: _, _ :: _, h => ⟨h.1.same s, h.2.1, h.2.2.same s⟩
  | [], _ :: _, h => h.elim
  | _ :: _, [], h => h.elim
theorem Fls.len {CF : Addr} {H : Hp} : ∀ {fs : List Addr} {ps : List (List Int × List Int)}, Fls CF H fs ps → fs.length = ps.length
  | [], [], _ => rfl
  | _ :: _, _ :: _, h => by
    rw [List.length_cons, List.length_cons, h.2.2.len]
  | [], _ :: _, h => h.elim
  | _ :: _, [], h => h.elim
theorem Fls.at {CF : Addr} {H : Hp} : ∀ {fs : List Addr} {ps : List (List Int × List Int)} {i : Nat} {f : Addr}, Fls CF H fs ps → fs[i]? = some f → ∃ p, ps[i]? = some p ∧ Fp CF H f p.1 p.2 ∧ OkF p.1 p.2
  | [], [], _, _, _, h => nomatch h
  | _ :: _, p :: _, 0, _, h, e => ⟨p, rfl, by
      have : _ = _ := Option.some.inj e
      exact this ▸ h.1, h.2.1⟩
  | _ :: _, _ :: _, i + 1, _, h, e => h.2.2.at (i := i) e
  | [], _ :: _, _, _, h, _ => h.elim
  | _ :: _, [], _, _, h, _ => h.elim
/-- the bits after these flips -/
def runB (bs : List Int) (ps : List (List Int × List Int)) : List Int := ps.foldl (fun b p => aftB b p.1 p.2) bs
theorem run_len : ∀ (ps : List (List Int × List Int)) (bs : List Int), (runB bs ps).length = bs.length
  | [], _ => rfl
  | p :: ps, bs => by
    show (runB (aftB bs p.1 p.2) ps).length = _
    rw [run_len ps, aft_len]
theorem run_ok {CF : Addr} {H : Hp} : ∀ {fs : List Addr} {ps : List (List Int × List Int)} {bs : List Int}, Fls CF H fs ps → OkB bs → OkB (runB bs ps)
  | [], [], _, _, h => h
  | _ :: _, p :: ps, bs, h, ok => (show OkB (runB (aftB bs p.1 p.2) ps) from run_ok h.2.2 (aft_ok ok fun k hk => (h.2.1.2.1 k hk).1))
  | [], _ :: _, _, h, _ => h.elim
  | _ :: _, [], _, h, _ => h.elim
theorem run_take {ps : List (List Int × List Int)} {bs : List Int} {i : Nat} {p : List Int × List Int} (h : ps[i]? = some p) : runB bs (ps.take (i + 1)) = aftB (runB bs (ps.take i)) p.1 p.2 := by
  unfold runB
  rw [List.take_succ, h, List.foldl_append]
  rfl
theorem fit_some (ts hs : List Int) (h : OkF ts hs) : ∃ M, Fits ts hs M := by
  obtain ⟨k1, k2, _⟩ := h
  have big : ∀ l : List Int, (∀ k ∈ l, 0 ≤ k) → ∃ M : Int, 1 ≤ M ∧ (∀ k ∈ l, k < M) ∧ (M = 1 ∨ M - 1 ∈ l) := by
    intro l
    induction l with
    | nil => exact fun _ => ⟨1, by decide, (fun k hk => nomatch hk), .inl rfl⟩
    | cons a l ih =>
      intro h
      obtain ⟨M, m1, m2, m3⟩ := ih fun k hk => h k (List.mem_cons_of_mem _ hk)
      by_cases z : a < M
      · refine ⟨M, m1, fun k hk => ?_, m3.imp id fun q => List.mem_cons_of_mem _ q⟩
        rcases List.mem_cons.mp hk with rfl | q
        · exact z
        · exact m2 k q
      · have a0 := h a (List.mem_cons_self ..)
        refine ⟨a + 1, by omega, fun k hk => ?_, .inr (by rw [show a + 1 - 1 = a by omega]; exact List.mem_cons_self ..)⟩
        rcases List.mem_cons.mp hk with rfl | q
        · omega
        · have := m2 k q
          omega
  obtain ⟨M, m1, m2, m3⟩ := big (ts ++ hs) fun k hk => by
    rcases List.mem_append.mp hk with q | q
    · exact (k1 k q).1
    · have := (k2 k q).1
      omega
  exact ⟨M, fun k hk => m2 k (List.mem_append.mpr hk), m1, m3.imp id fun q => List.mem_append.mp q⟩
def spFlipS (K : PySem.W.Frag) (C : Addr) : Sp := fun vs H Q _ => ∃ (p : Addr) (ts hs : List Int), vs = [.ref p] ∧ Pr K H p ts hs ∧ OkF ts hs ∧ (comm ts hs).length % 2 = 0 ∧
  ∀ q (ts' hs' : List Int) H', H q = none → Same H H' → ts'.Perm ts → hs'.Perm hs → ts'.Pairwise (· ≤ ·) → hs'.Pairwise (· ≤ ·) → Fp C H' q ts' hs' → Q (.ref q) H'
theorem scFlipS : FnScope ["_law_pair_here"] ["_law_pair_here"] (defScope sFlipOf) := ⟨rfl, rfl, rfl, by decide +kernel, rfl, by decide +kernel, by decide +kernel⟩
theorem ok_flipS {f C : Addr} {fd : FuncData} (F : Fun K "_law_flip_of" "_law_flip_of" sFlipOf f fd) (B : Bl mg) (T : FC K mg C) (DI : HasFI P w K mg base C) : FnOk P w K mg base CX0 8 f fd ["_law_pair_here"] (spFlipS K C) := by
  obtain ⟨fI, fdI, GI, MI, bI⟩ := DI
  refine F.ok scFlipS (fun vs H Q E h => ?_) (fun cdv A outer s H vs Q E hr h => ?_)
  · obtain ⟨p, ts, hs, rfl, _⟩ := h
    rfl
  · obtain ⟨p, ts, hs, rfl, ⟨t, g, h1, h2, h3⟩, ⟨k1, k2, k3, k4, k5, k6⟩, ev, out⟩ := h
    refine ⟨_, pss_one (ps_ret (pe_make (E := E0) MI GI hr (by rfl) T.mgC bI .nil pass0 (pa_cons (pe_callTy call_list_of (by rfl) B.list (by decide +kernel) (pa_cons (pe_ix ix_tup (pv 0) pe_int (fun _ _ => rfl)) pa_nil)) (pa_cons (pe_callTy call_list_of (by rfl) B.list (by decide +kernel) (pa_cons (pe_ix ix_tup (pv 0) pe_int (fun _ _ => rfl)) pa_nil)) pa_nil)))), ?_⟩
    refine ⟨_, rfl, p, _, 0, .ref t, rfl, rfl, h1, rfl, t, _, rfl, .inl (SqL.of h2), fun l1 hl1 => ?_⟩
    have s1 := same_new (o := .lst (ts.map V.int)) hl1
    refine ⟨_, rfl, p, _, 1, .ref g, rfl, rfl, same_sqt s1 h1, rfl, g, _, rfl, .inl (SqL.of (s1 _ _ h3)), fun l2 hl2 => ?_⟩
    have s2 := same_new (o := .lst (hs.map V.int)) hl2
    intro x dx hx hdx ne
    have s3 : Same (upd (upd H l1 (.lst (ts.map V.int))) l2 (.lst (hs.map V.int))) (upd (upd (upd (upd H l1 (.lst (ts.map V.int))) l2 (.lst (hs.map V.int))) dx (.own x)) x (.ins C dx [])) := fun z o e => by
      rw [upd_ne (ne_of_none e hx), upd_ne (ne_of_none e hdx)]
      exact e
    refine ⟨x, dx, l1, l2, ts, hs, rfl, upd_same, .inl (SqL.of (s3 _ _ (s2 _ _ upd_same))), .inl (SqL.of (s3 _ _ upd_same)), by omega, by omega, k1, k2, k3, k4, ev, fun H' ts' hs' bt p1 p2 w1 w2 fp => ⟨rfl, ?_⟩⟩
    have s12 := s1.trans s2
    refine out x ts' hs' H' (s12.free hx) (fun z o e => ?_) p1 p2 w1 w2 fp
    have e2 := s12 z o e
    exact bt z o (ne_of_none e2 hx) (s3 _ _ e2)
end
theorem good_cells {ns : List Int} (h : ∀ k ∈ ns, 0 ≤ k ∧ k < 40) (l : ns.length ≤ 40) : good (.list (ns.map PyData.int)) := good_list (fun d hd => by
  obtain ⟨k, hk, rfl⟩ := List.mem_map.mp hd
  have := h k hk
  exact small_int (by omega)) (by rw [List.length_map]; omega)
theorem good_cellsT {ns : List Int} (h : ∀ k ∈ ns, 0 ≤ k ∧ k < 40) (l : ns.length ≤ 40) : good (.tuple (ns.map PyData.int)) := good_tuple (fun d hd => by
  obtain ⟨k, hk, rfl⟩ := List.mem_map.mp hd
  have := h k hk
  exact small_int (by omega)) (by rw [List.length_map]; omega)
end K49
namespace K49
open PySem PySem.Spec PyProof.Rows L2 Par
section
variable {P : Program} {w : World} {K : PySem.W.Frag} {mg : Str → Option Value} {base : Heap}
/-- what Flip(..) leads to -/
theorem made_flip {C u v : Addr} {H : Hp} {ts hs : List Int} {W : Addr → Hp → Prop} (hu : Sq K H u (ts.map V.int)) (hv : Sq K H v (hs.map V.int)) (l1 : ts.length ≤ 500) (l2 : hs.length ≤ 500) (c1 : ∀ k ∈ ts, 0 ≤ k ∧ k < 40) (c2 : ∀ k ∈ hs, 1 ≤ k ∧ k < 40) (n1 : ts.Nodup) (n2 : hs.Nodup) (ev : (comm ts hs).length % 2 = 0)
    (out : ∀ x (ts' hs' : List Int) H', H x = none → Same H H' → ts'.Perm ts → hs'.Perm hs → ts'.Pairwise (· ≤ ·) → hs'.Pairwise (· ≤ ·) → Fp C H' x ts' hs' → W x H') :
    ∀ x dx, H x = none → H dx = none → dx ≠ x → spFInit K C [.ref x, .ref u, .ref v] (upd (upd H dx (.own x)) x (.ins C dx [])) (fun v H3 => v = .non ∧ W x H3) (fun _ _ _ => False) := by
  intro x dx hx hdx ne
  have s3 : Same H (upd (upd H dx (.own x)) x (.ins C dx [])) := fun z o e => by
    rw [upd_ne (ne_of_none e hx), upd_ne (ne_of_none e hdx)]
    exact e
  refine ⟨x, dx, u, v, ts, hs, rfl, upd_same, hu.same s3, hv.same s3, l1, l2, c1, c2, n1, n2, ev, fun H' ts' hs' bt p1 p2 w1 w2 fp => ⟨rfl, ?_⟩⟩
  exact out x ts' hs' H' hx (fun z o e => bt z o (ne_of_none e hx) (s3 _ _ e)) p1 p2 w1 w2 fp
/-- the pairs at as are these -/
def Prs (K : PySem.W.Frag) (H : Hp) : List Addr → List (List Int × List Int) → Prop
  | [], [] => True
  | a :: as, p :: ps => Pr K H a p.1 p.2 ∧ Prs K H as ps
  | _, _ => False
theorem Prs.same {H H' : Hp} (s : Same H H') : ∀ {as : List Addr} {ps : List (List Int × List Int)}, Prs K H as ps → Prs K H' as ps
  | [], [], _ => True.intro
  | _ :: _, _ :: _, h => ⟨h.1.same s, h.2.same s⟩
  | [], _ :: _, h => h.elim
  | _ :: _, [], h => h.elim
theorem Prs.len {H : Hp} : ∀ {as : List Addr} {ps : List (List Int × List Int)}, Prs K H as ps → as.length = ps.length
  | [], [], _ => rfl
  | _ :: _, _ :: _, h => by
    rw [List.length_cons, List.length_cons, h.2.len]
  | [], _ :: _, h => h.elim
  | _ :: _, [], h => h.elim
theorem Prs.at {H : Hp} : ∀ {as : List Addr} {ps : List (List Int × List Int)} {i : Nat} {a : Addr}, Prs K H as ps → as[i]? = some a → ∃ p, ps[i]? = some p ∧ Pr K H a p.1 p.2
  | [], [], _, _, _, h => nomatch h
  | _ :: _, p :: _, 0, _, h, e => ⟨p, rfl, by
      have : _ = _ := Option.some.inj e
      exact this ▸ h.1⟩
  | _ :: _, _ :: _, i + 1, _, h, e => h.2.at (i := i) e
  | [], _ :: _, _, _, h, _ => h.elim
  | _ :: _, [], _, _, h, _ => h.elim
def spAfterAll (K : PySem.W.Frag) : Sp := fun vs H Q _ => ∃ (a l : Addr) (bs : List Int) (as : List Addr) (ps : List (List Int × List Int)), vs = [.ref a, .ref l] ∧ H a = some (.lst (bs.map V.int)) ∧ bs.length ≤ 40 ∧ H l = some (.lst (as.map V.ref)) ∧ Prs K H as ps ∧
  (∀ p ∈ ps, p.1.length ≤ 500 ∧ ∀ k ∈ p.1, 0 ≤ k ∧ k < bs.length) ∧ ∀ q H', Same H H' → H' q = some (.lst ((runB bs ps).map V.int)) → Q (.ref q) H'
abbrev nAfterAll : List Str := ["_law_bits_here", "_law_pairs_here", "_law_found", "_law_pair_here"]
theorem scAfterAll : FnScope nAfterAll ["_law_bits_here", "_law_pairs_here"] (defScope slAfterAll) := ⟨rfl, rfl, rfl, by decide +kernel, rfl, by decide +kernel, by decide +kernel⟩
theorem ok_afterAll {f : Addr} {fd : FuncData} (F : Fun K "_law_after_all" "_law_after_all" slAfterAll f fd) (B : Bl mg) (DA : Has P w K mg base "_law_after" 3 ["_law_bits_here", "_law_pair_here"] (spAfter K)) : FnOk P w K mg base CX0 4 f fd ["_law_bits_here", "_law_pairs_here"] (spAfterAll K) := by
  obtain ⟨fA, fdA, GA, mA, kA, bA⟩ := DA
  refine F.ok scAfterAll (fun vs H Q E h => ?_) (fun cdv A outer s H vs Q E hr h => ?_)
  · obtain ⟨a, l, bs, as, ps, rfl, _⟩ := h
    rfl
  · obtain ⟨a, l, bs, as, ps, rfl, ha, h40, hl, hp, hin, out⟩ := h
    refine ⟨_, pss_cons (ps_set (i := 2) scAfterAll.nd rfl (Or.inl rfl) (pe_callTy call_list_of (by rfl) B.list (by decide +kernel) (pa_cons (pv 0) pa_nil)))
      (pss_cons (ps_for PassesOwn.never rfl (pi_list (pv 1)) (pg_name (i := 3) scAfterAll.nd rfl (Or.inl rfl)) (pss_one (ps_set (i := 2) scAfterAll.nd rfl (Or.inl rfl) (pe_call GA hr (by rfl) mA kA bA .nil pass0 (pa_cons (pv 2) (pa_cons (pv 3) pa_nil))))))
      (pss_one (ps_ret (pv 2)))), ?_⟩
    refine ⟨_, rfl, a, _, rfl, .inl (SqL.of ha), fun c hc => ?_⟩
    have s1 := same_new (o := .lst (bs.map V.int)) hc
    refine ⟨_, rfl, l, rfl, ⟨_, SqL.of (s1 _ _ hl)⟩, ?_⟩
    refine for_list (K := K) (a := l) (xs := as.map V.ref) (fun i σ H' => Same H H' ∧ ∃ (q : Addr) (v3 : Option V), σ = [some (.ref a), some (.ref l), some (.ref q), v3] ∧ H' q = some (.lst ((runB bs (ps.take i)).map V.int)))
      ⟨s1, c, none, rfl, upd_same⟩ (fun i σ H' _ h => SqL.of (h.1 _ _ hl)) ?_ ?_
    · rintro i x σ H2 hx ⟨s2, q, v3, rfl, hq⟩
      rw [List.getElem?_map] at hx
      obtain ⟨g, hg, rfl⟩ : ∃ g, as[i]? = some g ∧ x = V.ref g := by
        cases e : as[i]? with
        | none => rw [e] at hx; cases hx
        | some k => rw [e] at hx; exact ⟨k, rfl, (Option.some.inj hx).symm⟩
      obtain ⟨p, hpp, pr⟩ := hp.at hg
      obtain ⟨l1, l2⟩ := hin p (List.mem_of_getElem? hpp)
      refine ⟨_, rfl, _, rfl, q, g, runB bs (ps.take i), p.1, p.2, rfl, hq, by rw [run_len]; exact h40, pr.same s2, l1, fun k hk => by rw [run_len]; exact l2 k hk, fun r H3 hr3 s3 e3 => ?_⟩
      refine ⟨s2.trans s3, r, _, rfl, ?_⟩
      rw [run_take hpp]
      exact e3
    · rintro σ H2 ⟨s2, q, v3, rfl, hq⟩
      rw [List.length_map, hp.len, List.take_length] at hq
      exact ⟨_, rfl, out q H2 s2 hq⟩
theorem seq_outE {te : TE} {g : TG} {rest : TS} {D : Ends} {σ : L2.St} {H : Hp} (R : V → Hp → Prop) (out : ∀ v H', R v H' → tSeq (tAsg (tC v) g) rest D σ H') (h : ∀ Q' : VK, (∀ v H', R v H' → Q' v H') → te σ H Q') : tSeq (tAsg te g) rest D σ H := h _ out
end
end K49
namespace K49
open PySem PySem.Spec PyProof.Rows L2 Par
theorem rg_eq (n : Nat) : rgV 0 ((n : Nat) : Int) = ((List.range n).map fun i => (0 : Int) + ((i : Nat) : Int)).map V.int := by
  unfold rgV
  rw [List.map_map, show (((n : Nat) : Int) - 0).toNat = n by omega]
  rfl
theorem all_bitsL (bs : List Int) : (List.range bs.length).map (fun i => bs.getD i 0) = bs := by
  refine List.ext_getElem (by simp) fun i h1 h2 => ?_
  simp [List.getElem?_eq_getElem h2]
theorem sum_all (bs : List Int) : (((List.range bs.length).map fun i => (0 : Int) + ((i : Nat) : Int)).map fun k => bs.getD k.toNat 0).sum = bs.sum := by
  rw [List.map_map]
  have e : (List.range bs.length).map ((fun k : Int => bs.getD k.toNat 0) ∘ fun i => (0 : Int) + ((i : Nat) : Int)) = (List.range bs.length).map (fun i => bs.getD i 0) := List.map_congr_left fun i _ => by
    show bs.getD ((0 : Int) + ((i : Nat) : Int)).toNat 0 = bs.getD i 0
    rw [Int.zero_add, Int.toNat_natCast]
  rw [e, all_bitsL]
theorem map_bits (bs : List Int) : (List.range bs.length).map (fun i => decide (bs.getD i 0 = 1)) = bs.map fun b => decide (b = 1) := by
  have := congrArg (List.map fun b : Int => decide (b = 1)) (all_bitsL bs)
  rw [List.map_map] at this
  exact this
theorem bit_eq (k : Int) : decide (V.int k = V.int 1) = decide (k = 1) := by
  by_cases z : k = 1
  · rw [decide_eq_true z, decide_eq_true (by rw [z])]
  · rw [decide_eq_false z, decide_eq_false fun q => z (by injection q)]
end K49
namespace Par
open PySem PySem.Spec PyProof.Rows L2
/-! ### list(it), it an iterator that walks by itself and whose length hint is silent -/
section
variable {prog : Program} {w : World} {A : Around} {E : Value → Shared → Prop} {s : Shared}
variable {J : Addr} {fp wr : List Addr} {G : Array GenState → Array GenState → Prop} {n : Nat} {Pi : Nat → Value → Prop} {St : Nat → Shared → Prop} {T : String}
/-- what list(..) asks of the iterator besides its walk -/
structure Quiet (prog : Program) (w : World) (J : Addr) (St : Nat → Shared → Prop) (T : String) : Prop where
  ty : ∀ i s, St i s → s.TypeIs (.ref J) T
  is : T = "list_reverseiterator" ∨ T = "reversed"
  hint : ∀ (A : Around) (E : Value → Shared → Prop) (s : Shared) (Q : Bool → Shared → Prop), St 0 s → (∀ b tk, s.toks ≤ tk → Q b { s with toks := tk }) → wpAny (model prog w) A (Builtin.List.listLengthHint (.ref J)) Q E s
theorem made_it {R : Result → Shared → Prop} (W : WalksS prog w A.in1 J fp wr G n Pi St) (q : Quiet prog w J St T) (S : Addr) (hst : St 0 s) (hSf : S ∉ fp) (hJ : J ∈ fp) (hn : n ≤ sizeLine)
    (hS : s.heap.get? S = some { cls := .type "list", data := .seq #[] })
    (hR : ∀ s' acc c, Moved (S :: wr) G s s' → s'.heap.get? S = some { cls := .type "list", dict := none, data := .seq acc c, slots := #[] } → ItemsOf Pi acc n → R (.ok (.ret .none)) s') :
    wpAny (model prog w) A.in1 (Builtin.«list.__init__» ⟨[.ref S, .ref J], []⟩)
      (fun fin s' => match fin with | .done f => R (.ok f) s' | .again c => c.quiet = true ∧ codeAny (model prog w) A c R s') (fun e s' => R (.error e) s') s := by
  have ne : S ≠ J := by
    intro e
    exact hSf (e ▸ hJ)
  show wpAny _ A.in1 (do let old ← Builtin.List.listItems (.ref S); Builtin.List.listUpdate (.ref S) (fun _ => #[]); letGo old.toList.reverse
                         Builtin.List.listExtendWith (.ref S) (.ref J) .none) _ _ s
  refine wpAny_bind ?_
  unfold Builtin.List.listItems
  refine wpAny_bind (wpAny_seqItems hS rfl (wpAny_pure ?_))
  show wpAny _ A.in1 (updateSeq S (fun _ => #[]) >>= fun _ => letGo (#[] : Array Value).toList.reverse >>= fun _ =>
    Builtin.List.listExtendWith (.ref S) (.ref J) .none) _ _ s
  refine wpAny_bind (wpAny_updateSeq hS rfl ?_)
  have hS2 := Heap.get?_update_self (Obj.mapSeq (fun _ => (#[] : Array Value))) hS rfl
  have oth : ∀ b o, b ≠ S → s.heap.get? b = some o → (s.heap.update S (Obj.mapSeq (fun _ => (#[] : Array Value)))).get? b = some o := by
    intro b o hb e
    exact (Heap.get?_update_other _ _ (Ne.symm hb)).trans e
  refine wpAny_bind (wpAny_letGo ?_)
  have st2 := W.frame 0 s (s.heap.update S (Obj.mapSeq (fun _ => (#[] : Array Value)))) s.toks hst (Nat.le_refl _) (by
    intro b hb o e
    exact oth b o (fun h => hSf (h ▸ hb)) e)
  unfold Builtin.List.listExtendWith
  refine wpAny_bind (wpAny_typeOf (q.ty 0 _ st2) ?_)
  have same : Builtin.List.listSameRef (.ref S) (.ref J) = false := by simp [Builtin.List.listSameRef, ne]
  have nl : (Value.type T == Value.type "list") = false := by rcases q.is with rfl | rfl <;> decide
  have nt : (Value.type T == Value.type "tuple") = false := by rcases q.is with rfl | rfl <;> decide
  simp only [same, nl, nt, Bool.or_false, Bool.false_eq_true, if_false]
  refine wpAny_bind (W.self 0 _ _ _ st2 ?_)
  refine wpAny_bind (wpAny_holding (q.hint _ _ _ _ st2 ?_))
  intro b tk le
  have rest : ∀ (h3 : Heap) (c0 : Nat), h3.get? S = some { cls := .type "list", dict := none, data := .seq #[] c0, slots := #[] } → (∀ b o, b ≠ S → s.heap.get? b = some o → h3.get? b = some o) →
      codeAny (model prog w) A (.builtin "list.extend.loop" ⟨[.ref S, .ref J, .none], []⟩) R { s with heap := h3, toks := tk } := by
    intro h3 c0 e3 o3
    have st3 := W.frame 0 s h3 tk hst le (by
      intro b hb o e
      exact o3 b o (fun h => hSf (h ▸ hb)) e)
    refine codeAny_extend_loopS W hn _ hSf _ n 0 _ _ _ rfl (Nat.zero_le _) st3 e3 (ItemsOf.nil Pi) ?_
    intro s' acc c hm hS' hacc
    refine hR s' acc c (Moved.trans W.gtrans ((Moved.refl W.grefl).then_heap le ?_) hm) hS' hacc
    intro b o hb e
    exact o3 b o (fun h => hb (h ▸ List.mem_cons_self)) e
  cases b with
  | false =>
    rw [if_neg (by rcases q.is with rfl | rfl <;> decide)]
    exact wpAny_pure ⟨plainId_quiet F.plain_extend_loop _, rest _ _ hS2 oth⟩
  | true =>
    rw [if_pos (by rcases q.is with rfl | rfl <;> decide)]
    refine wpAny_bind (wpAny_rule ?_)
    refine wpAny_bind ?_
    show wpAny _ A.in1 (updateSeq S (·.push .none) >>= fun _ => updateSeq S (·.pop)) _ _ _
    refine wpAny_bind (wpAny_updateSeq hS2 rfl ?_)
    have hS3 := Heap.get?_update_self (Obj.mapSeq (·.push Value.none)) hS2 rfl
    refine wpAny_updateSeq (hz := by seq_fits) hS3 rfl ?_
    have hS4 := Heap.get?_update_self (Obj.mapSeq (·.pop)) hS3 rfl
    refine wpAny_pure ⟨plainId_quiet F.plain_extend_loop _, rest _ _ hS4 ?_⟩
    intro b o hb e
    exact (Heap.get?_update_other _ _ (Ne.symm hb)).trans ((Heap.get?_update_other _ _ (Ne.symm hb)).trans (oth b o hb e))
theorem call_list_it {Q : Value → Shared → Prop} (W : WalksS prog w A.in1.in1 J fp wr G n Pi St) (q : Quiet prog w J St T) (hst : St 0 s) (hfp : ∀ b ∈ fp, b < s.heap.objs.size) (hJ : J ∈ fp) (hn : n ≤ sizeLine)
    (hQ : ∀ s' acc c, Moved (s.heap.objs.size :: wr) G { s with heap := s.heap.push { cls := .type "list", data := .seq #[] } } s' →
      s'.heap.get? s.heap.objs.size = some { cls := .type "list", dict := none, data := .seq acc c, slots := #[] } → ItemsOf Pi acc n → Q (.ref s.heap.objs.size) s') :
    wpAny (model prog w) A (call (.type "list") [.ref J]) Q E s := by
  have out : s.heap.objs.size ∉ fp := by
    intro hm
    exact Nat.lt_irrefl _ (hfp _ hm)
  refine callType_codes (Q₁ := fun obj t => obj = .ref s.heap.objs.size ∧ t = { s with heap := s.heap.push { cls := .type "list", data := .seq #[] } }) F.called_list (F.typeCall_list_1 _) F.entry_list_init (code_list_new _ ⟨rfl, rfl⟩) ?_
  rintro obj t ⟨rfl, rfl⟩
  have hS : (s.heap.push { cls := .type "list", data := .seq #[] }).get? s.heap.objs.size = some { cls := .type "list", data := .seq #[] } := Heap.get?_push_size _ rfl
  have st2 := W.frame 0 s (s.heap.push { cls := .type "list", data := .seq #[] }) s.toks hst (Nat.le_refl _) (by
    intro b _ o e
    exact Heap.get?_push_of_some _ e)
  refine ⟨⟨_, hS, rfl⟩, F.args_list_init_2 _ _, made_it W q _ st2 out hJ hn hS ?_⟩
  intro s' acc c hm hS' hacc
  exact ⟨rfl, hQ s' acc c hm hS' hacc⟩
end
/-! ### reversed(list), reversed(tuple) as such iterators -/
theorem nolen_rv : typeLookup (.type "reversed") "__len__" = pure none := by rw [typeLookup_type, builtinLookup_eq_fast]; kernel_rfl
theorem hint_rv : typeLookup (.type "reversed") "__length_hint__" = pure (some (.builtin "reversed.__length_hint__")) := by rw [typeLookup_type, builtinLookup_eq_fast]; kernel_rfl
section
variable {prog : Program} {w : World}
theorem slot_rv_hint : Slot "reversed" "__length_hint__" "reversed.__length_hint__" :=
  .of (owner := "reversed") (n := "__length_hint__") hint_rv (by decide +kernel) (by decide +kernel) (by decide +kernel) (by first | exact .inl (by decide +kernel) | exact .inr (by decide +kernel)) (by rw [isSubtype_type]; kernel_rfl)
theorem entry_rv_hint : entryFor table "reversed.__length_hint__" = some Builtin.«reversed.__length_hint__» := entryFor_of_tree (by kernel_rfl)
theorem args_rv_hint (a : Value) : argsOk "reversed.__length_hint__" ⟨[a], []⟩ := by
  unfold argsOk
  rw [signature?_of (id := "reversed.__length_hint__") (n := "__length_hint__".toList.reverse) (o := ['d', 'e', 's', 'r', 'e', 'v', 'e', 'r']) (by kernel_rfl) RT.owner_rt]
  kernel_rfl
theorem hint_lri {A : Around} {E : Value → Shared → Prop} {s : Shared} {J : Addr} (hT : s.TypeIs (.ref J) "list_reverseiterator") {Q : Bool → Shared → Prop} (h : Q false s) :
    wpAny (model prog w) A (Builtin.List.listLengthHint (.ref J)) Q E s := by
  unfold Builtin.List.listLengthHint
  refine wpAny_bind (wpAny_specialOf hT RT.nolen_lri ?_)
  show wpAny _ A (specialOf (Value.ref J) (Str.ofString "__length_hint__") >>= _) _ _ _
  refine wpAny_bind (wpAny_specialOf hT RT.hint_lri ?_)
  generalize hid : ("list_reverseiterator.__length_hint__" : String) = id0
  wp_delta
  rw [show splitId id0 = some ("list_reverseiterator", "__length_hint__") from by subst hid; decide +kernel]
  subst hid
  refine wpAny_bind (wpAny_isInstance (b := true) hT (by rw [isSubtype_type]; kernel_rfl) ?_)
  exact wpAny_pure h
theorem call_hint {A : Around} {E : Value → Shared → Prop} {s : Shared} {J t : Addr} {items : Array Value} (hit : RT.IsRt s.heap J t ((items.size : Int) - 1)) (ht : IsTup s.heap t items) (hz : items.size ≤ sizeLine) {Q : Value → Shared → Prop}
    (h : ∀ u tk, s.toks ≤ tk → Q (.int (items.size : Int) u) { s with toks := tk }) : wpAny (model prog w) A (call (.builtin "reversed.__length_hint__") [.ref J]) Q E s := by
  obtain ⟨o, ho, hc, hd⟩ := id hit
  rw [sizeLine_eq] at hz
  refine wpAny_call_entry slot_rv_hint hit.typeIs entry_rv_hint ?_ (args_rv_hint _)
  unfold Builtin.«reversed.__length_hint__»
  refine wpAny_bind (wpAny_of_eq (a := Value.ref J) rfl ?_)
  try dsimp only
  refine wpAny_bind (wpAny_field ho hd (x := .ref t) rfl ?_)
  try dsimp only
  rw [if_neg (show ¬ ((Value.ref t == Value.none) = true) from by simp)]
  refine wpAny_bind (PyProof.Rows.len_tuple ht (by omega) ?_)
  refine wpAny_bind (wpAny_of_eq (a := some ((items.size : Nat) : Int)) rfl ?_)
  try dsimp only
  refine wpAny_bind (wpAny_field (s := { s with toks := s.toks + 1 + 1 }) ho hd (x := rawInt ((items.size : Int) - 1)) rfl ?_)
  try dsimp only
  show wpAny _ _ (if ((items.size : Nat) : Int) < ((items.size : Int) - 1 + 1) then _ else retInt ((items.size : Int) - 1 + 1)) _ _ _
  rw [show ((items.size : Int) - 1 + 1) = (items.size : Int) by omega, if_neg (by omega)]
  unfold retInt
  refine wpAny_bind (wpAny_mkInt ?_)
  exact wpAny_pure ⟨_, rfl, h _ _ (by show s.toks ≤ s.toks + 1 + 1 + 1; omega)⟩
theorem hint_rt {A : Around} {E : Value → Shared → Prop} {s : Shared} {J t : Addr} {items : Array Value} (hit : RT.IsRt s.heap J t ((items.size : Int) - 1)) (ht : IsTup s.heap t items) (hz : items.size ≤ sizeLine) {Q : Bool → Shared → Prop}
    (h : ∀ b tk, s.toks ≤ tk → Q b { s with toks := tk }) : wpAny (model prog w) A (Builtin.List.listLengthHint (.ref J)) Q E s := by
  have hT := hit.typeIs
  unfold Builtin.List.listLengthHint
  refine wpAny_bind (wpAny_specialOf hT nolen_rv ?_)
  show wpAny _ A (specialOf (Value.ref J) (Str.ofString "__length_hint__") >>= _) _ _ _
  refine wpAny_bind (wpAny_specialOf hT hint_rv ?_)
  generalize hid : ("reversed.__length_hint__" : String) = id0
  wp_delta
  rw [show splitId id0 = some ("reversed", "__length_hint__") from by subst hid; decide +kernel]
  subst hid
  refine wpAny_bind (wpAny_isInstance (b := true) hT (by rw [isSubtype_type]; kernel_rfl) ?_)
  simp only [Bool.not_true, Bool.false_eq_true, if_false]
  rw [if_neg (by decide)]
  refine wpAny_bind (wpAny_rule ?_)
  refine wpAny_bind (wpAny_of_eq (slot_rv_hint.bind _) ?_)
  try dsimp only
  refine wpAny_bind (wpAny_attempt (call_hint hit ht hz ?_))
  intro u tk le
  show wpAny _ A (asInt? (Value.int ((items.size : Nat) : Int) u) >>= _) _ _ _
  refine wpAny_bind ?_
  show wpAny _ A (pure (some ((items.size : Nat) : Int))) _ _ _
  refine wpAny_pure ?_
  dsimp only
  have fits : Builtin.List.listFitsIndex ((items.size : Nat) : Int) = true := by
    rw [sizeLine_eq] at hz
    unfold Builtin.List.listFitsIndex
    simp only [Bool.and_eq_true, decide_eq_true_eq]
    omega
  rw [fits, if_neg (by decide), if_neg (by omega)]
  have short : Builtin.List.listTooLong ((items.size : Nat) : Int).toNat = false := by
    unfold Builtin.List.listTooLong
    simp
    omega
  rw [short, if_neg (by decide)]
  exact wpAny_pure (h _ tk le)
theorem walk_rt {A : Around} (hh : A.handled = none) (J t : Addr) (hne : t ≠ J) (items : Array Value) (hz : items.size ≤ sizeLine) :
    Walks prog w A J [J, t] [J] items.size (fun i v => items[items.size - 1 - i]? = some v) (fun i h => i ≤ items.size ∧ RT.IsRt h J t ((items.size : Int) - 1 - (i : Int)) ∧ IsTup h t items) where
  sub := by
    intro b hb
    simp at hb
    simp [hb]
  frame := by
    rintro i h h' ⟨x1, x2, o, e, r⟩ hk
    exact ⟨x1, x2.at fun o e => hk J (by simp) o e, o, hk t (by simp) o e, r⟩
  item := by
    rintro i s Q E hi ⟨x1, x2, x3⟩ hQ
    have e : (items.size : Int) - 1 - (i : Int) = ((items.size - 1 - i : Nat) : Int) := by omega
    rw [e] at x2
    have hx : items[items.size - 1 - i]? = some items[items.size - 1 - i] := by simp
    refine RT.next_rt_item x2 x3 hx hz fun h' st sb => ?_
    have e2 : ((items.size - 1 - i : Nat) : Int) - 1 = (items.size : Int) - 1 - ((i + 1 : Nat) : Int) := by omega
    rw [e2] at st
    obtain ⟨o, ho, r⟩ := x3
    refine hQ _ h' _ hx ⟨hi, st, o, (sb.2 t hne).trans ho, r⟩ fun b u hb eb => (sb.2 b (by simpa using hb)).trans eb
  done := by
    rintro s Q E ⟨x1, x2, x3⟩ hQ
    have e : (items.size : Int) - 1 - ((items.size : Nat) : Int) = -1 := by omega
    rw [e] at x2
    exact RT.next_rt_end hh x2 fun h' eb => hQ h' s.toks fun b u hb e => eb b u (by simpa using hb) e
  self := fun i s Q E st h => RT.iter_rt st.2.1 h
end
/-- list(reversed(x)), x a list or a tuple: a new list -/
def tLstRev (K : PySem.W.Frag) (te : TE) : TE := fun σ H Q => te σ H fun v H1 => ∃ (a : Addr) (xs : List V), v = .ref a ∧ (SqL K H1 a xs ∨ SqT K H1 a xs) ∧ ∀ q, H1 q = none → Q (.ref q) (upd H1 q (.lst xs.reverse))
section
variable {X : Cx}
theorem pe_listRev {e : Expr} {te : TE} {p p2 pos pos2 : Pos} (hc : X.calm = true) (hg : Gl X "list") (hm : X.mg "list" = none) (hg2 : Gl X "reversed") (hm2 : X.mg "reversed" = none) (he : PE X e te)
    (hs : starEach [e] X.env = (false, eval e X.env) :: starEach [] X.env := by rfl)
    (hs2 : starEach [.Call (.Name "reversed" p2) [e] [] pos2] X.env = (false, eval (.Call (.Name "reversed" p2) [e] [] pos2) X.env) :: starEach [] X.env := by rfl) :
    PE X (.Call (.Name "list" p) [.Call (.Name "reversed" p2) [e] [] pos2] [] pos) (tLstRev X.K te) := by
  constructor
  intro pins s σ H Q I h
  refine Call_ (ld_blt I hg hm (show bootBuiltins (Str.ofString "list") = some (Value.type "list") by decide +kernel) (PyProof.Rows.callWith_type1 (args_cons (Call_ (ld_blt I hg2 hm2 PyProof.Rows.boot_reversed (PyProof.Rows.callWith_type1 (args_cons (thn (he.run pins s σ H _ I h) ?_) hs) hs rfl))) hs2) hs2 rfl))
  rintro u s1 ⟨v, H1, I1, r1, q1⟩
  refine args_nil ?_
  obtain ⟨a, xs, ev, hq, q⟩ := q1
  subst ev
  obtain rfl : u = Value.ref a := r1
  obtain ⟨f0, f1, f2, f3, f4, f5⟩ := I1.fpOk (H' := H1) (b := s1.heap.objs.size) (Nat.le_refl _) (I1.hok.fresh (Nat.le_refl _))
  have fin : ∀ (its : List Value) (ob : Obj) (tk0 : Nat), Vals xs its → xs.length ≤ sizeLine → ∀ (s' : Shared) (acc : Array Value) (c : Nat),
      Moved ((s1.heap.push ob).objs.size :: [s1.heap.objs.size]) (fun a b => b = a) { s1 with heap := (s1.heap.push ob).push { cls := .type "list", data := .seq #[] }, toks := tk0 } s' →
      s'.heap.get? (s1.heap.push ob).objs.size = some { cls := .type "list", dict := none, data := .seq acc c, slots := #[] } → ItemsOf (fun i v => its.toArray[its.toArray.size - 1 - i]? = some v) acc its.toArray.size → EP X pins σ Q (.ref (s1.heap.push ob).objs.size) s' := by
    intro its ob tk0 rv hz s' acc c mv got items
    have sz : (s1.heap.push ob).objs.size = s1.heap.objs.size + 1 := by simp [Heap.push]
    have lt : s1.heap.objs.size < (s1.heap.push ob).objs.size := by rw [sz]; exact Nat.lt_succ_self _
    have ne : s1.heap.objs.size ≠ (s1.heap.push ob).objs.size := Nat.ne_of_lt lt
    have I2 : L2.Inv X pins σ H1 { s1 with heap := s1.heap.push ob } := I1.kept (t' := s1.toks) fun b o e => Heap.get?_push_of_some _ e
    have I3 := I2.laid (t' := s1.toks) (a := (s1.heap.push ob).objs.size) (o := .lst xs.reverse) (h' := (s1.heap.push ob).push { cls := .type "list", dict := none, data := .seq acc c, slots := #[] }) (fun b o e => Heap.get?_push_of_some _ e) (Nat.le_refl _)
      (show ObjOk X.prog X.w _ _ _ (.lst xs.reverse) from ⟨by rw [List.length_reverse]; exact hz, acc.toList, c, RT.vals_rev rv items, by rw [Array.toArray_toList]; exact Heap.get?_push_size _ rfl⟩)
    have I4 := I3.turned (t' := s'.toks) (it := s1.heap.objs.size) (h' := s'.heap) (by
      intro b o hb e
      rcases Heap.get?_push_cases e with ⟨z, eo⟩ | e2
      · rw [z, eo]
        exact got
      · refine mv.heap b o ?_ (Heap.get?_push_of_some _ e2)
        intro hm
        rcases List.mem_cons.mp hm with z | z
        · exact absurd (Heap.lt_size e2) (by rw [z]; exact Nat.lt_irrefl _)
        · exact hb (List.mem_singleton.mp z)) (by rw [upd_ne ne]; exact f0) f1 f3 f4 f5
    rw [Moved.eq_with mv]
    refine ⟨.ref (s1.heap.push ob).objs.size, _, I4, rfl, q _ (I1.hok.fresh ?_)⟩
    exact Nat.le_of_lt lt
  rcases hq with hq | hq
  · obtain ⟨its, rv, p', hz⟩ := I1.list hq
    have hl := p'.isList
    obtain ⟨ol, hol, _⟩ := id hl
    have hna : a ≠ s1.heap.objs.size := Nat.ne_of_lt (Heap.lt_size hol)
    refine call_reversed_list hl (args_nil ?_)
    have W := (Walks.listRev (prog := X.prog) (w := X.w) (A := X.A.in1.in1) (I1.ok.hd hc) s1.heap.objs.size a hna its.toArray).toS
    have qt : Quiet X.prog X.w s1.heap.objs.size (fun i s => i ≤ its.toArray.size ∧ s.heap.IsRevIter s1.heap.objs.size a ((its.toArray.size : Int) - 1 - (i : Int)) ∧ s.heap.IsList a its.toArray) "list_reverseiterator" :=
      ⟨fun i s st => st.2.1.typeIs, .inl rfl, fun A E s Q st h => hint_lri st.2.1.typeIs (h false s.toks (Nat.le_refl _))⟩
    refine call_list_it W qt ⟨Nat.zero_le _, ?_, hl.push _⟩ ?_ (by simp) (by rw [List.size_toArray, ← rv.length]; exact hz) ?_
    · rw [show ((its.toArray.size : Int) - 1 - ((0 : Nat) : Int)) = (its.toArray.size : Int) - 1 by omega]
      exact ⟨_, Heap.get?_push_size _ rfl, rfl, rfl⟩
    · intro b hb
      have sz : (s1.heap.push (revObj a ((its.toArray.size : Int) - 1))).objs.size = s1.heap.objs.size + 1 := by simp [Heap.push]
      show b < (s1.heap.push (revObj a ((its.toArray.size : Int) - 1))).objs.size
      rw [sz]
      rcases List.mem_cons.mp hb with z | z
      · rw [z]
        exact Nat.lt_succ_self _
      · rw [List.mem_singleton.mp z]
        exact Nat.lt_succ_of_lt (Heap.lt_size hol)
    · intro s' acc c mv got items
      exact fin its _ _ rv hz s' acc c mv got items
  · obtain ⟨its, rv, p', hz⟩ := I1.tuple hq
    have hsz : its.toArray.size ≤ sizeLine := by rw [List.size_toArray, ← rv.length]; exact hz
    obtain ⟨ol, hol, hcl⟩ := id p'
    have hna : a ≠ s1.heap.objs.size := Nat.ne_of_lt (Heap.lt_size hol)
    have hn := line63
    refine RT.call_reversed_tup p' (fun A E Q k => PyProof.Rows.len_tuple p' (by simp only [List.size_toArray] at hsz ⊢; omega) k) (args_nil ?_)
    have W := (walk_rt (prog := X.prog) (w := X.w) (A := X.A.in1.in1) (I1.ok.hd hc) s1.heap.objs.size a hna its.toArray hsz).toS
    have qt : Quiet X.prog X.w s1.heap.objs.size (fun i s => i ≤ its.toArray.size ∧ RT.IsRt s.heap s1.heap.objs.size a ((its.toArray.size : Int) - 1 - (i : Int)) ∧ IsTup s.heap a its.toArray) "reversed" :=
      ⟨fun i s st => st.2.1.typeIs, .inr rfl, fun A E s Q st h => hint_rt (by
        have := st.2.1
        rw [show ((its.toArray.size : Int) - 1 - ((0 : Nat) : Int)) = (its.toArray.size : Int) - 1 by omega] at this
        exact this) st.2.2 hsz h⟩
    refine call_list_it W qt ⟨Nat.zero_le _, ?_, ol, Heap.get?_push_of_some _ hol, hcl⟩ ?_ (by simp) hsz ?_
    · rw [show ((its.toArray.size : Int) - 1 - ((0 : Nat) : Int)) = (its.toArray.size : Int) - 1 by omega]
      exact ⟨_, Heap.get?_push_size _ rfl, rfl, rfl⟩
    · intro b hb
      have sz : (s1.heap.push (RT.rtObj a ((its.toArray.size : Int) - 1))).objs.size = s1.heap.objs.size + 1 := by simp [Heap.push]
      show b < (s1.heap.push (RT.rtObj a ((its.toArray.size : Int) - 1))).objs.size
      rw [sz]
      rcases List.mem_cons.mp hb with z | z
      · rw [z]
        exact Nat.lt_succ_self _
      · rw [List.mem_singleton.mp z]
        exact Nat.lt_succ_of_lt (Heap.lt_size hol)
    · intro s' acc c mv got items
      exact fin its _ _ rv hz s' acc c mv got items
end
end Par
namespace Par
open PySem PySem.Spec PyProof.Rows L2
/-! ### repr of data in which dicts with one text as a key may stand -/
/-- a flat thing, a dict with one text as a key -/
inductive Sx (H : Hp) : V → PyData → Prop
  | fl {v : V} {d : PyData} : Fl H v d → Sx H v d
  | dicS {a : Addr} {x : Str} {j : Int} : H a = some (.dK [(Sum.inr x, .int j)]) → Sx H (.ref a) (.dict [(.str x, .int j)])
inductive SxAll (H : Hp) : List V → List PyData → Prop
  | nil : SxAll H [] []
  | cons {v : V} {vs : List V} {d : PyData} {ds : List PyData} : Sx H v d → SxAll H vs ds → SxAll H (v :: vs) (d :: ds)
/-- data without a dict, a flat thing, a tuple of flat things -/
inductive Da (K : PySem.W.Frag) (H : Hp) : V → PyData → Prop
  | dp {v : V} {d : PyData} : Dp K H v d → Da K H v d
  | sx {v : V} {d : PyData} : Sx H v d → Da K H v d
  | tup {a : Addr} {xs : List V} {ds : List PyData} : H a = some (.tup xs) → SxAll H xs ds → Da K H (.ref a) (.tuple ds)
theorem sx_same {H H' : Hp} (s : Same H H') {v : V} {d : PyData} (h : Sx H v d) : Sx H' v d := by
  cases h with
  | fl f => exact .fl (fl_same s f)
  | dicS e => exact .dicS (s _ _ e)
theorem sxAll_same {H H' : Hp} (s : Same H H') : ∀ {vs : List V} {ds : List PyData}, SxAll H vs ds → SxAll H' vs ds
  | _, _, .nil => .nil
  | _, _, .cons h1 h2 => .cons (sx_same s h1) (sxAll_same s h2)
theorem da_same {K : PySem.W.Frag} {H H' : Hp} (s : Same H H') {v : V} {d : PyData} (h : Da K H v d) : Da K H' v d := by
  cases h with
  | dp h => exact .dp (dp_same s _ _ h)
  | sx h => exact .sx (sx_same s h)
  | tup e h => exact .tup (s _ _ e) (sxAll_same s h)
theorem sxAll_append {H : Hp} : ∀ {xs ys : List V} {ds es : List PyData}, SxAll H xs ds → SxAll H ys es → SxAll H (xs ++ ys) (ds ++ es)
  | _, _, _, _, .nil, h => h
  | _, _, _, _, .cons h1 h2, h => .cons h1 (sxAll_append h2 h)
section
variable {X : Cx} {pins : List (Addr × Obj)} {σ : L2.St} {H : Hp} {s : Shared}
theorem sx_reads (I : Inv X pins σ H s) {v : V} {d : PyData} {u : Value} (h : Sx H v d) (r : RelV v u) : ∃ as, Reads s.heap u d as ∧ sysModules ∉ as := by
  cases h with
  | fl f => exact fl_reads I f r
  | @dicS a x j e =>
    cases r
    obtain ⟨_, ns, vs, kv, o, es, ep, ho, hx, hd, hk, hp, _⟩ := dk_of I.hok e
    have ne : sysModules ≠ a := fun z => by rw [← z] at ns; exact absurd ns (by decide)
    cases kv with
    | @cons _ q _ _ k1 k2 =>
      cases k2
      obtain ⟨k, u⟩ := q
      obtain ⟨e1, t, e2⟩ := k1
      have e1' : Sum.inr x = k := e1
      have e2' : u = Value.int j t := e2
      subst e1' e2'
      cases hes : es.toList with
      | nil => rw [hes] at hp; cases hp
      | cons e1 t1 =>
        rw [hes] at hp
        cases hp with
        | cons p1 p3 p2 =>
          cases p2
          have p1' : keyIs (Sum.inr x) e1.key = true := p1
          rcases keyIs_shape p1' with ⟨i2, t2, w1, w2⟩ | ⟨x2, t2, w1, w2⟩
          · cases w1
          · cases w1
            have p3' : e1.val = Value.int j t := p3
            refine ⟨_, Reads.dict (kvs := [(.str x, .int j)]) ho hx.1 hd (as := [] ++ []) (bs := [] ++ []) ?_ ?_, ?_⟩
            · rw [hes]
              show ReadsAll s.heap [e1.key] [PyData.str x] ([] ++ [])
              rw [w2]
              exact ReadsAll.cons (Reads.str x t2) ReadsAll.nil
            · rw [hes]
              show ReadsAll s.heap [e1.val] [PyData.int j] ([] ++ [])
              rw [p3']
              exact ReadsAll.cons (Reads.int j t) ReadsAll.nil
            · simpa using ne
theorem sxAll_reads (I : Inv X pins σ H s) : ∀ {vs : List V} {ds : List PyData} {us : List Value}, SxAll H vs ds → Vals vs us → ∃ as, ReadsAll s.heap us ds as ∧ sysModules ∉ as
  | _, _, _, .nil, .nil => ⟨_, ReadsAll.nil, by simp⟩
  | _, _, _, .cons h1 h2, .cons r1 r2 => by
    obtain ⟨as, q1, n1⟩ := sx_reads I h1 r1
    obtain ⟨bs, q2, n2⟩ := sxAll_reads I h2 r2
    refine ⟨_, ReadsAll.cons q1 q2, ?_⟩
    intro z
    rcases List.mem_append.mp z with z | z
    · exact n1 z
    · exact n2 z
theorem da_reads (I : L2.Inv X pins σ H s) {v : V} {d : PyData} {u : Value} (h : Da X.K H v d) (r : RelV v u) :
    ∃ as, Reads s.heap u d as ∧ (d.hasDict = true → sysModules ∉ as) := by
  cases h with
  | dp h =>
    obtain ⟨as, q⟩ := Dp.reads I d v u h r
    refine ⟨as, q, fun z => ?_⟩
    rw [dp_nodict d v h] at z
    cases z
  | sx h =>
    obtain ⟨as, q, n⟩ := sx_reads I h r
    exact ⟨as, q, fun _ => n⟩
  | @tup a xs ds e h =>
    cases r
    obtain ⟨its, rv, ⟨o, ho, hc, n, hd⟩, _⟩ := I.tuple (a := a) (xs := xs) (SqT.of e)
    obtain ⟨as, q, nn⟩ := sxAll_reads I h rv
    exact ⟨_, Reads.tuple ho hc hd q, fun _ => nn⟩
end
section
variable {X : Cx}
theorem cr_reprA (gs : X.A.guards = some []) (hu : X.A.units + 64 < cLine) : CallR X (.builtin "repr") (fun xs H Q => ∃ v d, xs = [v] ∧ Da X.K H v d ∧
    d.showable = true ∧ d.depth ≤ 40 ∧ d.shown.length ≤ sizeLine ∧ Q (.str d.shown) H) := by
  intro pins s σ H xs us Q I r h
  obtain ⟨v, d, rfl, hd, sh, dep, len, q⟩ := h
  cases r with
  | @cons _ u _ _ r1 r2 =>
    cases r2
    obtain ⟨as, rd, ns⟩ := da_reads I hd r1
    have fin : ∀ (h' : Heap) (tk u' : Nat), (∀ b o, s.heap.get? b = some o → h'.get? b = some o) → EP X pins σ Q (.str d.shown u') { s with heap := h', toks := tk } :=
      fun h' tk u' k => ⟨.str d.shown, H, I.un (t' := tk) (Un.kept k) (I.hok.kept k), ⟨_, rfl⟩, q⟩
    cases u with
    | ref a => exact repr_of_reads' rd sh ns gs (by omega) (fun _ _ z => z) (fun h' u tk k => fin h' tk u k) len
    | none => cases rd; exact PySem.P.repr_of_none (fin s.heap _ _ fun _ _ z => z)
    | bool b => cases rd; exact PySem.P.repr_of_bool (fin s.heap _ _ fun _ _ z => z)
    | int i t => cases rd; exact PySem.P.repr_of_int (by simpa [PyData.showable] using sh) (fin s.heap _ _ fun _ _ z => z)
    | str x t => cases rd; exact PySem.P.repr_of_str (fin s.heap _ _ fun _ _ z => z) len
    | _ => cases rd
end
/-! ### what is shown is plain, where what is shown of is -/
def Low (t : Str) : Prop := ∀ c ∈ t.cps.toList, c < 128
theorem Low.append {a b : Str} (ha : Low a) (hb : Low b) : Low (a ++ b) := by
  intro c hc
  rw [PySem.Str.cps_append, Array.toList_append] at hc
  rcases List.mem_append.mp hc with h | h
  · exact ha c h
  · exact hb c h
theorem low_char : ∀ c, c < 128 → ∀ q ∈ [34, 39], ∀ x ∈ Builtin.Str.reprChar q c, x < 128 := by
  have h : ∀ c : Fin 128, ∀ q ∈ [34, 39], ∀ x ∈ Builtin.Str.reprChar q c.val, x < 128 := by decide +kernel
  exact fun c hc => h ⟨c, hc⟩
theorem low_fold (q : Nat) (hq : q ∈ [34, 39]) : ∀ (l : List Nat) (acc : Array Nat), (∀ c ∈ l, c < 128) → (∀ c ∈ acc.toList, c < 128) → ∀ c ∈ (l.foldl (fun out c => out ++ (Builtin.Str.reprChar q c).toArray) acc).toList, c < 128
  | [], acc, _, h => h
  | c :: r, acc, hl, h => by
    refine low_fold q hq r _ (fun d hd => hl d (List.mem_cons_of_mem _ hd)) fun d hd => ?_
    rw [Array.toList_append] at hd
    rcases List.mem_append.mp hd with z | z
    · exact h d z
    · exact low_char c (hl c (List.mem_cons_self ..)) q hq d z
theorem low_repr {x : Str} (h : Low x) : Low (reprText x) := by
  have hq : reprQuote x ∈ [34, 39] := by
    unfold reprQuote
    split <;> decide
  have hq2 : reprQuote x < 128 := by
    simp only [List.mem_cons, List.not_mem_nil, or_false] at hq
    omega
  unfold reprText
  intro c hc
  have hc2 : c ∈ ((x.cps.foldl (fun out c => out ++ (Builtin.Str.reprChar (reprQuote x) c).toArray) #[reprQuote x]).push (reprQuote x)).toList := hc
  rw [Array.toList_push, ← Array.foldl_toList] at hc2
  rcases List.mem_append.mp hc2 with z | z
  · refine low_fold _ hq x.cps.toList _ h (fun d hd => ?_) c z
    rw [show d = reprQuote x by simpa using hd]
    exact hq2
  · rw [show c = reprQuote x by simpa using z]
    exact hq2
theorem low_textFrom : ∀ (ts : List Str) (k : Nat) (acc : Str), Low acc → (∀ t ∈ ts, Low t) → Low (textFrom k acc ts)
  | [], _, _, h, _ => h
  | t :: ts, k, acc, h, ht => by
    refine low_textFrom ts (k + 1) _ (.append (.append h ?_) (ht t (List.mem_cons_self ..))) fun u hu => ht u (List.mem_cons_of_mem _ hu)
    split <;> (intro c hc; revert c hc; decide +kernel)
theorem low_join : ∀ (ts : List Str), (∀ t ∈ ts, Low t) → Low (Str.join ", " ts)
  | [], _ => by intro c hc; cases hc
  | [t], h => h t (List.mem_cons_self ..)
  | t :: u :: ts, h => by
    have ih := low_join (u :: ts) fun v hv => h v (List.mem_cons_of_mem _ hv)
    have e : Str.join ", " (t :: u :: ts) = t ++ ", " ++ Str.join ", " (u :: ts) := rfl
    rw [e]
    exact .append (.append (h t (List.mem_cons_self ..)) (by intro c hc; revert c hc; decide +kernel)) ih
def plain : PyData → Prop
  | .str x => Low x
  | .list _ | .tuple _ | .dict _ => False
  | _ => True
theorem low_int (i : Int) : Low (PyData.int i).shown := by
  intro c hc
  refine Decidable.byContradiction fun n => ?_
  exact shown_int_free' (k := c) ⟨by omega, by omega⟩ i hc
theorem low_plain {d : PyData} (h : plain d) : Low d.shown := by
  cases d with
  | none => intro c hc; revert c hc; decide +kernel
  | bool b => cases b <;> (intro c hc; revert c hc; decide +kernel)
  | int i => exact low_int i
  | str x => exact low_repr h
  | list _ => exact h.elim
  | tuple _ => exact h.elim
  | dict _ => exact h.elim
theorem low_all : ∀ {ds : List PyData}, (∀ d ∈ ds, Low d.shown) → ∀ t ∈ PyData.shownAll ds, Low t
  | [], _, t, ht => nomatch ht
  | d :: ds, h, t, ht => by
    rcases List.mem_cons.mp ht with e | e
    · rw [e]
      exact h d (List.mem_cons_self ..)
    · exact low_all (fun x hx => h x (List.mem_cons_of_mem _ hx)) t e
theorem low_list {ds : List PyData} (h : ∀ d ∈ ds, Low d.shown) : Low (PyData.list ds).shown :=
  .append (low_textFrom _ _ _ (by intro c hc; revert c hc; decide +kernel) (low_all h)) (by intro c hc; revert c hc; decide +kernel)
theorem low_tuple {ds : List PyData} (h : ∀ d ∈ ds, Low d.shown) : Low (PyData.tuple ds).shown := by
  refine .append (.append (by intro c hc; revert c hc; decide +kernel) (low_join _ (low_all h))) ?_
  split <;> (intro c hc; revert c hc; decide +kernel)
theorem low_len {x : Str} (h : Low x) : (reprText x).length ≤ 10 * x.length + 2 := StrLaws.reprText_len x fun c hc => by
  have := h c hc
  omega
section
variable {X : Cx}
/-- x == y of data without dicts, whatever the texts in it -/
def rEqP (K : PySem.W.Frag) : R2 := fun x y H Q => ∃ d e, Dp K H x d ∧ Dp K H y e ∧ d.plain = true ∧ e.plain = true ∧ min d.depth e.depth ≤ 64 ∧ Q (.bl (PyData.eqv d e)) H
theorem op_eqP (hu : X.A.units + 64 < cLine) : OpR X (compareOp .Eq) (rEqP X.K) := by
  intro pins s σ H x y v u Q I rx ry h
  obtain ⟨d, e, hd, he, sd, se, hm, q⟩ := h
  obtain ⟨as, r1⟩ := Dp.reads I d x v hd rx
  obtain ⟨bs, r2⟩ := Dp.reads I e y u he ry
  exact SeqAt.eq_plain r1 r2 sd se (by omega) ⟨.bl _, H, I, rfl, q⟩
end
end Par
namespace Par
open PySem PySem.Spec PyProof.Rows L2
section
variable {X : Cx}
/-- x != y of data without dicts, whatever the texts in it -/
def rNeP (K : PySem.W.Frag) : R2 := fun x y H Q => ∃ d e, Dp K H x d ∧ Dp K H y e ∧ d.plain = true ∧ e.plain = true ∧ min d.depth e.depth ≤ 64 ∧ Q (.bl (!PyData.eqv d e)) H
theorem op_neP (hu : X.A.units + 64 < cLine) : OpR X (compareOp .NotEq) (rNeP X.K) := by
  intro pins s σ H x y v u Q I rx ry h
  obtain ⟨d, e, hd, he, sd, se, hm, q⟩ := h
  obtain ⟨as, r1⟩ := Dp.reads I d x v hd rx
  obtain ⟨bs, r2⟩ := Dp.reads I e y u he ry
  exact SeqAt.ne_plain r1 r2 sd se (by omega) ⟨.bl _, H, I, rfl, q⟩
end
end Par
namespace K49
open PySem PySem.Spec PyProof.Rows L2 Par
section
variable {P : Program} {w : World} {K : PySem.W.Frag} {mg : Str → Option Value} {base : Heap}
/-- a tuple of two lists, none of them among N -/
def PrQ (N : List Addr) (H : Hp) (q : Addr) (ts hs : List Int) : Prop := ∃ t h, t ∉ N ∧ h ∉ N ∧ H q = some (.tup [.ref t, .ref h]) ∧ H t = some (.lst (ts.map V.int)) ∧ H h = some (.lst (hs.map V.int))
theorem PrQ.pr {N : List Addr} {q : Addr} {H : Hp} {ts hs : List Int} (h : PrQ N H q ts hs) : Pr K H q ts hs := by
  obtain ⟨t, g, _, _, h1, h2, h3⟩ := h
  exact ⟨t, g, SqT.of h1, h2, h3⟩
/-- what is not among N stays, and no tuple is among N -/
theorem PrQ.keep {N M : List Addr} {q : Addr} {H H' : Hp} {ts hs : List Int} (sub : ∀ b ∈ M, b ∈ N) (no : ∀ b ∈ N, ∀ xs, H b ≠ some (.tup xs)) (k : ∀ b o, b ∉ N → H b = some o → H' b = some o) (h : PrQ N H q ts hs) : PrQ M H' q ts hs := by
  obtain ⟨t, g, n1, n2, h1, h2, h3⟩ := h
  exact ⟨t, g, fun z => n1 (sub _ z), fun z => n2 (sub _ z), k _ _ (fun z => no q z _ h1) h1, k _ _ n1 h2, k _ _ n2 h3⟩
/-- a pair that makes a flip of width m -/
def Okp (m : Nat) (t : List Int × List Int) : Prop := OkF t.1 t.2 ∧ (∀ k ∈ t.1, k < m) ∧ (∀ k ∈ t.2, k < m) ∧ (comm t.1 t.2).length % 2 = 0 ∧ t.1.Pairwise (· < ·) ∧ t.2.Pairwise (· < ·)
def PrsQ (N : List Addr) (H : Hp) (m : Nat) : List Addr → List (List Int × List Int) → Prop
  | [], [] => True
  | a :: as, t :: ts => (PrQ N H a t.1 t.2 ∧ Okp m t) ∧ PrsQ N H m as ts
  | _, _ => False
theorem PrsQ.mono {N M : List Addr} {H H' : Hp} {m : Nat} (k : ∀ a ts hs, PrQ N H a ts hs → PrQ M H' a ts hs) : ∀ {as : List Addr} {ps : List (List Int × List Int)}, PrsQ N H m as ps → PrsQ M H' m as ps
  | [], [], _ => True.intro
  | _ :: _, _ :: _, h => ⟨⟨k _ _ _ h.1.1, h.1.2⟩, h.2.mono k⟩
  | [], _ :: _, h => h.elim
  | _ :: _, [], h => h.elim
theorem PrsQ.len {N : List Addr} {H : Hp} {m : Nat} : ∀ {as : List Addr} {ps : List (List Int × List Int)}, PrsQ N H m as ps → as.length = ps.length
  | [], [], _ => rfl
  | _ :: _, _ :: _, h => by rw [List.length_cons, List.length_cons, h.2.len]
  | [], _ :: _, h => h.elim
  | _ :: _, [], h => h.elim
theorem PrsQ.prs {N : List Addr} {H : Hp} {m : Nat} : ∀ {as : List Addr} {ps : List (List Int × List Int)}, PrsQ N H m as ps → Prs K H as ps
  | [], [], _ => True.intro
  | _ :: _, _ :: _, h => ⟨h.1.1.pr, h.2.prs⟩
  | [], _ :: _, h => h.elim
  | _ :: _, [], h => h.elim
theorem PrsQ.ok {N : List Addr} {H : Hp} {m : Nat} : ∀ {as : List Addr} {ps : List (List Int × List Int)}, PrsQ N H m as ps → ∀ t ∈ ps, Okp m t
  | [], [], _, _, ht => nomatch ht
  | _ :: _, _ :: _, h, t, ht => by
    rcases List.mem_cons.mp ht with rfl | ht
    · exact h.1.2
    · exact h.2.ok t ht
  | [], _ :: _, h, _, _ => h.elim
  | _ :: _, [], h, _, _ => h.elim
theorem PrsQ.append {N : List Addr} {H : Hp} {m : Nat} {bs : List Addr} {qs : List (List Int × List Int)} (h2 : PrsQ N H m bs qs) : ∀ {as : List Addr} {ps : List (List Int × List Int)}, PrsQ N H m as ps → PrsQ N H m (as ++ bs) (ps ++ qs)
  | [], [], _ => h2
  | _ :: _, _ :: _, h => ⟨h.1, PrsQ.append h2 h.2⟩
  | [], _ :: _, h => h.elim
  | _ :: _, [], h => h.elim
def spPairs : Sp := fun vs H Q _ => ∃ (p : Addr) (m n : Nat), vs = [.ref p, .int (m : Nat), .int (n : Nat)] ∧ PotAt H p ∧ 1 ≤ m ∧ m ≤ 40 ∧ n ≤ 100 ∧
  ∀ q (as : List Addr) (ps : List (List Int × List Int)) H', H q = none → But p H H' → PotAt H' p → H' q = some (.lst (as.map V.ref)) → PrsQ [p] H' m as ps → as.length ≤ n → Q (.ref q) H'
abbrev nPairs : List Str := ["_law_pot_here", "_law_width_here", "_law_most", "_law_found", "_law_turn", "_law_way"]
theorem scPairs : FnScope nPairs ["_law_pot_here", "_law_width_here", "_law_most"] (defScope slPairs) := ⟨rfl, rfl, rfl, by decide +kernel, rfl, by decide +kernel, by decide +kernel⟩
def pairD (t : List Int × List Int) : PyData := .tuple [.list (t.1.map PyData.int), .list (t.2.map PyData.int)]
theorem dps_ints_ {H : Hp} : ∀ ns : List Int, DpAll K H (ns.map V.int) (ns.map PyData.int)
  | [] => .nil
  | n :: ns => .cons (.int n) (dps_ints_ ns)
theorem dps_pairs {H : Hp} : ∀ {as : List Addr} {ps : List (List Int × List Int)}, Prs K H as ps → DpAll K H (as.map V.ref) (ps.map pairD)
  | [], [], _ => .nil
  | _ :: _, _ :: _, h => by
    obtain ⟨t, g, h1, h2, h3⟩ := h.1
    exact .cons (.tup h1 (.cons (.lst (SqL.of h2) (dps_ints_ _)) (.cons (.lst (SqL.of h3) (dps_ints_ _)) .nil))) (dps_pairs h.2)
  | [], _ :: _, h => h.elim
  | _ :: _, [], h => h.elim
theorem plain_ints_ : ∀ ns : List Int, (PyData.list (ns.map PyData.int)).plain = true := fun ns => by
  show PyData.plainAll _ = true
  induction ns with
  | nil => rfl
  | cons x xs ih => simpa [PyData.plainAll, PyData.plain] using ih
theorem plain_pairs : ∀ ps : List (List Int × List Int), (PyData.list (ps.map pairD)).plain = true := fun ps => by
  show PyData.plainAll _ = true
  induction ps with
  | nil => rfl
  | cons x xs ih =>
    have h1 := plain_ints_ x.1
    have h2 := plain_ints_ x.2
    simp only [PyData.plain] at h1 h2
    simp [PyData.plainAll, PyData.plain, pairD, h1, h2] at ih ⊢
    exact ih
theorem PrsQ.at_ {N : List Addr} {H : Hp} {m : Nat} : ∀ {as : List Addr} {ps : List (List Int × List Int)}, PrsQ N H m as ps → ∀ {k : Nat} (h1 : k < as.length) (h2 : k < ps.length), PrQ N H as[k] ps[k].1 ps[k].2 ∧ Okp m ps[k]
  | _ :: _, _ :: _, h, 0, _, _ => h.1
  | _ :: _, _ :: _, h, k + 1, h1, h2 => PrsQ.at_ h.2 (k := k) (Nat.lt_of_succ_lt_succ h1) (Nat.lt_of_succ_lt_succ h2)
theorem ok_pairs {f : Addr} {fd : FuncData} (F : Fun K "_law_pairs" "_law_pairs" slPairs f fd) (B : Bl mg) (D : Has P w K mg base "_law_draw" 2 ["_law_pot_here", "_law_many"] spDraw) (R : Has P w K mg base "_law_pair" 4 ["_law_pot_here", "_law_width_here"] spPairL) :
    FnOk P w K mg base CX0 5 f fd ["_law_pot_here", "_law_width_here", "_law_most"] spPairs := by
  obtain ⟨fD, fdD, GD, mD, kD, bD⟩ := D
  obtain ⟨fR, fdR, GR, mR, kR, bR⟩ := R
  refine F.ok scPairs (fun vs H Q E h => ?_) (fun cdv A outer s H vs Q E hr h => ?_)
  · obtain ⟨p, m, n, rfl, _⟩ := h
    rfl
  · obtain ⟨p, m, n, rfl, hp, m1, m2, n1, out⟩ := h
    have hu := hr.units
    have r2 : Room 2 _ := hr.mono (by decide)
    refine ⟨_, (pss_cons (ps_set (i := 3) scPairs.nd rfl (Or.inl rfl) (pe_lst pa_nil))
      (pss_cons (ps_for PassesOwn.never rfl (pi_range1 (by rfl) B.range (pa_cons (pe_call GD r2 (by rfl) mD kD bD .nil pass0 (pa_cons (pv 0) (pa_cons (pe_op op_add (pv 2) pe_int) pa_nil))) pa_nil)) (pg_name (i := 4) scPairs.nd rfl (Or.inl rfl)) (pss_cons (ps_set (i := 5) scPairs.nd rfl (Or.inl rfl) (pe_call GD r2 (by rfl) mD kD bD .nil pass0 (pa_cons (pv 0) (pa_cons pe_int pa_nil))))
      (pss_one (ps_if (PW.pt (pw_or (pt_cmpR (op_eqP hu) (pv 3) (pe_lst pa_nil) (nomark _)) (pw_or1 (pt_cmpR op_gt (pv 5) pe_int (nomark _))))) (pss_one (ps_expr (pe_bm PySem.F.plainAttrs_list PySem.F.slot_list_append PySem.F.type_list_append mt_append (pv 3) (pa_cons (pe_call GR hr (by rfl) mR kR bR .nil pass0 (pa_cons (pv 0) (pa_cons (pv 1) pa_nil))) pa_nil)))) (pss_one (ps_expr (pe_bm PySem.F.plainAttrs_list PySem.F.slot_list_append PySem.F.type_list_append mt_append (pv 3) (pa_cons (pe_ix ix_list (pv 3) (pe_ix ix_list (pe_lst (pa_cons (pe_call GD r2 (by rfl) mD kD bD .nil pass0 (pa_cons (pv 0) (pa_cons (pe_callB call_len_seq (by rfl) B.len PySem.boot_len (pa_cons (pv 3) pa_nil)) pa_nil))) (pa_cons (pe_op op_sub (pe_callB call_len_seq (by rfl) B.len PySem.boot_len (pa_cons (pv 3) pa_nil)) pe_int) pa_nil))) (pv 5) (fun _ _ => rfl)) (fun _ _ => rfl)) pa_nil))))))))
      (pss_one (ps_ret (pv 3))))), ?_⟩
    refine ⟨(by show 0 ≤ sizeLine; decide), fun f0 hf0 => ?_⟩
    have sf := same_new (o := .lst []) hf0
    have f0p := pot_ne hp hf0
    refine ⟨_, rfl, _, rfl, (n : Nat), 1, rfl, rfl, p, _, rfl, hp.same sf, by omega, ?_, fun c H1 c0 c1 b1 hp1 => ?_⟩
    · have : (2 : Int) ^ 200 > 1000 := by decide
      omega
    have e1f := b1 _ _ f0p (upd_same (H := H) (a := f0) (o := .lst []))
    have bb1 := (But.same sf).trans b1
    refine ⟨c, rfl, by omega, by omega, ?_⟩
    have noT : ∀ {H' : Hp} {l : List V}, PotAt H' p → H' f0 = some (.lst l) → ∀ b ∈ [p, f0], ∀ xs, H' b ≠ some (.tup xs) := by
      intro H' l h1 h2 b hb xs e
      rcases List.mem_cons.mp hb with z | z
      · obtain ⟨_, _, e2, _⟩ := h1
        rw [z, e2] at e
        cases e
      · rw [List.mem_singleton.mp z, h2] at e
        cases e
    have nm : ∀ {b : Addr}, b ∉ [p, f0] → b ≠ p ∧ b ≠ f0 := fun {b} h => ⟨fun z => h (by simp [z]), fun z => h (by simp [z])⟩
    have mv : ∀ {H2 H3 : Hp} {l : List V} {as : List Addr} {ps : List (List Int × List Int)}, PotAt H2 p → H2 f0 = some (.lst l) → But p H2 H3 → PrsQ [p, f0] H2 m as ps → PrsQ [p, f0] H3 m as ps := fun {H2 H3 l as ps} h1 h2 b h => h.mono fun a ts hs h => h.keep (fun _ z => z) (noT h1 h2) fun x o hx e => b x o (nm hx).1 e
    have put : ∀ {H2 : Hp} {l l' : List V} {as : List Addr} {ps : List (List Int × List Int)}, PotAt H2 p → H2 f0 = some (.lst l) → PrsQ [p, f0] H2 m as ps → PrsQ [p, f0] (upd H2 f0 (.lst l')) m as ps := fun {H2 l l' as ps} h1 h2 h => h.mono fun a ts hs h => h.keep (fun _ z => z) (noT h1 h2) fun x o hx e => by
      rw [upd_ne (nm hx).2]
      exact e
    refine for_range (lo := 0) (fun i σ H' => But p H H' ∧ PotAt H' p ∧ ∃ (as : List Addr) (ps : List (List Int × List Int)) (v4 v5 : Option V), σ = [some (.ref p), some (.int ((m : Nat) : Int)), some (.int ((n : Nat) : Int)), some (.ref f0), v4, v5] ∧ H' f0 = some (.lst (as.map V.ref)) ∧ PrsQ [p, f0] H' m as ps ∧ as.length ≤ i)
      ⟨bb1, hp1, [], [], none, none, rfl, e1f, True.intro, Nat.le_refl _⟩ ?_ ?_
    · rintro i σ H2 hi ⟨b2, hp2, as, ps, v4, v5, rfl, e2, pr2, la⟩
      have i100 : i < 101 := by omega
      refine ⟨_, rfl, p, 6, rfl, hp2, by decide, by decide, fun w H3 w0 w6 b3 hp3 => ?_⟩
      have e3 := b3 _ _ f0p e2
      have pr3 := mv hp2 e2 b3 pr2
      have b23 := b2.trans b3
      refine ⟨_, rfl, (by show 0 ≤ sizeLine; decide), fun E hE => ?_⟩
      have sE := same_new (o := .lst []) hE
      have b4 := But.same (p := p) sE
      have hp4 := hp3.same sE
      have e4 := sE _ _ e3
      have pr4 := mv hp3 e3 b4 pr3
      have b24 := b23.trans b4
      have eE : (upd H3 E (.lst [])) E = some (.lst ([] : List V)) := upd_same
      generalize upd H3 E (.lst []) = H4 at b4 hp4 e4 pr4 b24 eE ⊢
      refine ⟨.list (ps.map pairD), .list [], .lst (SqL.of e4) (dps_pairs pr4.prs), .lst (SqL.of eE) .nil, plain_pairs ps, rfl, (by show min _ 1 ≤ 64; omega), _, rfl, ?_⟩
      have len4 := pr4.len
      have room : ∀ {H5 : Hp} {as : List Addr}, as.length ≤ i → (as.map V.ref).length < sizeLine := fun {H5 as} h => by
        rw [List.length_map, sizeLine_eq]
        omega
      have potN : ∀ {H5 : Hp} {o : HO}, PotAt H5 p → PotAt (upd H5 f0 o) p := fun {H5 o} h => by
        obtain ⟨x1, x2, x3, x4⟩ := h
        exact ⟨x1, x2, by rw [upd_ne (Ne.symm f0p)]; exact x3, x4⟩
      have butN : ∀ {H5 : Hp} {o : HO}, But p H H5 → But p H (upd H5 f0 o) := fun {H5 o} b z y hz e => by
        have nz : z ≠ f0 := fun w => by rw [w, hf0] at e; cases e
        rw [upd_ne nz]
        exact b z y hz e
      -- a new pair
      have fresh : ∀ H5 : Hp, But p H H5 → PotAt H5 p → H5 f0 = some (.lst (as.map V.ref)) → PrsQ [p, f0] H5 m as ps →
          ∀ N : L2.St → Hp → Prop, (∀ (as : List Addr) (ps : List (List Int × List Int)) (H' : Hp), But p H H' → PotAt H' p → H' f0 = some (.lst (as.map V.ref)) → PrsQ [p, f0] H' m as ps → as.length ≤ i + 1 → N [some (.ref p), some (.int ((m : Nat) : Int)), some (.int ((n : Nat) : Int)), some (.ref f0), some (.int (0 + (i : Int))), some (.int w)] H') →
          tBM K "list" rAppend (tVar 3) (tCons (tCall spPairL [] E0 (tCons (tVar 0) (tCons (tVar 1) tNil))) tNil) [some (.ref p), some (.int ((m : Nat) : Int)), some (.int ((n : Nat) : Int)), some (.ref f0), some (.int (0 + (i : Int))), some (.int w)] H5 (fun _ H6 => N [some (.ref p), some (.int ((m : Nat) : Int)), some (.int ((n : Nat) : Int)), some (.ref f0), some (.int (0 + (i : Int))), some (.int w)] H6) := by
        intro H5 b5 hp5 e5 pr5 N nn
        refine ⟨_, rfl, .inl ⟨rfl, _, SqL.of e5⟩, ?_⟩
        refine ⟨_, rfl, _, rfl, p, m, rfl, hp5, m1, m2, fun q ts hs H6 hq b6 hp6 pq ok t1 t2 ev u1 u2 => ?_⟩
        have e6 := b6 _ _ f0p e5
        have pr6 := mv hp5 e5 b6 pr5
        refine ⟨f0, _, _, rfl, rfl, e6, room (H5 := H5) la, ?_⟩
        have new : PrQ [p, f0] (upd H6 f0 (.lst (as.map V.ref ++ [V.ref q]))) q ts hs := by
          obtain ⟨t, g, f1, f2, n1, n2, x1, x2, x3⟩ := pq
          have tD : t ≠ f0 := fun z => by rw [z, e5] at f1; cases f1
          have gD : g ≠ f0 := fun z => by rw [z, e5] at f2; cases f2
          have qD : q ≠ f0 := fun z => by rw [z, e5] at hq; cases hq
          exact ⟨t, g, by simp [n1, tD], by simp [n2, gD], by rw [upd_ne qD]; exact x1, by rw [upd_ne tD]; exact x2, by rw [upd_ne gD]; exact x3⟩
        refine nn (as ++ [q]) (ps ++ [(ts, hs)]) _ (butN (b5.trans b6)) (potN hp6) ?_ (PrsQ.append (show PrsQ [p, f0] _ m [q] [(ts, hs)] from ⟨⟨new, ok, t1, t2, ev, u1, u2⟩, True.intro⟩) (put hp6 e6 pr6)) ?_
        · rw [upd_same, List.map_append]
          rfl
        · rw [List.length_append]
          show as.length + 1 ≤ i + 1
          omega
      -- a pair once more
      have again : ∀ (k : Nat) (hk : k < as.length) (H5 : Hp), But p H H5 → PotAt H5 p → H5 f0 = some (.lst (as.map V.ref)) → PrsQ [p, f0] H5 m as ps →
          ∀ N : L2.St → Hp → Prop, (∀ (as : List Addr) (ps : List (List Int × List Int)) (H' : Hp), But p H H' → PotAt H' p → H' f0 = some (.lst (as.map V.ref)) → PrsQ [p, f0] H' m as ps → as.length ≤ i + 1 → N [some (.ref p), some (.int ((m : Nat) : Int)), some (.int ((n : Nat) : Int)), some (.ref f0), some (.int (0 + (i : Int))), some (.int w)] H') →
          N [some (.ref p), some (.int ((m : Nat) : Int)), some (.int ((n : Nat) : Int)), some (.ref f0), some (.int (0 + (i : Int))), some (.int w)] (upd H5 f0 (.lst (as.map V.ref ++ [V.ref as[k]]))) := by
        intro k hk H5 b5 hp5 e5 pr5 N nn
        have old := put (l' := as.map V.ref ++ [V.ref as[k]]) hp5 e5 pr5
        refine nn (as ++ [as[k]]) (ps ++ [ps[k]'(by rw [← len4]; exact hk)]) _ (butN b5) (potN hp5) ?_ (PrsQ.append (show PrsQ [p, f0] _ m [as[k]] [ps[k]'(by rw [← len4]; exact hk)] from ⟨PrsQ.at_ old hk (by rw [← len4]; exact hk), True.intro⟩) old) ?_
        · rw [upd_same, List.map_append]
          rfl
        · rw [List.length_append]
          show as.length + 1 ≤ i + 1
          omega
      have fin : ∀ (as : List Addr) (ps : List (List Int × List Int)) (H' : Hp), But p H H' → PotAt H' p → H' f0 = some (.lst (as.map V.ref)) → PrsQ [p, f0] H' m as ps → as.length ≤ i + 1 → But p H H' ∧ PotAt H' p ∧ ∃ (as : List Addr) (ps : List (List Int × List Int)) (v4 v5 : Option V), [some (V.ref p), some (.int ((m : Nat) : Int)), some (.int ((n : Nat) : Int)), some (.ref f0), some (.int (0 + (i : Int))), some (.int w)] = [some (.ref p), some (.int ((m : Nat) : Int)), some (.int ((n : Nat) : Int)), some (.ref f0), v4, v5] ∧ H' f0 = some (.lst (as.map V.ref)) ∧ PrsQ [p, f0] H' m as ps ∧ as.length ≤ i + 1 :=
        fun as ps H' x1 x2 x3 x4 x5 => ⟨x1, x2, as, ps, _, _, rfl, x3, x4, x5⟩
      cases ps with
      | nil =>
        refine iteT (iteT ?_)
        exact fresh H4 b24 hp4 e4 pr4 _ fin
      | cons t0 ps0 =>
        have as0 : 0 < as.length := by rw [len4]; exact Nat.succ_pos _
        refine iteF ?_
        refine ⟨_, rfl, _, _, rfl, rfl, _, rfl, ?_⟩
        by_cases w1 : w > 1
        · rw [decide_eq_true w1]
          refine iteT ?_
          exact fresh H4 b24 hp4 e4 pr4 _ fin
        · rw [decide_eq_false w1]
          refine iteF ?_
          refine ⟨_, rfl, .inl ⟨rfl, _, SqL.of e4⟩, ?_⟩
          refine ⟨_, rfl, _, rfl, _, rfl, f0, _, rfl, .inl (SqL.of e4), p, _, rfl, hp4, (by rw [List.length_map]; omega), ?_, fun d H5 d0 d1 b5 hp5 => ?_⟩
          · have : (2 : Int) ^ 200 > 1000 := by decide
            rw [List.length_map]
            omega
          rw [List.length_map] at d1
          have e5 := b5 _ _ f0p e4
          have pr5 := mv hp4 e4 b5 pr4
          refine ⟨_, rfl, f0, _, rfl, .inl (SqL.of e5), _, _, rfl, rfl, ?_⟩
          refine ⟨(by show 2 ≤ sizeLine; decide), fun E2 hE2 => ?_⟩
          rw [List.length_map]
          have sE2 := same_new (o := .lst [V.int d, V.int (((as.length : Nat) : Int) - 1)]) hE2
          have b6 := But.same (p := p) sE2
          have hp6 := hp5.same sE2
          have e6 := sE2 _ _ e5
          have pr6 := mv hp5 e5 b6 pr5
          have b26 := (b24.trans b5).trans b6
          have eE2 : (upd H5 E2 (.lst [V.int d, V.int (((as.length : Nat) : Int) - 1)])) E2 = some (.lst [V.int d, V.int (((as.length : Nat) : Int) - 1)]) := upd_same
          generalize upd H5 E2 (.lst [V.int d, V.int (((as.length : Nat) : Int) - 1)]) = H6 at b6 hp6 e6 pr6 b26 eE2 ⊢
          have two : w = 0 ∨ w = 1 := by omega
          have go : ∀ k : Int, 0 ≤ k → k < as.length → atI [V.int d, V.int (((as.length : Nat) : Int) - 1)] w = some (.int k) → True := fun _ _ _ _ => trivial
          obtain ⟨k, ka, hk⟩ : ∃ k : Nat, k < as.length ∧ atI [V.int d, V.int (((as.length : Nat) : Int) - 1)] w = some (.int (k : Int)) := by
            rcases two with rfl | rfl
            · refine ⟨d.toNat, by omega, ?_⟩
              rw [show ((d.toNat : Nat) : Int) = d by omega]
              rfl
            · refine ⟨as.length - 1, by omega, ?_⟩
              rw [show ((as.length - 1 : Nat) : Int) = (as.length : Int) - 1 by omega]
              rfl
          refine ⟨_, rfl, E2, _, w, _, rfl, rfl, SqL.of eE2, hk, ?_⟩
          refine ⟨f0, _, (k : Int), _, rfl, rfl, SqL.of e6, atI_nat (by rw [List.getElem?_map, List.getElem?_eq_getElem ka]; rfl), ?_⟩
          refine ⟨f0, _, _, rfl, rfl, e6, room (H5 := H6) la, ?_⟩
          exact again k ka H6 b26 hp6 e6 pr6 _ fin
    · rintro σ H2 ⟨b2, hp2, as, ps, v4, v5, rfl, e2, pr2, la⟩
      refine ⟨_, rfl, out f0 as ps H2 hf0 b2 hp2 e2 (pr2.mono fun a ts hs h => ?_) (by omega)⟩
      obtain ⟨t, g, n1, n2, r⟩ := h
      exact ⟨t, g, fun z => n1 (by rw [List.mem_singleton.mp z]; simp), fun z => n2 (by rw [List.mem_singleton.mp z]; simp), r⟩
end
end K49
namespace K49
open PySem PySem.Spec PyProof.Rows L2 Par
section
variable {P : Program} {w : World} {K : PySem.W.Frag} {mg : Str → Option Value} {base : Heap}
/-- the flips at fs are made of these pairs: their cells in order -/
def FlsS (C : Addr) (H : Hp) : List Addr → List (List Int × List Int) → Prop
  | [], [] => True
  | f :: fs, t :: ts => (∃ ks js : List Int, Fp C H f ks js ∧ ks.Perm t.1 ∧ js.Perm t.2 ∧ ks.Pairwise (· ≤ ·) ∧ js.Pairwise (· ≤ ·)) ∧ FlsS C H fs ts
  | _, _ => False
theorem FlsS.same {C : Addr} {H H' : Hp} (s : Same H H') : ∀ {fs : List Addr} {ps : List (List Int × List Int)}, FlsS C H fs ps → FlsS C H' fs ps
  | [], [], _ => True.intro
  | _ :: _, _ :: _, h => ⟨by
      obtain ⟨ks, js, a, r⟩ := h.1
      exact ⟨ks, js, a.same s, r⟩, h.2.same s⟩
  | [], _ :: _, h => h.elim
  | _ :: _, [], h => h.elim
theorem FlsS.len {C : Addr} {H : Hp} : ∀ {fs : List Addr} {ps : List (List Int × List Int)}, FlsS C H fs ps → fs.length = ps.length
  | [], [], _ => rfl
  | _ :: _, _ :: _, h => by rw [List.length_cons, List.length_cons, h.2.len]
  | [], _ :: _, h => h.elim
  | _ :: _, [], h => h.elim
theorem FlsS.append {C : Addr} {H : Hp} {gs : List Addr} {qs : List (List Int × List Int)} (h2 : FlsS C H gs qs) : ∀ {fs : List Addr} {ps : List (List Int × List Int)}, FlsS C H fs ps → FlsS C H (fs ++ gs) (ps ++ qs)
  | [], [], _ => h2
  | _ :: _, _ :: _, h => ⟨h.1, FlsS.append h2 h.2⟩
  | [], _ :: _, h => h.elim
  | _ :: _, [], h => h.elim
theorem FlsS.reverse {C : Addr} {H : Hp} : ∀ {fs : List Addr} {ps : List (List Int × List Int)}, FlsS C H fs ps → FlsS C H fs.reverse ps.reverse
  | [], [], _ => True.intro
  | f :: fs, t :: ts, h => by
    rw [List.reverse_cons, List.reverse_cons]
    exact FlsS.append (show FlsS C H [f] [t] from ⟨h.1, True.intro⟩) h.2.reverse
  | [], _ :: _, h => h.elim
  | _ :: _, [], h => h.elim
/-- [_law_flip_of(x) for x in l], x in slot i -/
theorem lc_flips {C l : Addr} {as : List Addr} {ps : List (List Int × List Int)} {i : Nat} {σ : L2.St} {H1 : Hp} {D : Addr} {Qd : Hp → Prop} (hi : i < σ.length) (hD : H1 D = none) (el : SqL K H1 l (as.map V.ref)) (pr : Prs K H1 as ps)
    (ok : ∀ t ∈ ps, OkF t.1 t.2 ∧ (comm t.1 t.2).length % 2 = 0) (few : as.length ≤ 1000) (out : ∀ fs H', Same H1 H' → H' D = some (.lst (fs.map V.ref)) → FlsS C H' fs ps → Qd H') :
    ∃ W : Nat → Nat → Hp → Prop, (∃ m, W 0 m (upd H1 D (.lst []))) ∧ ∀ j m H, W j m H →
      ((Itl K l).stop j H ∧ Qd H) ∨ ((Itl K l).go j H ∧ ∃ Nx : Hp → Prop, (∀ H', Nx H' → ∃ m', m' < m ∧ W (j + 1) m' H') ∧ ∀ x H', (Itl K l).yld j H x H' → gName i x (wipe σ [i]) H' fun σ2 H2 => wipe σ2 [i] = wipe σ [i] ∧ tYes σ2 H2 fun b H3 =>
        if b = true then tCall (spFlipS K C) [] E0 (tCons (tVar i) tNil) σ2 H3 fun y H4 => ∃ acc, H4 D = some (.lst acc) ∧ acc.length < sizeLine ∧ Nx (upd H4 D (.lst (acc ++ [y]))) else Nx H3) := by
  refine lc_list (K := K) (a := l) (xs := as.map V.ref) (fun j H' => ∃ fs : List Addr, Same H1 H' ∧ H' D = some (.lst (fs.map V.ref)) ∧ FlsS C H' fs (ps.take j) ∧ fs.length = j) ⟨[], same_new hD, upd_same, True.intro, rfl⟩ (fun j H' _ h => by
    obtain ⟨fs, s, _⟩ := h
    exact same_sq s el) ?_ ?_
  · rintro j x H2 hx ⟨fs, s2, hD2, f2, l2⟩
    rw [List.getElem?_map] at hx
    obtain ⟨a, ha, rfl⟩ : ∃ a, as[j]? = some a ∧ x = V.ref a := by
      cases e : as[j]? with
      | none => rw [e] at hx; cases hx
      | some a => rw [e] at hx; exact ⟨a, rfl, (Option.some.inj hx).symm⟩
    obtain ⟨t, ht, pa⟩ := pr.at ha
    obtain ⟨o1, ev⟩ := ok t (List.mem_of_getElem? ht)
    have jl : j < as.length := (List.getElem?_eq_some_iff.mp ha).1
    refine ⟨by simp [wipe], yesT ?_⟩
    refine ⟨.ref a, by simp [wipe, hi], a, t.1, t.2, rfl, pa.same s2, o1, ev, fun q ks js H3 hq s3 p1 p2 w1 w2 fp => ?_⟩
    have dd := s3 _ _ hD2
    have keep : Same H2 H3 := s3
    have fpD : Fp C (upd H3 D (.lst (fs.map V.ref ++ [V.ref q]))) q ks js := by
      obtain ⟨dx, u1, u2, e1, e2, e3⟩ := fp
      have n0 : q ≠ D := fun z => by rw [z, dd] at e1; cases e1
      have n1 : u1 ≠ D := fun z => by rw [z, dd] at e2; cases e2
      have n2 : u2 ≠ D := fun z => by rw [z, dd] at e3; cases e3
      exact ⟨dx, u1, u2, by rw [upd_ne n0]; exact e1, by rw [upd_ne n1]; exact e2, by rw [upd_ne n2]; exact e3⟩
    have old : ∀ {gs : List Addr} {qs : List (List Int × List Int)}, FlsS C H3 gs qs → FlsS C (upd H3 D (.lst (fs.map V.ref ++ [V.ref q]))) gs qs := by
      intro gs
      induction gs with
      | nil =>
        intro qs h
        cases qs with
        | nil => exact True.intro
        | cons _ _ => exact h.elim
      | cons g gs ih =>
        intro qs h
        cases qs with
        | nil => exact h.elim
        | cons t2 qs =>
          refine ⟨?_, ih h.2⟩
          obtain ⟨ks2, js2, ⟨dx, u1, u2, e1, e2, e3⟩, r⟩ := h.1
          have n0 : g ≠ D := fun z => by rw [z, dd] at e1; cases e1
          have n1 : u1 ≠ D := fun z => by rw [z, dd] at e2; cases e2
          have n2 : u2 ≠ D := fun z => by rw [z, dd] at e3; cases e3
          exact ⟨ks2, js2, ⟨dx, u1, u2, by rw [upd_ne n0]; exact e1, by rw [upd_ne n1]; exact e2, by rw [upd_ne n2]; exact e3⟩, r⟩
    refine ⟨_, dd, ?_, fs ++ [q], ?_, ?_, ?_, ?_⟩
    · rw [List.length_map, l2, sizeLine_eq]
      omega
    · intro b o e
      rw [upd_ne (ne_of_none e hD)]
      exact s3 _ _ (s2 b o e)
    · rw [upd_same, List.map_append]
      rfl
    · rw [List.take_succ, ht]
      exact FlsS.append (show FlsS C _ [q] [t] from ⟨⟨ks, js, fpD, p1, p2, w1, w2⟩, True.intro⟩) (old (f2.same s3))
    · rw [List.length_append, l2]
      rfl
  · rintro H2 ⟨fs, s2, hD2, f2, l2⟩
    have e : ps.take (as.map V.ref).length = ps := by
      rw [List.length_map, pr.len, List.take_length]
    rw [e] at f2
    exact out fs H2 s2 hD2 f2
end
end K49
/-! Sets of cells as numbers: bits, sums without carry, independence. Nothing of Python here. -/
namespace Msk
/-- the number of binary digits -/
def bl (m : Nat) : Nat := if m = 0 then 0 else m.log2 + 1
theorem bl_pos {m : Nat} (h : m ≠ 0) : 1 ≤ bl m := by
  unfold bl
  rw [if_neg h]
  omega
theorem lt_bl (m : Nat) : m < 2 ^ bl m := by
  unfold bl
  split
  · rename_i h
    rw [h]
    decide
  · rename_i h
    exact Nat.lt_log2_self
theorem bl_le {m n : Nat} (h : m < 2 ^ n) : bl m ≤ n := by
  unfold bl
  split
  · exact Nat.zero_le _
  · rename_i hm
    have := (Nat.log2_lt hm).mpr h
    omega
theorem top_bit {m : Nat} (h : m ≠ 0) : m.testBit (bl m - 1) = true := by
  unfold bl
  rw [if_neg h, Nat.add_sub_cancel]
  exact Nat.testBit_log2 h
theorem high_bit {m i : Nat} (h : bl m ≤ i) : m.testBit i = false :=
  Nat.testBit_lt_two_pow (Nat.lt_of_lt_of_le (lt_bl m) (Nat.pow_le_pow_right (by decide) h))
theorem bit_lt {m i : Nat} (h : m.testBit i = true) : i < bl m := by
  rcases Nat.lt_or_ge i (bl m) with z | z
  · exact z
  · rw [high_bit z] at h
    cases h
theorem bl_xor {a b : Nat} (ha : a ≠ 0) (e : bl a = bl b) : bl (a ^^^ b) < bl a := by
  have h1 := bl_pos ha
  have hb : b ≠ 0 := fun z => by
    rw [z] at e
    unfold bl at e h1
    simp at e
    omega
  have : a ^^^ b < 2 ^ (bl a - 1) := by
    refine Nat.lt_pow_two_of_testBit _ fun i hi => ?_
    rw [Nat.testBit_xor]
    by_cases z : i = bl a - 1
    · rw [z, top_bit ha, e, top_bit hb]
      rfl
    · rw [high_bit (by omega : bl a ≤ i), high_bit (by omega : bl b ≤ i)]
      rfl
  have := bl_le this
  omega
theorem xor_ne {a b : Nat} (h : a ≠ b) : a ^^^ b ≠ 0 := fun z => h (by
  have e : a ^^^ b ^^^ b = 0 ^^^ b := by rw [z]
  rw [Nat.xor_assoc, Nat.xor_self, Nat.xor_zero, Nat.zero_xor] at e
  exact e)
theorem xor_lt {a b n : Nat} (h1 : a < 2 ^ n) (h2 : b < 2 ^ n) : a ^^^ b < 2 ^ n := Nat.xor_lt_two_pow h1 h2
/-! ### the sum without carry of those that s tells -/
def comb : List Nat → Nat → Nat
  | [], _ => 0
  | m :: ms, s => (if s.testBit 0 then m else 0) ^^^ comb ms (s >>> 1)
theorem comb_zero : ∀ ms : List Nat, comb ms 0 = 0
  | [] => rfl
  | m :: ms => by
    show (if (0 : Nat).testBit 0 then m else 0) ^^^ comb ms (0 >>> 1) = 0
    rw [Nat.zero_shiftRight, comb_zero ms, Nat.zero_testBit]
    simp
theorem swap4 (a b c d : Nat) : (a ^^^ b) ^^^ (c ^^^ d) = (a ^^^ c) ^^^ (b ^^^ d) := by
  rw [Nat.xor_assoc, Nat.xor_assoc, ← Nat.xor_assoc b, Nat.xor_comm b c, Nat.xor_assoc c]
theorem comb_xor : ∀ (ms : List Nat) (s t : Nat), comb ms (s ^^^ t) = comb ms s ^^^ comb ms t
  | [], _, _ => (Nat.xor_self 0).symm
  | m :: ms, s, t => by
    show (if (s ^^^ t).testBit 0 then m else 0) ^^^ comb ms ((s ^^^ t) >>> 1) = ((if s.testBit 0 then m else 0) ^^^ comb ms (s >>> 1)) ^^^ ((if t.testBit 0 then m else 0) ^^^ comb ms (t >>> 1))
    rw [Nat.shiftRight_xor_distrib, comb_xor ms, swap4, Nat.testBit_xor]
    congr 1
    cases s.testBit 0 <;> cases t.testBit 0 <;> simp
theorem comb_one : ∀ (ms : List Nat) (i : Nat), comb ms (2 ^ i) = ms.getD i 0
  | [], i => by simp [comb]
  | m :: ms, 0 => by
    show (if (1 : Nat).testBit 0 then m else 0) ^^^ comb ms (1 >>> 1) = m
    have e : (1 : Nat) >>> 1 = 0 := by decide
    rw [e, comb_zero]
    simp
  | m :: ms, i + 1 => by
    show (if (2 ^ (i + 1)).testBit 0 then m else 0) ^^^ comb ms (2 ^ (i + 1) >>> 1) = ms.getD i 0
    have e : 2 ^ (i + 1) >>> 1 = 2 ^ i := by
      rw [Nat.shiftRight_eq_div_pow, Nat.pow_succ]
      omega
    have e2 : (2 ^ (i + 1)).testBit 0 = false := by
      rw [Nat.testBit_two_pow]
      simp
    rw [e, comb_one ms i, e2]
    simp
theorem comb_lt {n : Nat} : ∀ (ms : List Nat) (s : Nat), (∀ m ∈ ms, m < 2 ^ n) → comb ms s < 2 ^ n
  | [], _, _ => Nat.two_pow_pos n
  | m :: ms, s, h => by
    refine xor_lt ?_ (comb_lt ms _ fun x hx => h x (List.mem_cons_of_mem _ hx))
    split
    · exact h m (List.mem_cons_self ..)
    · exact Nat.two_pow_pos n
/-- no sum of some of them is nothing -/
def Indep (ms : List Nat) : Prop := ∀ s, s < 2 ^ ms.length → comb ms s = 0 → s = 0
/-- what is left of the j-th behind sums of those ahead of it -/
theorem left_ne {ms : List Nat} {j a : Nat} (h : Indep ms) (hj : j < ms.length) (ha : a < 2 ^ j) : ms.getD j 0 ^^^ comb ms a ≠ 0 := fun z => by
  have hs : a ^^^ 2 ^ j < 2 ^ ms.length := xor_lt (Nat.lt_of_lt_of_le ha (Nat.pow_le_pow_right (by decide) (by omega))) (Nat.pow_lt_pow_right (by decide) hj)
  have e : comb ms (a ^^^ 2 ^ j) = 0 := by
    rw [comb_xor, comb_one, Nat.xor_comm]
    exact z
  have e2 := h _ hs e
  have e3 : (a ^^^ 2 ^ j).testBit j = true := by
    rw [Nat.testBit_xor, Nat.testBit_lt_two_pow ha, Nat.testBit_two_pow_self]
    rfl
  rw [e2, Nat.zero_testBit] at e3
  cases e3
theorem add_bit {a j : Nat} (ha : a < 2 ^ j) : a ^^^ 2 ^ j < 2 ^ (j + 1) := xor_lt (Nat.lt_of_lt_of_le ha (Nat.pow_le_pow_right (by decide) (by omega))) (Nat.pow_lt_pow_right (by decide) (by omega))
/-! ### the cells of a number -/
def cellsI (m : Nat) : List Int := ((List.range (bl m)).filter fun i => m.testBit i).map fun (i : Nat) => (i : Int)
theorem mem_cellsI {m : Nat} {k : Int} : k ∈ cellsI m ↔ ∃ i : Nat, k = (i : Int) ∧ m.testBit i = true := by
  unfold cellsI
  simp only [List.mem_map, List.mem_filter, List.mem_range]
  constructor
  · rintro ⟨i, ⟨_, h⟩, rfl⟩
    exact ⟨i, rfl, h⟩
  · rintro ⟨i, rfl, h⟩
    exact ⟨i, ⟨bit_lt h, h⟩, rfl⟩
theorem mem_cellsN {m i : Nat} : (i : Int) ∈ cellsI m ↔ m.testBit i = true := by
  rw [mem_cellsI]
  constructor
  · rintro ⟨j, e, h⟩
    have : i = j := by omega
    rw [this]
    exact h
  · intro h
    exact ⟨i, rfl, h⟩
theorem range_up (n : Nat) : (List.range n).Pairwise (· < ·) := List.pairwise_lt_range
theorem cellsI_up (m : Nat) : (cellsI m).Pairwise (· < ·) := by
  unfold cellsI
  refine List.Pairwise.map _ (fun a b h => ?_) ((range_up (bl m)).filter _)
  show (a : Int) < (b : Int)
  exact Int.ofNat_lt.mpr h
theorem up_nodup {l : List Int} (h : l.Pairwise (· < ·)) : l.Nodup := h.imp fun {a b} z => by
  show a ≠ b
  omega
theorem cellsI_nodup (m : Nat) : (cellsI m).Nodup := up_nodup (cellsI_up m)
theorem cellsI_in {m n : Nat} (h : m < 2 ^ n) : ∀ k ∈ cellsI m, 0 ≤ k ∧ k < (n : Nat) := fun k hk => by
  obtain ⟨i, rfl, hi⟩ := mem_cellsI.mp hk
  have := bit_lt hi
  have := bl_le h
  omega
/-- those of the first i places -/
def cellsT (m i : Nat) : List Int := ((List.range i).filter fun j => m.testBit j).map fun (j : Nat) => (j : Int)
theorem cellsT_step (m i : Nat) : cellsT m (i + 1) = cellsT m i ++ (if m.testBit i = true then [(i : Int)] else []) := by
  unfold cellsT
  rw [List.range_succ, List.filter_append, List.map_append]
  congr 1
  cases h : m.testBit i <;> simp [h]
theorem cellsT_len (m i : Nat) : (cellsT m i).length ≤ i := by
  unfold cellsT
  rw [List.length_map]
  have := List.length_filter_le (fun j => m.testBit j) (List.range i)
  rw [List.length_range] at this
  exact this
/-! ### the number of some cells -/
def maskI (ns : List Int) : Nat := ns.foldr (fun k a => 2 ^ k.toNat ^^^ a) 0
theorem mask_bit : ∀ {ns : List Int} {i : Nat}, ns.Nodup → (∀ k ∈ ns, 0 ≤ k) → (maskI ns).testBit i = decide ((i : Int) ∈ ns)
  | [], i, _, _ => by simp [maskI]
  | k :: ns, i, hn, h0 => by
    have hk := h0 k (List.mem_cons_self ..)
    have h1 := List.nodup_cons.mp hn
    have ih := mask_bit (i := i) h1.2 fun x hx => h0 x (List.mem_cons_of_mem _ hx)
    show (2 ^ k.toNat ^^^ maskI ns).testBit i = _
    rw [Nat.testBit_xor, ih, Nat.testBit_two_pow]
    by_cases z : k.toNat = i
    · have e : (i : Int) = k := by omega
      rw [e, decide_eq_false h1.1, decide_eq_true z, decide_eq_true (List.mem_cons_self ..)]
      rfl
    · have e : ¬ (i : Int) = k := by omega
      rw [decide_eq_false z, Bool.false_xor]
      by_cases y : (i : Int) ∈ ns
      · rw [decide_eq_true y, decide_eq_true (List.mem_cons_of_mem _ y)]
      · rw [decide_eq_false y, decide_eq_false fun q => (List.mem_cons.mp q).elim e y]
theorem mask_cells {ns : List Int} {m : Nat} (hn : ns.Nodup) (h : ∀ k, k ∈ ns ↔ k ∈ cellsI m) : maskI ns = m := by
  refine Nat.eq_of_testBit_eq fun i => ?_
  rw [mask_bit hn fun k hk => by
    obtain ⟨j, rfl, _⟩ := mem_cellsI.mp ((h k).mp hk)
    omega]
  cases e : m.testBit i with
  | true => exact decide_eq_true ((h _).mpr (mem_cellsN.mpr e))
  | false =>
    refine decide_eq_false fun z => ?_
    have := mem_cellsN.mp ((h _).mp z)
    rw [e] at this
    cases this
theorem cells_mask {ns : List Int} (hn : ns.Nodup) (h0 : ∀ k ∈ ns, 0 ≤ k) (k : Int) : k ∈ cellsI (maskI ns) ↔ k ∈ ns := by
  rw [mem_cellsI]
  constructor
  · rintro ⟨i, rfl, h⟩
    rw [mask_bit hn h0] at h
    exact of_decide_eq_true h
  · intro h
    have := h0 k h
    refine ⟨k.toNat, by omega, ?_⟩
    rw [mask_bit hn h0, Int.toNat_of_nonneg this]
    exact decide_eq_true h
theorem mask_lt {ns : List Int} {n : Nat} (h : ∀ k ∈ ns, 0 ≤ k ∧ k < (n : Nat)) : maskI ns < 2 ^ n := by
  induction ns with
  | nil => exact Nat.two_pow_pos n
  | cons k ns ih =>
    have := h k (List.mem_cons_self ..)
    exact xor_lt (Nat.pow_lt_pow_right (by decide) (by omega)) (ih fun x hx => h x (List.mem_cons_of_mem _ hx))
theorem xor_mod2 {a b : Nat} : (a ^^^ b) % 2 = (a + b) % 2 := by
  have h := @Nat.xor_mod_two_eq_one a b
  omega
/-- a power that is not in, added or put in: the same -/
theorem add_pow : ∀ (k m : Nat), m.testBit k = false → 2 ^ k + m = 2 ^ k ^^^ m
  | 0, m, h => by
    have h2 : m % 2 = 0 := by
      rw [Nat.testBit_zero] at h
      have := of_decide_eq_false h
      omega
    have e1 : (1 ^^^ m) / 2 = 1 / 2 ^^^ m / 2 := Nat.xor_div_two
    have e2 : (1 ^^^ m) % 2 = (1 + m) % 2 := xor_mod2
    have e3 : (1 : Nat) / 2 = 0 := by decide
    rw [e3, Nat.zero_xor] at e1
    show 1 + m = 1 ^^^ m
    omega
  | k + 1, m, h => by
    have h2 : (m / 2).testBit k = false := by
      rw [← Nat.testBit_succ]
      exact h
    have ih := add_pow k (m / 2) h2
    have e1 : (2 ^ (k + 1) ^^^ m) / 2 = 2 ^ (k + 1) / 2 ^^^ m / 2 := Nat.xor_div_two
    have e2 : (2 ^ (k + 1) ^^^ m) % 2 = (2 ^ (k + 1) + m) % 2 := xor_mod2
    have e3 : 2 ^ (k + 1) / 2 = 2 ^ k := by
      rw [Nat.pow_succ]
      omega
    have e4 : 2 ^ (k + 1) = 2 * 2 ^ k := by
      rw [Nat.pow_succ]
      omega
    rw [e3, ← ih] at e1
    omega
theorem mask_sum : ∀ {ns : List Int}, ns.Nodup → (∀ k ∈ ns, 0 ≤ k) → (ns.map fun k => 2 ^ k.toNat).sum = maskI ns
  | [], _, _ => rfl
  | k :: ns, hn, h0 => by
    have h1 := List.nodup_cons.mp hn
    have hk := h0 k (List.mem_cons_self ..)
    have h2 : ∀ x ∈ ns, 0 ≤ x := fun x hx => h0 x (List.mem_cons_of_mem _ hx)
    rw [List.map_cons, List.sum_cons, mask_sum h1.2 h2]
    show 2 ^ k.toNat + maskI ns = 2 ^ k.toNat ^^^ maskI ns
    refine add_pow _ _ ?_
    rw [mask_bit h1.2 h2, Int.toNat_of_nonneg hk]
    exact decide_eq_false h1.1
/-! ### sums of rows -/
def addM (ms : List Nat) (ns : List Int) : Nat := ns.foldl (fun a k => a ^^^ ms.getD k.toNat 0) 0
theorem addM_from (ms : List Nat) : ∀ (ns : List Int) (a : Nat), ns.foldl (fun a k => a ^^^ ms.getD k.toNat 0) a = a ^^^ addM ms ns
  | [], a => (Nat.xor_zero a).symm
  | k :: ns, a => by
    unfold addM
    rw [List.foldl_cons, List.foldl_cons, addM_from ms ns, addM_from ms ns (0 ^^^ _), Nat.zero_xor, Nat.xor_assoc]
theorem addM_snoc (ms : List Nat) (ns : List Int) (k : Int) : addM ms (ns ++ [k]) = addM ms ns ^^^ ms.getD k.toNat 0 := by
  unfold addM
  rw [List.foldl_append]
  rfl
theorem addM_lt {ms : List Nat} {n : Nat} (h : ∀ m ∈ ms, m < 2 ^ n) : ∀ ns : List Int, addM ms ns < 2 ^ n := by
  have at_ : ∀ i, ms.getD i 0 < 2 ^ n := fun i => by
    rw [List.getD_eq_getElem?_getD]
    cases e : ms[i]? with
    | none => exact Nat.two_pow_pos n
    | some m => exact h m (List.mem_of_getElem? e)
  intro ns
  induction ns with
  | nil => exact Nat.two_pow_pos n
  | cons k ns ih =>
    have e : addM ms (k :: ns) = ms.getD k.toNat 0 ^^^ addM ms ns := by
      unfold addM
      rw [List.foldl_cons, addM_from, Nat.zero_xor]
      rfl
    rw [e]
    exact xor_lt (at_ _) ih
/-- the rows behind a flip -/
def aftM (ms : List Nat) (ts hs : List Int) : List Nat := (List.range ms.length).map fun (i : Nat) => if decide ((i : Int) ∈ hs) = true then ms.getD i 0 ^^^ addM ms ts else ms.getD i 0
theorem aftM_len (ms : List Nat) (ts hs : List Int) : (aftM ms ts hs).length = ms.length := by simp [aftM]
theorem aftM_at {ms : List Nat} {ts hs : List Int} {i : Nat} (hi : i < ms.length) : (aftM ms ts hs).getD i 0 = if decide ((i : Int) ∈ hs) = true then ms.getD i 0 ^^^ addM ms ts else ms.getD i 0 := by
  unfold aftM
  rw [List.getD_eq_getElem?_getD, List.getElem?_map, List.getElem?_range hi]
  rfl
theorem getD_lt {ms : List Nat} {n : Nat} (h : ∀ m ∈ ms, m < 2 ^ n) (i : Nat) : ms.getD i 0 < 2 ^ n := by
  rw [List.getD_eq_getElem?_getD]
  cases e : ms[i]? with
  | none => exact Nat.two_pow_pos n
  | some m => exact h m (List.mem_of_getElem? e)
theorem aftM_lt {ms : List Nat} {ts hs : List Int} {n : Nat} (h : ∀ m ∈ ms, m < 2 ^ n) : ∀ m ∈ aftM ms ts hs, m < 2 ^ n := fun m hm => by
  unfold aftM at hm
  obtain ⟨i, _, rfl⟩ := List.mem_map.mp hm
  split
  · exact xor_lt (getD_lt h i) (addM_lt h ts)
  · exact getD_lt h i
/-- the rows of the identity -/
def oneM (n : Nat) : List Nat := (List.range n).map fun i => 2 ^ i
theorem oneM_len (n : Nat) : (oneM n).length = n := by simp [oneM]
theorem oneM_at {n i : Nat} (h : i < n) : (oneM n).getD i 0 = 2 ^ i := by
  unfold oneM
  rw [List.getD_eq_getElem?_getD, List.getElem?_map, List.getElem?_range h]
  rfl
theorem oneM_lt {n : Nat} : ∀ m ∈ oneM n, m < 2 ^ n := fun m hm => by
  unfold oneM at hm
  obtain ⟨i, hi, rfl⟩ := List.mem_map.mp hm
  exact Nat.pow_lt_pow_right (by decide) (List.mem_range.mp hi)
end Msk
namespace K49
open PySem PySem.Spec PyProof.Rows L2 Par
theorem run_snoc (bs : List Int) (ps : List (List Int × List Int)) (p : List Int × List Int) : runB bs (ps ++ [p]) = aftB (runB bs ps) p.1 p.2 := by
  unfold runB
  rw [List.foldl_append]
  rfl
/-- the same flips in reverse order lead back -/
theorem run_back : ∀ (ps : List (List Int × List Int)) (bs : List Int), (∀ t ∈ ps, (∀ k ∈ t.1, 0 ≤ k ∧ k < bs.length) ∧ (comm t.1 t.2).length % 2 = 0) → runB (runB bs ps) ps.reverse = bs
  | [], _, _ => rfl
  | p :: ps, bs, h => by
    have h1 := h p (List.mem_cons_self ..)
    have ih := run_back ps (aftB bs p.1 p.2) fun t ht => by
      rw [aft_len]
      exact h t (List.mem_cons_of_mem _ ht)
    rw [List.reverse_cons, run_snoc]
    show aftB (runB (runB (aftB bs p.1 p.2) ps) ps.reverse) p.1 p.2 = bs
    rw [ih]
    exact aft_back h1.1 h1.2
theorem FlsS.fls {C : Addr} {H : Hp} : ∀ {fs : List Addr} {ps : List (List Int × List Int)}, FlsS C H fs ps → (∀ t ∈ ps, OkF t.1 t.2 ∧ t.1.Pairwise (· < ·) ∧ t.2.Pairwise (· < ·)) → Fls C H fs ps
  | [], [], _, _ => True.intro
  | _ :: _, t :: _, h, ok => by
    obtain ⟨⟨ks, js, fp, p1, p2, w1, w2⟩, r⟩ := h
    obtain ⟨o1, u1, u2⟩ := ok t (List.mem_cons_self ..)
    rw [sort_same p1 w1 u1, sort_same p2 w2 u2] at fp
    exact ⟨fp, o1, r.fls fun x hx => ok x (List.mem_cons_of_mem _ hx)⟩
  | [], _ :: _, h, _ => h.elim
  | _ :: _, [], h, _ => h.elim
end K49
namespace K49
open PySem PySem.Spec PyProof.Rows L2 Par Msk
/-! ### rows of a table, and what a sequence of flips does to every board -/
theorem par_zero (bs : List Int) : parB bs (cellsI 0) = 0 := by
  have e : cellsI 0 = [] := rfl
  rw [e]
  rfl
theorem cells_perm (a b : Nat) : (cellsI (a ^^^ b)).Perm (symm (cellsI a) (cellsI b)) := by
  refine (List.perm_ext_iff_of_nodup (cellsI_nodup _) (symm_nodup (cellsI_nodup a) (cellsI_nodup b))).mpr fun k => ?_
  rw [mem_symm, mem_cellsI]
  constructor
  · rintro ⟨i, rfl, h⟩
    rw [Nat.testBit_xor] at h
    have e : ∀ m : Nat, decide ((i : Int) ∈ cellsI m) = m.testBit i := fun m => by
      cases z : m.testBit i with
      | true => exact decide_eq_true (mem_cellsN.mpr z)
      | false => exact decide_eq_false fun y => by rw [mem_cellsN.mp y] at z; cases z
    rw [e, e]
    exact h
  · intro h
    have some : k ∈ cellsI a ∨ k ∈ cellsI b := by
      by_cases z : k ∈ cellsI a
      · exact .inl z
      · rw [decide_eq_false z, Bool.false_xor] at h
        exact .inr (of_decide_eq_true h)
    obtain ⟨i, rfl⟩ : ∃ i : Nat, k = (i : Int) := by
      rcases some with z | z
      · obtain ⟨i, e, _⟩ := mem_cellsI.mp z
        exact ⟨i, e⟩
      · obtain ⟨i, e, _⟩ := mem_cellsI.mp z
        exact ⟨i, e⟩
    refine ⟨i, rfl, ?_⟩
    have e : ∀ m : Nat, decide ((i : Int) ∈ cellsI m) = m.testBit i := fun m => by
      cases z : m.testBit i with
      | true => exact decide_eq_true (mem_cellsN.mpr z)
      | false => exact decide_eq_false fun y => by rw [mem_cellsN.mp y] at z; cases z
    rw [e, e] at h
    rw [Nat.testBit_xor]
    exact h
theorem par_xor (bs : List Int) (a b : Nat) : parB bs (cellsI (a ^^^ b)) = (parB bs (cellsI a) + parB bs (cellsI b)) % 2 := by
  rw [parB_perm (cells_perm a b)]
  exact par_symm (cellsI_nodup a) (cellsI_nodup b)
theorem addM_cons (R : List Nat) (k : Int) (ns : List Int) : addM R (k :: ns) = R.getD k.toNat 0 ^^^ addM R ns := by
  have e : addM R (k :: ns) = ns.foldl (fun a k => a ^^^ R.getD k.toNat 0) (0 ^^^ R.getD k.toNat 0) := rfl
  rw [e, addM_from, Nat.zero_xor]
theorem par_add (bs : List Int) (R : List Nat) : ∀ ns : List Int, parB bs (cellsI (addM R ns)) = (ns.map fun k => parB bs (cellsI (R.getD k.toNat 0))).sum % 2
  | [] => par_zero bs
  | k :: ns => by
    rw [addM_cons, par_xor, par_add bs R ns, List.map_cons, List.sum_cons]
    omega
theorem comb_add (R : List Nat) : ∀ ns : List Int, comb R (maskI ns) = addM R ns
  | [] => comb_zero R
  | k :: ns => by
    rw [addM_cons, ← comb_add R ns]
    show comb R (2 ^ k.toNat ^^^ maskI ns) = _
    rw [comb_xor, comb_one]
theorem comb_cells (R : List Nat) (s : Nat) : comb R s = addM R (cellsI s) := by
  have e : maskI (cellsI s) = s := mask_cells (cellsI_nodup s) fun k => Iff.rfl
  have h := comb_add R (cellsI s)
  rw [e] at h
  exact h
/-- the rows tell what the flips do -/
structure Rep (R : List Nat) (n : Nat) (ps : List (List Int × List Int)) : Prop where
  len : R.length = n
  lt : ∀ m ∈ R, m < 2 ^ n
  does : ∀ bs, OkB bs → bs.length = n → ∀ i, i < n → parB bs (cellsI (R.getD i 0)) = (runB bs ps).getD i 0
theorem cells_pow (i : Nat) : cellsI (2 ^ i) = [(i : Int)] := by
  refine up_same (cellsI_up _) (List.pairwise_singleton _ _) fun k => ?_
  rw [mem_cellsI, List.mem_singleton]
  constructor
  · rintro ⟨j, rfl, h⟩
    rw [Nat.testBit_two_pow] at h
    have := of_decide_eq_true h
    omega
  · rintro rfl
    exact ⟨i, rfl, Nat.testBit_two_pow_self⟩
theorem par_one1 {bs : List Int} {i : Nat} : parB bs [(i : Int)] = bs.getD i 0 % 2 := by
  unfold parB
  rw [List.map_cons, List.map_nil, List.sum_cons, List.sum_nil, Int.toNat_natCast, Int.add_zero]
theorem rep_one (n : Nat) : Rep (oneM n) n [] := by
  refine ⟨oneM_len n, oneM_lt, fun bs ok hl i hi => ?_⟩
  rw [oneM_at hi, cells_pow, par_one1]
  show bs.getD i 0 % 2 = bs.getD i 0
  rcases bit_at ok (i := i) (by omega) with e | e <;> rw [e] <;> rfl
theorem sum_congr {f g : Int → Int} : ∀ {ns : List Int}, (∀ k ∈ ns, f k = g k) → (ns.map f).sum = (ns.map g).sum
  | [], _ => rfl
  | k :: ns, h => by
    rw [List.map_cons, List.map_cons, List.sum_cons, List.sum_cons, h k (List.mem_cons_self ..), sum_congr fun x hx => h x (List.mem_cons_of_mem _ hx)]
/-- the parity of cells behind the flips, by the rows -/
theorem Rep.par {R : List Nat} {n : Nat} {ps : List (List Int × List Int)} (r : Rep R n ps) {bs : List Int} (ok : OkB bs) (hl : bs.length = n) {ns : List Int} (h : ∀ k ∈ ns, 0 ≤ k ∧ k < (n : Nat)) :
    parB (runB bs ps) ns = parB bs (cellsI (addM R ns)) := by
  rw [par_add]
  show (ns.map fun k => (runB bs ps).getD k.toNat 0).sum % 2 = _
  rw [sum_congr fun k hk => (r.does bs ok hl k.toNat (by have := h k hk; omega)).symm]
theorem rep_step {R : List Nat} {n : Nat} {ps : List (List Int × List Int)} {t : List Int × List Int} (r : Rep R n ps) (h : ∀ k ∈ t.1, 0 ≤ k ∧ k < (n : Nat)) : Rep (aftM R t.1 t.2) n (ps ++ [t]) := by
  refine ⟨(aftM_len _ _ _).trans r.len, aftM_lt r.lt, fun bs ok hl i hi => ?_⟩
  have hi2 : i < (runB bs ps).length := by
    rw [run_len]
    omega
  rw [aftM_at (by rw [r.len]; exact hi), run_snoc, aft_at hi2]
  have x := r.does bs ok hl i hi
  have p := r.par ok hl h
  have q := par01 bs (cellsI (R.getD i 0))
  have q2 := par01 (runB bs ps) t.1
  by_cases z : (i : Int) ∈ t.2
  · rw [decide_eq_true z, if_pos rfl, par_xor, x, ← p]
    rw [x] at q
    rcases q2 with e | e
    · rw [if_neg (fun y => by rw [e] at y; exact absurd y.1 (by decide))]
      omega
    · rw [if_pos ⟨e, z⟩]
      omega
  · rw [decide_eq_false z, if_neg Bool.false_ne_true, x, if_neg fun y => z y.2]
theorem run_okp : ∀ {ps : List (List Int × List Int)} {bs : List Int}, (∀ t ∈ ps, ∀ k ∈ t.2, 1 ≤ k) → OkB bs → OkB (runB bs ps)
  | [], _, _, h => h
  | t :: ps, bs, h, ok => run_okp (ps := ps) (bs := aftB bs t.1 t.2) (fun x hx => h x (List.mem_cons_of_mem _ hx)) (aft_ok ok (h t (List.mem_cons_self ..)))
/-- a board of this size -/
def bs1 (n : Nat) : List Int := mkB n fun _ => false
theorem bs1_ok {n : Nat} (h1 : 1 ≤ n) (h2 : n ≤ 40) : OkB (bs1 n) := mkB_ok h1 h2
theorem bs1_len (n : Nat) : (bs1 n).length = n := mkB_len _ _
theorem bits_zero {n d : Nat} (h1 : 1 ≤ n) (h2 : n ≤ 40) (hd : d < 2 ^ n) (h : ∀ bs, OkB bs → bs.length = n → parB bs (cellsI d) = 0) : d = 0 := by
  have no : ∀ i : Nat, 1 ≤ i → d.testBit i = false := fun i hi => by
    cases e : d.testBit i with
    | false => rfl
    | true =>
      exfalso
      have a := h _ (bs1_ok h1 h2) (bs1_len n)
      have b := h (flipB (bs1 n) [(i : Int)]) (flip_ok (bs1_ok h1 h2) fun k hk => by
        rw [List.mem_singleton.mp hk]
        omega) (by rw [flipB_len, bs1_len])
      have c := sum_flip (bs := bs1 n) (hs := [(i : Int)]) (cellsI d) fun k hk => by
        rw [bs1_len]
        exact cellsI_in hd k hk
      have l : (comm (cellsI d) [(i : Int)]).length = 1 := by
        rw [comm_swap (cellsI_nodup d) (List.nodup_cons.mpr ⟨by simp, List.nodup_nil⟩)]
        unfold comm
        simp [mem_cellsN.mpr e]
      rw [l] at c
      unfold parB at a b
      omega
  have z : d.testBit 0 = false := by
    cases e : d.testBit 0 with
    | false => rfl
    | true =>
      exfalso
      have one : d = 2 ^ 0 := Nat.eq_of_testBit_eq fun i => by
        cases i with
        | zero =>
          rw [e]
          rfl
        | succ i =>
          rw [no (i + 1) (by omega), Nat.testBit_two_pow]
          rfl
      have a := h _ (bs1_ok h1 h2) (bs1_len n)
      rw [one, cells_pow, par_one1, List.getD_eq_getElem?_getD, (bs1_ok h1 h2).2.1] at a
      exact absurd a (by decide)
  refine Nat.eq_of_testBit_eq fun i => ?_
  rw [Nat.zero_testBit]
  cases i with
  | zero => exact z
  | succ i => exact no (i + 1) (by omega)
/-- flips that fit, of this size -/
def Fit1 (n : Nat) (ps : List (List Int × List Int)) : Prop := ∀ t ∈ ps, (∀ k ∈ t.1, 0 ≤ k ∧ k < (n : Nat)) ∧ (∀ k ∈ t.2, 1 ≤ k ∧ k < (n : Nat)) ∧ (comm t.1 t.2).length % 2 = 0
theorem rep_indep {R : List Nat} {n : Nat} {ps : List (List Int × List Int)} (r : Rep R n ps) (f : Fit1 n ps) (h1 : 1 ≤ n) (h2 : n ≤ 40) : Indep R := fun s hs e => by
  rw [r.len] at hs
  refine bits_zero h1 h2 hs fun y ok hl => ?_
  have okr : OkB (runB y ps.reverse) := run_okp (fun t ht k hk => ((f t (List.mem_reverse.mp ht)).2.1 k hk).1) ok
  have len : (runB y ps.reverse).length = n := by rw [run_len, hl]
  have back : runB (runB y ps.reverse) ps = y := by
    have b := run_back ps.reverse y fun t ht => by
      have := f t (List.mem_reverse.mp ht)
      rw [hl]
      exact ⟨this.1, this.2.2⟩
    rwa [List.reverse_reverse] at b
  have p := r.par okr len (cellsI_in hs)
  rw [back, ← comb_cells, e, par_zero] at p
  exact p
theorem rep_eq {R R' : List Nat} {n : Nat} {ps qs : List (List Int × List Int)} (r : Rep R n ps) (r' : Rep R' n qs) (h1 : 1 ≤ n) (h2 : n ≤ 40) (h : ∀ bs, OkB bs → bs.length = n → runB bs ps = runB bs qs) : R = R' := by
  refine List.ext_getElem (r.len.trans r'.len.symm) fun i a b => ?_
  have g : ∀ (S : List Nat) (hS : i < S.length), S[i] = S.getD i 0 := fun S hS => by
    rw [List.getD_eq_getElem?_getD, List.getElem?_eq_getElem hS]
    rfl
  rw [g R a, g R' b]
  have hi : i < n := by
    rw [← r.len]
    exact a
  have z := bits_zero h1 h2 (xor_lt (getD_lt r.lt i) (getD_lt r'.lt i)) fun bs ok hl => by
    have q := par01 bs (cellsI (R'.getD i 0))
    rw [par_xor, r.does bs ok hl i hi, h bs ok hl, ← r'.does bs ok hl i hi]
    rcases q with e | e <;> rw [e] <;> rfl
  by_cases y : R.getD i 0 = R'.getD i 0
  · exact y
  · exact absurd z (xor_ne y)
theorem rep_first {R : List Nat} {n : Nat} {ps : List (List Int × List Int)} (r : Rep R n ps) (f : Fit1 n ps) (h1 : 1 ≤ n) (h2 : n ≤ 40) : R.getD 0 0 = 1 := by
  have z := bits_zero h1 h2 (xor_lt (getD_lt r.lt 0) (Nat.one_lt_two_pow (by omega) : 1 < 2 ^ n)) fun bs ok hl => by
    have o := run_okp (fun t ht k hk => ((f t ht).2.1 k hk).1) ok
    have e1 : (runB bs ps).getD 0 0 = 1 := by
      rw [List.getD_eq_getElem?_getD, o.2.1]
      rfl
    have e2 : bs.getD 0 0 = 1 := by
      rw [List.getD_eq_getElem?_getD, ok.2.1]
      rfl
    have e3 : cellsI 1 = [((0 : Nat) : Int)] := cells_pow 0
    rw [par_xor, r.does bs ok hl 0 (by omega), e1, e3, par_one1, e2]
    rfl
  by_cases y : R.getD 0 0 = 1
  · exact y
  · exact absurd z (xor_ne y)
/-- rows that make a table -/
structure GoodT (R : List Nat) : Prop where
  l1 : 1 ≤ R.length
  l40 : R.length ≤ 40
  lt : ∀ m ∈ R, m < 2 ^ R.length
  first : R.getD 0 0 = 1
  ind : Indep R
theorem rep_good {R : List Nat} {n : Nat} {ps : List (List Int × List Int)} (r : Rep R n ps) (f : Fit1 n ps) (h1 : 1 ≤ n) (h2 : n ≤ 40) : GoodT R := by
  have e := r.len
  exact ⟨by omega, by omega, by rw [e]; exact r.lt, rep_first r f h1 h2, rep_indep r f h1 h2⟩
end K49
namespace K49
open PySem PySem.Spec PyProof.Rows L2 Par Msk
abbrev sMaskOf : Stmt := topS 29
abbrev sCellsOf : Stmt := topS 30
abbrev sPivots : Stmt := topS 31
abbrev sReduced : Stmt := topS 32
abbrev sRank : Stmt := topS 33
theorem pow_sum : ∀ {ns : List Int}, ns.Nodup → (∀ k ∈ ns, 0 ≤ k) → (ns.map fun k => (2 : Int) ^ k.toNat).sum = ((maskI ns : Nat) : Int) := fun {ns} hn h0 => by
  rw [← mask_sum hn h0]
  clear hn h0
  induction ns with
  | nil => rfl
  | cons k ns ih =>
    rw [List.map_cons, List.map_cons, List.sum_cons, List.sum_cons, ih, Int.natCast_add, Int.natCast_pow]
    rfl
/-- numbers as values -/
def mV (ms : List Nat) : List V := ms.map fun (m : Nat) => V.int ((m : Nat) : Int)
theorem mV_len (ms : List Nat) : (mV ms).length = ms.length := by simp [mV]
theorem mV_at {ms : List Nat} {i : Nat} (h : i < ms.length) : (mV ms)[i]? = some (.int ((ms.getD i 0 : Nat) : Int)) := by
  unfold mV
  rw [List.getElem?_map, List.getD_eq_getElem?_getD, List.getElem?_eq_getElem h]
  rfl
theorem bits_bl (m : Nat) : Builtin.Int.intBits (m : Int) = bl m := by
  unfold Builtin.Int.intBits bl
  by_cases h : m = 0
  · subst h
    rfl
  · rw [if_neg h, if_neg (by simp; exact h)]
    rfl
theorem bitX (a b : Nat) : Builtin.bitXor (a : Int) (b : Int) = ((a ^^^ b : Nat) : Int) := by
  rw [Bits.bitXor_pp (by omega) (by omega)]
  rfl
theorem bit_test (m j : Nat) : decide (V.int (((m / 2 ^ j) % 2 : Nat) : Int) = V.int 1) = m.testBit j := by
  rw [Nat.testBit_eq_decide_div_mod_eq]
  by_cases h : m / 2 ^ j % 2 = 1
  · rw [h, decide_eq_true rfl]
    exact decide_eq_true rfl
  · rw [decide_eq_false h, decide_eq_false fun z => h (by injection z with z; omega)]
theorem cellsT_all (m : Nat) : Msk.cellsT m (bl m) = cellsI m := rfl
section
variable {P : Program} {w : World} {K : PySem.W.Frag} {mg : Str → Option Value} {base : Heap}
/-- mask_of -/
def spMaskOf (K : PySem.W.Frag) : Sp := fun vs H Q _ => ∃ (a : Addr) (ns : List Int), vs = [.ref a] ∧ Sq K H a (ns.map V.int) ∧ ns.Nodup ∧ ns.length ≤ 40 ∧ (∀ k ∈ ns, 0 ≤ k ∧ k < 40) ∧ ∀ H', Same H H' → Q (.int ((maskI ns : Nat) : Int)) H'
abbrev nMaskOf : List Str := ["cells", "cell"]
theorem scMaskOf : FnScope nMaskOf ["cells"] (defScope sMaskOf) := ⟨rfl, rfl, rfl, by decide +kernel, rfl, by decide +kernel, by decide +kernel⟩
theorem ok_maskOf {f : Addr} {fd : FuncData} (F : Fun K "mask_of" "mask_of" sMaskOf f fd) (B : Bl mg) : FnOk P w K mg base CX0 2 f fd ["cells"] (spMaskOf K) := by
  refine F.ok scMaskOf (fun vs H Q E h => ?_) (fun cdv A outer s H vs Q E hr h => ?_)
  · obtain ⟨a, ns, rfl, _⟩ := h
    rfl
  · obtain ⟨a, ns, rfl, hq | hq, hn, hl, hc, out⟩ := h
    · refine ⟨_, pss_one (ps_ret (pe_callB (cr_sum rfl) (by rfl) B.sum (by decide +kernel) (pa_cons (pe_lc (own := [("cell", 1)]) (g := gName 1) rfl scMaskOf.nd (pi_list (pv 0)) (blkOk_by (own := [("cell", 1)]) (N := nMaskOf) (sc := defScope sMaskOf) (by decide +kernel))
        (fun _ _ _ _ _ => pg_name (i := 1) scMaskOf.nd rfl (Or.inl rfl)) (fun _ _ _ _ _ => pts_nil) (fun _ _ _ _ _ => pe_op op_oneShl pe_int (pv 1))) pa_nil))), ?_⟩
      refine ⟨_, rfl, a, rfl, ⟨_, hq⟩, fun D hD => ?_⟩
      refine lc_list (K := K) (a := a) (xs := ns.map V.int) (fun i H' => Same H H' ∧ H' D = some (.lst (((ns.take i).map fun k => (2 : Int) ^ k.toNat).map V.int))) ⟨same_new hD, upd_same⟩ (fun i H' _ h => same_sq h.1 hq) ?_ ?_
      · rintro i x H2 hx ⟨s2, hD2⟩
        rw [List.getElem?_map] at hx
        obtain ⟨k, hk, rfl⟩ : ∃ k, ns[i]? = some k ∧ x = V.int k := by
          cases e : ns[i]? with
          | none => rw [e] at hx; cases hx
          | some k => rw [e] at hx; exact ⟨k, rfl, (Option.some.inj hx).symm⟩
        obtain ⟨k0, k1⟩ := hc k (List.mem_of_getElem? hk)
        refine ⟨rfl, yesT ?_⟩
        refine ⟨_, rfl, k.toNat, rfl, (by rw [Int.toNat_of_nonneg k0]), by omega, _, hD2, ?_, ?_, ?_⟩
        · rw [List.length_map, List.length_map, List.length_take]
          exact small1000 (by omega)
        · intro z o e
          rw [upd_ne (ne_of_none e hD)]
          exact s2 z o e
        · rw [upd_same, List.take_succ, hk, List.map_append, List.map_append]
          rfl
      · rintro H2 ⟨s2, hD2⟩
        rw [List.length_map, List.take_length] at hD2
        refine ⟨D, _, rfl, SqL.of hD2, ?_⟩
        rw [pow_sum hn fun k hk => (hc k hk).1]
        exact out H2 s2
    · refine ⟨_, pss_one (ps_ret (pe_callB (cr_sum rfl) (by rfl) B.sum (by decide +kernel) (pa_cons (pe_lc (own := [("cell", 1)]) (g := gName 1) rfl scMaskOf.nd (pi_tup (pv 0)) (blkOk_by (own := [("cell", 1)]) (N := nMaskOf) (sc := defScope sMaskOf) (by decide +kernel))
        (fun _ _ _ _ _ => pg_name (i := 1) scMaskOf.nd rfl (Or.inl rfl)) (fun _ _ _ _ _ => pts_nil) (fun _ _ _ _ _ => pe_op op_oneShl pe_int (pv 1))) pa_nil))), ?_⟩
      refine ⟨_, rfl, a, rfl, ⟨_, hq⟩, fun D hD => ?_⟩
      refine lc_tup (K := K) (a := a) (xs := ns.map V.int) (fun i H' => Same H H' ∧ H' D = some (.lst (((ns.take i).map fun k => (2 : Int) ^ k.toNat).map V.int))) ⟨same_new hD, upd_same⟩ (fun i H' _ h => same_sqt h.1 hq) ?_ ?_
      · rintro i x H2 hx ⟨s2, hD2⟩
        rw [List.getElem?_map] at hx
        obtain ⟨k, hk, rfl⟩ : ∃ k, ns[i]? = some k ∧ x = V.int k := by
          cases e : ns[i]? with
          | none => rw [e] at hx; cases hx
          | some k => rw [e] at hx; exact ⟨k, rfl, (Option.some.inj hx).symm⟩
        obtain ⟨k0, k1⟩ := hc k (List.mem_of_getElem? hk)
        refine ⟨rfl, yesT ?_⟩
        refine ⟨_, rfl, k.toNat, rfl, (by rw [Int.toNat_of_nonneg k0]), by omega, _, hD2, ?_, ?_, ?_⟩
        · rw [List.length_map, List.length_map, List.length_take]
          exact small1000 (by omega)
        · intro z o e
          rw [upd_ne (ne_of_none e hD)]
          exact s2 z o e
        · rw [upd_same, List.take_succ, hk, List.map_append, List.map_append]
          rfl
      · rintro H2 ⟨s2, hD2⟩
        rw [List.length_map, List.take_length] at hD2
        refine ⟨D, _, rfl, SqL.of hD2, ?_⟩
        rw [pow_sum hn fun k hk => (hc k hk).1]
        exact out H2 s2
/-- cells_of -/
def spCellsOf : Sp := fun vs H Q _ => ∃ m : Nat, vs = [.int (m : Int)] ∧ m < 2 ^ 40 ∧ ∀ p H', H p = none → Same H H' → H' p = some (.tup ((cellsI m).map V.int)) → Q (.ref p) H'
abbrev nCellsOf : List Str := ["mask", "cell"]
theorem scCellsOf : FnScope nCellsOf ["mask"] (defScope sCellsOf) := ⟨rfl, rfl, rfl, by decide +kernel, rfl, by decide +kernel, by decide +kernel⟩
theorem ok_cellsOf {f : Addr} {fd : FuncData} (F : Fun K "cells_of" "cells_of" sCellsOf f fd) (B : Bl mg) : FnOk P w K mg base CX0 2 f fd ["mask"] spCellsOf := by
  refine F.ok scCellsOf (fun vs H Q E h => ?_) (fun cdv A outer s H vs Q E hr h => ?_)
  · obtain ⟨m, rfl, _⟩ := h
    rfl
  · obtain ⟨m, rfl, hm, out⟩ := h
    have b40 := bl_le hm
    refine ⟨_, pss_one (ps_ret (pe_callTy call_tuple_of (by rfl) B.tuple (by decide +kernel) (pa_cons (pe_lc (own := [("cell", 1)]) (g := gName 1) rfl scCellsOf.nd (pi_range1 (by rfl) B.range (pa_cons (pe_bits (pv 0)) pa_nil)) (blkOk_by (own := [("cell", 1)]) (N := nCellsOf) (sc := defScope sCellsOf) (by decide +kernel))
        (fun _ _ _ _ _ => pg_name (i := 1) scCellsOf.nd rfl (Or.inl rfl)) (fun _ _ _ _ _ => pts_one (pt_cmpR op_eq (pe_op op_odd (pe_op op_shrN (pv 0) (pv 1)) pe_int) pe_int (nomark _))) (fun _ _ _ _ _ => pv 1)) pa_nil))), ?_⟩
    refine ⟨_, rfl, _, rfl, ?_⟩
    rw [bits_bl]
    refine ⟨_, rfl, by omega, by omega, fun D hD => ?_⟩
    rw [Int.toNat_natCast]
    refine lc_range (lo := 0) (n := bl m) (fun i H' => Same H H' ∧ H' D = some (.lst ((Msk.cellsT m i).map V.int))) ⟨same_new hD, upd_same⟩ ?_ ?_
    · rintro i H2 hi ⟨s2, hD2⟩
      have st := Msk.cellsT_step m i
      rw [Int.zero_add]
      refine ⟨rfl, _, rfl, _, rfl, (m : Int), i, rfl, rfl, m / 2 ^ i, (by rw [Int.natCast_ediv, Int.natCast_pow]; rfl), rfl, rfl, _, rfl, ?_⟩
      rw [bit_test]
      cases z : m.testBit i with
      | true =>
        rw [z, if_pos rfl] at st
        refine iteT ⟨_, rfl, _, hD2, ?_, ?_, ?_⟩
        · rw [List.length_map]
          have := Msk.cellsT_len m i
          exact small1000 (by omega)
        · intro y o e
          rw [upd_ne (ne_of_none e hD)]
          exact s2 y o e
        · rw [upd_same, st, List.map_append]
          rfl
      | false =>
        rw [z, if_neg Bool.false_ne_true, List.append_nil] at st
        refine iteF ⟨s2, ?_⟩
        rw [st]
        exact hD2
    · rintro H2 ⟨s2, hD2⟩
      rw [cellsT_all] at hD2
      refine ⟨D, _, rfl, .inl ⟨SqL.of hD2, fun l hl2 => ?_⟩⟩
      exact out l _ (s2.free hl2) (s2.trans (same_new hl2)) upd_same
/-! ### pivots -/
/-- the pivots' dict: each sum by its bit length -/
def PvL (H : Hp) : List (Nat × Nat) → List (Key × V) → Prop
  | [], [] => True
  | p :: ps, kv :: kvs => (kv.1 = Sum.inl ((bl p.1 : Nat) : Int) ∧ ∃ t, kv.2 = .ref t ∧ H t = some (.tup [.int (p.1 : Int), .int (p.2 : Int)])) ∧ PvL H ps kvs
  | _, _ => False
def PvAt (H : Hp) (d : Addr) (ps : List (Nat × Nat)) : Prop := ∃ kvs, H d = some (.dK kvs) ∧ PvL H ps kvs
/-- what the pivots are sums of -/
structure PvOk (ms : List Nat) (j : Nat) (ps : List (Nat × Nat)) : Prop where
  each : ∀ p ∈ ps, p.1 ≠ 0 ∧ p.1 = comb ms p.2 ∧ p.2 < 2 ^ j
  keys : (ps.map fun p => bl p.1).Nodup
theorem PvL.same {H H' : Hp} (s : ∀ t x y, H t = some (.tup [.int x, .int y]) → H' t = some (.tup [.int x, .int y])) : ∀ {ps : List (Nat × Nat)} {kvs : List (Key × V)}, PvL H ps kvs → PvL H' ps kvs
  | [], [], _ => True.intro
  | _ :: _, _ :: _, ⟨⟨e, t, e2, h⟩, r⟩ => ⟨⟨e, t, e2, s _ _ _ h⟩, r.same s⟩
  | [], _ :: _, h => h.elim
  | _ :: _, [], h => h.elim
theorem PvAt.same {H H' : Hp} {d : Addr} {ps : List (Nat × Nat)} (s : Same H H') (h : PvAt H d ps) : PvAt H' d ps := by
  obtain ⟨kvs, e, pl⟩ := h
  exact ⟨kvs, s _ _ e, pl.same fun t x y q => s _ _ q⟩
theorem PvL.len {H : Hp} : ∀ {ps : List (Nat × Nat)} {kvs : List (Key × V)}, PvL H ps kvs → kvs.length = ps.length
  | [], [], _ => rfl
  | _ :: _, _ :: _, h => by rw [List.length_cons, List.length_cons, h.2.len]
  | [], _ :: _, h => h.elim
  | _ :: _, [], h => h.elim
theorem PvL.snoc {H : Hp} {q : Nat × Nat} {t : Addr} (hq : H t = some (.tup [.int (q.1 : Int), .int (q.2 : Int)])) : ∀ {ps : List (Nat × Nat)} {kvs : List (Key × V)}, PvL H ps kvs → PvL H (ps ++ [q]) (kvs ++ [(Sum.inl ((bl q.1 : Nat) : Int), .ref t)])
  | [], [], _ => ⟨⟨rfl, t, rfl, hq⟩, True.intro⟩
  | _ :: _, _ :: _, ⟨h, r⟩ => ⟨h, r.snoc hq⟩
  | [], _ :: _, h => h.elim
  | _ :: _, [], h => h.elim
theorem PvL.find {H : Hp} {b : Nat} : ∀ {ps : List (Nat × Nat)} {kvs : List (Key × V)}, PvL H ps kvs → (∀ v, valV kvs (Sum.inl (b : Int)) = some v → ∃ p ∈ ps, bl p.1 = b ∧ ∃ t, v = .ref t ∧ H t = some (.tup [.int (p.1 : Int), .int (p.2 : Int)])) ∧
    (valV kvs (Sum.inl (b : Int)) = none → ∀ p ∈ ps, bl p.1 ≠ b)
  | [], [], _ => ⟨fun v h => (by rw [valV_nil] at h; cases h), fun _ p hp => (nomatch hp)⟩
  | p :: ps, kv :: kvs, ⟨⟨e, t, e2, h⟩, r⟩ => by
    have ih := r.find (b := b)
    by_cases z : bl p.1 = b
    · have ek : kv.1 = Sum.inl ((b : Nat) : Int) := by rw [e, z]
      rw [valV_pos ek]
      refine ⟨fun v hv => ⟨p, List.mem_cons_self .., z, t, ?_, h⟩, fun y => nomatch y⟩
      rw [← e2]
      exact (Option.some.inj hv).symm
    · have ek : ¬ kv.1 = Sum.inl ((b : Nat) : Int) := fun y => z (by
        rw [e] at y
        injection y with y
        omega)
      rw [valV_neg ek]
      refine ⟨fun v hv => ?_, fun hn q hq => ?_⟩
      · obtain ⟨q, hq, r⟩ := ih.1 v hv
        exact ⟨q, List.mem_cons_of_mem _ hq, r⟩
      · rcases List.mem_cons.mp hq with rfl | hq
        · exact z
        · exact ih.2 hn q hq
  | [], _ :: _, h => h.elim
  | _ :: _, [], h => h.elim
theorem PvL.put {H : Hp} {b : Nat} {v : V} : ∀ {ps : List (Nat × Nat)} {kvs : List (Key × V)}, PvL H ps kvs → (∀ p ∈ ps, bl p.1 ≠ b) → putK kvs (Sum.inl (b : Int)) v = kvs ++ [(Sum.inl (b : Int), v)] := fun {ps kvs} h no => by
  have none_ : (kvs.any fun kv => decide (kv.1 = Sum.inl ((b : Nat) : Int))) = false := by
    rw [Bool.eq_false_iff]
    intro z
    obtain ⟨kv, hkv, e⟩ := List.any_eq_true.mp z
    have e2 := of_decide_eq_true e
    clear z e
    induction ps generalizing kvs with
    | nil =>
      cases kvs with
      | nil => cases hkv
      | cons _ _ => exact h
    | cons p ps ih =>
      cases kvs with
      | nil => cases hkv
      | cons k kvs =>
        rcases List.mem_cons.mp hkv with rfl | hkv
        · have := h.1.1
          rw [e2] at this
          injection this with this
          exact no p (List.mem_cons_self ..) (by omega)
        · exact ih h.2 (fun q hq => no q (List.mem_cons_of_mem _ hq)) hkv
  unfold putK
  rw [none_, if_neg Bool.false_ne_true]
def spReduced : Sp := fun vs H Q _ => ∃ (d : Addr) (m : Nat) (ms : List Nat) (j : Nat) (ps : List (Nat × Nat)), vs = [.ref d, .int (m : Int)] ∧ PvAt H d ps ∧ PvOk ms j ps ∧
  ∀ p r a H', H p = none → Same H H' → H' p = some (.tup [.int ((r : Nat) : Int), .int ((a : Nat) : Int)]) → r = m ^^^ comb ms a → a < 2 ^ j → (∀ q ∈ ps, bl q.1 ≠ bl r) → Q (.ref p) H'
abbrev nReduced : List Str := ["pivots", "mask", "rest", "added", "pivot", "indexes"]
theorem scReduced : FnScope nReduced ["pivots", "mask"] (defScope sReduced) := ⟨rfl, rfl, rfl, by decide +kernel, rfl, by decide +kernel, by decide +kernel⟩
theorem ok_reduced {f : Addr} {fd : FuncData} (F : Fun K "reduced" "reduced" sReduced f fd) : FnOk P w K mg base CX0 2 f fd ["pivots", "mask"] spReduced := by
  refine F.ok scReduced (fun vs H Q E h => ?_) (fun cdv A outer s H vs Q E hr h => ?_)
  · obtain ⟨d, m, ms, j, ps, rfl, _⟩ := h
    rfl
  · obtain ⟨d, m, ms, j, ps, rfl, ⟨kvs, hd, pl⟩, po, out⟩ := h
    have hu1 := hr.units
    have hu : (A.deeper (envOfC "reduced" (defScope sReduced) s.heap.objs.size f cdv)).units + 1 < cLine := by omega
    refine ⟨_, pss_cons (ps_set (i := 2) scReduced.nd rfl (Or.inl rfl) (pv 1))
      (pss_cons (ps_set (i := 3) scReduced.nd rfl (Or.inl rfl) pe_int)
      (pss_cons (ps_while PassesOwn.never (pt_cmp (pc_din hu (pe_bits (pv 2)) (pv 0)))
        (pss_cons (ps_asg (pe_dget hu (pv 0) (pe_bits (pv 2)) (fun _ _ => rfl)) (pg_tup rfl (pgs_cons (pg_name (i := 4) scReduced.nd rfl (Or.inl rfl)) (pgs_cons (pg_name (i := 5) scReduced.nd rfl (Or.inl rfl)) pgs_nil))))
        (pss_cons (ps_set (i := 2) scReduced.nd rfl (Or.inl rfl) (pe_op op_xor (pv 2) (pv 4)))
        (pss_one (ps_set (i := 3) scReduced.nd rfl (Or.inl rfl) (pe_op op_xor (pv 3) (pv 5)))))))
      (pss_one (ps_ret (pe_tup (pa_cons (pv 2) (pa_cons (pv 3) pa_nil))))))), ?_⟩
    refine ⟨_, rfl, ?_⟩
    refine while_by (fun σ H' => ∃ (r a : Nat) (v4 v5 : Option V), σ = [some (.ref d), some (.int (m : Int)), some (.int ((r : Nat) : Int)), some (.int ((a : Nat) : Int)), v4, v5] ∧ H' = H ∧ r = m ^^^ comb ms a ∧ a < 2 ^ j)
      (fun σ _ => match σ with
        | [_, _, some (.int r), _, _, _] => bl r.toNat
        | _ => 0) ⟨m, 0, none, none, rfl, rfl, by rw [comb_zero, Nat.xor_zero], Nat.two_pow_pos j⟩ ?_ ?_
    · rintro σ H' ⟨r, a, v4, v5, rfl, rfl, er, ha⟩
      refine ⟨_, rfl, _, rfl, ?_⟩
      rw [bits_bl]
      refine ⟨_, rfl, d, _, rfl, DGet.k (k := Sum.inl ((bl r : Nat) : Int)) hd, _, rfl, ?_⟩
      have fd := pl.find (b := bl r)
      have dg : DGet H' d (.int ((bl r : Nat) : Int)) (valV kvs (Sum.inl ((bl r : Nat) : Int))) := DGet.k (k := Sum.inl ((bl r : Nat) : Int)) hd
      cases e : valV kvs (Sum.inl ((bl r : Nat) : Int)) with
      | none =>
        refine iteF ⟨_, rfl, _, rfl, (by show 2 ≤ sizeLine; decide), fun p hp => ?_⟩
        exact out p r a _ hp (same_new hp) upd_same er ha (fd.2 e)
      | some v =>
        obtain ⟨q, hq, eb, t, rfl, ht⟩ := fd.1 v e
        rw [e] at dg
        obtain ⟨q0, q1, q2⟩ := po.each q hq
        refine iteT ⟨_, rfl, _, rfl, _, rfl, ?_⟩
        rw [bits_bl]
        refine ⟨d, _, rfl, dg, t, _, rfl, SqT.of ht, rfl, _, _, rfl, _, _, rfl, rfl, ?_⟩
        refine ⟨_, rfl, _, rfl, _, _, rfl, rfl, ?_⟩
        refine ⟨_, rfl, _, rfl, _, _, rfl, rfl, ?_⟩
        dsimp only []
        rw [bitX, bitX]
        have r0 : r ≠ 0 := fun z => by
          rw [z] at eb
          have := bl_pos q0
          have z2 : bl 0 = 0 := rfl
          omega
        refine ⟨⟨r ^^^ q.1, a ^^^ q.2, _, _, rfl, rfl, ?_, xor_lt ha q2⟩, ?_⟩
        · rw [comb_xor, ← Nat.xor_assoc, ← er, ← q1]
        · show bl ((r ^^^ q.1 : Nat) : Int).toNat < bl ((r : Nat) : Int).toNat
          rw [Int.toNat_natCast, Int.toNat_natCast]
          exact bl_xor r0 eb.symm
    · rintro σ H' Q1 Q2 hm h
      obtain ⟨v, e, i, e2, u, e3, a, o, e4, e5, b, e6, e7⟩ := h
      exact ⟨v, e, i, e2, u, e3, a, o, e4, e5, b, e6, hm _ _ e7⟩
def spPivots (K : PySem.W.Frag) : Sp := fun vs H Q _ => ∃ (t : Addr) (ms : List Nat), vs = [.ref t] ∧ SqT K H t (mV ms) ∧ ms.length ≤ 40 ∧ Indep ms ∧
  ∀ d ps H', H d = none → Same H H' → PvAt H' d ps → PvOk ms ms.length ps → ps.length = ms.length → Q (.ref d) H'
abbrev nPivots : List Str := ["masks", "pivots", "index", "mask", "rest", "added"]
theorem scPivots : FnScope nPivots ["masks"] (defScope sPivots) := ⟨rfl, rfl, rfl, by decide +kernel, rfl, by decide +kernel, by decide +kernel⟩
theorem pv_snoc {ms : List Nat} {j : Nat} {ps : List (Nat × Nat)} {r a : Nat} (h : PvOk ms j ps) (ind : Indep ms) (hj : j < ms.length) (er : r = ms.getD j 0 ^^^ comb ms a) (ha : a < 2 ^ j) (no : ∀ q ∈ ps, bl q.1 ≠ bl r) : PvOk ms (j + 1) (ps ++ [(r, a ^^^ 2 ^ j)]) := by
  refine ⟨fun p hp => ?_, ?_⟩
  · rcases List.mem_append.mp hp with z | z
    · obtain ⟨h1, h2, h3⟩ := h.each p z
      exact ⟨h1, h2, Nat.lt_of_lt_of_le h3 (Nat.pow_le_pow_right (by decide) (by omega))⟩
    · rw [List.mem_singleton.mp z]
      refine ⟨by rw [er]; exact left_ne ind hj ha, ?_, add_bit ha⟩
      show r = comb ms (a ^^^ 2 ^ j)
      rw [comb_xor, comb_one, Nat.xor_comm]
      exact er
  · rw [List.map_append]
    refine List.nodup_append.mpr ⟨h.keys, by simp, fun x hx y hy => ?_⟩
    obtain ⟨q, hq, rfl⟩ := List.mem_map.mp hx
    have : y = bl r := by simpa using hy
    rw [this]
    exact no q hq
theorem ok_pivots {f : Addr} {fd : FuncData} (F : Fun K "pivots_of" "pivots_of" sPivots f fd) (B : Bl mg) (D : Has P w K mg base "reduced" 2 ["pivots", "mask"] spReduced) : FnOk P w K mg base CX0 3 f fd ["masks"] (spPivots K) := by
  obtain ⟨fD, fdD, GD, mD, kD, bD⟩ := D
  refine F.ok scPivots (fun vs H Q E h => ?_) (fun cdv A outer s H vs Q E hr h => ?_)
  · obtain ⟨t, ms, rfl, _⟩ := h
    rfl
  · obtain ⟨t, ms, rfl, hq, l40, ind, out⟩ := h
    have hu1 := hr.units
    have hu : (A.deeper (envOfC "pivots_of" (defScope sPivots) s.heap.objs.size f cdv)).units + 1 < cLine := by omega
    refine ⟨_, pss_cons (ps_set (i := 1) scPivots.nd rfl (Or.inl rfl) pe_dnewK)
      (pss_cons (ps_for PassesOwn.never rfl (pi_enumT (by rfl) B.enumerate (pa_cons (pv 0) pa_nil)) (pg_tup rfl (pgs_cons (pg_name (i := 2) scPivots.nd rfl (Or.inl rfl)) (pgs_cons (pg_name (i := 3) scPivots.nd rfl (Or.inl rfl)) pgs_nil)))
        (pss_cons (ps_asg (pe_call GD hr (by rfl) mD kD bD .nil pass0 (pa_cons (pv 1) (pa_cons (pv 3) pa_nil))) (pg_tup rfl (pgs_cons (pg_name (i := 4) scPivots.nd rfl (Or.inl rfl)) (pgs_cons (pg_name (i := 5) scPivots.nd rfl (Or.inl rfl)) pgs_nil))))
        (pss_one (ps_if (pt_cmpR op_ne (pv 4) pe_int (nomark _)) (pss_one (ps_dput hu (pv 1) (pe_bits (pv 4)) (pe_tup (pa_cons (pv 4) (pa_cons (pe_op op_xor (pv 5) (pe_op op_oneShl pe_int (pv 2))) pa_nil))) rfl)) pss_nil))))
      (pss_one (ps_ret (pv 1)))), ?_⟩
    intro d hd
    refine ⟨_, rfl, t, _, rfl, same_sqt (same_new hd) hq, ?_⟩
    refine for_it walk_enumT (fun i σ H' => ∃ (v2 v3 v4 v5 : Option V) (ps : List (Nat × Nat)), σ = [some (.ref t), some (.ref d), v2, v3, v4, v5] ∧ Same H H' ∧ PvAt H' d ps ∧ PvOk ms i ps ∧ ps.length = i)
      ⟨none, none, none, none, [], rfl, same_new hd, ⟨[], upd_same, True.intro⟩, ⟨fun p hp => (nomatch hp), List.nodup_nil⟩, rfl⟩ (fun i σ H' _ ⟨_, _, _, _, _, _, s1, _⟩ => same_sqt s1 hq) ?_ ?_
    · rintro i x σ H1 H2 hi ⟨v2, v3, v4, v5, ps, rfl, s1, pa, po, lp⟩ ⟨T, x1, y1, rfl, hT, rfl, ex, ey⟩
      have hi2 : i < ms.length := by rw [mV_len] at hi; exact hi
      have ey2 : y1 = .int ((ms.getD i 0 : Nat) : Int) := (Option.some.inj ((mV_at hi2).symm.trans ey)).symm
      have ex2 : x1 = .int (i : Nat) := (Option.some.inj ex).symm
      subst ey2 ex2
      have s2 := same_new (o := .tup [.int (i : Nat), .int ((ms.getD i 0 : Nat) : Int)]) hT
      have pa2 : PvAt (upd H1 T (.tup [.int (i : Nat), .int ((ms.getD i 0 : Nat) : Int)])) d ps := pa.same s2
      refine ⟨T, _, rfl, SqT.of upd_same, rfl, _, _, rfl, _, _, rfl, rfl, ?_⟩
      refine ⟨_, rfl, _, rfl, d, ms.getD i 0, ms, i, ps, rfl, pa2, po, fun p r a H3 hp s3 ep er ha no => ?_⟩
      refine ⟨p, _, rfl, SqT.of ep, rfl, _, _, rfl, _, _, rfl, rfl, ?_⟩
      have r0 : r ≠ 0 := by
        rw [er]
        exact left_ne ind hi2 ha
      refine ⟨_, rfl, rfl, _, rfl, ?_⟩
      rw [decide_eq_false (fun z => r0 (by injection z with z; omega) : ¬ V.int ((r : Nat) : Int) = V.int 0)]
      refine iteT ⟨_, rfl, _, rfl, _, rfl, i, rfl, rfl, by omega, _, _, rfl, rfl, (by show 2 ≤ sizeLine; decide), fun t2 ht2 => ?_⟩
      have e2 : ((2 : Int) ^ i) = ((2 ^ i : Nat) : Int) := by
        rw [Int.natCast_pow]
        rfl
      dsimp only []
      rw [e2, bitX]
      have s13 := (s1.trans s2).trans s3
      have s4 := same_new (o := .tup [.int ((r : Nat) : Int), .int ((a ^^^ 2 ^ i : Nat) : Int)]) ht2
      obtain ⟨kvs, ek, pl⟩ := (pa2.same s3).same s4
      refine ⟨_, rfl, _, rfl, _, rfl, ?_⟩
      rw [bits_bl]
      have hdH : H d = none := hd
      refine ⟨d, _, rfl, DPut.k (k := Sum.inl ((bl r : Nat) : Int)) ek (by rw [pl.len, lp]; exact small1000 (by omega)), ?_⟩
      rw [pl.put no]
      refine ⟨_, _, _, _, ps ++ [(r, a ^^^ 2 ^ i)], rfl, fun b o e => ?_, ⟨_, upd_same, ?_⟩, pv_snoc po ind hi2 er ha no, by rw [List.length_append, lp]; rfl⟩
      · rw [upd_ne (ne_of_none e hdH)]
        exact s4 _ _ (s13 b o e)
      · skip
        refine (PvL.snoc (q := (r, a ^^^ 2 ^ i)) upd_same pl).same fun t' x' y' e' => ?_
        rw [upd_ne fun z => by rw [z, ek] at e'; cases e']
        exact e'
    · rintro σ H1 ⟨v2, v3, v4, v5, ps, rfl, s1, pa, po, lp⟩
      rw [mV_len] at po lp
      exact ⟨_, rfl, out d ps H1 hd s1 pa po lp⟩
end
end K49
namespace K49
open PySem PySem.Spec PyProof.Rows L2 Par Msk
abbrev sRows : Stmt := topS 48
abbrev sAddedM : Stmt := topS 49
abbrev sSingle : Stmt := topS 50
abbrev sTabWith : Stmt := topS 52
abbrev sTabOf : Stmt := topS 53
abbrev sAfterM : Stmt := topS 54
abbrev hInit : Stmt := inClass (topS 47) 0
abbrev hEq : Stmt := inClass (topS 47) 1
abbrev hLen : Stmt := inClass (topS 47) 2
abbrev hRepr : Stmt := inClass (topS 47) 3
abbrev hSize : Stmt := inClass (topS 47) 4
abbrev hRow : Stmt := inClass (topS 47) 5
abbrev hImage : Stmt := inClass (topS 47) 7
abbrev hCheck : Stmt := inClass (topS 47) 11
section
variable {P : Program} {w : World} {K : PySem.W.Frag} {mg : Str → Option Value} {base : Heap}
/-- rank_of independent masks -/
def spRank (K : PySem.W.Frag) : Sp := fun vs H Q _ => ∃ (t : Addr) (ms : List Nat), vs = [.ref t] ∧ SqT K H t (mV ms) ∧ ms.length ≤ 40 ∧ Indep ms ∧ ∀ H', Same H H' → Q (.int ((ms.length : Nat) : Int)) H'
theorem scRank : FnScope ["masks"] ["masks"] (defScope sRank) := ⟨rfl, rfl, rfl, by decide +kernel, rfl, by decide +kernel, by decide +kernel⟩
theorem ok_rank {f : Addr} {fd : FuncData} (F : Fun K "rank_of" "rank_of" sRank f fd) (B : Bl mg) (D : Has P w K mg base "pivots_of" 3 ["masks"] (spPivots K)) : FnOk P w K mg base CX0 4 f fd ["masks"] (spRank K) := by
  obtain ⟨fD, fdD, GD, mD, kD, bD⟩ := D
  refine F.ok scRank (fun vs H Q E h => ?_) (fun cdv A outer s H vs Q E hr h => ?_)
  · obtain ⟨t, ms, rfl, _⟩ := h
    rfl
  · obtain ⟨t, ms, rfl, hq, l40, ind, out⟩ := h
    refine ⟨_, pss_one (ps_ret (pe_callB call_lenD (by rfl) B.len PySem.boot_len (pa_cons (pe_call GD hr (by rfl) mD kD bD .nil pass0 (pa_cons (pv 0) pa_nil)) pa_nil))), ?_⟩
    refine ⟨_, rfl, t, ms, rfl, hq, l40, ind, fun d ps H1 hd s1 pa po lp => ?_⟩
    obtain ⟨kvs, ek, pl⟩ := pa
    refine ⟨d, kvs, rfl, ek, ?_⟩
    rw [pl.len, lp]
    exact out _ s1
/-- lists or tuples of cells, at these places -/
def RowsAt (K : PySem.W.Frag) (H : Hp) : List Addr → List (List Int) → Prop
  | [], [] => True
  | x :: xs, ns :: nss => Sq K H x (ns.map V.int) ∧ RowsAt K H xs nss
  | _, _ => False
theorem RowsAt.same {H H' : Hp} (s : Same H H') : ∀ {xs : List Addr} {nss : List (List Int)}, RowsAt K H xs nss → RowsAt K H' xs nss
  | [], [], _ => True.intro
  | _ :: _, _ :: _, h => ⟨h.1.same s, h.2.same s⟩
  | [], _ :: _, h => h.elim
  | _ :: _, [], h => h.elim
theorem RowsAt.len {H : Hp} : ∀ {xs : List Addr} {nss : List (List Int)}, RowsAt K H xs nss → xs.length = nss.length
  | [], [], _ => rfl
  | _ :: _, _ :: _, h => by rw [List.length_cons, List.length_cons, h.2.len]
  | [], _ :: _, h => h.elim
  | _ :: _, [], h => h.elim
theorem RowsAt.at {H : Hp} : ∀ {xs : List Addr} {nss : List (List Int)} {i : Nat} {x : Addr}, RowsAt K H xs nss → xs[i]? = some x → ∃ ns, nss[i]? = some ns ∧ Sq K H x (ns.map V.int)
  | [], [], _, _, _, h => nomatch h
  | _ :: _, ns :: _, 0, _, h, e => ⟨ns, rfl, by
      have : _ = _ := Option.some.inj e
      exact this ▸ h.1⟩
  | _ :: _, _ :: _, i + 1, _, h, e => h.2.at (i := i) e
  | [], _ :: _, _, _, h, _ => h.elim
  | _ :: _, [], _, _, h, _ => h.elim
theorem RowsAt.snoc {H : Hp} {x : Addr} {ns : List Int} (hx : Sq K H x (ns.map V.int)) : ∀ {xs : List Addr} {nss : List (List Int)}, RowsAt K H xs nss → RowsAt K H (xs ++ [x]) (nss ++ [ns])
  | [], [], _ => ⟨hx, True.intro⟩
  | _ :: _, _ :: _, h => ⟨h.1, h.2.snoc hx⟩
  | [], _ :: _, h => h.elim
  | _ :: _, [], h => h.elim
/-- rows of cells of a size -/
def OkRows (nss : List (List Int)) : Prop := ∀ ns ∈ nss, ns.Nodup ∧ ∀ k ∈ ns, 0 ≤ k ∧ k < ((nss.length : Nat) : Int)
def spRows (K : PySem.W.Frag) : Sp := fun vs H Q _ => ∃ (a : Addr) (xs : List Addr) (nss : List (List Int)), vs = [.ref a] ∧ Sq K H a (xs.map V.ref) ∧ RowsAt K H xs nss ∧ 1 ≤ nss.length ∧ nss.length ≤ 40 ∧ OkRows nss ∧ ∀ H', Same H H' → Q (.bl true) H'
abbrev nRows : List Str := ["things", "thing"]
theorem scRows : FnScope nRows ["things"] (defScope sRows) := ⟨rfl, rfl, rfl, by decide +kernel, rfl, by decide +kernel, by decide +kernel⟩
theorem ok_rows {f : Addr} {fd : FuncData} (F : Fun K "are_rows" "are_rows" sRows f fd) (B : Bl mg) (hM : ∃ t, mg "MOST_CELLS" = some (.int 40 t)) (D : Has P w K mg base "are_cells" 4 ["things", "size"] (spAre K)) : FnOk P w K mg base CX0 5 f fd ["things"] (spRows K) := by
  obtain ⟨fD, fdD, GD, mD, kD, bD⟩ := D
  obtain ⟨tM, hM⟩ := hM
  refine F.ok scRows (fun vs H Q E h => ?_) (fun cdv A outer s H vs Q E hr h => ?_)
  · obtain ⟨a, xs, nss, rfl, _⟩ := h
    rfl
  · obtain ⟨a, xs, nss, rfl, hq | hq, hl, l1, l40, ok, out⟩ := h
    · refine ⟨_, pss_cons (ps_if (PW.pt (pw_or (pt_not (pt_val (pe_callB call_isiT (by rfl) B.isinstance (by decide +kernel) (pa_cons (pv 0) (pa_cons (pe_tup (pa_cons (pe_bltn (v := .ty "list") (by rfl) B.list (by decide +kernel) rfl) (pa_cons (pe_bltn (v := .ty "tuple") (by rfl) B.tuple (by decide +kernel) rfl) pa_nil))) pa_nil))))) (pw_or1 (pt_not (pt_chain op_le op_le pe_int (pe_callB call_len_seq (by rfl) B.len PySem.boot_len (pa_cons (pv 0) pa_nil)) (pe_glob (v := .int 40) (by rfl) hM ⟨_, rfl⟩)))))) (pss_one (ps_ret pe_bl)) pss_nil)
        (pss_one (ps_ret (pe_callB (cr_all rfl) (by rfl) B.all (by decide +kernel) (pa_cons (pe_lc (own := [("thing", 1)]) (g := gName 1) (te := tCall (spAre K) [] E0 (tCons (tVar 1) (tCons (tCB (rLenQ K) (tCons (tVar 0) tNil)) tNil))) rfl scRows.nd (pi_list (pv 0)) (blkOk_by (own := [("thing", 1)]) (N := nRows) (sc := defScope sRows) (by decide +kernel))
          (fun _ _ _ _ _ => pg_name (i := 1) scRows.nd rfl (Or.inl rfl)) (fun _ _ _ _ _ => pts_nil) (fun _ _ _ _ _ => by exact pe_call GD hr (by rfl) mD kD bD .nil pass0 (pa_cons (pv 1) (pa_cons (pe_callB call_len_seq (by rfl) B.len PySem.boot_len (pa_cons (pv 0) pa_nil)) pa_nil)))) pa_nil)))), ?_⟩
      refine ⟨_, rfl, by decide, fun p hp => ?_⟩
      have s1 : Same H (upd H p (.tup [.ty "list", .ty "tuple"])) := same_new hp
      refine ⟨_, p, _, _, _, true, rfl, upd_same, .cons (.ty _) (.cons (.ty _) .nil), sq_ty (same_sq s1 hq), kit_seq (by simp), _, rfl, iteF ?_⟩
      refine ⟨_, rfl, a, _, rfl, .inl (same_sq s1 hq), 1, _, rfl, rfl, _, rfl, ?_⟩
      rw [List.length_map, hl.len]
      rw [show decide ((1 : Int) ≤ ((nss.length : Nat) : Int)) = true from decide_eq_true (by omega)]
      refine iteT ⟨_, 40, rfl, rfl, _, rfl, ?_⟩
      rw [show decide (((nss.length : Nat) : Int) ≤ 40) = true from decide_eq_true (by omega)]
      refine iteF ⟨_, rfl, a, rfl, ⟨_, same_sq s1 hq⟩, fun D hD => ?_⟩
      have hDH : H D = none := s1.free hD
      refine lc_list (K := K) (a := a) (xs := xs.map V.ref) (fun i H' => Same H H' ∧ H' D = some (.lst (List.replicate i (.bl true)))) ⟨s1.trans (same_new hD), upd_same⟩ (fun i H' _ h => same_sq h.1 hq) ?_ ?_
      · rintro i x H2 hx ⟨s2, hD2⟩
        rw [List.getElem?_map] at hx
        obtain ⟨r, hr', rfl⟩ : ∃ r, xs[i]? = some r ∧ x = V.ref r := by
          cases e : xs[i]? with
          | none => rw [e] at hx; cases hx
          | some r => rw [e] at hx; exact ⟨r, rfl, (Option.some.inj hx).symm⟩
        have hi : i < xs.length := (List.getElem?_eq_some_iff.mp hr').1
        obtain ⟨ns, en, hs⟩ := hl.at hr'
        obtain ⟨nd, inn⟩ := ok ns (List.mem_of_getElem? en)
        have few : ns.length ≤ 40 := cells_few nd fun k hk => by
          have := inn k hk
          exact ⟨by omega, by omega⟩
        refine ⟨rfl, yesT ?_⟩
        refine ⟨_, rfl, _, rfl, a, _, rfl, .inl (same_sq s2 hq), ?_⟩
        rw [List.length_map, hl.len]
        refine ⟨r, ((nss.length : Nat) : Int), ns, rfl, hs.same s2, by omega, inn, nd, fun H3 s3 => ⟨_, s3 _ _ hD2, ?_, ?_, ?_⟩⟩
        · rw [List.length_replicate]
          have := hl.len
          exact small1000 (by omega)
        · intro z o e
          rw [upd_ne (ne_of_none e hDH)]
          exact s3 _ _ (s2 z o e)
        · rw [upd_same, List.replicate_succ']
      · rintro H2 ⟨s2, hD2⟩
        refine ⟨D, List.replicate xs.length true, rfl, SqL.of (by rw [hD2, List.length_map, List.map_replicate]), ?_⟩
        rw [List.all_replicate]
        have e : (if xs.length = 0 then true else id true) = true := by split <;> rfl
        first
          | (rw [e]; exact out _ s2)
          | (simp only [id]; simpa using out _ s2)
    · refine ⟨_, pss_cons (ps_if (PW.pt (pw_or (pt_not (pt_val (pe_callB call_isiT (by rfl) B.isinstance (by decide +kernel) (pa_cons (pv 0) (pa_cons (pe_tup (pa_cons (pe_bltn (v := .ty "list") (by rfl) B.list (by decide +kernel) rfl) (pa_cons (pe_bltn (v := .ty "tuple") (by rfl) B.tuple (by decide +kernel) rfl) pa_nil))) pa_nil))))) (pw_or1 (pt_not (pt_chain op_le op_le pe_int (pe_callB call_len_seq (by rfl) B.len PySem.boot_len (pa_cons (pv 0) pa_nil)) (pe_glob (v := .int 40) (by rfl) hM ⟨_, rfl⟩)))))) (pss_one (ps_ret pe_bl)) pss_nil)
        (pss_one (ps_ret (pe_callB (cr_all rfl) (by rfl) B.all (by decide +kernel) (pa_cons (pe_lc (own := [("thing", 1)]) (g := gName 1) (te := tCall (spAre K) [] E0 (tCons (tVar 1) (tCons (tCB (rLenQ K) (tCons (tVar 0) tNil)) tNil))) rfl scRows.nd (pi_tup (pv 0)) (blkOk_by (own := [("thing", 1)]) (N := nRows) (sc := defScope sRows) (by decide +kernel))
          (fun _ _ _ _ _ => pg_name (i := 1) scRows.nd rfl (Or.inl rfl)) (fun _ _ _ _ _ => pts_nil) (fun _ _ _ _ _ => by exact pe_call GD hr (by rfl) mD kD bD .nil pass0 (pa_cons (pv 1) (pa_cons (pe_callB call_len_seq (by rfl) B.len PySem.boot_len (pa_cons (pv 0) pa_nil)) pa_nil)))) pa_nil)))), ?_⟩
      refine ⟨_, rfl, by decide, fun p hp => ?_⟩
      have s1 : Same H (upd H p (.tup [.ty "list", .ty "tuple"])) := same_new hp
      refine ⟨_, p, _, _, _, true, rfl, upd_same, .cons (.ty _) (.cons (.ty _) .nil), sqt_ty (same_sqt s1 hq), kit_seq (by simp), _, rfl, iteF ?_⟩
      refine ⟨_, rfl, a, _, rfl, .inr (same_sqt s1 hq), 1, _, rfl, rfl, _, rfl, ?_⟩
      rw [List.length_map, hl.len]
      rw [show decide ((1 : Int) ≤ ((nss.length : Nat) : Int)) = true from decide_eq_true (by omega)]
      refine iteT ⟨_, 40, rfl, rfl, _, rfl, ?_⟩
      rw [show decide (((nss.length : Nat) : Int) ≤ 40) = true from decide_eq_true (by omega)]
      refine iteF ⟨_, rfl, a, rfl, ⟨_, same_sqt s1 hq⟩, fun D hD => ?_⟩
      have hDH : H D = none := s1.free hD
      refine lc_tup (K := K) (a := a) (xs := xs.map V.ref) (fun i H' => Same H H' ∧ H' D = some (.lst (List.replicate i (.bl true)))) ⟨s1.trans (same_new hD), upd_same⟩ (fun i H' _ h => same_sqt h.1 hq) ?_ ?_
      · rintro i x H2 hx ⟨s2, hD2⟩
        rw [List.getElem?_map] at hx
        obtain ⟨r, hr', rfl⟩ : ∃ r, xs[i]? = some r ∧ x = V.ref r := by
          cases e : xs[i]? with
          | none => rw [e] at hx; cases hx
          | some r => rw [e] at hx; exact ⟨r, rfl, (Option.some.inj hx).symm⟩
        have hi : i < xs.length := (List.getElem?_eq_some_iff.mp hr').1
        obtain ⟨ns, en, hs⟩ := hl.at hr'
        obtain ⟨nd, inn⟩ := ok ns (List.mem_of_getElem? en)
        have few : ns.length ≤ 40 := cells_few nd fun k hk => by
          have := inn k hk
          exact ⟨by omega, by omega⟩
        refine ⟨rfl, yesT ?_⟩
        refine ⟨_, rfl, _, rfl, a, _, rfl, .inr (same_sqt s2 hq), ?_⟩
        rw [List.length_map, hl.len]
        refine ⟨r, ((nss.length : Nat) : Int), ns, rfl, hs.same s2, by omega, inn, nd, fun H3 s3 => ⟨_, s3 _ _ hD2, ?_, ?_, ?_⟩⟩
        · rw [List.length_replicate]
          have := hl.len
          exact small1000 (by omega)
        · intro z o e
          rw [upd_ne (ne_of_none e hDH)]
          exact s3 _ _ (s2 z o e)
        · rw [upd_same, List.replicate_succ']
      · rintro H2 ⟨s2, hD2⟩
        refine ⟨D, List.replicate xs.length true, rfl, SqL.of (by rw [hD2, List.length_map, List.map_replicate]), ?_⟩
        rw [List.all_replicate]
        have e : (if xs.length = 0 then true else id true) = true := by split <;> rfl
        first
          | (rw [e]; exact out _ s2)
          | (simp only [id]; simpa using out _ s2)
/-- added_masks -/
def spAddedM (K : PySem.W.Frag) : Sp := fun vs H Q _ => ∃ (t c : Addr) (ms : List Nat) (ns : List Int), vs = [.ref t, .ref c] ∧ SqT K H t (mV ms) ∧ SqT K H c (ns.map V.int) ∧ (∀ k ∈ ns, 0 ≤ k ∧ k < ((ms.length : Nat) : Int)) ∧ Q (.int ((addM ms ns : Nat) : Int)) H
abbrev nAddedM : List Str := ["masks", "cells", "total", "cell"]
theorem scAddedM : FnScope nAddedM ["masks", "cells"] (defScope sAddedM) := ⟨rfl, rfl, rfl, by decide +kernel, rfl, by decide +kernel, by decide +kernel⟩
theorem mV_atI {ms : List Nat} {k : Int} (h0 : 0 ≤ k) (h1 : k < ((ms.length : Nat) : Int)) : atI (mV ms) k = some (.int ((ms.getD k.toNat 0 : Nat) : Int)) := by
  have z : atI (mV ms) ((k.toNat : Nat) : Int) = some (.int ((ms.getD k.toNat 0 : Nat) : Int)) := atI_nat (mV_at (by omega))
  rwa [Int.toNat_of_nonneg h0] at z
theorem ok_addedM {f : Addr} {fd : FuncData} (F : Fun K "added_masks" "added_masks" sAddedM f fd) : FnOk P w K mg base CX0 2 f fd ["masks", "cells"] (spAddedM K) := by
  refine F.ok scAddedM (fun vs H Q E h => ?_) (fun cdv A outer s H vs Q E hr h => ?_)
  · obtain ⟨t, c, ms, ns, rfl, _⟩ := h
    rfl
  · obtain ⟨t, c, ms, ns, rfl, ht, hc, hin, out⟩ := h
    refine ⟨_, pss_cons (ps_set (i := 2) scAddedM.nd rfl (Or.inl rfl) pe_int)
      (pss_cons (ps_for PassesOwn.never rfl (pi_tup (pv 1)) (pg_name (i := 3) scAddedM.nd rfl (Or.inl rfl)) (pss_one (ps_set (i := 2) scAddedM.nd rfl (Or.inl rfl) (pe_op op_xor (pv 2) (pe_ix ix_tup (pv 0) (pv 3) (fun _ _ => rfl))))))
      (pss_one (ps_ret (pv 2)))), ?_⟩
    refine ⟨_, rfl, c, rfl, ⟨_, hc⟩, ?_⟩
    refine for_tup (K := K) (a := c) (xs := ns.map V.int) (fun i σ H' => H' = H ∧ ∃ v3 : Option V, σ = [some (.ref t), some (.ref c), some (.int ((addM ms (ns.take i) : Nat) : Int)), v3]) ⟨rfl, none, rfl⟩ (fun i σ H' _ h => by rw [h.1]; exact hc) ?_ ?_
    · rintro i x σ H' hx ⟨rfl, v3, rfl⟩
      rw [List.getElem?_map] at hx
      obtain ⟨k, hk, rfl⟩ : ∃ k, ns[i]? = some k ∧ x = V.int k := by
        cases e : ns[i]? with
        | none => rw [e] at hx; cases hx
        | some k => rw [e] at hx; exact ⟨k, rfl, (Option.some.inj hx).symm⟩
      obtain ⟨k0, k1⟩ := hin k (List.mem_of_getElem? hk)
      refine ⟨_, rfl, _, rfl, _, rfl, t, _, k, _, rfl, rfl, ht, mV_atI k0 k1, _, _, rfl, rfl, ?_⟩
      dsimp only []
      rw [bitX]
      refine ⟨rfl, some (.int k), ?_⟩
      rw [List.take_succ, hk]
      show _ = [some (V.ref t), some (V.ref c), some (V.int ((addM ms (ns.take i ++ [k]) : Nat) : Int)), _]
      rw [addM_snoc]
      rfl
    · rintro σ H' ⟨rfl, v3, rfl⟩
      rw [List.length_map, List.take_length]
      exact ⟨_, rfl, out⟩
/-- single_masks -/
def spSingle : Sp := fun vs H Q _ => ∃ n : Nat, vs = [.int (n : Int)] ∧ n ≤ 40 ∧ ∀ p H', H p = none → Same H H' → H' p = some (.tup (mV (oneM n))) → Q (.ref p) H'
abbrev nSingle : List Str := ["size", "cell"]
theorem scSingle : FnScope nSingle ["size"] (defScope sSingle) := ⟨rfl, rfl, rfl, by decide +kernel, rfl, by decide +kernel, by decide +kernel⟩
theorem oneM_step (i : Nat) : mV (oneM (i + 1)) = mV (oneM i) ++ [.int (2 ^ i)] := by
  unfold mV oneM
  rw [List.range_succ, List.map_append, List.map_append]
  show _ ++ [V.int ((2 ^ i : Nat) : Int)] = _
  rw [Int.natCast_pow]
  rfl
theorem ok_single {f : Addr} {fd : FuncData} (F : Fun K "single_masks" "single_masks" sSingle f fd) (B : Bl mg) : FnOk P w K mg base CX0 2 f fd ["size"] spSingle := by
  refine F.ok scSingle (fun vs H Q E h => ?_) (fun cdv A outer s H vs Q E hr h => ?_)
  · obtain ⟨n, rfl, _⟩ := h
    rfl
  · obtain ⟨n, rfl, hn, out⟩ := h
    refine ⟨_, pss_one (ps_ret (pe_callTy call_tuple_of (by rfl) B.tuple (by decide +kernel) (pa_cons (pe_lc (own := [("cell", 1)]) (g := gName 1) rfl scSingle.nd (pi_range1 (by rfl) B.range (pa_cons (pv 0) pa_nil)) (blkOk_by (own := [("cell", 1)]) (N := nSingle) (sc := defScope sSingle) (by decide +kernel))
        (fun _ _ _ _ _ => pg_name (i := 1) scSingle.nd rfl (Or.inl rfl)) (fun _ _ _ _ _ => pts_nil) (fun _ _ _ _ _ => pe_op op_oneShl pe_int (pv 1))) pa_nil))), ?_⟩
    refine ⟨_, rfl, _, rfl, by omega, by omega, fun D hD => ?_⟩
    rw [Int.toNat_natCast]
    refine lc_range (lo := 0) (n := n) (fun i H' => Same H H' ∧ H' D = some (.lst (mV (oneM i)))) ⟨same_new hD, upd_same⟩ ?_ ?_
    · rintro i H2 hi ⟨s2, hD2⟩
      rw [Int.zero_add]
      refine ⟨rfl, yesT ⟨_, rfl, i, rfl, rfl, by omega, _, hD2, ?_, ?_, ?_⟩⟩
      · rw [mV_len, oneM_len]
        exact small1000 (by omega)
      · intro z o e
        rw [upd_ne (ne_of_none e hD)]
        exact s2 z o e
      · rw [upd_same, oneM_step]
    · rintro H2 ⟨s2, hD2⟩
      refine ⟨D, _, rfl, .inl ⟨SqL.of hD2, fun l hl2 => ?_⟩⟩
      exact out l _ (s2.free hl2) (s2.trans (same_new hl2)) upd_same
/-- masks_after -/
def spAfterM (K : PySem.W.Frag) (CF : Addr) : Sp := fun vs H Q _ => ∃ (t f : Addr) (ms : List Nat) (ts hs : List Int), vs = [.ref t, .ref f] ∧ SqT K H t (mV ms) ∧ ms.length ≤ 40 ∧ Fp CF H f ts hs ∧ (∀ k ∈ ts, 0 ≤ k ∧ k < ((ms.length : Nat) : Int)) ∧
  ∀ p H', H p = none → Same H H' → H' p = some (.tup (mV (aftM ms ts hs))) → Q (.ref p) H'
abbrev nAfterM : List Str := ["masks", "flip", "parity", "toggled", "cell", "mask"]
theorem scAfterM : FnScope nAfterM ["masks", "flip"] (defScope sAfterM) := ⟨rfl, rfl, rfl, by decide +kernel, rfl, by decide +kernel, by decide +kernel⟩
/-- the first i rows behind the flip -/
def aftT (ms : List Nat) (ts hs : List Int) (i : Nat) : List Nat := (List.range i).map fun (i : Nat) => if decide ((i : Int) ∈ hs) = true then ms.getD i 0 ^^^ addM ms ts else ms.getD i 0
theorem aftT_step (ms : List Nat) (ts hs : List Int) (i : Nat) : mV (aftT ms ts hs (i + 1)) = mV (aftT ms ts hs i) ++ [.int (((if decide ((i : Int) ∈ hs) = true then ms.getD i 0 ^^^ addM ms ts else ms.getD i 0) : Nat) : Int)] := by
  unfold mV aftT
  rw [List.range_succ, List.map_append, List.map_append]
  rfl
theorem aftT_len (ms : List Nat) (ts hs : List Int) (i : Nat) : (aftT ms ts hs i).length = i := by simp [aftT]
theorem ok_afterM {f CF : Addr} {fd : FuncData} (F : Fun K "masks_after" "masks_after" sAfterM f fd) (B : Bl mg) (TF : FC K mg CF) (DA : HasM P w K mg base CF "tested" 2 ["self"] (spTested CF)) (DB : HasM P w K mg base CF "toggled" 2 ["self"] (spToggled CF))
    (DM : Has P w K mg base "added_masks" 2 ["masks", "cells"] (spAddedM K)) : FnOk P w K mg base CX0 3 f fd ["masks", "flip"] (spAfterM K CF) := by
  obtain ⟨fA, fdA, GA, mA, bA⟩ := DA
  obtain ⟨fB, fdB, GB, mB, bB⟩ := DB
  obtain ⟨fM, fdM, GM, mM, kM, bM⟩ := DM
  refine F.ok scAfterM (fun vs H Q E h => ?_) (fun cdv A outer s H vs Q E hr h => ?_)
  · obtain ⟨t, f, ms, ts, hs, rfl, _⟩ := h
    rfl
  · obtain ⟨t, g, ms, ts, hs, rfl, ht, l40, fp, hin, out⟩ := h
    obtain ⟨dg, t1, t2, f1, f2, f3⟩ := id fp
    refine ⟨_, pss_cons (ps_set (i := 2) scAfterM.nd rfl (Or.inr rfl) (pe_call GM hr (by rfl) mM kM bM .nil pass0 (pa_cons (pv 0) (pa_cons (pe_meth0 (pv 1) TF.cl mA GA hr bA .nil pass0) pa_nil))))
      (pss_cons (ps_set (i := 3) scAfterM.nd rfl (Or.inr rfl) (pe_meth0 (pv 1) TF.cl mB GB hr bB .nil pass0))
      (pss_one (ps_ret (pe_callTy call_tuple_of (by rfl) B.tuple (by decide +kernel) (pa_cons (pe_lc (own := [("cell", 4), ("mask", 5)]) (g := gTup K 2 (gCons (gName 4) (gCons (gName 5) gNil))) (te := tIf (tTest (tOp (rIn K false) (tVar 4) (tVar 3))) (tOp (rI0 fun i j => .int (Builtin.bitXor i j)) (tVar 5) (tVar 2)) (tVar 5)) rfl scAfterM.nd (pi_enumT (by rfl) B.enumerate (pa_cons (pv 0) pa_nil)) (blkOk_by (own := [("cell", 4), ("mask", 5)]) (N := nAfterM) (sc := defScope sAfterM) (by decide +kernel))
        (fun _ _ _ _ _ => by exact pg_tup rfl (pgs_cons (pg_name (i := 4) scAfterM.nd rfl (Or.inl rfl)) (pgs_cons (pg_name (i := 5) scAfterM.nd rfl (Or.inl rfl)) pgs_nil)))
        (fun _ _ _ _ _ => pts_nil) (fun _ _ _ _ _ => by exact pe_ifExp (pt_cmpR op_in_seq (pv 4) (pv 3) (by rfl)) (pe_op op_xor (pv 5) (pv 2)) (pv 5))) pa_nil))))), ?_⟩
    refine ⟨_, rfl, _, rfl, g, dg, _, rfl, f1, no2 (by decide +kernel) (by decide +kernel), g, ts, hs, rfl, fp, fun u hu => ?_⟩
    refine ⟨t, u, ms, ts, rfl, ht, SqT.of hu, hin, ?_⟩
    refine ⟨_, rfl, g, dg, _, rfl, f1, no2 (by decide +kernel) (by decide +kernel), g, ts, hs, rfl, fp, fun v hv => ?_⟩
    refine ⟨_, rfl, t, _, rfl, ht, fun D hD => ?_⟩
    refine lc_it walk_enumT (fun i H' => Same H H' ∧ H' D = some (.lst (mV (aftT ms ts hs i)))) ⟨same_new hD, upd_same⟩ (fun i H' _ h => same_sqt h.1 ht) ?_ ?_
    · rintro i x H3 H4 hi ⟨s3, hD3⟩ ⟨T1, x1, y1, rfl, hT, rfl, ex, ey⟩
      have hi2 : i < ms.length := by rw [mV_len] at hi; exact hi
      have ey2 : y1 = .int ((ms.getD i 0 : Nat) : Int) := (Option.some.inj ((mV_at hi2).symm.trans ey)).symm
      have ex2 : x1 = .int (i : Nat) := (Option.some.inj ex).symm
      subst ey2 ex2
      have s4 : Same H (upd H3 T1 (.tup [.int (i : Nat), .int ((ms.getD i 0 : Nat) : Int)])) := s3.trans (same_new hT)
      have hD4 := (same_new (o := .tup [.int (i : Nat), .int ((ms.getD i 0 : Nat) : Int)]) hT) _ _ hD3
      refine ⟨T1, _, rfl, SqT.of upd_same, rfl, _, _, rfl, _, _, rfl, rfl, rfl, yesT ?_⟩
      refine ⟨_, rfl, _, rfl, v, _, rfl, .inr (SqT.of (s4 _ _ hv)), rfl, flat_ints _, _, rfl, ?_⟩
      show if inV (V.int ((i : Nat) : Int)) (hs.map V.int) = true then _ else _
      rw [in_ints]
      have fin : ∀ x : Nat, (if decide ((i : Int) ∈ hs) = true then ms.getD i 0 ^^^ addM ms ts else ms.getD i 0) = x → ∃ acc, (upd H3 T1 (.tup [.int (i : Nat), .int ((ms.getD i 0 : Nat) : Int)])) D = some (.lst acc) ∧ acc.length < sizeLine ∧
          Same H (upd (upd H3 T1 (.tup [.int (i : Nat), .int ((ms.getD i 0 : Nat) : Int)])) D (.lst (acc ++ [.int (x : Int)]))) ∧ (upd (upd H3 T1 (.tup [.int (i : Nat), .int ((ms.getD i 0 : Nat) : Int)])) D (.lst (acc ++ [.int (x : Int)]))) D = some (.lst (mV (aftT ms ts hs (i + 1)))) := by
        rintro x rfl
        refine ⟨_, hD4, ?_, ?_, ?_⟩
        · rw [mV_len, aftT_len]
          exact small1000 (by omega)
        · intro z o e
          rw [upd_ne (ne_of_none e hD)]
          exact s4 z o e
        · rw [upd_same, aftT_step]
      by_cases hm : (i : Int) ∈ hs
      · rw [decide_eq_true hm] at fin ⊢
        refine iteT ⟨_, rfl, _, rfl, _, _, rfl, rfl, ?_⟩
        dsimp only []
        rw [bitX]
        exact fin _ (if_pos rfl)
      · rw [decide_eq_false hm] at fin ⊢
        exact iteF ⟨_, rfl, fin _ (if_neg Bool.false_ne_true)⟩
    · rintro H3 ⟨s3, hD3⟩
      rw [mV_len] at hD3
      refine ⟨D, _, rfl, .inl ⟨SqL.of hD3, fun l hl2 => ?_⟩⟩
      exact out l _ (s3.free hl2) (s3.trans (same_new hl2)) upd_same
end
end K49
namespace K49
open PySem PySem.Spec PyProof.Rows L2 Par Msk
theorem fldM {v : V} : ([("masks", v)] : List (Str × V)).lookup ("masks" : Str) = some v := by
  simp [List.lookup]
theorem no_fldM {m : Str} {v : V} (h : (m == ("masks" : Str)) = false) : ([("masks", v)] : List (Str × V)).lookup m = none := by
  simp [List.lookup, h]
/-- a table at b, with these rows -/
def Tb (C : Addr) (H : Hp) (b : Addr) (ms : List Nat) : Prop := ∃ dx t, H b = some (.ins C dx [("masks", .ref t)]) ∧ H t = some (.tup (mV ms))
theorem Tb.same {C : Addr} {H H' : Hp} {b : Addr} {ms : List Nat} (s : Same H H') (h : Tb C H b ms) : Tb C H' b ms := by
  obtain ⟨dx, t, h1, h2⟩ := h
  exact ⟨dx, t, s _ _ h1, s _ _ h2⟩
theorem Tb.but {C p : Addr} {H H' : Hp} {b : Addr} {ms : List Nat} (hp : PotAt H p) (s : But p H H') (h : Tb C H b ms) : Tb C H' b ms := by
  obtain ⟨dx, t, h1, h2⟩ := h
  obtain ⟨x, y, e, _⟩ := hp
  have n1 : b ≠ p := fun z => by rw [z, e] at h1; cases h1
  have n2 : t ≠ p := fun z => by rw [z, e] at h2; cases h2
  exact ⟨dx, t, s _ _ n1 h1, s _ _ n2 h2⟩
structure TC (K : PySem.W.Frag) (mg : Str → Option Value) (C : Addr) : Prop where
  cl : Cls K C
  nM : NoAttr K C "masks"
  mgC : mg "Table" = some (.ref C)
section
variable {P : Program} {w : World} {K : PySem.W.Frag} {mg : Str → Option Value} {base : Heap}
/-- Table.__init__ of rows that make a table -/
def spTInit (K : PySem.W.Frag) (C : Addr) : Sp := fun vs H Q _ => ∃ (b dx a : Addr) (xs : List Addr) (nss : List (List Int)), vs = [.ref b, .ref a] ∧ H b = some (.ins C dx []) ∧ Sq K H a (xs.map V.ref) ∧ RowsAt K H xs nss ∧ OkRows nss ∧ GoodT (nss.map maskI) ∧
  ∀ H', But b H H' → Tb C H' b (nss.map maskI) → Q .non H'
abbrev nTInit : List Str := ["self", "rows", "row"]
theorem scTInit : FnScope nTInit ["self", "rows"] (defScope hInit) := ⟨rfl, rfl, rfl, by decide +kernel, rfl, by decide +kernel, by decide +kernel⟩
theorem ok_tinit {f C : Addr} {fd : FuncData} (F : Fun K "__init__" "Table.__init__" hInit f fd) (B : Bl mg) (T : TC K mg C) (DR : Has P w K mg base "are_rows" 5 ["things"] (spRows K)) (DM : Has P w K mg base "mask_of" 2 ["cells"] (spMaskOf K)) (DN : Has P w K mg base "rank_of" 4 ["masks"] (spRank K)) :
    FnOk P w K mg base CX0 6 f fd ["self", "rows"] (spTInit K C) := by
  obtain ⟨fR, fdR, GR, mR, kR, bR⟩ := DR
  obtain ⟨fM, fdM, GM, mM, kM, bM⟩ := DM
  obtain ⟨fN, fdN, GN, mN, kN, bN⟩ := DN
  refine F.ok scTInit (fun vs H Q E h => ?_) (fun cdv A outer s H vs Q E hr h => ?_)
  · obtain ⟨b, dx, a, xs, nss, rfl, _⟩ := h
    rfl
  · obtain ⟨b, dx, a, xs, nss, rfl, hb, hq, hl, ok, gt, out⟩ := h
    have r2 : Room 2 (A.deeper (envOfC "Table.__init__" (defScope hInit) s.heap.objs.size f cdv)) := hr.mono (by decide)
    have r4 : Room 4 (A.deeper (envOfC "Table.__init__" (defScope hInit) s.heap.objs.size f cdv)) := hr.mono (by decide)
    have r5 : Room 5 (A.deeper (envOfC "Table.__init__" (defScope hInit) s.heap.objs.size f cdv)) := hr.mono (by decide)
    have l1 : 1 ≤ nss.length := by
      have := gt.l1
      rwa [List.length_map] at this
    have l40 : nss.length ≤ 40 := by
      have := gt.l40
      rwa [List.length_map] at this
    have a0 : atI (mV (nss.map maskI)) 0 = some (.int 1) := by
      have z := mV_atI (ms := nss.map maskI) (k := 0) (by decide) (by rw [List.length_map]; omega)
      have e : (nss.map maskI).getD (0 : Int).toNat 0 = 1 := gt.first
      rw [e] at z
      exact z
    rcases hq with hq | hq
    · refine ⟨_, pss_cons (ps_if (pt_not (pt_val (pe_call GR r5 (by rfl) mR kR bR .nil pass0 (pa_cons (pv 1) pa_nil)))) (pss_one ps_off) pss_nil)
        (pss_cons (ps_fld (pv 0) (pe_callTy call_tuple_of (by rfl) B.tuple (by decide +kernel) (pa_cons (pe_lc (own := [("row", 2)]) (g := gName 2) (te := tCall (spMaskOf K) [] E0 (tCons (tVar 2) tNil)) rfl scTInit.nd (pi_list (pv 1)) (blkOk_by (own := [("row", 2)]) (N := nTInit) (sc := defScope hInit) (by decide +kernel))
          (fun _ _ _ _ _ => pg_name (i := 2) scTInit.nd rfl (Or.inl rfl)) (fun _ _ _ _ _ => pts_nil) (fun _ _ _ _ _ => by exact (pe_call GM r2 (by rfl) mM kM bM .nil pass0 (pa_cons (pv 2) pa_nil)))) pa_nil)) rfl)
        (pss_cons (ps_if (pt_cmpR op_ne (pe_ix ix_tup (pe_fld (pv 0) rfl) pe_int (fun _ _ => rfl)) pe_int (nomark _)) (pss_one ps_off) pss_nil)
        (pss_one (ps_if (pt_cmpR op_ne (pe_call GN r4 (by rfl) mN kN bN .nil pass0 (pa_cons (pe_fld (pv 0) rfl) pa_nil)) (pe_callB call_len_seq (by rfl) B.len PySem.boot_len (pa_cons (pe_fld (pv 0) rfl) pa_nil)) (nomark _)) (pss_one ps_off) pss_nil)))), ?_⟩
      refine ⟨_, rfl, a, xs, nss, rfl, .inl hq, hl, l1, l40, ok, fun H1 s1 => ⟨_, rfl, iteF ?_⟩⟩
      refine ⟨_, rfl, a, rfl, ⟨_, same_sq s1 hq⟩, fun D hD => ?_⟩
      have hDH : H D = none := s1.free hD
      refine lc_list (K := K) (a := a) (xs := xs.map V.ref) (fun i H' => Same H H' ∧ H' D = some (.lst (mV ((nss.take i).map maskI)))) ⟨s1.trans (same_new hD), upd_same⟩ (fun i H' _ h => same_sq h.1 hq) ?_ ?_
      · rintro i x H2 hx ⟨s2, hD2⟩
        rw [List.getElem?_map] at hx
        obtain ⟨r, hr', rfl⟩ : ∃ r, xs[i]? = some r ∧ x = V.ref r := by
          cases e : xs[i]? with
          | none => rw [e] at hx; cases hx
          | some r => rw [e] at hx; exact ⟨r, rfl, (Option.some.inj hx).symm⟩
        obtain ⟨ns, en, hs⟩ := hl.at hr'
        obtain ⟨nd, inn⟩ := ok ns (List.mem_of_getElem? en)
        have inn2 : ∀ k ∈ ns, 0 ≤ k ∧ k < 40 := fun k hk => by
          have := inn k hk
          omega
        have few : ns.length ≤ 40 := cells_few nd fun k hk => ⟨(inn2 k hk).1, by have := (inn2 k hk).2; omega⟩
        refine ⟨rfl, yesT ?_⟩
        refine ⟨_, rfl, r, ns, rfl, hs.same s2, nd, few, inn2, fun H3 s3 => ⟨_, s3 _ _ hD2, ?_, ?_, ?_⟩⟩
        · rw [mV_len, List.length_map, List.length_take]
          exact small1000 (by omega)
        · intro z o e
          rw [upd_ne (ne_of_none e hDH)]
          exact s3 _ _ (s2 z o e)
        · rw [upd_same, List.take_succ, en, List.map_append]
          unfold mV
          rw [List.map_append]
          rfl
      · rintro H2 ⟨s2, hD2⟩
        rw [List.length_map, hl.len, List.take_length] at hD2
        refine ⟨D, _, rfl, .inl ⟨SqL.of hD2, fun t ht => ?_⟩⟩
        have s123 : Same H _ := s2.trans (same_new (o := .tup (mV (nss.map maskI))) ht)
        have nb : t ≠ b := fun z => by
          have := s2 _ _ hb
          rw [← z, ht] at this
          cases this
        refine ⟨_, rfl, b, C, dx, [], rfl, s123 _ _ hb, T.cl, T.nM, (by show 0 < 1000; decide), ?_⟩
        have bt : But b H (upd (upd H2 t (.tup (mV (nss.map maskI)))) b (.ins C dx [("masks", .ref t)])) := fun x o nx e => by
          rw [upd_ne nx]
          exact s123 _ _ e
        have eb : upd (upd H2 t (.tup (mV (nss.map maskI)))) b (.ins C dx [("masks", .ref t)]) b = some (.ins C dx [("masks", .ref t)]) := upd_same
        have et : upd (upd H2 t (.tup (mV (nss.map maskI)))) b (.ins C dx [("masks", .ref t)]) t = some (.tup (mV (nss.map maskI))) := by rw [upd_ne nb, upd_same]
        rw [show putF "masks" (V.ref t) [] = ([("masks", V.ref t)] : List (Str × V)) from rfl]
        generalize upd (upd H2 t (.tup (mV (nss.map maskI)))) b (.ins C dx [("masks", .ref t)]) = G at bt eb et ⊢
        refine ⟨_, rfl, b, C, dx, _, _, rfl, eb, T.cl, T.nM, fldM, t, _, 0, .int 1, rfl, rfl, SqT.of et, a0, rfl, _, rfl, iteNS rfl ?_⟩
        refine ⟨_, rfl, b, C, dx, _, _, rfl, eb, T.cl, T.nM, fldM, t, _, rfl, SqT.of et, by rw [List.length_map]; exact l40, gt.ind, fun H4 s4 => ?_⟩
        refine ⟨_, rfl, b, C, dx, _, _, rfl, s4 _ _ eb, T.cl, T.nM, fldM, t, _, rfl, .inr (SqT.of (s4 _ _ et)), ?_⟩
        rw [mV_len]
        refine ⟨rfl, _, rfl, iteNS rfl ?_⟩
        exact out H4 (bt.trans (But.same s4)) ⟨dx, t, s4 _ _ eb, s4 _ _ et⟩
    · refine ⟨_, pss_cons (ps_if (pt_not (pt_val (pe_call GR r5 (by rfl) mR kR bR .nil pass0 (pa_cons (pv 1) pa_nil)))) (pss_one ps_off) pss_nil)
        (pss_cons (ps_fld (pv 0) (pe_callTy call_tuple_of (by rfl) B.tuple (by decide +kernel) (pa_cons (pe_lc (own := [("row", 2)]) (g := gName 2) (te := tCall (spMaskOf K) [] E0 (tCons (tVar 2) tNil)) rfl scTInit.nd (pi_tup (pv 1)) (blkOk_by (own := [("row", 2)]) (N := nTInit) (sc := defScope hInit) (by decide +kernel))
          (fun _ _ _ _ _ => pg_name (i := 2) scTInit.nd rfl (Or.inl rfl)) (fun _ _ _ _ _ => pts_nil) (fun _ _ _ _ _ => by exact (pe_call GM r2 (by rfl) mM kM bM .nil pass0 (pa_cons (pv 2) pa_nil)))) pa_nil)) rfl)
        (pss_cons (ps_if (pt_cmpR op_ne (pe_ix ix_tup (pe_fld (pv 0) rfl) pe_int (fun _ _ => rfl)) pe_int (nomark _)) (pss_one ps_off) pss_nil)
        (pss_one (ps_if (pt_cmpR op_ne (pe_call GN r4 (by rfl) mN kN bN .nil pass0 (pa_cons (pe_fld (pv 0) rfl) pa_nil)) (pe_callB call_len_seq (by rfl) B.len PySem.boot_len (pa_cons (pe_fld (pv 0) rfl) pa_nil)) (nomark _)) (pss_one ps_off) pss_nil)))), ?_⟩
      refine ⟨_, rfl, a, xs, nss, rfl, .inr hq, hl, l1, l40, ok, fun H1 s1 => ⟨_, rfl, iteF ?_⟩⟩
      refine ⟨_, rfl, a, rfl, ⟨_, same_sqt s1 hq⟩, fun D hD => ?_⟩
      have hDH : H D = none := s1.free hD
      refine lc_tup (K := K) (a := a) (xs := xs.map V.ref) (fun i H' => Same H H' ∧ H' D = some (.lst (mV ((nss.take i).map maskI)))) ⟨s1.trans (same_new hD), upd_same⟩ (fun i H' _ h => same_sqt h.1 hq) ?_ ?_
      · rintro i x H2 hx ⟨s2, hD2⟩
        rw [List.getElem?_map] at hx
        obtain ⟨r, hr', rfl⟩ : ∃ r, xs[i]? = some r ∧ x = V.ref r := by
          cases e : xs[i]? with
          | none => rw [e] at hx; cases hx
          | some r => rw [e] at hx; exact ⟨r, rfl, (Option.some.inj hx).symm⟩
        obtain ⟨ns, en, hs⟩ := hl.at hr'
        obtain ⟨nd, inn⟩ := ok ns (List.mem_of_getElem? en)
        have inn2 : ∀ k ∈ ns, 0 ≤ k ∧ k < 40 := fun k hk => by
          have := inn k hk
          omega
        have few : ns.length ≤ 40 := cells_few nd fun k hk => ⟨(inn2 k hk).1, by have := (inn2 k hk).2; omega⟩
        refine ⟨rfl, yesT ?_⟩
        refine ⟨_, rfl, r, ns, rfl, hs.same s2, nd, few, inn2, fun H3 s3 => ⟨_, s3 _ _ hD2, ?_, ?_, ?_⟩⟩
        · rw [mV_len, List.length_map, List.length_take]
          exact small1000 (by omega)
        · intro z o e
          rw [upd_ne (ne_of_none e hDH)]
          exact s3 _ _ (s2 z o e)
        · rw [upd_same, List.take_succ, en, List.map_append]
          unfold mV
          rw [List.map_append]
          rfl
      · rintro H2 ⟨s2, hD2⟩
        rw [List.length_map, hl.len, List.take_length] at hD2
        refine ⟨D, _, rfl, .inl ⟨SqL.of hD2, fun t ht => ?_⟩⟩
        have s123 : Same H _ := s2.trans (same_new (o := .tup (mV (nss.map maskI))) ht)
        have nb : t ≠ b := fun z => by
          have := s2 _ _ hb
          rw [← z, ht] at this
          cases this
        refine ⟨_, rfl, b, C, dx, [], rfl, s123 _ _ hb, T.cl, T.nM, (by show 0 < 1000; decide), ?_⟩
        have bt : But b H (upd (upd H2 t (.tup (mV (nss.map maskI)))) b (.ins C dx [("masks", .ref t)])) := fun x o nx e => by
          rw [upd_ne nx]
          exact s123 _ _ e
        have eb : upd (upd H2 t (.tup (mV (nss.map maskI)))) b (.ins C dx [("masks", .ref t)]) b = some (.ins C dx [("masks", .ref t)]) := upd_same
        have et : upd (upd H2 t (.tup (mV (nss.map maskI)))) b (.ins C dx [("masks", .ref t)]) t = some (.tup (mV (nss.map maskI))) := by rw [upd_ne nb, upd_same]
        rw [show putF "masks" (V.ref t) [] = ([("masks", V.ref t)] : List (Str × V)) from rfl]
        generalize upd (upd H2 t (.tup (mV (nss.map maskI)))) b (.ins C dx [("masks", .ref t)]) = G at bt eb et ⊢
        refine ⟨_, rfl, b, C, dx, _, _, rfl, eb, T.cl, T.nM, fldM, t, _, 0, .int 1, rfl, rfl, SqT.of et, a0, rfl, _, rfl, iteNS rfl ?_⟩
        refine ⟨_, rfl, b, C, dx, _, _, rfl, eb, T.cl, T.nM, fldM, t, _, rfl, SqT.of et, by rw [List.length_map]; exact l40, gt.ind, fun H4 s4 => ?_⟩
        refine ⟨_, rfl, b, C, dx, _, _, rfl, s4 _ _ eb, T.cl, T.nM, fldM, t, _, rfl, .inr (SqT.of (s4 _ _ et)), ?_⟩
        rw [mV_len]
        refine ⟨rfl, _, rfl, iteNS rfl ?_⟩
        exact out H4 (bt.trans (But.same s4)) ⟨dx, t, s4 _ _ eb, s4 _ _ et⟩
/-- Table as a class whose __init__ keeps its promise -/
def HasTI (P : Program) (w : World) (K : PySem.W.Frag) (mg : Str → Option Value) (base : Heap) (C : Addr) : Prop :=
  ∃ f fd, FnOk P w K mg base CX0 6 f fd ["self", "rows"] (spTInit K C) ∧ Mk K C f ∧ Binds K fd ["self", "rows"] []
/-- what Table(..) leads to -/
theorem made_table {C : Addr} {H : Hp} {a : Addr} {xs : List Addr} {nss : List (List Int)} {W : Addr → Hp → Prop} (hq : Sq K H a (xs.map V.ref)) (hl : RowsAt K H xs nss) (ok : OkRows nss) (gt : GoodT (nss.map maskI))
    (out : ∀ x H', H x = none → Same H H' → Tb C H' x (nss.map maskI) → W x H') :
    ∀ x dx, H x = none → H dx = none → dx ≠ x → spTInit K C [.ref x, .ref a] (upd (upd H dx (.own x)) x (.ins C dx [])) (fun v H3 => v = .non ∧ W x H3) (fun _ _ _ => False) := by
  intro x dx hx hdx ne
  have s1 : Same H (upd (upd H dx (.own x)) x (.ins C dx [])) := fun z o e => by
    rw [upd_ne (ne_of_none e hx), upd_ne (ne_of_none e hdx)]
    exact e
  refine ⟨x, dx, a, xs, nss, rfl, upd_same, hq.same s1, hl.same s1, ok, gt, fun H' bt h1 => ⟨rfl, ?_⟩⟩
  exact out x H' hx (fun z o e => bt z o (ne_of_none e hx) (s1 z o e)) h1
/-- new tuples of cells -/
def TupsAt (H : Hp) : List Addr → List (List Int) → Prop
  | [], [] => True
  | x :: xs, ns :: nss => H x = some (.tup (ns.map V.int)) ∧ TupsAt H xs nss
  | _, _ => False
theorem TupsAt.mono {H H' : Hp} (s : ∀ x us, H x = some (.tup us) → H' x = some (.tup us)) : ∀ {xs : List Addr} {nss : List (List Int)}, TupsAt H xs nss → TupsAt H' xs nss
  | [], [], _ => True.intro
  | _ :: _, _ :: _, h => ⟨s _ _ h.1, h.2.mono s⟩
  | [], _ :: _, h => h.elim
  | _ :: _, [], h => h.elim
theorem TupsAt.rows {H : Hp} : ∀ {xs : List Addr} {nss : List (List Int)}, TupsAt H xs nss → RowsAt K H xs nss
  | [], [], _ => True.intro
  | _ :: _, _ :: _, h => ⟨.inr (SqT.of h.1), h.2.rows⟩
  | [], _ :: _, h => h.elim
  | _ :: _, [], h => h.elim
theorem TupsAt.snoc {H : Hp} {x : Addr} {ns : List Int} (hx : H x = some (.tup (ns.map V.int))) : ∀ {xs : List Addr} {nss : List (List Int)}, TupsAt H xs nss → TupsAt H (xs ++ [x]) (nss ++ [ns])
  | [], [], _ => ⟨hx, True.intro⟩
  | _ :: _, _ :: _, h => ⟨h.1, h.2.snoc hx⟩
  | [], _ :: _, h => h.elim
  | _ :: _, [], h => h.elim
theorem TupsAt.len {H : Hp} : ∀ {xs : List Addr} {nss : List (List Int)}, TupsAt H xs nss → xs.length = nss.length
  | [], [], _ => rfl
  | _ :: _, _ :: _, h => by rw [List.length_cons, List.length_cons, h.2.len]
  | [], _ :: _, h => h.elim
  | _ :: _, [], h => h.elim
theorem rows_back (ms : List Nat) : (ms.map cellsI).map maskI = ms := by
  rw [List.map_map]
  have : ∀ m ∈ ms, (maskI ∘ cellsI) m = m := fun m _ => mask_cells (cellsI_nodup m) fun k => Iff.rfl
  rw [List.map_congr_left this]
  simp
theorem rows_ok {ms : List Nat} (gt : GoodT ms) : OkRows (ms.map cellsI) := fun ns hn => by
  obtain ⟨m, hm, rfl⟩ := List.mem_map.mp hn
  rw [List.length_map]
  exact ⟨cellsI_nodup m, cellsI_in (gt.lt m hm)⟩
/-- table_with -/
def spTabWith (K : PySem.W.Frag) (C : Addr) : Sp := fun vs H Q _ => ∃ (t : Addr) (ms : List Nat), vs = [.ref t] ∧ SqT K H t (mV ms) ∧ GoodT ms ∧ ∀ q H', H q = none → Same H H' → Tb C H' q ms → Q (.ref q) H'
abbrev nTabWith : List Str := ["masks", "mask"]
theorem scTabWith : FnScope nTabWith ["masks"] (defScope sTabWith) := ⟨rfl, rfl, rfl, by decide +kernel, rfl, by decide +kernel, by decide +kernel⟩
theorem ok_tabWith {f C : Addr} {fd : FuncData} (F : Fun K "table_with" "table_with" sTabWith f fd) (T : TC K mg C) (DC : Has P w K mg base "cells_of" 2 ["mask"] spCellsOf) (DI : HasTI P w K mg base C) : FnOk P w K mg base CX0 8 f fd ["masks"] (spTabWith K C) := by
  obtain ⟨fC, fdC, GC, mC, kC, bC⟩ := DC
  obtain ⟨fI, fdI, GI, MI, bI⟩ := DI
  refine F.ok scTabWith (fun vs H Q E h => ?_) (fun cdv A outer s H vs Q E hr h => ?_)
  · obtain ⟨t, ms, rfl, _⟩ := h
    rfl
  · obtain ⟨t, ms, rfl, ht, gt, out⟩ := h
    have r2 : Room 2 (A.deeper (envOfC "table_with" (defScope sTabWith) s.heap.objs.size f cdv)) := hr.mono (by decide)
    refine ⟨_, pss_one (ps_ret (pe_make (E := E0) MI GI hr (by rfl) T.mgC bI .nil pass0 (pa_cons (pe_lc (own := [("mask", 1)]) (g := gName 1) rfl scTabWith.nd (pi_tup (pv 0)) (blkOk_by (own := [("mask", 1)]) (N := nTabWith) (sc := defScope sTabWith) (by decide +kernel))
        (fun _ _ _ _ _ => pg_name (i := 1) scTabWith.nd rfl (Or.inl rfl)) (fun _ _ _ _ _ => pts_nil) (fun _ _ _ _ _ => (pe_call GC r2 (by rfl) mC kC bC .nil pass0 (pa_cons (pv 1) pa_nil)))) pa_nil))), ?_⟩
    refine ⟨_, rfl, t, rfl, ⟨_, ht⟩, fun D hD => ?_⟩
    refine lc_tup (K := K) (a := t) (xs := mV ms) (fun i H' => Same H H' ∧ ∃ xs : List Addr, H' D = some (.lst (xs.map V.ref)) ∧ TupsAt H' xs ((ms.take i).map cellsI)) ⟨same_new hD, [], upd_same, True.intro⟩ (fun i H' _ h => same_sqt h.1 ht) ?_ ?_
    · rintro i x H2 hx ⟨s2, xs, hD2, tu⟩
      have hi : i < ms.length := by
        rcases Nat.lt_or_ge i ms.length with z | z
        · exact z
        · rw [List.getElem?_eq_none (by rw [mV_len]; exact z)] at hx
          cases hx
      obtain rfl : V.int ((ms.getD i 0 : Nat) : Int) = x := Option.some.inj ((mV_at hi).symm.trans hx)
      have lt := getD_lt gt.lt i
      have l40 := gt.l40
      refine ⟨rfl, yesT ?_⟩
      refine ⟨_, rfl, ms.getD i 0, rfl, Nat.lt_of_lt_of_le lt (Nat.pow_le_pow_right (by decide) l40), fun p H3 hp s3 e3 => ⟨_, s3 _ _ hD2, ?_, ?_, xs ++ [p], ?_, ?_⟩⟩
      · rw [List.length_map, tu.len, List.length_map, List.length_take]
        exact small1000 (by omega)
      · intro z o e
        rw [upd_ne (ne_of_none e hD)]
        exact s3 _ _ (s2 z o e)
      · rw [upd_same, List.map_append]
        rfl
      · have st : (ms.take (i + 1)).map cellsI = (ms.take i).map cellsI ++ [cellsI (ms.getD i 0)] := by
          rw [List.take_succ, List.getElem?_eq_getElem hi, List.map_append, List.getD_eq_getElem?_getD, List.getElem?_eq_getElem hi]
          rfl
        rw [st]
        have D3 := s3 _ _ hD2
        refine ((tu.mono fun x us q => s3 _ _ q).snoc e3).mono fun x us q => ?_
        rw [upd_ne fun z => by rw [z, D3] at q; cases q]
        exact q
    · rintro H2 ⟨s2, xs, hD2, tu⟩
      rw [mV_len] at tu
      rw [List.take_length] at tu
      have gt2 : GoodT ((ms.map cellsI).map maskI) := by
        rw [rows_back]
        exact gt
      refine made_table (.inl (SqL.of hD2)) tu.rows (rows_ok gt) gt2 fun x H3 hx s3 tb => ?_
      rw [rows_back] at tb
      exact out x H3 (s2.free hx) (s2.trans s3) tb
/-- table_of flips that fit -/
def spTabOf (K : PySem.W.Frag) (C CF : Addr) : Sp := fun vs H Q _ => ∃ (n : Nat) (l : Addr) (fs : List Addr) (ps : List (List Int × List Int)), vs = [.int (n : Int), .ref l] ∧ 1 ≤ n ∧ n ≤ 40 ∧ Sq K H l (fs.map V.ref) ∧ Fls CF H fs ps ∧ Fit1 n ps ∧
  ∀ q R H', Rep R n ps → H q = none → Same H H' → Tb C H' q R → Q (.ref q) H'
abbrev nTabOf : List Str := ["size", "flips", "masks", "flip"]
theorem scTabOf : FnScope nTabOf ["size", "flips"] (defScope sTabOf) := ⟨rfl, rfl, rfl, by decide +kernel, rfl, by decide +kernel, by decide +kernel⟩
theorem ok_tabOf {f C CF CW : Addr} {fd : FuncData} (F : Fun K "table_of" "table_of" sTabOf f fd) (DZ : Has P w K mg base "is_size" 3 ["thing"] spIsSize) (DS : Has P w K mg base "single_masks" 2 ["size"] spSingle) (DF : HasFit P w K mg base CF CW) (DA : Has P w K mg base "masks_after" 3 ["masks", "flip"] (spAfterM K CF))
    (DT : Has P w K mg base "table_with" 8 ["masks"] (spTabWith K C)) : FnOk P w K mg base CX0 9 f fd ["size", "flips"] (spTabOf K C CF) := by
  obtain ⟨fZ, fdZ, GZ, mZ, kZ, bZ⟩ := DZ
  obtain ⟨fS, fdS, GS, mS, kS, bS⟩ := DS
  obtain ⟨fF, fdF, GF, mF, kF, bF⟩ := DF
  obtain ⟨fA, fdA, GA, mA, kA, bA⟩ := DA
  obtain ⟨fT, fdT, GT, mT, kT, bT⟩ := DT
  refine F.ok scTabOf (fun vs H Q E h => ?_) (fun cdv A outer s H vs Q E hr h => ?_)
  · obtain ⟨n, l, fs, ps, rfl, _⟩ := h
    rfl
  · obtain ⟨n, l, fs, ps, rfl, n1, n40, hq | hq, hF, fit, out⟩ := h
    all_goals have r2 : Room 2 (A.deeper (envOfC "table_of" (defScope sTabOf) s.heap.objs.size f cdv)) := hr.mono (by decide)
    all_goals have r3 : Room 3 (A.deeper (envOfC "table_of" (defScope sTabOf) s.heap.objs.size f cdv)) := hr.mono (by decide)
    all_goals have r4 : Room 4 (A.deeper (envOfC "table_of" (defScope sTabOf) s.heap.objs.size f cdv)) := hr.mono (by decide)
    · refine ⟨_, pss_cons (ps_if (pt_not (pt_val (pe_call GZ r3 (by rfl) mZ kZ bZ .nil pass0 (pa_cons (pv 0) pa_nil)))) (pss_one ps_off) pss_nil)
        (pss_cons (ps_set (i := 2) scTabOf.nd rfl (Or.inl rfl) (pe_call GS r2 (by rfl) mS kS bS .nil pass0 (pa_cons (pv 0) pa_nil)))
        (pss_cons (ps_for PassesOwn.never rfl (pi_list (pv 1)) (pg_name (i := 3) scTabOf.nd rfl (Or.inl rfl))
          (pss_cons (ps_expr (pe_call (E := E0) GF r4 (by rfl) mF kF bF .nil passL (pa_cons (pv 3) (pa_cons (pv 0) pa_nil))))
          (pss_one (ps_set (i := 2) scTabOf.nd rfl (Or.inl rfl) (pe_call GA r3 (by rfl) mA kA bA .nil pass0 (pa_cons (pv 2) (pa_cons (pv 3) pa_nil)))))))
        (pss_one (ps_ret (pe_call GT hr (by rfl) mT kT bT .nil pass0 (pa_cons (pv 2) pa_nil)))))), ?_⟩
      refine ⟨_, rfl, (n : Int), rfl, _, rfl, ?_⟩
      rw [show decide ((1 : Int) ≤ (n : Int)) = true from decide_eq_true (by omega), show decide ((n : Int) ≤ 40) = true from decide_eq_true (by omega)]
      refine iteF ⟨_, rfl, n, rfl, by omega, fun t0 H1 h0 s1 e1 => ?_⟩
      refine ⟨_, rfl, l, rfl, ⟨_, same_sq s1 hq⟩, ?_⟩
      refine for_list (K := K) (a := l) (xs := fs.map V.ref) (fun i σ H' => Same H H' ∧ ∃ (R : List Nat) (t : Addr) (v3 : Option V), σ = [some (.int (n : Int)), some (.ref l), some (.ref t), v3] ∧ H' t = some (.tup (mV R)) ∧ Rep R n (ps.take i))
        ⟨s1, oneM n, t0, none, rfl, e1, rep_one n⟩ (fun i σ H' _ h => same_sq h.1 hq) ?_ ?_
      · rintro i x σ H2 hx ⟨s2, R, t, v3, rfl, et, rep⟩
        rw [List.getElem?_map] at hx
        obtain ⟨g, hg, rfl⟩ : ∃ g, fs[i]? = some g ∧ x = V.ref g := by
          cases e : fs[i]? with
          | none => rw [e] at hx; cases hx
          | some g => rw [e] at hx; exact ⟨g, rfl, (Option.some.inj hx).symm⟩
        obtain ⟨p, hp, fp, okf⟩ := hF.at hg
        have f1 := fit p (List.mem_of_getElem? hp)
        refine ⟨_, rfl, _, rfl, g, p.1, p.2, (n : Int), rfl, fp.same s2, okf, fun M fm le H3 s3 => ?_, fun M fm gt => ?_⟩
        rotate_left
        · exact absurd (fits_le fm (fun k hk => (f1.1 k hk).2) (fun k hk => (f1.2.1 k hk).2) n1) (by omega)
        refine ⟨_, rfl, _, rfl, t, g, R, p.1, p.2, rfl, SqT.of (s3 _ _ et), by rw [rep.len]; exact n40, (fp.same s2).same s3, by rw [rep.len]; exact f1.1, fun q H4 hq4 s4 e4 => ?_⟩
        refine ⟨(s2.trans s3).trans s4, aftM R p.1 p.2, q, _, rfl, e4, ?_⟩
        have st : ps.take (i + 1) = ps.take i ++ [p] := by
          rw [List.take_succ, hp]
          rfl
        rw [st]
        exact rep_step rep f1.1
      · rintro σ H2 ⟨s2, R, t, v3, rfl, et, rep⟩
        rw [List.length_map, hF.len, List.take_length] at rep
        refine ⟨_, rfl, t, R, rfl, SqT.of et, rep_good rep fit n1 n40, fun q H3 hq3 s3 tb => ?_⟩
        exact out q R H3 rep (s2.free hq3) (s2.trans s3) tb
    · refine ⟨_, pss_cons (ps_if (pt_not (pt_val (pe_call GZ r3 (by rfl) mZ kZ bZ .nil pass0 (pa_cons (pv 0) pa_nil)))) (pss_one ps_off) pss_nil)
        (pss_cons (ps_set (i := 2) scTabOf.nd rfl (Or.inl rfl) (pe_call GS r2 (by rfl) mS kS bS .nil pass0 (pa_cons (pv 0) pa_nil)))
        (pss_cons (ps_for PassesOwn.never rfl (pi_tup (pv 1)) (pg_name (i := 3) scTabOf.nd rfl (Or.inl rfl))
          (pss_cons (ps_expr (pe_call (E := E0) GF r4 (by rfl) mF kF bF .nil passL (pa_cons (pv 3) (pa_cons (pv 0) pa_nil))))
          (pss_one (ps_set (i := 2) scTabOf.nd rfl (Or.inl rfl) (pe_call GA r3 (by rfl) mA kA bA .nil pass0 (pa_cons (pv 2) (pa_cons (pv 3) pa_nil)))))))
        (pss_one (ps_ret (pe_call GT hr (by rfl) mT kT bT .nil pass0 (pa_cons (pv 2) pa_nil)))))), ?_⟩
      refine ⟨_, rfl, (n : Int), rfl, _, rfl, ?_⟩
      rw [show decide ((1 : Int) ≤ (n : Int)) = true from decide_eq_true (by omega), show decide ((n : Int) ≤ 40) = true from decide_eq_true (by omega)]
      refine iteF ⟨_, rfl, n, rfl, by omega, fun t0 H1 h0 s1 e1 => ?_⟩
      refine ⟨_, rfl, l, rfl, ⟨_, same_sqt s1 hq⟩, ?_⟩
      refine for_tup (K := K) (a := l) (xs := fs.map V.ref) (fun i σ H' => Same H H' ∧ ∃ (R : List Nat) (t : Addr) (v3 : Option V), σ = [some (.int (n : Int)), some (.ref l), some (.ref t), v3] ∧ H' t = some (.tup (mV R)) ∧ Rep R n (ps.take i))
        ⟨s1, oneM n, t0, none, rfl, e1, rep_one n⟩ (fun i σ H' _ h => same_sqt h.1 hq) ?_ ?_
      · rintro i x σ H2 hx ⟨s2, R, t, v3, rfl, et, rep⟩
        rw [List.getElem?_map] at hx
        obtain ⟨g, hg, rfl⟩ : ∃ g, fs[i]? = some g ∧ x = V.ref g := by
          cases e : fs[i]? with
          | none => rw [e] at hx; cases hx
          | some g => rw [e] at hx; exact ⟨g, rfl, (Option.some.inj hx).symm⟩
        obtain ⟨p, hp, fp, okf⟩ := hF.at hg
        have f1 := fit p (List.mem_of_getElem? hp)
        refine ⟨_, rfl, _, rfl, g, p.1, p.2, (n : Int), rfl, fp.same s2, okf, fun M fm le H3 s3 => ?_, fun M fm gt => ?_⟩
        rotate_left
        · exact absurd (fits_le fm (fun k hk => (f1.1 k hk).2) (fun k hk => (f1.2.1 k hk).2) n1) (by omega)
        refine ⟨_, rfl, _, rfl, t, g, R, p.1, p.2, rfl, SqT.of (s3 _ _ et), by rw [rep.len]; exact n40, (fp.same s2).same s3, by rw [rep.len]; exact f1.1, fun q H4 hq4 s4 e4 => ?_⟩
        refine ⟨(s2.trans s3).trans s4, aftM R p.1 p.2, q, _, rfl, e4, ?_⟩
        have st : ps.take (i + 1) = ps.take i ++ [p] := by
          rw [List.take_succ, hp]
          rfl
        rw [st]
        exact rep_step rep f1.1
      · rintro σ H2 ⟨s2, R, t, v3, rfl, et, rep⟩
        rw [List.length_map, hF.len, List.take_length] at rep
        refine ⟨_, rfl, t, R, rfl, SqT.of et, rep_good rep fit n1 n40, fun q H3 hq3 s3 tb => ?_⟩
        exact out q R H3 rep (s2.free hq3) (s2.trans s3) tb
end
end K49
namespace Msk
/-! ### tables one behind the other, inverses, powers -/
/-- numbers below n, all unlike, as many as n: each is among them -/
theorem erase_few : ∀ (n : Nat) (l : List Nat), l.Nodup → (∀ x ∈ l, x < n) → l.length ≤ n
  | 0, [], _, _ => Nat.le_refl 0
  | 0, x :: _, _, h => absurd (h x (List.mem_cons_self ..)) (Nat.not_lt_zero _)
  | n + 1, l, nd, h => by
    have z := erase_few n (l.erase n) (nd.erase n) fun x hx => by
      obtain ⟨ne, hx⟩ := (List.Nodup.mem_erase_iff nd).mp hx
      have := h x hx
      omega
    have := List.length_erase (a := n) (l := l)
    split at this <;> omega
theorem full {n : Nat} {l : List Nat} (nd : l.Nodup) (len : l.length = n) (h : ∀ x ∈ l, 1 ≤ x ∧ x ≤ n) {b : Nat} (h1 : 1 ≤ b) (h2 : b ≤ n) : b ∈ l := by
  cases e : decide (b ∈ l) with
  | true => exact of_decide_eq_true e
  | false =>
    exfalso
    have nb : b ∉ l := of_decide_eq_false e
    have nd2 : (0 :: b :: l).Nodup := by
      refine List.nodup_cons.mpr ⟨fun z => ?_, List.nodup_cons.mpr ⟨nb, nd⟩⟩
      rcases List.mem_cons.mp z with z | z
      · omega
      · have := h 0 z
        omega
    have := erase_few (n + 1) _ nd2 fun x hx => by
      rcases List.mem_cons.mp hx with z | hx
      · omega
      · rcases List.mem_cons.mp hx with z | z
        · omega
        · have := h x z
          omega
    rw [List.length_cons, List.length_cons] at this
    omega
/-- A first, then B -/
def comp (A B : List Nat) : List Nat := B.map (comb A)
theorem comp_len (A B : List Nat) : (comp A B).length = B.length := by simp [comp]
theorem comp_at {A B : List Nat} (i : Nat) : (comp A B).getD i 0 = comb A (B.getD i 0) := by
  unfold comp
  rw [List.getD_eq_getElem?_getD, List.getElem?_map, List.getD_eq_getElem?_getD]
  cases B[i]? with
  | none => exact (comb_zero A).symm
  | some _ => rfl
theorem comb_if (A : List Nat) (c : Bool) (m : Nat) : comb A (if c then m else 0) = if c then comb A m else 0 := by
  cases c
  · exact comb_zero A
  · rfl
theorem comb_comp (A : List Nat) : ∀ (B : List Nat) (s : Nat), comb (comp A B) s = comb A (comb B s)
  | [], s => (comb_zero A).symm
  | m :: B, s => by
    show (if s.testBit 0 then comb A m else 0) ^^^ comb (comp A B) (s >>> 1) = comb A ((if s.testBit 0 then m else 0) ^^^ comb B (s >>> 1))
    rw [comb_xor, comb_if, comb_comp A B]
theorem comp_assoc (A B C : List Nat) : comp (comp A B) C = comp A (comp B C) := by
  unfold comp
  rw [List.map_map]
  exact List.map_congr_left fun m _ => comb_comp A B m
theorem comp_lt {A B : List Nat} {n : Nat} (h : ∀ m ∈ A, m < 2 ^ n) : ∀ m ∈ comp A B, m < 2 ^ n := fun m hm => by
  obtain ⟨x, _, rfl⟩ := List.mem_map.mp hm
  exact comb_lt A x h
theorem comp_one (A : List Nat) {n : Nat} (h : A.length = n) : comp A (oneM n) = A := by
  refine List.ext_getElem (by rw [comp_len, oneM_len, h]) fun i h1 h2 => ?_
  have e : ∀ (S : List Nat) (hS : i < S.length), S[i] = S.getD i 0 := fun S hS => by
    rw [List.getD_eq_getElem?_getD, List.getElem?_eq_getElem hS]
    rfl
  rw [e _ h1, e _ h2, comp_at, oneM_at (by omega), comb_one]
/-- bits told one by one -/
theorem comb_bit : ∀ (ms : List Nat) (s i : Nat), (∀ k, (hk : k < ms.length) → ms[k] = 2 ^ (k + i)) → s < 2 ^ ms.length → comb ms s = s * 2 ^ i
  | [], s, i, _, hs => by
    have : s = 0 := by simpa using hs
    rw [this, Nat.zero_mul]
    rfl
  | m :: ms, s, i, h, hs => by
    have h0 : m = 2 ^ i := by
      have := h 0 (by simp)
      simpa using this
    have ih := comb_bit ms (s >>> 1) (i + 1) (fun k hk => by
      have := h (k + 1) (by simpa using hk)
      rw [List.getElem_cons_succ] at this
      rw [this]
      congr 1
      omega) (by
      rw [Nat.shiftRight_eq_div_pow, List.length_cons, Nat.pow_succ] at *
      omega)
    show (if s.testBit 0 then m else 0) ^^^ comb ms (s >>> 1) = s * 2 ^ i
    rw [ih, h0, Nat.shiftRight_eq_div_pow, Nat.pow_one]
    have b : s.testBit 0 = decide (s % 2 = 1) := by rw [Nat.testBit_zero]
    have even : (s / 2 * 2 ^ (i + 1)).testBit i = false := by
      rw [Nat.pow_succ, show s / 2 * (2 ^ i * 2) = 2 ^ i * (s / 2 * 2) by rw [Nat.mul_comm (2 ^ i) 2, ← Nat.mul_assoc, Nat.mul_comm], Nat.testBit_two_pow_mul]
      simp
    rcases Nat.mod_two_eq_zero_or_one s with z | z
    · rw [b, z]
      simp only [show decide ((0 : Nat) = 1) = false from rfl, Bool.false_eq_true, if_false, Nat.zero_xor]
      rw [Nat.pow_succ, Nat.mul_comm (2 ^ i) 2, ← Nat.mul_assoc]
      congr 1
      omega
    · rw [b, z, decide_eq_true rfl, if_pos rfl, ← add_pow i _ even, Nat.pow_succ, Nat.mul_comm (2 ^ i) 2, ← Nat.mul_assoc]
      have e : s = s / 2 * 2 + 1 := by omega
      rw [show s * 2 ^ i = (s / 2 * 2 + 1) * 2 ^ i by rw [← e], Nat.add_mul]
      omega
theorem comb_oneM {n s : Nat} (h : s < 2 ^ n) : comb (oneM n) s = s := by
  have := comb_bit (oneM n) s 0 (fun k hk => by
    rw [oneM_len] at hk
    have e := oneM_at hk
    rw [List.getD_eq_getElem?_getD, List.getElem?_eq_getElem (by rw [oneM_len]; exact hk)] at e
    exact e) (by rw [oneM_len]; exact h)
  rwa [Nat.pow_zero, Nat.mul_one] at this
theorem one_comp {A : List Nat} {n : Nat} (h : ∀ m ∈ A, m < 2 ^ n) : comp (oneM n) A = A := by
  unfold comp
  rw [List.map_congr_left fun m hm => comb_oneM (h m hm)]
  simp
/-- as many times A -/
def pw (A : List Nat) (n : Nat) : Nat → List Nat
  | 0 => oneM n
  | k + 1 => comp A (pw A n k)
/-- what is a table of size n, for this -/
structure Sz (n : Nat) (A : List Nat) : Prop where
  len : A.length = n
  lt : ∀ m ∈ A, m < 2 ^ n
theorem Sz.one (n : Nat) : Sz n (oneM n) := ⟨oneM_len n, oneM_lt⟩
theorem Sz.comp {n : Nat} {A B : List Nat} (a : Sz n A) (b : Sz n B) : Sz n (comp A B) := ⟨(comp_len A B).trans b.len, comp_lt a.lt⟩
theorem Sz.pw {n : Nat} {A : List Nat} (a : Sz n A) : ∀ k, Sz n (pw A n k)
  | 0 => Sz.one n
  | k + 1 => a.comp (a.pw k)
theorem pw_add {n : Nat} {A : List Nat} (a : Sz n A) (j : Nat) : ∀ i, comp (pw A n i) (pw A n j) = pw A n (i + j)
  | 0 => by
    rw [Nat.zero_add]
    exact one_comp (a.pw j).lt
  | i + 1 => by
    show Msk.comp (Msk.comp A (Msk.pw A n i)) (Msk.pw A n j) = _
    rw [comp_assoc, pw_add a j i, Nat.add_right_comm]
    rfl
theorem pw_one {n : Nat} {A : List Nat} (a : Sz n A) : pw A n 1 = A := comp_one A a.len
theorem pw_back {n : Nat} {A : List Nat} (a : Sz n A) (k : Nat) : comp (pw A n k) A = pw A n (k + 1) := by
  have := pw_add a 1 k
  rwa [pw_one a] at this
theorem pw_square {n : Nat} {A : List Nat} (a : Sz n A) : ∀ k, pw (comp A A) n k = pw A n (2 * k)
  | 0 => rfl
  | k + 1 => by
    show Msk.comp (Msk.comp A A) (Msk.pw (Msk.comp A A) n k) = _
    rw [pw_square a k, comp_assoc, show 2 * (k + 1) = 2 * k + 1 + 1 by omega]
    rfl
/-- one turn of the loop over binary digits -/
theorem pw_step {n l : Nat} {p s : List Nat} (hp : Sz n p) (hs : Sz n s) : comp (if l % 2 = 1 then comp p s else p) (pw (comp s s) n (l / 2)) = comp p (pw s n l) := by
  rw [pw_square hs]
  by_cases z : l % 2 = 1
  · rw [if_pos z, comp_assoc]
    congr 1
    show Msk.pw s n (2 * (l / 2) + 1) = _
    congr 1
    omega
  · rw [if_neg z]
    congr 2
    omega
/-! ### inverses -/
structure Inv2 (n : Nat) (A G : List Nat) : Prop where
  a : Sz n A
  g : Sz n G
  ag : comp A G = oneM n
  ga : comp G A = oneM n
theorem Inv2.symm {n : Nat} {A G : List Nat} (h : Inv2 n A G) : Inv2 n G A := ⟨h.g, h.a, h.ga, h.ag⟩
theorem Inv2.only {n : Nat} {A G G' : List Nat} (h : Inv2 n A G) (g : Sz n G') (e : comp A G' = oneM n) : G' = G := by
  have z : comp G (comp A G') = comp G (oneM n) := by rw [e]
  rw [← comp_assoc, h.ga, one_comp g.lt, comp_one _ h.g.len] at z
  exact z
theorem Inv2.comp {n : Nat} {A G B H : List Nat} (h : Inv2 n A G) (k : Inv2 n B H) : Inv2 n (comp A B) (comp H G) := by
  refine ⟨h.a.comp k.a, k.g.comp h.g, ?_, ?_⟩
  · rw [comp_assoc, ← comp_assoc B, k.ag, one_comp h.g.lt, h.ag]
  · rw [comp_assoc, ← comp_assoc G, h.ga, one_comp k.a.lt, k.ga]
theorem Inv2.one (n : Nat) : Inv2 n (oneM n) (oneM n) := ⟨Sz.one n, Sz.one n, comp_one _ (oneM_len n), comp_one _ (oneM_len n)⟩
theorem Inv2.pw {n : Nat} {A G : List Nat} (h : Inv2 n A G) : ∀ k, Inv2 n (pw A n k) (pw G n k)
  | 0 => Inv2.one n
  | k + 1 => by
    have := h.comp (h.pw k)
    rw [pw_back h.g] at this
    exact this
theorem Inv2.ind {n : Nat} {A G : List Nat} (h : Inv2 n A G) : Indep A := fun s hs e => by
  rw [h.a.len] at hs
  have z : comb (Msk.comp G A) s = s := by
    rw [h.ga]
    exact comb_oneM hs
  rw [comb_comp, e, comb_zero] at z
  exact z.symm
/-- rows that a table takes to the single cells are its inverse -/
theorem inv_of {n : Nat} {A G : List Nat} (a : Sz n A) (ind : Indep A) (g : Sz n G) (e : ∀ i, i < n → comb A (G.getD i 0) = 2 ^ i) : Inv2 n A G := by
  have ag : comp A G = oneM n := by
    refine List.ext_getElem (by rw [comp_len, oneM_len, g.len]) fun i h1 h2 => ?_
    have hi : i < n := by rw [oneM_len] at h2; exact h2
    have d : ∀ (S : List Nat) (hS : i < S.length), S[i] = S.getD i 0 := fun S hS => by
      rw [List.getD_eq_getElem?_getD, List.getElem?_eq_getElem hS]
      rfl
    rw [d _ h1, d _ h2, comp_at, oneM_at hi, e i hi]
  refine ⟨a, g, ag, ?_⟩
  refine List.ext_getElem (by rw [comp_len, oneM_len, a.len]) fun i h1 h2 => ?_
  have hi : i < n := by rw [oneM_len] at h2; exact h2
  have d : ∀ (S : List Nat) (hS : i < S.length), S[i] = S.getD i 0 := fun S hS => by
    rw [List.getD_eq_getElem?_getD, List.getElem?_eq_getElem hS]
    rfl
  rw [d _ h1, d _ h2, comp_at, oneM_at hi]
  have lt1 : comb G (A.getD i 0) < 2 ^ n := comb_lt G _ g.lt
  have lt2 : 2 ^ i < 2 ^ n := Nat.pow_lt_pow_right (by decide) hi
  have z : comb A (comb G (A.getD i 0) ^^^ 2 ^ i) = 0 := by
    rw [comb_xor, ← comb_comp, ag, comb_oneM (getD_lt a.lt i), comb_one, Nat.xor_self]
  have y := ind _ (by rw [a.len]; exact xor_lt lt1 lt2) z
  by_cases w : comb G (A.getD i 0) = 2 ^ i
  · exact w
  · exact absurd y (xor_ne w)
/-- as many times A, or its inverse -/
def pz (n : Nat) (A G : List Nat) (c : Int) : List Nat := if c < 0 then pw G n c.natAbs else pw A n c.natAbs
theorem Inv2.pz {n : Nat} {A G : List Nat} (h : Inv2 n A G) (c : Int) : Inv2 n (pz n A G c) (pz n A G (-c)) := by
  unfold Msk.pz
  rw [Int.natAbs_neg]
  by_cases z : c < 0
  · rw [if_pos z, if_neg (by omega)]
    exact h.symm.pw _
  · rw [if_neg z]
    by_cases y : -c < 0
    · rw [if_pos y]
      exact h.pw _
    · have : c = 0 := by omega
      subst this
      exact Inv2.one n
theorem pz_succ {n : Nat} {A G : List Nat} (h : Inv2 n A G) (c : Int) : pz n A G (c + 1) = comp A (pz n A G c) := by
  unfold pz
  by_cases z : c < 0
  · rw [if_pos z]
    obtain ⟨k, hk⟩ : ∃ k, c.natAbs = k + 1 := ⟨c.natAbs - 1, by omega⟩
    have e : Msk.comp A (Msk.pw G n c.natAbs) = Msk.pw G n k := by
      rw [hk]
      show Msk.comp A (Msk.comp G (Msk.pw G n k)) = _
      rw [← comp_assoc, h.ag, one_comp (h.g.pw k).lt]
    rw [e]
    by_cases y : c + 1 < 0
    · rw [if_pos y]
      congr 1
      omega
    · have c1 : c = -1 := by omega
      subst c1
      have : k = 0 := by
        have : (-1 : Int).natAbs = 1 := rfl
        omega
      subst this
      rfl
  · rw [if_neg z, if_neg (by omega), show (c + 1).natAbs = c.natAbs + 1 by omega]
    rfl
theorem pz_pred {n : Nat} {A G : List Nat} (h : Inv2 n A G) (c : Int) : pz n A G (c - 1) = comp G (pz n A G c) := by
  have z := pz_succ h (c - 1)
  rw [Int.sub_add_cancel] at z
  rw [z, ← comp_assoc, h.ga, one_comp (h.pz (c - 1)).a.lt]
theorem pz_add {n : Nat} {A G : List Nat} (h : Inv2 n A G) (c d : Int) : comp (pz n A G c) (pz n A G d) = pz n A G (c + d) := by
  have up : ∀ k : Nat, comp (pz n A G k) (pz n A G d) = pz n A G (k + d) := fun k => by
    induction k with
    | zero =>
      rw [show ((0 : Nat) : Int) + d = d by omega]
      exact one_comp (h.pz d).a.lt
    | succ k ih =>
      rw [show (((k + 1 : Nat) : Int)) = (k : Int) + 1 by omega, pz_succ h, comp_assoc, ih, show (k : Int) + 1 + d = (k : Int) + d + 1 by omega, pz_succ h]
  have dn : ∀ k : Nat, comp (pz n A G (-(k : Int))) (pz n A G d) = pz n A G (-(k : Int) + d) := fun k => by
    induction k with
    | zero =>
      rw [show (-((0 : Nat) : Int)) + d = d by omega]
      exact one_comp (h.pz d).a.lt
    | succ k ih =>
      rw [show (-((k + 1 : Nat) : Int)) = -(k : Int) - 1 by omega, pz_pred h, comp_assoc, ih, show -(k : Int) - 1 + d = -(k : Int) + d - 1 by omega, pz_pred h]
  by_cases z : c < 0
  · have := dn c.natAbs
    rwa [show -((c.natAbs : Nat) : Int) = c by omega] at this
  · have := up c.natAbs
    rwa [show ((c.natAbs : Nat) : Int) = c by omega] at this
theorem pz_mul {n : Nat} {A G : List Nat} (h : Inv2 n A G) (c d : Int) : pz n (pz n A G c) (pz n A G (-c)) d = pz n A G (c * d) := by
  have hc := h.pz c
  have up : ∀ k : Nat, pz n (pz n A G c) (pz n A G (-c)) (k : Int) = pz n A G (c * (k : Int)) := fun k => by
    induction k with
    | zero =>
      rw [show c * ((0 : Nat) : Int) = 0 from Int.mul_zero c]
      rfl
    | succ k ih =>
      rw [show (((k + 1 : Nat) : Int)) = (k : Int) + 1 by omega, pz_succ hc, ih, pz_add h, Int.mul_add, Int.mul_one, Int.add_comm]
  have dn : ∀ k : Nat, pz n (pz n A G c) (pz n A G (-c)) (-(k : Int)) = pz n A G (c * -(k : Int)) := fun k => by
    induction k with
    | zero =>
      rw [show c * (-((0 : Nat) : Int)) = 0 from Int.mul_zero c]
      rfl
    | succ k ih =>
      rw [show (-((k + 1 : Nat) : Int)) = -(k : Int) - 1 by omega, pz_pred hc, ih, pz_add h, Int.mul_sub, Int.mul_one, Int.sub_eq_add_neg, Int.add_comm]
  by_cases z : d < 0
  · have := dn d.natAbs
    rwa [show -((d.natAbs : Nat) : Int) = d by omega] at this
  · have := up d.natAbs
    rwa [show ((d.natAbs : Nat) : Int) = d by omega] at this
theorem pz_zero {n : Nat} {A G : List Nat} : pz n A G 0 = oneM n := rfl
theorem pz_one {n : Nat} {A G : List Nat} (h : Inv2 n A G) : pz n A G 1 = A := pw_one h.a
theorem pz_neg {n : Nat} {A G : List Nat} (h : Inv2 n A G) : pz n A G (-1) = G := pw_one h.g
/-- the first row stays single -/
theorem comp_first {A B : List Nat} (a : A.getD 0 0 = 1) (b : B.getD 0 0 = 1) : (comp A B).getD 0 0 = 1 := by
  rw [comp_at, b]
  have := comb_one A 0
  rw [Nat.pow_zero, a] at this
  exact this
theorem inv_first {n : Nat} {A G : List Nat} (h : Inv2 n A G) (n1 : 1 ≤ n) (a : A.getD 0 0 = 1) : G.getD 0 0 = 1 := by
  have e : (comp G A).getD 0 0 = 1 := by
    rw [h.ga, oneM_at n1, Nat.pow_zero]
  rw [comp_at, a] at e
  have := comb_one G 0
  rw [Nat.pow_zero, e] at this
  exact this.symm
theorem ind_comp {n : Nat} {A B : List Nat} (a : Sz n A) (b : Sz n B) (ia : Indep A) (ib : Indep B) : Indep (comp A B) := fun s hs e => by
  rw [comp_len] at hs
  rw [comb_comp] at e
  exact ib s hs (ia _ (by rw [a.len]; exact comb_lt B s b.lt) e)
theorem ind_one (n : Nat) : Indep (oneM n) := fun s hs e => by
  rw [oneM_len] at hs
  rwa [comb_oneM hs] at e
/-- each number below n among as many of them -/
theorem full0 {n : Nat} {l : List Nat} (nd : l.Nodup) (len : l.length = n) (h : ∀ x ∈ l, x < n) {b : Nat} (hb : b < n) : b ∈ l := by
  have z := full (n := n) (l := l.map (· + 1)) (by
    rw [List.Nodup, List.pairwise_map]
    exact nd.imp fun h e => h (by omega)) (by rw [List.length_map, len]) (fun x hx => by
    obtain ⟨y, hy, rfl⟩ := List.mem_map.mp hx
    have := h y hy
    omega) (b := b + 1) (by omega) (by omega)
  obtain ⟨y, hy, e⟩ := List.mem_map.mp z
  have : y = b := by omega
  exact this ▸ hy
theorem exists_inv {n : Nat} {A : List Nat} (a : Sz n A) (ind : Indep A) : ∃ G, Inv2 n A G := by
  have hit : ∀ b, b < 2 ^ n → ∃ s, s < 2 ^ n ∧ comb A s = b := fun b hb => by
    have z := full0 (n := 2 ^ n) (l := (List.range (2 ^ n)).map (comb A)) (by
      rw [List.Nodup, List.pairwise_map]
      refine List.Pairwise.imp_of_mem ?_ (List.nodup_range (n := 2 ^ n))
      intro x y hx hy ne e
      have hx := List.mem_range.mp hx
      have hy := List.mem_range.mp hy
      have w := ind (x ^^^ y) (by rw [a.len]; exact xor_lt hx hy) (by rw [comb_xor, e, Nat.xor_self])
      exact xor_ne ne w) (by rw [List.length_map, List.length_range]) (fun x hx => by
      obtain ⟨s, _, rfl⟩ := List.mem_map.mp hx
      exact comb_lt A s a.lt) hb
    obtain ⟨s, hs, e⟩ := List.mem_map.mp z
    exact ⟨s, List.mem_range.mp hs, e⟩
  have pick : ∀ k, k ≤ n → ∃ G : List Nat, G.length = k ∧ (∀ m ∈ G, m < 2 ^ n) ∧ ∀ i, i < k → comb A (G.getD i 0) = 2 ^ i := fun k => by
    induction k with
    | zero => exact fun _ => ⟨[], rfl, (fun m hm => nomatch hm), fun i hi => absurd hi (Nat.not_lt_zero i)⟩
    | succ k ih =>
      intro hk
      obtain ⟨G, g1, g2, g3⟩ := ih (by omega)
      obtain ⟨s, s1, s2⟩ := hit (2 ^ k) (Nat.pow_lt_pow_right (by decide) (by omega))
      refine ⟨G ++ [s], by rw [List.length_append, g1]; rfl, fun m hm => ?_, fun i hi => ?_⟩
      · rcases List.mem_append.mp hm with z | z
        · exact g2 m z
        · rw [List.mem_singleton.mp z]
          exact s1
      · rw [List.getD_eq_getElem?_getD]
        rcases Nat.lt_or_ge i k with z | z
        · rw [List.getElem?_append_left (by omega), ← List.getD_eq_getElem?_getD]
          exact g3 i z
        · have : i = k := by omega
          subst this
          rw [List.getElem?_append_right (by omega), g1, Nat.sub_self]
          exact s2
  obtain ⟨G, g1, g2, g3⟩ := pick n (Nat.le_refl n)
  exact ⟨G, inv_of a ind ⟨g1, g2⟩ g3⟩
end Msk
namespace K49
open PySem PySem.Spec PyProof.Rows L2 Par Msk
theorem mV_ints (ms : List Nat) : mV ms = (ms.map fun (m : Nat) => ((m : Nat) : Int)).map V.int := by
  unfold mV
  rw [List.map_map]
  rfl
theorem mI_inj : ∀ (ms ns : List Nat), decide ((ms.map fun (m : Nat) => ((m : Nat) : Int)) = ns.map fun (m : Nat) => ((m : Nat) : Int)) = decide (ms = ns) := fun ms ns => by
  by_cases h : ms = ns
  · subst h
    rw [decide_eq_true rfl, decide_eq_true rfl]
  · rw [decide_eq_false h, decide_eq_false fun z => h ?_]
    clear h
    induction ms generalizing ns with
    | nil =>
      cases ns with
      | nil => rfl
      | cons _ _ => cases z
    | cons m ms ih =>
      cases ns with
      | nil => cases z
      | cons n ns =>
        rw [List.map_cons, List.map_cons] at z
        injection z with z1 z2
        rw [ih ns z2, Int.ofNat_inj.mp z1]

theorem GoodT.sz {R : List Nat} (g : GoodT R) : Sz R.length R := ⟨rfl, g.lt⟩
theorem good_of {n : Nat} {R : List Nat} (s : Sz n R) (h1 : 1 ≤ n) (h2 : n ≤ 40) (f : R.getD 0 0 = 1) (i : Indep R) : GoodT R := ⟨by rw [s.len]; exact h1, by rw [s.len]; exact h2, by rw [s.len]; exact s.lt, f, i⟩
theorem good_comp {A B : List Nat} (a : GoodT A) (b : GoodT B) (e : A.length = B.length) : GoodT (comp A B) := by
  have sb : Sz A.length B := ⟨e.symm, by rw [e]; exact b.lt⟩
  exact good_of (a.sz.comp sb) a.l1 a.l40 (comp_first a.first b.first) (ind_comp a.sz sb a.ind b.ind)
theorem good_inv {n : Nat} {A G : List Nat} (h : Inv2 n A G) (a : GoodT A) : GoodT G := by
  have e := h.a.len
  have n1 := a.l1
  have n40 := a.l40
  exact good_of h.g (by omega) (by omega) (inv_first h (by omega) a.first) h.symm.ind
theorem good_one {n : Nat} (h1 : 1 ≤ n) (h2 : n ≤ 40) : GoodT (oneM n) := good_of (Sz.one n) h1 h2 (by rw [oneM_at h1, Nat.pow_zero]) (ind_one n)
theorem good_pw {A : List Nat} (a : GoodT A) : ∀ k, GoodT (pw A A.length k)
  | 0 => good_one a.l1 a.l40
  | k + 1 => good_comp a (good_pw a k) (a.sz.pw k).len.symm
section
variable {P : Program} {w : World} {K : PySem.W.Frag} {mg : Str → Option Value} {base : Heap}
/-- size, len -/
def spTSize (C : Addr) : Sp := fun vs H Q _ => ∃ (b : Addr) (ms : List Nat), vs = [.ref b] ∧ Tb C H b ms ∧ Q (.int ((ms.length : Nat) : Int)) H
theorem scTSize : FnScope ["self"] ["self"] (defScope hSize) := ⟨rfl, rfl, rfl, by decide +kernel, rfl, by decide +kernel, by decide +kernel⟩
theorem ok_TSize {f C : Addr} {fd : FuncData} (F : Fun K "size" "Table.size" hSize f fd) (B : Bl mg) (T : TC K mg C) : FnOk P w K mg base CX0 2 f fd ["self"] (spTSize C) := by
  refine F.ok scTSize (fun vs H Q E h => ?_) (fun cdv A outer s H vs Q E hr h => ?_)
  · obtain ⟨b, ms, rfl, _⟩ := h
    rfl
  · obtain ⟨b, ms, rfl, ⟨dx, t, h1, h2⟩, out⟩ := h
    refine ⟨_, pss_one (ps_ret (pe_callB call_len_seq (by rfl) B.len PySem.boot_len (pa_cons (pe_fld (pv 0) rfl) pa_nil))), ?_⟩
    refine ⟨_, rfl, b, C, dx, _, _, rfl, h1, T.cl, T.nM, fldM, t, _, rfl, .inr (SqT.of h2), ?_⟩
    rw [mV_len]
    exact out
theorem scTLen : FnScope ["self"] ["self"] (defScope hLen) := ⟨rfl, rfl, rfl, by decide +kernel, rfl, by decide +kernel, by decide +kernel⟩
theorem ok_TLen {f C : Addr} {fd : FuncData} (F : Fun K "__len__" "Table.__len__" hLen f fd) (B : Bl mg) (T : TC K mg C) : FnOk P w K mg base CX0 2 f fd ["self"] (spTSize C) := by
  refine F.ok scTLen (fun vs H Q E h => ?_) (fun cdv A outer s H vs Q E hr h => ?_)
  · obtain ⟨b, ms, rfl, _⟩ := h
    rfl
  · obtain ⟨b, ms, rfl, ⟨dx, t, h1, h2⟩, out⟩ := h
    refine ⟨_, pss_one (ps_ret (pe_callB call_len_seq (by rfl) B.len PySem.boot_len (pa_cons (pe_fld (pv 0) rfl) pa_nil))), ?_⟩
    refine ⟨_, rfl, b, C, dx, _, _, rfl, h1, T.cl, T.nM, fldM, t, _, rfl, .inr (SqT.of h2), ?_⟩
    rw [mV_len]
    exact out
/-- check_size -/
def spCheck (C : Addr) : Sp := fun vs H Q _ => ∃ (b : Addr) (ms : List Nat), vs = [.ref b, .int ((ms.length : Nat) : Int)] ∧ Tb C H b ms ∧ Q .non H
theorem scCheck : FnScope ["self", "size"] ["self", "size"] (defScope hCheck) := ⟨rfl, rfl, rfl, by decide +kernel, rfl, by decide +kernel, by decide +kernel⟩
theorem ok_check {f C : Addr} {fd : FuncData} (F : Fun K "check_size" "Table.check_size" hCheck f fd) (T : TC K mg C) (DS : HasM P w K mg base C "size" 2 ["self"] (spTSize C)) : FnOk P w K mg base CX0 3 f fd ["self", "size"] (spCheck C) := by
  obtain ⟨fS, fdS, GS, mS, bS⟩ := DS
  refine F.ok scCheck (fun vs H Q E h => ?_) (fun cdv A outer s H vs Q E hr h => ?_)
  · obtain ⟨b, ms, rfl, _⟩ := h
    rfl
  · obtain ⟨b, ms, rfl, hB, out⟩ := h
    obtain ⟨dx, t, h1, h2⟩ := id hB
    refine ⟨_, pss_one (ps_if (pt_cmpR op_ne (pv 1) (pe_meth0 (pv 0) T.cl mS GS hr bS .nil pass0) (nomark _)) (pss_one ps_off) pss_nil), ?_⟩
    exact ⟨_, rfl, _, rfl, b, dx, _, rfl, h1, no_fldM (by decide +kernel), b, ms, rfl, hB, rfl, _, rfl, iteNS rfl out⟩
/-- == of two tables -/
def spTEq (C : Addr) : Sp := fun vs H Q _ => ∃ (a b : Addr) (ms ns : List Nat), vs = [.ref a, .ref b] ∧ Tb C H a ms ∧ Tb C H b ns ∧ Q (.bl (decide (ms = ns))) H
theorem scTEq : FnScope ["self", "other"] ["self", "other"] (defScope hEq) := ⟨rfl, rfl, rfl, by decide +kernel, rfl, by decide +kernel, by decide +kernel⟩
theorem ok_teq {f C : Addr} {fd : FuncData} (F : Fun K "__eq__" "Table.__eq__" hEq f fd) (B : Bl mg) (T : TC K mg C) (TI : IsC K C) : FnOk P w K mg base CX0 2 f fd ["self", "other"] (spTEq C) := by
  refine F.ok scTEq (fun vs H Q E h => ?_) (fun cdv A outer s H vs Q E hr h => ?_)
  · obtain ⟨a, b, ms, ns, rfl, _⟩ := h
    rfl
  · obtain ⟨a, b, ms, ns, rfl, ⟨dx, x1, e1, e2⟩, ⟨dy, y1, g1, g2⟩, out⟩ := h
    have hu := hr.units
    refine ⟨_, pss_one (ps_ret (pe_and (pe_callB call_isi (by rfl) B.isinstance (by decide +kernel) (pa_cons (pv 1) (pa_cons (pe_glob (v := .ref C) (by rfl) T.mgC rfl) pa_nil)))
      (pe_one (pe_cmpR (op_eqD hu) (pe_fld (pv 0) rfl) (pe_fld (pv 1) rfl) (nomark _))))), ?_⟩
    refine ⟨_, rfl, _, _, _, _, true, rfl, .own C, .base (.ins g1 T.cl TI.ha TI.hn TI.ht TI.hm), kit_self, _, rfl, iteT ?_⟩
    refine ⟨_, rfl, a, C, dx, _, _, rfl, e1, T.cl, T.nM, fldM, _, rfl, b, C, dy, _, _, rfl, g1, T.cl, T.nM, fldM, ?_⟩
    rw [mV_ints] at e2 g2
    refine ⟨.tuple ((ms.map fun (m : Nat) => ((m : Nat) : Int)).map PyData.int), .tuple ((ns.map fun (m : Nat) => ((m : Nat) : Int)).map PyData.int), .tup (SqT.of e2) (dps_ints _), .tup (SqT.of g2) (dps_ints _), shaped_tints _, shaped_tints _, ?_⟩
    rw [eqv_tints, mI_inj]
    exact out
/-- composed_masks -/
abbrev sComp : Stmt := topS 51
abbrev hThen : Stmt := inClass (topS 47) 8
abbrev hInv : Stmt := inClass (topS 47) 9
def spComp (K : PySem.W.Frag) : Sp := fun vs H Q _ => ∃ (t u : Addr) (n : Nat) (A B : List Nat), vs = [.ref t, .ref u] ∧ SqT K H t (mV A) ∧ SqT K H u (mV B) ∧ Sz n A ∧ Sz n B ∧ n ≤ 40 ∧ ∀ q H', H q = none → Same H H' → H' q = some (.tup (mV (comp A B))) → Q (.ref q) H'
abbrev nComp : List Str := ["masks", "later", "mask"]
theorem scComp : FnScope nComp ["masks", "later"] (defScope sComp) := ⟨rfl, rfl, rfl, by decide +kernel, rfl, by decide +kernel, by decide +kernel⟩
theorem ok_comp {f : Addr} {fd : FuncData} (F : Fun K "composed_masks" "composed_masks" sComp f fd) (B : Bl mg) (DA : Has P w K mg base "added_masks" 2 ["masks", "cells"] (spAddedM K)) (DC : Has P w K mg base "cells_of" 2 ["mask"] spCellsOf) : FnOk P w K mg base CX0 3 f fd ["masks", "later"] (spComp K) := by
  obtain ⟨fA, fdA, GA, mA, kA, bA⟩ := DA
  obtain ⟨fC, fdC, GC, mC, kC, bC⟩ := DC
  refine F.ok scComp (fun vs H Q E h => ?_) (fun cdv A outer s H vs Q E hr h => ?_)
  · obtain ⟨t, u, n, A, B, rfl, _⟩ := h
    rfl
  · obtain ⟨t, u, n, M, L, rfl, ht, hu, sM, sL, n40, out⟩ := h
    refine ⟨_, pss_one (ps_ret (pe_callTy call_tuple_of (by rfl) B.tuple (by decide +kernel) (pa_cons (pe_lc (own := [("mask", 2)]) (g := gName 2) (te := tCall (spAddedM K) [] E0 (tCons (tVar 0) (tCons (tCall spCellsOf [] E0 (tCons (tVar 2) tNil)) tNil))) rfl scComp.nd (pi_tup (pv 1)) (blkOk_by (own := [("mask", 2)]) (N := nComp) (sc := defScope sComp) (by decide +kernel))
        (fun _ _ _ _ _ => pg_name (i := 2) scComp.nd rfl (Or.inl rfl)) (fun _ _ _ _ _ => pts_nil) (fun _ _ _ _ _ => by exact pe_call GA hr (by rfl) mA kA bA .nil pass0 (pa_cons (pv 0) (pa_cons (pe_call GC hr (by rfl) mC kC bC .nil pass0 (pa_cons (pv 2) pa_nil)) pa_nil)))) pa_nil))), ?_⟩
    refine ⟨_, rfl, u, rfl, ⟨_, hu⟩, fun D hD => ?_⟩
    refine lc_tup (K := K) (a := u) (xs := mV L) (fun i H' => Same H H' ∧ H' D = some (.lst (mV ((L.take i).map (comb M))))) ⟨same_new hD, upd_same⟩ (fun i H' _ h => same_sqt h.1 hu) ?_ ?_
    · rintro i x H2 hx ⟨s2, hD2⟩
      have hi : i < L.length := by
        rcases Nat.lt_or_ge i L.length with z | z
        · exact z
        · rw [List.getElem?_eq_none (by rw [mV_len]; exact z)] at hx
          cases hx
      obtain rfl : V.int ((L.getD i 0 : Nat) : Int) = x := Option.some.inj ((mV_at hi).symm.trans hx)
      have lt := getD_lt sL.lt i
      refine ⟨rfl, yesT ?_⟩
      refine ⟨_, rfl, _, rfl, L.getD i 0, rfl, Nat.lt_of_lt_of_le lt (Nat.pow_le_pow_right (by decide) n40), fun p H3 hp s3 e3 => ?_⟩
      refine ⟨t, p, M, cellsI (L.getD i 0), rfl, same_sqt (s2.trans s3) ht, SqT.of e3, by rw [sM.len]; exact cellsI_in lt, ?_⟩
      rw [← comb_cells]
      refine ⟨_, s3 _ _ hD2, ?_, ?_, ?_⟩
      · rw [mV_len, List.length_map, List.length_take]
        have := sL.len
        exact small1000 (by omega)
      · intro z o e
        rw [upd_ne (ne_of_none e hD)]
        exact s3 _ _ (s2 z o e)
      · have st : (L.take (i + 1)).map (comb M) = (L.take i).map (comb M) ++ [comb M (L.getD i 0)] := by
          rw [List.take_succ, List.getElem?_eq_getElem hi, List.map_append, List.getD_eq_getElem?_getD, List.getElem?_eq_getElem hi]
          rfl
        rw [upd_same, st]
        unfold mV
        rw [List.map_append]
        rfl
    · rintro H2 ⟨s2, hD2⟩
      rw [mV_len, List.take_length] at hD2
      refine ⟨D, _, rfl, .inl ⟨SqL.of hD2, fun l hl => ?_⟩⟩
      exact out l _ (s2.free hl) (s2.trans (same_new hl)) upd_same
/-- then -/
def spThen (C : Addr) : Sp := fun vs H Q _ => ∃ (a b : Addr) (A B : List Nat), vs = [.ref a, .ref b] ∧ Tb C H a A ∧ Tb C H b B ∧ GoodT A ∧ GoodT B ∧ A.length = B.length ∧ ∀ q H', H q = none → Same H H' → Tb C H' q (comp A B) → Q (.ref q) H'
theorem scThen : FnScope ["self", "later"] ["self", "later"] (defScope hThen) := ⟨rfl, rfl, rfl, by decide +kernel, rfl, by decide +kernel, by decide +kernel⟩
theorem ok_then {f C : Addr} {fd : FuncData} (F : Fun K "then" "Table.then" hThen f fd) (T : TC K mg C) (DK : HasM P w K mg base C "check_size" 3 ["self", "size"] (spCheck C)) (DS : HasM P w K mg base C "size" 2 ["self"] (spTSize C)) (DC : Has P w K mg base "composed_masks" 3 ["masks", "later"] (spComp K))
    (DT : Has P w K mg base "table_with" 8 ["masks"] (spTabWith K C)) : FnOk P w K mg base CX0 9 f fd ["self", "later"] (spThen C) := by
  obtain ⟨fK, fdK, GK, mK, bK⟩ := DK
  obtain ⟨fS, fdS, GS, mS, bS⟩ := DS
  obtain ⟨fC, fdC, GC, mC, kC, bC⟩ := DC
  obtain ⟨fT, fdT, GT, mT, kT, bT⟩ := DT
  refine F.ok scThen (fun vs H Q E h => ?_) (fun cdv A outer s H vs Q E hr h => ?_)
  · obtain ⟨a, b, A, B, rfl, _⟩ := h
    rfl
  · obtain ⟨a, b, M, L, rfl, hA, hB, gA, gB, el, out⟩ := h
    obtain ⟨dx, t, h1, h2⟩ := id hA
    obtain ⟨dy, u, g1, g2⟩ := id hB
    have r2 : Room 2 (A.deeper (envOfC "Table.then" (defScope hThen) s.heap.objs.size f cdv)) := hr.mono (by decide)
    have r3 : Room 3 (A.deeper (envOfC "Table.then" (defScope hThen) s.heap.objs.size f cdv)) := hr.mono (by decide)
    refine ⟨_, pss_cons (ps_expr (pe_meth (pv 0) T.cl mK GK r3 bK .nil pass0 (pa_cons (pe_meth0 (pv 1) T.cl mS GS r2 bS .nil pass0) pa_nil)))
      (pss_one (ps_ret (pe_call GT hr (by rfl) mT kT bT .nil pass0 (pa_cons (pe_call GC r3 (by rfl) mC kC bC .nil pass0 (pa_cons (pe_fld (pv 0) rfl) (pa_cons (pe_fld (pv 1) rfl) pa_nil))) pa_nil)))), ?_⟩
    refine ⟨_, rfl, a, dx, _, rfl, h1, no_fldM (by decide +kernel), _, rfl, b, dy, _, rfl, g1, no_fldM (by decide +kernel), b, L, rfl, hB, a, M, (by rw [el]; rfl), hA, ?_⟩
    refine ⟨_, rfl, a, C, dx, _, _, rfl, h1, T.cl, T.nM, fldM, _, rfl, b, C, dy, _, _, rfl, g1, T.cl, T.nM, fldM, t, u, M.length, M, L, rfl, SqT.of h2, SqT.of g2, gA.sz, ⟨el.symm, by rw [el]; exact gB.lt⟩, gA.l40, fun q H1 hq s1 e1 => ?_⟩
    exact ⟨q, _, rfl, SqT.of e1, good_comp gA gB el, fun x H2 hx s2 tb => out x H2 (s1.free hx) (s1.trans s2) tb⟩
/-- inverse -/
def spInv (C : Addr) : Sp := fun vs H Q _ => ∃ (a : Addr) (A : List Nat), vs = [.ref a] ∧ Tb C H a A ∧ GoodT A ∧ ∀ q G H', Inv2 A.length A G → H q = none → Same H H' → Tb C H' q G → Q (.ref q) H'
abbrev nInv : List Str := ["self", "pivots", "rows", "cell", "rest", "added"]
theorem scInv : FnScope nInv ["self"] (defScope hInv) := ⟨rfl, rfl, rfl, by decide +kernel, rfl, by decide +kernel, by decide +kernel⟩
theorem rest_zero {ms : List Nat} {n r : Nat} {ps : List (Nat × Nat)} (po : PvOk ms n ps) (lp : ps.length = n) (lt : ∀ m ∈ ms, m < 2 ^ n) (hr : r < 2 ^ n) (no : ∀ q ∈ ps, bl q.1 ≠ bl r) : r = 0 := by
  cases e : decide (r = 0) with
  | true => exact of_decide_eq_true e
  | false =>
    exfalso
    have r0 : r ≠ 0 := of_decide_eq_false e
    have z := full po.keys (by rw [List.length_map]; exact lp) (fun x hx => by
      obtain ⟨p, hp, rfl⟩ := List.mem_map.mp hx
      obtain ⟨p0, p1, p2⟩ := po.each p hp
      exact ⟨bl_pos p0, bl_le (by rw [p1]; exact comb_lt ms _ lt)⟩) (bl_pos r0) (bl_le hr)
    obtain ⟨p, hp, ep⟩ := List.mem_map.mp z
    exact no p hp ep
theorem ok_inv {f C : Addr} {fd : FuncData} (F : Fun K "inverse" "Table.inverse" hInv f fd) (B : Bl mg) (T : TC K mg C) (DP : Has P w K mg base "pivots_of" 3 ["masks"] (spPivots K)) (DS : HasM P w K mg base C "size" 2 ["self"] (spTSize C)) (DR : Has P w K mg base "reduced" 2 ["pivots", "mask"] spReduced)
    (DC : Has P w K mg base "cells_of" 2 ["mask"] spCellsOf) (DI : HasTI P w K mg base C) : FnOk P w K mg base CX0 8 f fd ["self"] (spInv C) := by
  obtain ⟨fP, fdP, GP, mP, kP, bP⟩ := DP
  obtain ⟨fS, fdS, GS, mS, bS⟩ := DS
  obtain ⟨fR, fdR, GR, mR, kR, bR⟩ := DR
  obtain ⟨fC, fdC, GC, mC, kC, bC⟩ := DC
  obtain ⟨fI, fdI, GI, MI, bI⟩ := DI
  refine F.ok scInv (fun vs H Q E h => ?_) (fun cdv A outer s H vs Q E hr h => ?_)
  · obtain ⟨a, A, rfl, _⟩ := h
    rfl
  · obtain ⟨a, M, rfl, hA, gA, out⟩ := h
    obtain ⟨dx, t, h1, h2⟩ := id hA
    have r2 : Room 2 (A.deeper (envOfC "Table.inverse" (defScope hInv) s.heap.objs.size f cdv)) := hr.mono (by decide)
    have r3 : Room 3 (A.deeper (envOfC "Table.inverse" (defScope hInv) s.heap.objs.size f cdv)) := hr.mono (by decide)
    refine ⟨_, pss_cons (ps_set (i := 1) scInv.nd rfl (Or.inl rfl) (pe_call GP r3 (by rfl) mP kP bP .nil pass0 (pa_cons (pe_fld (pv 0) rfl) pa_nil)))
      (pss_cons (ps_set (i := 2) scInv.nd rfl (Or.inl rfl) (pe_lst pa_nil))
      (pss_cons (ps_for PassesOwn.never rfl (pi_range1 (by rfl) B.range (pa_cons (pe_meth0 (pv 0) T.cl mS GS r2 bS .nil pass0) pa_nil)) (pg_name (i := 3) scInv.nd rfl (Or.inl rfl))
        (pss_cons (ps_asg (pe_call GR r2 (by rfl) mR kR bR .nil pass0 (pa_cons (pv 1) (pa_cons (pe_op op_oneShl pe_int (pv 3)) pa_nil))) (pg_tup rfl (pgs_cons (pg_name (i := 4) scInv.nd rfl (Or.inl rfl)) (pgs_cons (pg_name (i := 5) scInv.nd rfl (Or.inl rfl)) pgs_nil))))
        (pss_one (ps_expr (pe_bm PySem.F.plainAttrs_list PySem.F.slot_list_append PySem.F.type_list_append mt_append (pv 2) (pa_cons (pe_call GC r2 (by rfl) mC kC bC .nil pass0 (pa_cons (pv 5) pa_nil)) pa_nil))))))
      (pss_one (ps_ret (pe_make (E := E0) MI GI hr (by rfl) T.mgC bI .nil pass0 (pa_cons (pv 2) pa_nil)))))), ?_⟩
    have l40 := gA.l40
    refine ⟨_, rfl, a, C, dx, _, _, rfl, h1, T.cl, T.nM, fldM, t, M, rfl, SqT.of h2, l40, gA.ind, fun d ps H1 hd s1 pa po lp => ?_⟩
    refine ⟨(by show 0 ≤ sizeLine; decide), fun L hL => ?_⟩
    have s2 := same_new (o := .lst []) hL
    have s12 := s1.trans s2
    refine ⟨_, rfl, a, dx, _, rfl, s12 _ _ h1, no_fldM (by decide +kernel), a, M, rfl, hA.same s12, _, rfl, by omega, by omega, ?_⟩
    refine for_range (lo := 0) (fun i σ H' => Same H1 H' ∧ ∃ (v3 v4 v5 : Option V) (xs : List Addr) (gs : List Nat), σ = [some (.ref a), some (.ref d), some (.ref L), v3, v4, v5] ∧ H' L = some (.lst (xs.map V.ref)) ∧ TupsAt H' xs (gs.map cellsI) ∧ gs.length = i ∧ (∀ m ∈ gs, m < 2 ^ M.length) ∧ ∀ j, j < i → comb M (gs.getD j 0) = 2 ^ j)
      ⟨s2, none, none, none, [], [], rfl, upd_same, True.intro, rfl, (fun m hm => nomatch hm), fun j hj => absurd hj (Nat.not_lt_zero j)⟩ ?_ ?_
    · rintro i σ H2 hi ⟨s3, v3, v4, v5, xs, gs, rfl, eL, tu, lg, glt, ge⟩
      have hi2 : i < M.length := by omega
      refine ⟨_, rfl, _, rfl, i, rfl, (by rw [Int.zero_add]), by omega, ?_⟩
      have e2 : ((2 : Int) ^ i) = ((2 ^ i : Nat) : Int) := by
        rw [Int.natCast_pow]
        rfl
      dsimp only []
      rw [e2]
      refine ⟨d, 2 ^ i, M, M.length, ps, rfl, pa.same s3, po, fun p r ad H3 hp s4 ep er ha no => ?_⟩
      have p2 : 2 ^ i < 2 ^ M.length := Nat.pow_lt_pow_right (by decide) hi2
      have r0 := rest_zero po lp gA.lt (by rw [er]; exact xor_lt p2 (comb_lt M ad gA.lt)) no
      have ec : comb M ad = 2 ^ i := by
        by_cases z : 2 ^ i = comb M ad
        · exact z.symm
        · exact absurd (er.symm.trans r0) (xor_ne z)
      refine ⟨p, _, rfl, SqT.of ep, rfl, _, _, rfl, _, _, rfl, rfl, ?_⟩
      refine ⟨_, rfl, .inl ⟨rfl, _, SqL.of (s4 _ _ eL)⟩, _, rfl, ad, rfl, Nat.lt_of_lt_of_le ha (Nat.pow_le_pow_right (by decide) l40), fun q H4 hq s5 eq => ?_⟩
      have s35 := s4.trans s5
      have eL4 := s35 _ _ eL
      refine ⟨L, _, _, rfl, rfl, eL4, ?_, ?_⟩
      · rw [List.length_map, tu.len, List.length_map, lg]
        exact small1000 (by omega)
      · refine ⟨?_, _, _, _, xs ++ [q], gs ++ [ad], rfl, ?_, ?_, ?_, ?_, ?_⟩
        · intro z o e
          have zL : z ≠ L := ne_of_none e hL
          rw [upd_ne zL]
          exact s35 _ _ (s3 z o e)
        · rw [upd_same, List.map_append]
          rfl
        · rw [List.map_append]
          refine ((tu.mono fun x us q => s35 _ _ q).snoc eq).mono fun x us q => ?_
          rw [upd_ne fun z => by rw [z, eL4] at q; cases q]
          exact q
        · rw [List.length_append, lg]
          rfl
        · intro m hm
          rcases List.mem_append.mp hm with z | z
          · exact glt m z
          · rw [List.mem_singleton.mp z]
            exact ha
        · intro j hj
          rw [List.getD_eq_getElem?_getD]
          rcases Nat.lt_or_ge j i with z | z
          · rw [List.getElem?_append_left (by omega), ← List.getD_eq_getElem?_getD]
            exact ge j z
          · have : j = i := by omega
            subst this
            rw [List.getElem?_append_right (by omega), lg, Nat.sub_self]
            exact ec
    · rintro σ H2 ⟨s3, v3, v4, v5, xs, gs, rfl, eL, tu, lg, glt, ge⟩
      have lg2 : gs.length = M.length := by omega
      have iv := inv_of gA.sz gA.ind ⟨lg2, glt⟩ (fun i hi => ge i (by omega))
      have gG := good_inv iv gA
      have gt2 : GoodT ((gs.map cellsI).map maskI) := by
        rw [rows_back]
        exact gG
      refine ⟨_, rfl, made_table (.inl (SqL.of eL)) tu.rows (rows_ok gG) gt2 fun x H3 hx s4 tb => ?_⟩
      rw [rows_back] at tb
      exact out x gs H3 iv (s1.free (s3.free hx)) ((s1.trans s3).trans s4) tb
end
end K49
namespace Par
open PySem PySem.Spec PyProof.Rows L2
/-! ### repr of a list of things, each of which can be shown by itself -/
inductive DxAll (K : PySem.W.Frag) (H : Hp) : List V → List PyData → Prop
  | nil : DxAll K H [] []
  | cons {v : V} {vs : List V} {d : PyData} {ds : List PyData} : Dx K H v d → DxAll K H vs ds → DxAll K H (v :: vs) (d :: ds)
/-- each item can be read by itself -/
inductive Each (h : Heap) : List Value → List PyData → Prop
  | nil : Each h [] []
  | cons {v : Value} {vs : List Value} {d : PyData} {ds : List PyData} {as : List Addr} : Reads h v d as → (d.hasDict = true → sysModules ∉ as) → Each h vs ds → Each h (v :: vs) (d :: ds)
theorem each_of {X : Cx} {pins : List (Addr × Obj)} {σ : L2.St} {H : Hp} {s : Shared} (I : L2.Inv X pins σ H s) : ∀ {vs : List V} {ds : List PyData} {us : List Value}, DxAll X.K H vs ds → Vals vs us → Each s.heap us ds
  | _, _, _, .nil, .nil => .nil
  | _, _, _, .cons h1 h2, .cons r1 r2 => by
    obtain ⟨as, q, n⟩ := dx_reads I h1 r1
    exact .cons q n (each_of I h2 r2)
theorem each_reads {h : Heap} : ∀ {vs : List Value} {ds : List PyData}, Each h vs ds → ∃ as, ReadsAll h vs ds as
  | _, _, .nil => ⟨_, ReadsAll.nil⟩
  | _, _, .cons q _ r => by
    obtain ⟨as, q2⟩ := each_reads r
    exact ⟨_, ReadsAll.cons q q2⟩
theorem each_shown {prog : Program} {w : World} {h : Heap} : ∀ {vs : List Value} {ds : List PyData}, Each h vs ds → PyData.showableAll ds = true → (∀ t ∈ PyData.shownAll ds, t.length ≤ sizeLine) →
    ∃ bs, ReadAtMost h (PyData.depthAll ds) bs ∧ ReprAllK prog w bs h (PyData.depthAll ds) vs (PyData.shownAll ds)
  | _, _, .nil, _, _ => ⟨[], (fun _ z => nomatch z), .nil⟩
  | _, _, .cons (d := d) (ds := ds) q n r, sh, hz => by
    have both : d.showable = true ∧ PyData.showableAll ds = true := by simpa [PyData.showableAll] using sh
    obtain ⟨b1, m1, k1⟩ := ReprK.of_reads (prog := prog) (w := w) q both.1 n (hz _ (by simp only [PyData.shownAll]; exact List.mem_cons_self ..))
    obtain ⟨b2, m2, k2⟩ := each_shown (prog := prog) (w := w) r both.2 fun t ht => hz t (by simp only [PyData.shownAll]; exact List.mem_cons_of_mem _ ht)
    have l1 : d.depth ≤ PyData.depthAll (d :: ds) := by simp only [PyData.depthAll]; omega
    have l2 : PyData.depthAll ds ≤ PyData.depthAll (d :: ds) := by simp only [PyData.depthAll]; omega
    refine ⟨b1 ++ b2, (m1.mono l1).append (m2.mono l2), ?_⟩
    simp only [PyData.shownAll]
    exact .cons ((k1.more fun b hb => List.mem_append_left _ hb).level_le l1) (k2.more_le (fun b hb => List.mem_append_right _ hb) l2)
section
variable {X : Cx}
/-- repr([..]), each item a thing that can be shown -/
def rReprL (K : PySem.W.Frag) : List V → Hp → VK → Prop := fun xs H Q => ∃ (a : Addr) (vs : List V) (ds : List PyData), xs = [.ref a] ∧ H a = some (.lst vs) ∧ DxAll K H vs ds ∧ vs ≠ [] ∧
  (PyData.list ds).showable = true ∧ (PyData.list ds).depth ≤ 40 ∧ (PyData.list ds).shown.length ≤ sizeLine ∧ Q (.str (PyData.list ds).shown) H
theorem cr_reprL (gs : X.A.guards = some []) (hu : X.A.units + 64 < cLine) : CallR X (.builtin "repr") (rReprL X.K) := by
  intro pins s σ H xs us Q I r h
  obtain ⟨a, vs, ds, rfl, e, hd, ne, sh, dep, len, q⟩ := h
  cases r with
  | @cons _ u _ _ r1 r2 =>
    cases r2
    cases r1
    obtain ⟨its, rv, ⟨o, n, ho, hc, _, hdt⟩, _⟩ := I.list (a := a) (xs := vs) (SqL.of e)
    have each := each_of I hd rv
    obtain ⟨as, all⟩ := each_reads each
    have len' : (listText (PyData.shownAll ds)).length ≤ sizeLine := by simpa only [PyData.shown] using len
    obtain ⟨bs, most, shows⟩ := each_shown (prog := X.prog) (w := X.w) each (by simpa [PyData.showable] using sh) fun t ht => Nat.le_trans (listText_mem_le ht) len'
    have out : a ∉ bs := not_mem_of_deeper (.list ho hc hdt all) (by simp only [PyData.depth]; omega) most
    simp only [PyData.depth] at dep
    have fin : ∀ (h' : Heap) (tk u' : Nat), (∀ b o, s.heap.get? b = some o → h'.get? b = some o) → EP X pins σ Q (.str (PyData.list ds).shown u') { s with heap := h', toks := tk } :=
      fun h' tk u' k => ⟨.str (PyData.list ds).shown, H, I.un (t' := tk) (Un.kept k) (I.hok.kept k), ⟨_, rfl⟩, q⟩
    cases its with
    | nil =>
      cases rv
      exact absurd rfl ne
    | cons x l =>
      refine call_repr_slot (by omega) ⟨o, ho, hc⟩ F.slot_list_repr.toG ?_
      refine call_list_reprK ho hc hdt out (by simpa using shows.length_eq) (fun i y ey => shows.item i y (by simpa using ey)) gs (fun b _ => Clear.nil b) (by show X.A.units + 1 + _ < cLine; omega) (fun _ _ z => z) ?_ len'
      intro h' u tk k
      exact ⟨_, _, rfl, by simpa only [PyData.shown] using fin h' tk u k⟩
end
/-- list != list: unlike lengths -/
def rNeLen : R2 := fun x y H Q => ∃ a b xs ys, x = .ref a ∧ y = .ref b ∧ H a = some (.lst xs) ∧ H b = some (.lst ys) ∧ xs.length ≠ ys.length ∧ Q (.bl true) H
theorem op_neLen {X : Cx} (hu : X.A.units < cLine) : OpR X (compareOp .NotEq) rNeLen := by
  intro pins s σ H x y v u Q I rx ry h
  obtain ⟨a, b, xs, ys, rfl, rfl, ha, hb, ne, q⟩ := h
  cases rx
  cases ry
  obtain ⟨its, rv, p1, _⟩ := I.list (a := a) (xs := xs) (SqL.of ha)
  obtain ⟨its2, rv2, p2, _⟩ := I.list (a := b) (xs := ys) (SqL.of hb)
  refine SeqAt.RcNeAt.lists_lengths p1.isList p2.isList ?_ hu X.prog X.w X.xe _ ⟨.bl true, H, I, rfl, q⟩
  have l1 := rv.length
  have l2 := rv2.length
  simp only [List.size_toArray, bne_iff_ne]
  omega
theorem opR_or {X : Cx} {f : Value → Value → Sem Value} {r1 r2 : R2} (h1 : OpR X f r1) (h2 : OpR X f r2) : OpR X f (fun x y H Q => r1 x y H Q ∨ r2 x y H Q) := by
  intro pins s σ H x y v u Q I rx ry h
  rcases h with h | h
  · exact h1 pins s σ H x y v u Q I rx ry h
  · exact h2 pins s σ H x y v u Q I rx ry h
end Par
namespace GN
open PySem PySem.SeqAt
open AutoSeq1 (wpAny_loadPart')
open MeetsSeq MeetsSeq2
open MeetsSeq3 SeqRoads2
section
variable {prog : Program} {w : World} {A : Around} {R : Result → Shared → Prop}
/-- the loop of list != list, where the items are equal two by two -/
theorem ne_loop (l b : Addr) (N : Nat) (Iv : Nat → Shared → Prop) (hl : GQ.ListI prog w A (fun e s' => R (.error e) s') l b N Iv) (fin : ∀ s, Iv N s → R (.ok (.ret (.bool false))) s) :
    ∀ (k i : Nat), N - i = k → i ≤ N → ∀ s, Iv i s →
      wpAny (model prog w) A.in1 (Builtin.«list.__eq__.loop» ⟨[.ref l, .ref b, rawInt i, rawInt 3], []⟩) (GQ.FinOf prog w A R) (fun e s' => R (.error e) s') s := by
  intro k
  induction k with
  | zero =>
    intro i hk hi s h
    obtain ⟨xs, ys, n, n2, e1, e2, z1, z2, _⟩ := hl _ _ h
    have ei : i = N := by omega
    have last : R (.ok (.ret (.bool false))) s := fin s (ei ▸ h)
    obtain ⟨hp, g, d, tk, os⟩ := s
    wp_walk using wpAny_loadPart' e1, wpAny_loadPart' e2
    have o1 : xs[((i : Nat) : Int).toNat]? = none := by
      simp
      omega
    have o2 : ys[((i : Nat) : Int).toNat]? = none := by
      simp
      omega
    rw [o1, o2]
    wp_walk using wpAny_loadPart' e1, wpAny_loadPart' e2
    show R (.ok (.ret (.bool (xs.size != ys.size)))) _
    rw [z1, z2]
    simpa using last
  | succ k ih =>
    intro i hk hi s h
    obtain ⟨xs, ys, n, n2, e1, e2, z1, z2, turn⟩ := hl _ _ h
    have l1 : i < xs.size := by omega
    have l2 : i < ys.size := by omega
    have here := turn l1 l2
    obtain ⟨hp, g, d, tk, os⟩ := s
    wp_walk using wpAny_loadPart' e1, wpAny_loadPart' e2
    have o1 : xs[((i : Nat) : Int).toNat]? = some xs[i] := by simp [l1]
    have o2 : ys[((i : Nat) : Int).toNat]? = some ys[i] := by simp [l2]
    have next : ((i : Int) + 1) = ((i + 1 : Nat) : Int) := by omega
    rw [o1, o2]
    refine wpAny_bind (wpAny_mono here (fun r s2 got => ?_) fun _ _ x => x)
    obtain ⟨er, got⟩ := got
    subst er
    have more := ih (i + 1) (by omega) (by omega) s2 got
    obtain ⟨hp2, g2, d2, tk2, os2⟩ := s2
    wp_walk
    rw [next]
    refine ⟨plainId_quiet plain_eq_loop _, codeAny_builtin entry_eq_loop ?_⟩
    rw [Around.under_plainId plain_eq_loop _]
    exact more
theorem list_ne (l b : Addr) (N : Nat) (Iv : Nat → Shared → Prop) (hl : GQ.ListI prog w A (fun e s' => R (.error e) s') l b N Iv) (fin : ∀ s, Iv N s → R (.ok (.ret (.bool false))) s) {s : Shared} (h : Iv 0 s) :
    wpAny (model prog w) A.in1 (Builtin.«list.__ne__» ⟨[.ref l, .ref b], []⟩) (GQ.FinOf prog w A R) (fun e s' => R (.error e) s') s := by
  obtain ⟨xs, ys, n, n2, e1, e2, z1, z2, _⟩ := hl _ _ h
  have go := ne_loop (A := A) (R := R) l b N Iv hl fin _ 0 rfl (Nat.zero_le _) s h
  obtain ⟨hp, g, d, tk, os⟩ := s
  have f3 := AutoSeq1.sub_list_list
  have same : ¬ (xs.size != ys.size) = true := by simp [z1, z2]
  wp_walk using wpAny_loadPart' e1, wpAny_loadPart' e2
  refine ⟨plainId_quiet plain_eq_loop _, codeAny_builtin entry_eq_loop ?_⟩
  rw [Around.under_plainId plain_eq_loop _]
  exact go
end
section
variable {prog : Program} {w : World} {A : Around} {E : Value → Shared → Prop} {s : Shared}
theorem rc_ne {l b : Addr} {N : Nat} {Q : Value → Shared → Prop} (hu : A.units < cLine) (Iv : Nat → Shared → Prop) (hl : GQ.ListI prog w A E l b N Iv) (fin : ∀ s, Iv N s → Q (.bool false) s) (h : Iv 0 s) :
    wpAny (model prog w) A (richCompare .NotEq (.ref l) (.ref b)) Q E s := by
  obtain ⟨xs, ys, n, n2, e1, e2, _, _, _⟩ := hl _ _ h
  refine wpAny_richCompare_same_room (op := .NotEq) ⟨_, e1, rfl⟩ ⟨_, e2, rfl⟩ F.slot_list_ne (GQ.call_here F.slot_list_ne ⟨_, e1, rfl⟩ F.entry_list_ne (F.args_list_ne_2 _ _) ?_) hu
  exact list_ne (R := wants (fun v s' => v ≠ .notImplemented ∧ Q v s') E) l b N Iv hl (fun s' q => ⟨(fun x => nomatch x), fin s' q⟩) h
end
end GN
namespace Par
open PySem PySem.Spec PyProof.Rows L2
section
variable {X : Cx} {n : Nat} {D : Eqv}
/-- list != list, the items equal two by two -/
def rNeG (D : Eqv) : R2 := fun x y H Q => DList D x y H ∧ ∀ H', Ext H H' → Q (.bl false) H'
theorem op_neG (hD : Mon D) (h : EqG X n D) (hr : Room (n + 1) X.A) : OpR X (compareOp .NotEq) (rNeG D) := by
  intro pins s σ H x y v u Q I rx ry hq
  obtain ⟨⟨a, b, xs, ys, rfl, rfl, ha, hb, p⟩, q⟩ := hq
  cases rx
  cases ry
  have sb : L2.Sub X (n + 1) X.A := ⟨hr, rfl⟩
  show wpAny (model X.prog X.w) X.A (richCompare .NotEq (.ref a) (.ref b)) (EP X pins σ Q) X.xe s
  refine GN.rc_ne (N := xs.length) hr.units0 (fun _ s' => LoopI X pins σ H s') ?_ ?_ ⟨H, I, Ext.rfl'⟩
  · intro i s' lp
    obtain ⟨H1, I1, e1⟩ := id lp
    obtain ⟨z, its, k, r, e⟩ := I1.hok a _ (e1 _ _ ha)
    obtain ⟨z2, its2, k2, r2, e2⟩ := I1.hok b _ (e1 _ _ hb)
    refine ⟨its.toArray, its2.toArray, k, k2, e, e2, by rw [List.size_toArray, ← r.length], by rw [List.size_toArray, ← r2.length, ← p.1], ?_⟩
    intro h1 h2
    exact turnG hD h sb p r r2 i h1 h2 s' lp
  · rintro s' ⟨H1, I1, e1⟩
    exact ⟨.bl false, H1, I1, rfl, q H1 e1⟩
end
end Par
namespace Par
open PySem PySem.Spec PyProof.Rows L2

/-! A def's promise where something may be shown around it: what the guards name is tracked. -/
structure FnH (P : Program) (w : World) (K : PySem.W.Frag) (mg : Str → Option Value) (base : Heap) (CX : CXT) (k : Nat)
    (f : Addr) (fd : FuncData) (ps : List Str) (sp : Sp) : Prop where
  arity : ∀ vs H Q E, sp vs H Q E → vs.length = ps.length
  go : ∀ (g : List Code) (A : Around) (outer : List Env) (s : Shared) (H : Hp) (args : Args) (us : List Value) (vs : List V) (Q : VK) (E : XK),
    A.guards = some g → (∀ b, H b = none → Clear g b) → Room k A → Env0 P w K mg base A outer s H → BindsTo s fd args (ps.zip us) → Vals vs us →
    sp vs H Q E → codeAny (model P w) A (.call (.ref f) args) (CR CX outer P w H s Q E) s

section
variable {P : Program} {w : World} {K : PySem.W.Frag} {mg : Str → Option Value} {base : Heap}
theorem FnH.fnG {CX : CXT} {k : Nat} {f : Addr} {fd : FuncData} {ps : List Str} {sp : Sp} (F : FnH P w K mg base CX k f fd ps sp) : FnG P w K mg base CX k f fd ps sp :=
  ⟨F.arity, fun A outer s H args us vs Q E gs => F.go [] A outer s H args us vs Q E gs fun b _ => Clear.nil b⟩
theorem fnH_of {k : Nat} {x qual : Str} {st : Stmt} {f : Addr} {fd : FuncData} {N ps : List Str} {sp : Sp}
    (F : Fun K x qual st f fd) (S : FnScope N ps (defScope st))
    (arity : ∀ vs H Q E, sp vs H Q E → vs.length = ps.length)
    (body : ∀ (g : List Code) (cdv : Value) (A : Around) (outer : List Env) (s : Shared) (H : Hp) (vs : List V) (Q : VK) (E : XK),
      A.guards = some g → (∀ b, H b = none → Clear g b) → Room k (A.deeper (envOfC qual (defScope st) s.heap.objs.size f cdv)) → sp vs H Q E →
      ∃ t, PSs (cxOf CX0 P w K mg base N qual (defScope st) f cdv A outer s H E).nox (defBody st) t ∧
        t { nx := fun _ H' => Q .non H', rt := Q } (start N vs) H) :
    FnH P w K mg base CX0 (k + 1) f fd ps sp := by
  obtain ⟨oc, od, kV, doc, pm, an, cdv, ct, osl, efd, lk, hcd⟩ := F.ex
  subst efd
  constructor
  · exact arity
  intro g A outer s H args us vs Q E gs cl room e0 bound rel hsp
  have lens := arity _ _ _ _ hsp
  have kin : K.In s.heap := e0.mod.kin.keeps (fun b o z => (e0.bs b o z).1)
  have nolim : s.heap.NoLimit := e0.mod.nolimit.keeps (fun b o z => (e0.bs b o z).1)
  have kinds : ∀ y ∈ ps.zip us, (defScope st).names.lookup y.1 = some .local ∨ ((defScope st).names.lookup y.1 = some .cell ∧
      ((cellsFrom (s.heap.objs.size + 1) (defScope st).names []).lookup y.1).isSome = true) := by
    rintro ⟨n, v⟩ hy
    cases S.par n (List.of_mem_zip hy).1 with
    | inl q => exact Or.inl q
    | inr q => exact Or.inr ⟨q, PySem.W.cellsFrom_some _ _ _ (Or.inl q)⟩
  refine codeAny_call_function room.depth (kin _ _ lk) rfl S.co S.gen rfl (PySem.W.codeRec_of kin hcd) (bound _ _ _ _ ?_)
  refine wpAny_newFunctionEnv_cells S.kind kinds ?_
  intro env he s1 x1
  subst he
  refine ⟨nolim.keeps x1.toInCall.keep, codeAny_func ?_⟩
  obtain ⟨t, ht, hq⟩ := body g cdv A outer s H vs Q E gs cl (room.deeper _) hsp
  have I := inv_start (CX := CX0) (E := E) (w := w) S room.hd e0 lens rel x1
  refine wpAny_mono (ht.nox.run [] s1 (start N vs) H _ I hq) ?_ (fun e s' hs => hs)
  intro fl s' hs
  cases fl with
  | ret u =>
    obtain ⟨v, σ1, H1, J, rv, q⟩ := hs
    exact ⟨v, H1, J.os, J.bare, J.base, J.hok, rv, q⟩
  | next =>
    obtain ⟨σ1, H1, J, q⟩ := hs
    exact ⟨V.non, H1, J.os, J.bare, J.base, J.hok, rfl, q⟩
  | brk => exact (let ⟨_, _, _, q⟩ := hs; False.elim q)
  | cont => exact (let ⟨_, _, _, q⟩ := hs; False.elim q)
end

section
variable {X : Cx}
/-! ### {x!r}, x a list of ints that the guards do not name -/
theorem ints_shown {prog : Program} {w : World} {h : Heap} : ∀ {ns : List Int} {us : List Value}, Vals (ns.map V.int) us → PyData.showableAll (ns.map PyData.int) = true → ReprAllK prog w [] h 0 us (PyData.shownAll (ns.map PyData.int))
  | [], _, .nil, _ => .nil
  | n :: ns, _, .cons r rs, sh => by
    have both : (PyData.int n).showable = true ∧ PyData.showableAll (ns.map PyData.int) = true := by simpa [PyData.showableAll] using sh
    obtain ⟨t, rfl⟩ := r
    refine ReprAllK.cons ?_ (ints_shown rs both.2)
    simp only [PyData.shown]
    exact .of_is (ReprIs.int t (by simpa [PyData.showable] using both.1)) _ _ _
def tFmtH (g : List Code) (te : TE) : TE := fun σ H Q => te σ H fun x H1 => ∃ (a : Addr) (ns : List Int), x = .ref a ∧ Clear g a ∧ H1 a = some (.lst (ns.map V.int)) ∧ (PyData.list (ns.map .int)).showable = true ∧
  (PyData.list (ns.map .int)).shown.length ≤ sizeLine ∧ Q (.str (PyData.list (ns.map .int)).shown) H1
theorem pe_fmtH {e : Expr} {te : TE} {pos : Pos} {g : List Code} (gs : X.A.guards = some g) (hu : X.A.units + 64 < cLine) (he : PE X e te) : PE X (.FormattedValue e 114 none pos) (tFmtH g te) := by
  refine ⟨fun pins s σ H Q I h => ?_⟩
  refine wpAny_FormattedValue_repr (thn (he.run pins s σ H _ I h) fun w1 t1 got => ?_)
  obtain ⟨x, H1, I1, r1, a, ns, rfl, cl, ha, sh, len, q⟩ := got
  cases r1
  obtain ⟨its, n, rv, ho, hz⟩ := I1.lst ha
  have shows := ints_shown (prog := X.prog) (w := X.w) (h := t1.heap) rv (by simpa [PyData.showable] using sh)
  have fin : ∀ (h' : Heap) (u tk : Nat), (∀ b o, t1.heap.get? b = some o → h'.get? b = some o) → wpAny (model X.prog X.w) X.A (formatField (.str (PyData.list (ns.map PyData.int)).shown u) Str.empty) (EP X pins σ Q) X.xe { t1 with heap := h', toks := tk } :=
    fun h' u tk k => wpAny_formatField_str ⟨.str _, H1, I1.un (Un.kept k) (I1.hok.kept k), ⟨_, rfl⟩, q⟩ ⟨.str _, H1, I1.un (Un.kept k) (I1.hok.kept k), ⟨_, rfl⟩, q⟩ len
  cases its with
  | nil =>
    have z : ns = [] := by
      cases ns with
      | nil => rfl
      | cons _ _ => cases rv
    subst z
    exact wpAny_pyReprObj_list_empty ⟨_, ho, rfl⟩ (by omega) ho rfl (fin t1.heap _ _ fun _ _ e => e)
  | cons y l =>
    refine wpAny_pyReprObj_listK (as := []) (h₀ := t1.heap) (d := 0) ho rfl rfl (by simp) (by simpa using shows.length_eq) (fun i z ez => shows.item i z (by simpa using ez)) gs (fun b hb => ?_) (by omega) (fun _ _ z => z) (fun h' u tk k => ?_) (by simpa only [PyData.shown] using len)
    · rw [List.mem_singleton.mp hb]
      exact cl
    · have := fin h' u tk k
      simpa only [PyData.shown] using this

/-! ### an own object, shown within a list -/
abbrev Shw := V → Str → Hp → Prop
def ShG (X : Cx) (n : Nat) (D : Shw) : Prop := ∀ (A : Around) (g : List Code) (base : Nat) (pins : List (Addr × Obj)) (s : Shared) (σ : L2.St) (H : Hp) (x : V) (u : Value) (t : Str),
  A.guards = some g → (∀ b, H b = none → Clear g b) → L2.Sub X n A → Inv X pins σ H s → RelV x u → D x t H → base + t.length ≤ sizeLine →
    wpAny (model X.prog X.w) A (pyReprUnder base u) (fun r s' => r = t ∧ ∃ H', Inv X pins σ H' s' ∧ Same H H') X.xe s
def spShow (R : Addr → Str → Hp → Prop) : Sp := fun vs H Q _ => ∃ (a : Addr) (t : Str), vs = [.ref a] ∧ R a t H ∧ ∀ H', Same H H' → Q (.str t) H'
def DOwn (C : Addr) (R : Addr → Str → Hp → Prop) : Shw := fun x t H => ∃ a dx fs, x = .ref a ∧ H a = some (.ins C dx fs) ∧ R a t H
theorem boundBy_K {M : Model} {A : Around} {E : Value → Shared → Prop} {s : Shared} {K : PySem.W.Frag} {x C f : Addr} {ox : Obj} {od : Option Obj} {name : Str} {last : Value → List Value → Sem Value} {Q : Option Value → Shared → Prop}
    (X : K.In s.heap) (I : PySem.W.InstAt s.heap x ox C od) (hs : PySem.W.findIn K (.ref C) name = some (some (.ref f))) (hf : PySem.W.isFn K (.ref f) = true)
    (h : wpAny M A (last (.ref f) [.ref x]) (fun v => Q (some v)) E s) : wpAny M A (callSpecialIfBoundBy? last (.ref x) name) Q E s := by
  simp only [callSpecialIfBoundBy?, bindSpecialIfBound?]
  refine wpAny_holding (wpAny_bind (wpAny_bind (wpAny_bind (I.type.here ((PySem.W.looks_findIn X hs).here ?_)))))
  refine wpAny_bind (wpAny_askSetting (wpAny_ite ?_))
  have fin : wpAny M A (last (.ref f) [.ref x] >>= fun v => pure (some v)) Q E s := wpAny_bind (wpAny_mono h (fun v s' h' => wpAny_pure h') fun _ _ h' => h')
  split
  · exact wpAny_bind ((PySem.W.bind_fn X _ (beq_iff_eq.mp hf)).here (wpAny_pure (by exact fin)))
  · exact wpAny_tryCatch (wpAny_bind ((PySem.W.bind_fn X _ (beq_iff_eq.mp hf)).here (wpAny_pure (by exact fin))))
theorem shG_own {CX : CXT} {n : Nat} {C f : Addr} {fd : FuncData} {ps : List Str} {R : Addr → Str → Hp → Prop} {E : XK} (F : FnH X.prog X.w X.K X.mg X.base CX n f fd ps (spShow R))
    (hs : PySem.W.findIn X.K (.ref C) "__repr__" = some (some (.ref f))) (hf : PySem.W.isFn X.K (.ref f) = true) (hb : Binds X.K fd ps []) (hx : Passes CX X E) : ShG X n (DOwn C R) := by
  intro A g base pins s σ H x u t gs cl sb I rx d len
  obtain ⟨a, dx, fs, rfl, ha, hr⟩ := d
  cases rx
  obtain ⟨mA, J, _⟩ := ins_get I.hok ha
  obtain ⟨od, J, _⟩ := J.look
  refine wpAny_pyReprUnder_ref (by omega) ?_
  unfold pyReprObjUnder pyReprObjBy
  refine wpAny_bind (wpAny_cRoomFor sb.room.units0 ?_)
  refine wpAny_bind (wpAny_bind (J.type.here ((PySem.W.looks_findIn I.kIn hs).here ?_)))
  show wpAny _ _ (if (some (Value.ref f)).isNone = true then _ else _) _ _ _
  rw [if_neg (by simp)]
  refine wpAny_bind (boundBy_K (name := Str.ofString "__repr__") I.kIn J hs hf ?_)
  have hsp : spShow R [.ref a] H (fun v H' => v = .str t ∧ Same H H') E := ⟨a, t, rfl, hr, fun H' e => ⟨rfl, e⟩⟩
  have e0 : Env0 X.prog X.w X.K X.mg X.base A X.stack s H := by
    have e := I.env0
    exact ⟨by rw [sb.fr]; exact e.frames, e.mod, e.bs, e.bsz, e.funs, e.frf, e.hok, e.bare⟩
  have hl := F.arity _ _ _ _ hsp
  refine wpAny_call (codeAny_mono (F.go g A X.stack s H ⟨[.ref a], []⟩ [.ref a] [.ref a] _ E gs cl sb.room e0 (by
    have := hb s [.ref a] I.kIn (by simpa using hl)
    simpa using this) (.cons rfl .nil) hsp) fun r s' hq => ?_)
  cases r with
  | error e => exact hx pins σ H s e s' I hq
  | ok fl =>
    cases fl with
    | ret w =>
      obtain ⟨z, H', I', rz, ez, ex⟩ := I.after hq
      subst ez
      obtain ⟨tk, rfl⟩ := rz
      refine wpAny_bind (wpAny_isInstance (T := "str") (b := true) rfl isSubtype_str_str ?_)
      first
        | exact wpAny_pure ⟨_, _, rfl, rfl, H', I', ex⟩
        | (rw [if_pos rfl]; exact wpAny_pure ⟨_, _, rfl, rfl, H', I', ex⟩)
    | next => exact False.elim hq
    | brk => exact False.elim hq
    | cont => exact False.elim hq

/-! ### the loop -/
theorem strs_of : ∀ {ts : List Str} {us : List Value}, Vals (ts.map V.str) us → ∃ done : List (Str × Tok), us = strValues done ∧ done.map (·.1) = ts
  | [], _, .nil => ⟨[], rfl, rfl⟩
  | t :: ts, _, .cons r rs => by
    obtain ⟨k, rfl⟩ := r
    obtain ⟨done, rfl, rfl⟩ := strs_of rs
    exact ⟨(t, k) :: done, rfl, rfl⟩
/-- item by item -/
def ShAll (D : Shw) (xs : List V) (ts : List Str) (H : Hp) : Prop := xs.length = ts.length ∧ ∀ (i : Nat) x t, xs[i]? = some x → ts[i]? = some t → D x t H
theorem under_depth (A : Around) (args : Args) : (A.under (.builtin "list.__repr__.loop" args)).depth ≤ A.depth + 1 := by
  show A.depth + _ ≤ _
  first | exact Nat.le_refl _ | (simp [Around.under, Code.weight])
theorem under_room {n : Nat} {A : Around} (r : Room (n + 1) A) (args : Args) : Room n (A.under (.builtin "list.__repr__.loop" args)) :=
  ⟨by first | exact r.hd | (simpa [Around.under] using r.hd), by have := r.dp; have := under_depth A args; omega, by have := r.un; rw [units_under_list_loop]; omega⟩
theorem under_frames (A : Around) (args : Args) : (A.under (.builtin "list.__repr__.loop" args)).frames = A.frames := by
  first | rfl | simp [Around.under, Code.envs, Code.isFrame, pushEnvs]

open Builtin Builtin.List in
theorem show_loop {n : Nat} {D : Shw} (hD : ∀ x t H H', Same H H' → D x t H → D x t H') (sh : ShG X n D) {A : Around} (sb : L2.Sub X (n + 1) A) (gs : A.guards = some []) {pins : List (Addr × Obj)} {σ : L2.St} {H : Hp} {a P : Addr} {xs : List V} {ts : List Str} {base : Nat} {R : Result → Shared → Prop}
    (ha : H a = some (.lst xs)) (hP : H P = none) (all : ShAll D xs ts H) (hsz : base + (listText ts).length ≤ sizeLine)
    (fin : ∀ s' H' u, Inv X pins σ H' s' → Same H H' → R (.ok (.ret (.str (listText ts) u))) s') (err : ∀ e s', X.xe e s' → R (.error e) s') :
    ∀ (k i : Nat) (s : Shared) (H1 : Hp), xs.length - i = k → i ≤ xs.length → Inv X pins σ H1 s → Same H H1 → H1 P = some (.lst ((ts.take i).map V.str)) →
      codeAny (model X.prog X.w) A (.builtin "list.__repr__.loop" ⟨[.ref a, rawInt i, .ref P, rawInt ((base + piled (ts.take i) : Nat) : Int)], []⟩) R s := by
  obtain ⟨hlen, each⟩ := all
  have hX : (listText ts).length = (textFrom 0 "[" ts).length + 1 := by
    show (textFrom 0 "[" ts ++ "]").length = _
    rw [strLen_append]; rfl
  have hL := textFrom_len ts 0 "["
  have hsz2 : ∀ t ∈ ts, t.length ≤ sizeLine := fun t ht => by
    have h2 := hL.2.1 t ht
    omega
  have hsz3 : (listText ts).length ≤ sizeLine := by omega
  have hp3 := piled_le_listText ts
  intro k
  induction k with
  | zero =>
    intro i s H1 hk hi I e1 hP1
    have hin : i = xs.length := by omega
    obtain ⟨its, na, rv, hoa, _⟩ := I.lst (e1 _ _ ha)
    obtain ⟨acc, nb, rw', hoP, _⟩ := I.lst hP1
    obtain ⟨done, rfl, hdone⟩ := strs_of rw'
    refine codeAny_builtin F.entry_list_repr_loop ?_
    show wpAny _ _ («list.__repr__.loop» ⟨[.ref a, .int i 0, .ref P, .int ((base + piled (ts.take i) : Nat) : Int) 0], []⟩) _ _ s
    rw [repr_loop_tree]
    refine wpAny_bind (wpAny_listItems hoa rfl ?_)
    have hnone : its.toArray[(i : Int).toNat]? = none := by
      have := rv.length
      simp
      omega
    simp only [hnone]
    unfold reprEnd
    refine wpAny_bind (wpAny_listItems hoP rfl ?_)
    have e0 : (strValues done).toArray.toList = strValues done := by simp
    rw [e0, repr_fold]
    refine wpAny_bind (wpAny_pure ?_)
    have hall : done.map (·.1) = ts := by rw [hdone, hin, hlen, List.take_length]
    rw [hall]
    refine wpAny_bind (wpAny_mkStr (wpAny_pure ?_) hsz3)
    exact fin _ H1 _ (I.tok _) e1
  | succ k ih =>
    intro i s H1 hk hi I e1 hP1
    have hlt : i < xs.length := by omega
    have hlt2 : i < ts.length := by omega
    obtain ⟨its, na, rv, hoa, _⟩ := I.lst (e1 _ _ ha)
    have hl := rv.length
    have ht : ts[i]? = some ts[i] := List.getElem?_eq_getElem hlt2
    have hx : xs[i]? = some xs[i] := List.getElem?_eq_getElem hlt
    obtain ⟨u, hu, ru⟩ := rv.get hx
    have hp1 := piled_take_succ ht
    have hp2 := piled_take_le ts (i + 1)
    refine codeAny_builtin F.entry_list_repr_loop ?_
    show wpAny _ _ («list.__repr__.loop» ⟨[.ref a, .int i 0, .ref P, .int ((base + piled (ts.take i) : Nat) : Int) 0], []⟩) _ _ s
    rw [repr_loop_tree]
    refine wpAny_bind (wpAny_listItems hoa rfl ?_)
    have hsome : its.toArray[(i : Int).toNat]? = some u := by
      rw [Int.toNat_natCast]
      simpa using hu
    simp only [hsome]
    have aH1 : H1 a = some (.lst xs) := e1 _ _ ha
    refine wpAny_bind (wpAny_holding (wpAny_mono (sh _ _ (base + piled (ts.take i) + 1) pins s σ H1 xs[i] u ts[i] (guards_under_guard (isGuard_list_loop _) gs) (fun b hb => (Clear.nil b).cons (a := a) (ne_of_none aH1 hb)) ⟨under_room sb.room _, (under_frames A _).trans sb.fr⟩ I ru (hD _ _ _ _ e1 (each i _ _ hx ht)) (by omega)) (fun r s1 got => ?_) err))
    obtain ⟨rfl, H2, I2, e2⟩ := got
    refine wpAny_bind (wpAny_mkStr ?_ (hsz2 _ (List.mem_of_getElem? ht)))
    refine wpAny_bind ?_
    show wpAny _ _ (updateSeq P _) _ _ _
    obtain ⟨acc, nb, rw', hoP, hz⟩ := I2.lst (e2 _ _ hP1)
    have hacc : acc.length ≤ sizeLine := by rw [← rw'.length]; exact hz
    refine wpAny_updateSeq hoP rfl (wpAny_pure ⟨F.quiet_list_repr_loop _, ?_⟩) (by simpa using hacc)
    have q1 : ((i : Int) + 1) = ((i + 1 : Nat) : Int) := by omega
    have q2 : base + piled (ts.take i) + (ts[i].length + 2) = base + piled (ts.take (i + 1)) := by omega
    rw [q1, Int.toNat_natCast, q2]
    have e3 : ts.take (i + 1) = ts.take i ++ [ts[i]] := by rw [List.take_add_one, ht]; rfl
    refine ih (i + 1) _ (upd H2 P (.lst ((ts.take (i + 1)).map V.str))) (by omega) hlt ?_ ?_ upd_same
    · refine Inv.lset (its' := acc ++ [.str ts[i] s1.toks]) (t' := s1.toks + 1) (I2.tok (s1.toks + 1)) (e2 _ _ hP1) hoP (by simp) ?_ ?_
      · rw [e3, List.map_append]
        exact Vals.append rw' (.cons ⟨_, rfl⟩ .nil)
      · rw [List.length_map, List.length_take]
        have := hL.1
        rw [if_neg (Nat.lt_irrefl 0)] at this
        omega
    · intro b o e
      rw [upd_ne (ne_of_none e hP)]
      exact e2 _ _ (e1 _ _ e)
/-- repr([..]), each item shown as D says -/
def rReprG (D : Shw) : List V → Hp → VK → Prop := fun xs H Q => ∃ (a : Addr) (vs : List V) (ts : List Str), xs = [.ref a] ∧ H a = some (.lst vs) ∧ ShAll D vs ts H ∧ (listText ts).length ≤ sizeLine ∧ ∀ H', Same H H' → Q (.str (listText ts)) H'
theorem cr_reprG {n : Nat} {D : Shw} (hD : ∀ x t H H', Same H H' → D x t H → D x t H') (sh : ShG X n D) (gs : X.A.guards = some []) (hr : Room (n + 2) X.A) : CallR X (.builtin "repr") (rReprG D) := by
  intro pins s σ H xs us Q I r h
  obtain ⟨a, vs, ts, rfl, ha, all, len, q⟩ := h
  cases r with
  | @cons _ u _ _ r1 r2 =>
    cases r2
    cases r1
    have hu := hr.units
    obtain ⟨its, na, rv, hoa, _⟩ := I.lst ha
    have fin : ∀ (H' : Hp) (s' : Shared) (k : Nat), Inv X pins σ H' s' → Same H H' → ∃ (x : Str) (t : Nat), Value.str (listText ts) k = .str x t ∧ EP X pins σ Q (.str (listText ts) k) s' :=
      fun H' s' k I' e => ⟨_, _, rfl, .str (listText ts), H', I', ⟨_, rfl⟩, q H' e⟩
    refine call_repr_slot (by omega) ⟨_, hoa, rfl⟩ F.slot_list_repr.toG ?_
    cases its with
    | nil =>
      have z : vs = [] := by
        cases vs with
        | nil => rfl
        | cons _ _ => cases rv
      subst z
      have z2 : ts = [] := List.length_eq_zero_iff.mp (by simpa using all.1.symm)
      subst z2
      exact call_list_repr_empty ⟨_, hoa, rfl⟩ hoa rfl (fin H _ _ (I.tok _) (Same.refl _))
    | cons y l =>
      refine wpAny_call (codeAny_call_builtin F.slot_list_repr.plain F.entry_list_repr (F.slot_list_repr.check _ _ _ _ _ _ _ _ ⟨_, hoa, rfl⟩ (F.args_list_repr_1 _) ?_))
      refine wpAny_list_repr_head (A := X.A.in1.in1) (b := 0) gs (fun v rest kw hm => nomatch hm) hoa rfl ?_
      refine wpAny_bind (m := newList []) (wpAny_newObj_type ?_)
      refine wpAny_pure ⟨F.quiet_list_repr_loop _, ?_⟩
      have hf := I.fresh
      have I1 : Inv X pins σ (upd H s.heap.objs.size (.lst [])) { s with heap := s.heap.push { cls := .type "list", data := .seq #[] } } := Inv.lnew (its := []) (t' := s.toks) I .nil (Nat.zero_le _)
      exact show_loop (base := 0) hD sh (A := X.A.in1) ⟨hr.in1, rfl⟩ gs ha hf all (by omega) (fun s' H' u I' e => fin H' s' u I' e) (fun e s' h => h) _ 0 _ _ rfl (Nat.zero_le _) I1 (fun b o e => Ext.upd hf b o e) upd_same
end
end Par
namespace K49
open PySem PySem.Spec PyProof.Rows L2 Par Msk
theorem eqv_lints : ∀ ns : List Int, (PyData.list (ns.map PyData.int)).plain = true := fun ns => by
  show PyData.plainAll _ = true
  induction ns with
  | nil => rfl
  | cons x xs ih => simpa [PyData.plainAll, PyData.plain] using ih
theorem plain_strs (xs : List Str) : (PyData.list (xs.map PyData.str)).plain = true := by
  show PyData.plainAll _ = true
  induction xs with
  | nil => rfl
  | cons x xs ih => simpa [PyData.plain, PyData.plainAll] using ih
theorem depth_strs (xs ys : List Str) : min (PyData.list (xs.map PyData.str)).depth (PyData.list (ys.map PyData.str)).depth ≤ 64 := by
  refine Nat.le_trans (Nat.min_le_left _ _) ?_
  have e := depthAll (ds := xs.map PyData.str) (n := 0) fun d hd => by
    obtain ⟨x, _, rfl⟩ := List.mem_map.mp hd
    exact Nat.le_refl 0
  show PyData.depthAll _ + 1 ≤ 64
  omega
theorem depth_ints2 (xs ys : List Int) : min (PyData.list (xs.map PyData.int)).depth (PyData.list (ys.map PyData.int)).depth ≤ 64 := by
  refine Nat.le_trans (Nat.min_le_left _ _) ?_
  have e := depthAll (ds := xs.map PyData.int) (n := 0) fun d hd => by
    obtain ⟨x, _, rfl⟩ := List.mem_map.mp hd
    exact Nat.le_refl 0
  show PyData.depthAll _ + 1 ≤ 64
  omega
theorem map_str (g : List Int → Str) : ∀ l : List (List Int), (l.map fun ns => V.str (g ns)) = (l.map g).map V.str
  | [] => rfl
  | _ :: l => congrArg _ (map_str g l)
theorem sorted_one {ns ms ms2 : List Int} (h1 : ms.Perm ns) (h2 : ms2.Perm ns) (s1 : ms.Pairwise (· ≤ ·)) (s2 : ms2.Pairwise (· ≤ ·)) : ms = ms2 :=
  List.Perm.eq_of_pairwise (fun a b _ _ h1 h2 => Int.le_antisymm h1 h2) s1 s2 (h1.trans h2.symm)
theorem te_outE {t : TE} {σ : L2.St} {H : Hp} {Q : VK} (R : V → Hp → Prop) (out : ∀ v H', R v H' → Q v H') (h : ∀ Q' : VK, (∀ v H', R v H' → Q' v H') → t σ H Q') : t σ H Q := h Q out
theorem same_butL {p : Addr} {H H1 H2 : Hp} (hp : H p = none) (s : Same H H1) (b : But p H1 H2) : Same H H2 := fun z o e => b z o (ne_of_none e hp) (s z o e)
theorem PrsQ.but {p : Addr} {H H' : Hp} {m : Nat} {as : List Addr} {ps : List (List Int × List Int)} (hp : PotAt H p) (b : But p H H') (h : PrsQ [p] H m as ps) : PrsQ [p] H' m as ps := h.mono fun a ts hs q => q.keep (fun _ z => z) (fun c hc xs e => by
    obtain ⟨_, _, e2, _⟩ := hp
    rw [List.mem_singleton.mp hc, e2] at e
    cases e) fun c o hc e => b c o (fun z => hc (by simp [z])) e
theorem ref_not_int {H : Hp} {p l : Addr} {xs : List Addr} (hp : PotAt H p) (h : H l = some (.lst (xs.map V.ref))) : l ≠ p := fun z => by
  obtain ⟨a, b, e, _⟩ := hp
  rw [z, e] at h
  injection h with h
  injection h with h
  cases xs with
  | nil => cases h
  | cons x xs => injection h with h _; cases h
def Rt (C : Addr) : Addr → Addr → Hp → Prop := fun a b H => ∃ ms, Tb C H a ms ∧ Tb C H b ms
theorem mon_t {C : Addr} : Mon (DIns C (Rt C)) := mon_ins fun a b H H' e r => by
  obtain ⟨ms, h1, h2⟩ := r
  exact ⟨ms, h1.same e, h2.same e⟩
theorem dins_t {C : Addr} {H : Hp} {a b : Addr} {ms : List Nat} (h1 : Tb C H a ms) (h2 : Tb C H b ms) : DIns C (Rt C) (.ref a) (.ref b) H := by
  obtain ⟨dx, x1, e1, _⟩ := id h1
  obtain ⟨dy, y1, e2, _⟩ := id h2
  exact ⟨a, b, dx, dy, _, _, rfl, rfl, e1, e2, ms, h1, h2⟩
theorem own_ne {C : Addr} {H : Hp} {a b : Addr} {R S : List Nat} {Q : VK} (h1 : Tb C H a R) (h2 : Tb C H b S) (e : R = S) (q : Q (.bl false) H) : rOwn C (spTEq C) E0 true (.ref a) (.ref b) H Q := by
  obtain ⟨dx, t, a1, _⟩ := id h1
  obtain ⟨dy, u, b1, _⟩ := id h2
  refine ⟨a, b, dx, dy, _, _, rfl, rfl, a1, b1, a, b, R, S, rfl, h1, h2, _, rfl, ?_⟩
  rw [decide_eq_true e]
  exact q
theorem own_eqB {C : Addr} {H : Hp} {a b : Addr} {R S : List Nat} {Q : VK} (h1 : Tb C H a R) (h2 : Tb C H b S) (q : Q (.bl (decide (R = S))) H) : rOwn C (spTEq C) E0 false (.ref a) (.ref b) H Q := by
  obtain ⟨dx, t, a1, _⟩ := id h1
  obtain ⟨dy, u, b1, _⟩ := id h2
  refine ⟨a, b, dx, dy, _, _, rfl, rfl, a1, b1, a, b, R, S, rfl, h1, h2, _, rfl, ?_⟩
  rw [Bool.false_xor]
  exact q
theorem Prs.append {K : PySem.W.Frag} {H : Hp} {bs : List Addr} {qs : List (List Int × List Int)} (h2 : Prs K H bs qs) : ∀ {as : List Addr} {ps : List (List Int × List Int)}, Prs K H as ps → Prs K H (as ++ bs) (ps ++ qs)
  | [], [], _ => h2
  | _ :: _, _ :: _, h => ⟨h.1, Prs.append h2 h.2⟩
  | [], _ :: _, h => h.elim
  | _ :: _, [], h => h.elim
theorem Prs.reverse {K : PySem.W.Frag} {H : Hp} : ∀ {as : List Addr} {ps : List (List Int × List Int)}, Prs K H as ps → Prs K H as.reverse ps.reverse
  | [], [], _ => True.intro
  | a :: as, t :: ts, h => by
    rw [List.reverse_cons, List.reverse_cons]
    exact Prs.append (show Prs K H [a] [t] from ⟨h.1, True.intro⟩) h.2.reverse
  | [], _ :: _, h => h.elim
  | _ :: _, [], h => h.elim
theorem plain_tups (R : List Nat) : (PyData.list (R.map fun m => PyData.tuple ((cellsI m).map PyData.int))).plain = true := by
  show PyData.plainAll _ = true
  have e : ∀ ns : List Int, PyData.plainAll (ns.map PyData.int) = true := fun ns => by
    induction ns with
    | nil => rfl
    | cons x xs ih => simpa [PyData.plainAll, PyData.plain] using ih
  induction R with
  | nil => rfl
  | cons x xs ih => simpa [PyData.plain, PyData.plainAll, e] using ih
theorem depth_tups (R : List Nat) : (PyData.list (R.map fun m => PyData.tuple ((cellsI m).map PyData.int))).depth ≤ 64 := by
  have e := depthAll (ds := R.map fun m => PyData.tuple ((cellsI m).map PyData.int)) (n := 1) fun d hd => by
    obtain ⟨x, _, rfl⟩ := List.mem_map.mp hd
    have e2 := depthAll (ds := (cellsI x).map PyData.int) (n := 0) fun d hd => by
      obtain ⟨y, _, rfl⟩ := List.mem_map.mp hd
      exact Nat.le_refl 0
    show PyData.depthAll _ + 1 ≤ 1
    omega
  show PyData.depthAll _ + 1 ≤ 64
  omega
section
variable {P : Program} {w : World} {K : PySem.W.Frag} {mg : Str → Option Value} {base : Heap}
theorem dps_tups {H : Hp} : ∀ {xs : List Addr} {R : List Nat}, TupsAt H xs (R.map cellsI) → DpAll K H (xs.map V.ref) (R.map fun m => PyData.tuple ((cellsI m).map PyData.int))
  | [], [], _ => .nil
  | _ :: _, _ :: _, h => .cons (.tup (SqT.of h.1) (dps_ints _)) (dps_tups h.2)
  | [], _ :: _, h => h.elim
  | _ :: _, [], h => h.elim
theorem eq_promise {f C : Addr} {fd : FuncData} (F : FnOk P w K mg base CX0 2 f fd ["self", "other"] (spTEq C)) : FnOk P w K mg base CX0 2 f fd ["self", "other"] (spEq (Rt C)) := F.imp fun vs H Q E h => by
  obtain ⟨a, b, rfl, ⟨ms, h1, h2⟩, q⟩ := h
  refine ⟨a, b, ms, ms, rfl, h1, h2, ?_⟩
  rw [decide_eq_true rfl]
  exact q H Ext.rfl'
def HasTE (P : Program) (w : World) (K : PySem.W.Frag) (mg : Str → Option Value) (base : Heap) (C : Addr) : Prop :=
  ∃ f fd, FnOk P w K mg base CX0 2 f fd ["self", "other"] (spTEq C) ∧ EqC K C f ∧ Binds K fd ["self", "other"] []
def HasG (P : Program) (w : World) (K : PySem.W.Frag) (mg : Str → Option Value) (base : Heap) (x : Str) (lv : Nat) (ps : List Str) (sp : Sp) : Prop :=
  ∃ f fd, FnG P w K mg base CX0 lv f fd ps sp ∧ mg x = some (.ref f) ∧ PySem.W.keepIn K (.ref f) = true ∧ Binds K fd ps []
end
section
variable {P : Program} {w : World} {K : PySem.W.Frag} {mg : Str → Option Value} {base : Heap}
/-- row -/
def spRow (C : Addr) : Sp := fun vs H Q _ => ∃ (b : Addr) (ms : List Nat) (k : Int), vs = [.ref b, .int k] ∧ Tb C H b ms ∧ ms.length ≤ 40 ∧ (∀ m ∈ ms, m < 2 ^ ms.length) ∧ 0 ≤ k ∧ k < ((ms.length : Nat) : Int) ∧
  ∀ p H', H p = none → Same H H' → H' p = some (.tup ((cellsI (ms.getD k.toNat 0)).map V.int)) → Q (.ref p) H'
theorem scRow : FnScope ["self", "cell"] ["self", "cell"] (defScope hRow) := ⟨rfl, rfl, rfl, by decide +kernel, rfl, by decide +kernel, by decide +kernel⟩
theorem ok_row {f C : Addr} {fd : FuncData} (F : Fun K "row" "Table.row" hRow f fd) (T : TC K mg C) (DS : HasM P w K mg base C "size" 2 ["self"] (spTSize C)) (DC : HasN P w K mg base "is_cell" 3 "thing" spIsCell) (DX : Has P w K mg base "cells_of" 2 ["mask"] spCellsOf) :
    FnOk P w K mg base CX0 4 f fd ["self", "cell"] (spRow C) := by
  obtain ⟨fS, fdS, GS, mS, bS⟩ := DS
  obtain ⟨fD, fdD, GD, mD, kD, bD⟩ := DC
  obtain ⟨fX, fdX, GX, mX, kX, bX⟩ := DX
  refine F.ok scRow (fun vs H Q E h => ?_) (fun cdv A outer s H vs Q E hr h => ?_)
  · obtain ⟨b, ms, k, rfl, _⟩ := h
    rfl
  · obtain ⟨b, ms, k, rfl, hB, l40, lt, k0, k1, out⟩ := h
    obtain ⟨dx, t, h1, h2⟩ := id hB
    have r1 : Room 2 (A.deeper (envOfC "Table.row" (defScope hRow) s.heap.objs.size f cdv)) := hr.mono (by decide)
    refine ⟨_, pss_cons (ps_if (pt_not (pt_val (pe_callN (n := 1) (ks := ["size"]) GD hr (by rfl) mD kD bD pass0 (pa_cons (pv 1) pa_nil) (pk_cons (pe_meth0 (pv 0) T.cl mS GS r1 bS .nil pass0) pk_nil)))) (pss_one ps_off) pss_nil)
      (pss_one (ps_ret (pe_call GX r1 (by rfl) mX kX bX .nil pass0 (pa_cons (pe_ix ix_tup (pe_fld (pv 0) rfl) (pv 1) (fun _ _ => rfl)) pa_nil)))), ?_⟩
    refine ⟨_, rfl, _, rfl, b, dx, _, rfl, h1, no_fldM (by decide +kernel), b, ms, rfl, hB, rfl, rfl, k, ((ms.length : Nat) : Int), rfl, _, rfl, ?_⟩
    rw [show decide ((0 : Int) ≤ k) = true from decide_eq_true k0, show decide (k ≤ ((ms.length : Nat) : Int) - 1) = true from decide_eq_true (by omega)]
    refine iteF ?_
    refine ⟨_, rfl, b, C, dx, _, _, rfl, h1, T.cl, T.nM, fldM, _, rfl, t, _, k, _, rfl, rfl, SqT.of h2, mV_atI k0 k1, ?_⟩
    refine ⟨ms.getD k.toNat 0, rfl, Nat.lt_of_lt_of_le (getD_lt lt _) (Nat.pow_le_pow_right (by decide) l40), fun p H' hp s1 e1 => out p H' hp s1 e1⟩
end
def imgB (ms : List Nat) (bs : List Int) : List Int := mkB ms.length fun k => decide (parB bs (cellsI (ms.getD k.toNat 0)) = 1)
theorem img_run {R : List Nat} {n : Nat} {ps : List (List Int × List Int)} {bs : List Int} (r : Rep R n ps) (f : Fit1 n ps) (ok : OkB bs) (hl : bs.length = n) : imgB R bs = runB bs ps := by
  have o := run_okp (fun t ht k hk => ((f t ht).2.1 k hk).1) ok
  refine List.ext_getElem (by unfold imgB; rw [mkB_len, run_len, r.len, hl]) fun i h1 h2 => ?_
  have hi : i < n := by rw [run_len] at h2; omega
  have e1 : (imgB R bs)[i] = if (decide (i = 0) || decide (parB bs (cellsI (R.getD (i : Int).toNat 0)) = 1)) = true then 1 else 0 := by
    unfold imgB mkB
    simp
  have e2 : (runB bs ps)[i] = (runB bs ps).getD i 0 := by
    rw [List.getD_eq_getElem?_getD, List.getElem?_eq_getElem h2]
    rfl
  rw [e1, e2, Int.toNat_natCast, r.does bs ok hl i hi]
  rcases bit_at o h2 with z | z
  · have i0 : i ≠ 0 := fun y => by
      subst y
      rw [List.getD_eq_getElem?_getD, o.2.1] at z
      cases z
    rw [z, decide_eq_false i0]
    rfl
  · rw [z, decide_eq_true rfl, Bool.or_true]
    rfl
section
variable {P : Program} {w : World} {K : PySem.W.Frag} {mg : Str → Option Value} {base : Heap}
def spImage (C CB : Addr) : Sp := fun vs H Q _ => ∃ (b bd : Addr) (ms : List Nat) (bs : List Int), vs = [.ref b, .ref bd] ∧ Tb C H b ms ∧ Bd CB H bd bs ∧ OkB bs ∧ bs.length = ms.length ∧ (∀ m ∈ ms, m < 2 ^ ms.length) ∧
  ∀ q H', H q = none → Same H H' → Bd CB H' q (imgB ms bs) → Q (.ref q) H'
abbrev nImage : List Str := ["self", "board", "up", "cell"]
theorem scImage : FnScope nImage ["self", "board"] (defScope hImage) := ⟨rfl, rfl, rfl, by decide +kernel, rfl, by decide +kernel, by decide +kernel⟩
def upT (ms : List Nat) (bs : List Int) (i : Nat) : List Int := ((List.range i).filter fun j => decide (parB bs (cellsI (ms.getD j 0)) = 1)).map fun (j : Nat) => (j : Int)
theorem range_filt (q : Nat → Bool) (i : Nat) : ((List.range (i + 1)).filter q).map (fun (j : Nat) => (j : Int)) = ((List.range i).filter q).map (fun (j : Nat) => (j : Int)) ++ (if q i = true then [(i : Int)] else []) := by
  rw [List.range_succ, List.filter_append, List.map_append]
  congr 1
  cases h : q i <;> simp [h]
theorem upT_step (ms : List Nat) (bs : List Int) (i : Nat) : upT ms bs (i + 1) = upT ms bs i ++ (if parB bs (cellsI (ms.getD i 0)) = 1 then [(i : Int)] else []) := by
  have h := range_filt (fun j => decide (parB bs (cellsI (ms.getD j 0)) = 1)) i
  unfold upT
  rw [h]
  by_cases z : parB bs (cellsI (ms.getD i 0)) = 1
  · rw [if_pos z, if_pos (decide_eq_true z)]
  · rw [if_neg z, if_neg (by rw [decide_eq_false z]; exact Bool.false_ne_true)]
theorem upT_mem {ms : List Nat} {bs : List Int} {i : Nat} {k : Int} : k ∈ upT ms bs i ↔ ∃ j : Nat, k = (j : Int) ∧ j < i ∧ parB bs (cellsI (ms.getD j 0)) = 1 := by
  unfold upT
  simp only [List.mem_map, List.mem_filter, List.mem_range, decide_eq_true_eq]
  constructor
  · rintro ⟨j, ⟨h1, h2⟩, rfl⟩
    exact ⟨j, rfl, h1, h2⟩
  · rintro ⟨j, rfl, h1, h2⟩
    exact ⟨j, ⟨h1, h2⟩, rfl⟩
theorem upT_up (ms : List Nat) (bs : List Int) (i : Nat) : (upT ms bs i).Pairwise (· < ·) := by
  unfold upT
  refine List.Pairwise.map _ (fun a b h => ?_) ((range_up i).filter _)
  show (a : Int) < (b : Int)
  exact Int.ofNat_lt.mpr h
theorem upT_len (ms : List Nat) (bs : List Int) (i : Nat) : (upT ms bs i).length ≤ i := by
  unfold upT
  rw [List.length_map]
  have := List.length_filter_le (fun j => decide (parB bs (cellsI (ms.getD j 0)) = 1)) (List.range i)
  rw [List.length_range] at this
  exact this
theorem up_img (ms : List Nat) (bs : List Int) : (mkB ms.length fun k => decide (k ∈ upT ms bs ms.length)) = imgB ms bs := by
  unfold imgB mkB
  refine List.map_congr_left fun i hi => ?_
  have hi2 := List.mem_range.mp hi
  show (if (decide (i = 0) || decide ((i : Int) ∈ upT ms bs ms.length)) = true then (1 : Int) else 0) = if (decide (i = 0) || decide (parB bs (cellsI (ms.getD i 0)) = 1)) = true then 1 else 0
  have e : decide ((i : Int) ∈ upT ms bs ms.length) = decide (parB bs (cellsI (ms.getD i 0)) = 1) := by
    by_cases z : parB bs (cellsI (ms.getD i 0)) = 1
    · rw [decide_eq_true z, decide_eq_true (upT_mem.mpr ⟨i, rfl, hi2, z⟩)]
    · rw [decide_eq_false z, decide_eq_false fun y => ?_]
      obtain ⟨j, ej, _, pj⟩ := upT_mem.mp y
      have : i = j := by omega
      rw [this] at z
      exact z pj
  rw [e]
theorem ok_image {f C CB : Addr} {fd : FuncData} (F : Fun K "image" "Table.image" hImage f fd) (B : Bl mg) (T : TC K mg C) (TB : BC K mg CB) (DK : HasM P w K mg base C "check_size" 3 ["self", "size"] (spCheck C)) (DS : HasM P w K mg base C "size" 2 ["self"] (spTSize C)) (DR : HasM P w K mg base C "row" 4 ["self", "cell"] (spRow C))
    (DZ : HasM P w K mg base CB "size" 2 ["self"] (spSize CB)) (DP : HasM P w K mg base CB "parity" 6 ["self", "cells"] (spPar K CB)) (DI : HasIni P w K mg base CB) : FnOk P w K mg base CX0 8 f fd ["self", "board"] (spImage C CB) := by
  obtain ⟨fK, fdK, GK, mK, bK⟩ := DK
  obtain ⟨fS, fdS, GS, mS, bS⟩ := DS
  obtain ⟨fR, fdR, GR, mR, bR⟩ := DR
  obtain ⟨fZ, fdZ, GZ, mZ, bZ⟩ := DZ
  obtain ⟨fP, fdP, GP, mP, bP⟩ := DP
  obtain ⟨fI, fdI, GI, MI, kb2, _⟩ := DI
  refine F.ok scImage (fun vs H Q E h => ?_) (fun cdv A outer s H vs Q E hr h => ?_)
  · obtain ⟨b, bd, ms, bs, rfl, _⟩ := h
    rfl
  · obtain ⟨b, bd, ms, bs, rfl, hT, hB, okb, el, lt, out⟩ := h
    obtain ⟨dx, t, h1, h2⟩ := id hT
    obtain ⟨dy, u, g1, g2⟩ := id hB
    have r2 : Room 2 (A.deeper (envOfC "Table.image" (defScope hImage) s.heap.objs.size f cdv)) := hr.mono (by decide)
    have r3 : Room 3 (A.deeper (envOfC "Table.image" (defScope hImage) s.heap.objs.size f cdv)) := hr.mono (by decide)
    have r4 : Room 4 (A.deeper (envOfC "Table.image" (defScope hImage) s.heap.objs.size f cdv)) := hr.mono (by decide)
    have r6 : Room 6 (A.deeper (envOfC "Table.image" (defScope hImage) s.heap.objs.size f cdv)) := hr.mono (by decide)
    have l40 : ms.length ≤ 40 := by
      have := okb.2.2
      omega
    have l1 : 1 ≤ bs.length := by
      have := (List.getElem?_eq_some_iff.mp okb.2.1).1
      omega
    refine ⟨_, pss_cons (ps_expr (pe_meth (pv 0) T.cl mK GK r3 bK .nil pass0 (pa_cons (pe_meth0 (pv 1) TB.cl mZ GZ r2 bZ .nil pass0) pa_nil)))
      (pss_cons (ps_setLc (i := 2) (own := [("cell", 3)]) (g := gName 3) (tt := tTest (tOp rEq (tMeth CB "parity" (spPar K CB) [] E0 (tVar 1) (tCons (tMeth C "row" (spRow C) [] E0 (tVar 0) (tCons (tVar 3) tNil)) tNil)) (tC (.int 1)))) rfl scImage.nd rfl rfl (sw_true rfl rfl rfl (by decide +kernel)) (pi_range1 (by rfl) B.range (pa_cons (pe_meth0 (pv 0) T.cl mS GS r2 bS .nil pass0) pa_nil)) (blkOk_by (own := [("cell", 3)]) (N := nImage) (sc := defScope hImage) (by decide +kernel))
        (fun _ _ _ _ _ => pg_name (i := 3) scImage.nd rfl (Or.inl rfl)) (fun _ _ _ _ _ => by exact pts_one (pt_cmpR op_eq (pe_meth (pv 1) TB.cl mP GP r6 bP .nil pass0 (pa_cons (pe_meth (pv 0) T.cl mR GR r4 bR .nil pass0 (pa_cons (pv 3) pa_nil)) pa_nil)) pe_int (nomark _))) (fun _ _ _ _ _ => pv 3))
      (pss_one (ps_ret (pe_makeN (n := 1) (ks := ["up"]) (E := E0) MI GI hr (by rfl) TB.mgC kb2 pass0 (pa_cons (pe_meth0 (pv 0) T.cl mS GS r2 bS .nil pass0) pa_nil) (pk_cons (pv 2) pk_nil))))), ?_⟩
    refine ⟨_, rfl, b, dx, _, rfl, h1, no_fldM (by decide +kernel), _, rfl, bd, dy, _, rfl, g1, no_fld (by decide +kernel), bd, bs, rfl, hB, b, ms, (by rw [el]; rfl), hT, ?_⟩
    refine ⟨_, rfl, b, dx, _, rfl, h1, no_fldM (by decide +kernel), b, ms, rfl, hT, _, rfl, by omega, by omega, fun D hD => ?_⟩
    rw [Int.toNat_natCast]
    refine lc_range (lo := 0) (n := ms.length) (fun i H' => Same H H' ∧ H' D = some (.lst ((upT ms bs i).map V.int))) ⟨same_new hD, upd_same⟩ ?_ ?_
    · rintro i H2 hi ⟨s2, hD2⟩
      rw [Int.zero_add]
      refine ⟨rfl, ?_⟩
      refine ⟨_, rfl, bd, dy, _, rfl, s2 _ _ g1, no_fld (by decide +kernel), _, rfl, b, dx, _, rfl, s2 _ _ h1, no_fldM (by decide +kernel), _, rfl, b, ms, (i : Int), rfl, hT.same s2, l40, lt, by omega, by omega, fun p H3 hp s3 e3 => ?_⟩
      rw [Int.toNat_natCast] at e3
      have inn := cellsI_in (getD_lt lt i)
      have few : (cellsI (ms.getD i 0)).length ≤ 40 := cells_few (cellsI_nodup _) fun k hk => by
        have := inn k hk
        exact ⟨by omega, by omega⟩
      refine ⟨bd, p, bs, cellsI (ms.getD i 0), rfl, (hB.same s2).same s3, .inr (SqT.of e3), by omega, fun k hk => by rw [el]; exact inn k hk, cellsI_nodup _, fun H4 s4 => ?_⟩
      have s24 := s3.trans s4
      have st := upT_step ms bs i
      refine ⟨rfl, _, rfl, ?_⟩
      show if decide (V.int (parB bs (cellsI (ms.getD i 0))) = V.int 1) = true then _ else _
      by_cases z : parB bs (cellsI (ms.getD i 0)) = 1
      · rw [if_pos z] at st
        rw [z, decide_eq_true rfl]
        refine iteT ⟨_, rfl, _, s24 _ _ hD2, ?_, ?_, ?_⟩
        · rw [List.length_map]
          have := upT_len ms bs i
          exact small1000 (by omega)
        · intro y o e
          rw [upd_ne (ne_of_none e hD)]
          exact s24 _ _ (s2 y o e)
        · rw [upd_same, st, List.map_append]
          rfl
      · rw [if_neg z, List.append_nil] at st
        rw [decide_eq_false fun y => z (by injection y)]
        refine iteF ⟨s2.trans s24, ?_⟩
        rw [st]
        exact s24 _ _ hD2
    · rintro H2 ⟨s2, hD2⟩
      refine ⟨_, rfl, b, dx, _, rfl, s2 _ _ h1, no_fldM (by decide +kernel), b, ms, rfl, hT.same s2, ?_⟩
      refine ⟨_, rfl, rfl, rfl, made_board (n := ms.length) (ns := upT ms bs ms.length) (.inl (SqL.of hD2)) (by have := upT_len ms bs ms.length; omega) (by omega) l40 (fun k hk => ?_) (up_nodup (upT_up _ _ _)) fun x H3 hx s3 hb => ?_⟩
      · obtain ⟨j, rfl, hj, _⟩ := upT_mem.mp hk
        exact ⟨by omega, by omega⟩
      · rw [up_img] at hb
        exact out x H3 (s2.free hx) (s2.trans s3) hb
end
section
variable {P : Program} {w : World} {K : PySem.W.Frag} {mg : Str → Option Value} {base : Heap}
def spParT (K : PySem.W.Frag) : Sp := fun vs H Q _ => ∃ (a b : Addr) (bs ns : List Int), vs = [.ref a, .ref b] ∧ H a = some (.lst (bs.map V.int)) ∧ H b = some (.tup (ns.map V.int)) ∧ ns.length ≤ 500 ∧ (∀ k ∈ ns, 0 ≤ k ∧ k < bs.length) ∧
  ∀ H', Same H H' → Q (.int (parB bs ns)) H'
abbrev nParT : List Str := ["_law_bits_here", "_law_spots_here", "_law_spot"]
theorem scParT : FnScope nParT ["_law_bits_here", "_law_spots_here"] (defScope sParity) := ⟨rfl, rfl, rfl, by decide +kernel, rfl, by decide +kernel, by decide +kernel⟩
theorem ok_parT {f : Addr} {fd : FuncData} (F : Fun K "_law_parity" "_law_parity" sParity f fd) (B : Bl mg) : FnOk P w K mg base CX0 2 f fd ["_law_bits_here", "_law_spots_here"] (spParT K) := by
  refine F.ok scParT (fun vs H Q E h => ?_) (fun cdv A outer s H vs Q E hr h => ?_)
  · obtain ⟨a, b, bs, ns, rfl, _⟩ := h
    rfl
  · obtain ⟨a, b, bs, ns, rfl, ha, hb, hl, hin, out⟩ := h
    refine ⟨_, pss_one (ps_ret (pe_op op_mod (pe_callB (cr_sum rfl) (by rfl) B.sum (by decide +kernel) (pa_cons (pe_lc (own := [("_law_spot", 2)]) (g := gName 2) (te := tOp (rIxL K) (tVar 0) (tVar 2)) rfl scParT.nd (pi_tup (pv 1)) (blkOk_by (own := [("_law_spot", 2)]) (N := nParT) (sc := defScope sParity) (by decide +kernel))
        (fun _ _ _ _ _ => pg_name (i := 2) scParT.nd rfl (Or.inl rfl)) (fun _ _ _ _ _ => pts_nil) (fun _ _ _ _ _ => by exact pe_ix ix_list (pv 0) (pv 2) (fun _ _ => rfl))) pa_nil)) pe_int)), ?_⟩
    refine ⟨_, rfl, b, rfl, ⟨_, SqT.of hb⟩, fun D hD => ?_⟩
    refine lc_tup (K := K) (a := b) (xs := ns.map V.int) (fun i H' => Same H H' ∧ H' D = some (.lst (((ns.take i).map fun k => bs.getD k.toNat 0).map V.int))) ⟨same_new hD, upd_same⟩ (fun i H' _ h => SqT.of (h.1 _ _ hb)) ?_ ?_
    · rintro i x H2 hx ⟨s2, hD2⟩
      rw [List.getElem?_map] at hx
      obtain ⟨k, hk, rfl⟩ : ∃ k, ns[i]? = some k ∧ x = V.int k := by
        cases e : ns[i]? with
        | none => rw [e] at hx; cases hx
        | some k => rw [e] at hx; exact ⟨k, rfl, (Option.some.inj hx).symm⟩
      obtain ⟨k0, k1⟩ := hin k (List.mem_of_getElem? hk)
      have kl : k.toNat < bs.length := by omega
      have hat : atI (bs.map V.int) k = some (.int bs[k.toNat]) := by
        have z : atI (bs.map V.int) ((k.toNat : Nat) : Int) = some (.int bs[k.toNat]) := atI_nat (by simp [kl])
        rwa [Int.toNat_of_nonneg k0] at z
      refine ⟨rfl, yesT ?_⟩
      refine ⟨_, rfl, _, rfl, a, _, _, .int bs[k.toNat], rfl, rfl, SqL.of (s2 _ _ ha), hat, ?_⟩
      refine ⟨_, hD2, ?_, ?_, ?_⟩
      · rw [List.length_map, List.length_map, List.length_take]
        exact small1000 (by omega)
      · intro z o e
        rw [upd_ne (ne_of_none e hD)]
        exact s2 z o e
      · rw [upd_same, List.take_succ, hk, List.map_append, List.map_append]
        show some (HO.lst (_ ++ [V.int bs[k.toNat]])) = some (HO.lst (_ ++ [V.int (bs.getD k.toNat 0)]))
        rw [List.getD_eq_getElem?_getD, List.getElem?_eq_getElem kl]
        rfl
    · rintro H2 ⟨s2, hD2⟩
      rw [List.length_map, List.take_length] at hD2
      refine ⟨D, _, rfl, SqL.of hD2, _, _, rfl, rfl, (by show (0 : Int) < 2; decide), ?_⟩
      exact out H2 s2
end
end K49
namespace K49
open PySem PySem.Spec PyProof.Rows L2 Par Msk
abbrev hSource : Stmt := inClass (topS 47) 6
abbrev hIsId : Stmt := inClass (topS 47) 10
theorem addM_cons2 (R : List Nat) (k : Int) (ns : List Int) : addM R (k :: ns) = addM R ns ^^^ R.getD k.toNat 0 := by
  rw [addM_cons, Nat.xor_comm]
theorem addM_perm (R : List Nat) {ns ms : List Int} (h : ns.Perm ms) : addM R ns = addM R ms := by
  induction h with
  | nil => rfl
  | cons x _ ih => rw [addM_cons, addM_cons, ih]
  | swap x y l => rw [addM_cons, addM_cons, addM_cons, addM_cons, ← Nat.xor_assoc, ← Nat.xor_assoc, Nat.xor_comm (R.getD y.toNat 0)]
  | trans _ _ ih1 ih2 => exact ih1.trans ih2
section
variable {P : Program} {w : World} {K : PySem.W.Frag} {mg : Str → Option Value} {base : Heap}
/-- source -/
def spSource (K : PySem.W.Frag) (C : Addr) : Sp := fun vs H Q _ => ∃ (a u : Addr) (A : List Nat) (ns : List Int), vs = [.ref a, .ref u] ∧ Tb C H a A ∧ GoodT A ∧ Sq K H u (ns.map V.int) ∧ ns.length ≤ 500 ∧ (∀ k ∈ ns, 0 ≤ k ∧ k < ((A.length : Nat) : Int)) ∧ ns.Nodup ∧
  ∀ p H', H p = none → Same H H' → H' p = some (.tup ((cellsI (addM A ns)).map V.int)) → Q (.ref p) H'
theorem scSource : FnScope ["self", "cells"] ["self", "cells"] (defScope hSource) := ⟨rfl, rfl, rfl, by decide +kernel, rfl, by decide +kernel, by decide +kernel⟩
theorem ok_source {f C : Addr} {fd : FuncData} (F : Fun K "source" "Table.source" hSource f fd) (T : TC K mg C) (DS : HasM P w K mg base C "size" 2 ["self"] (spTSize C)) (DC : HasN P w K mg base "cell_tuple" 5 "things" (spCells K))
    (DA : Has P w K mg base "added_masks" 2 ["masks", "cells"] (spAddedM K)) (DX : Has P w K mg base "cells_of" 2 ["mask"] spCellsOf) : FnOk P w K mg base CX0 6 f fd ["self", "cells"] (spSource K C) := by
  obtain ⟨fS, fdS, GS, mS, bS⟩ := DS
  obtain ⟨fD, fdD, GD, mD, kD, bD⟩ := DC
  obtain ⟨fA, fdA, GA, mA, kA, bA⟩ := DA
  obtain ⟨fX, fdX, GX, mX, kX, bX⟩ := DX
  refine F.ok scSource (fun vs H Q E h => ?_) (fun cdv A outer s H vs Q E hr h => ?_)
  · obtain ⟨a, u, A, ns, rfl, _⟩ := h
    rfl
  · obtain ⟨a, u, M, ns, rfl, hA, gA, hq, hl, hin, hnd, out⟩ := h
    obtain ⟨dx, t, h1, h2⟩ := id hA
    have r2 : Room 2 (A.deeper (envOfC "Table.source" (defScope hSource) s.heap.objs.size f cdv)) := hr.mono (by decide)
    refine ⟨_, pss_one (ps_ret (pe_call GX r2 (by rfl) mX kX bX .nil pass0 (pa_cons (pe_call GA r2 (by rfl) mA kA bA .nil pass0 (pa_cons (pe_fld (pv 0) rfl) (pa_cons (pe_callN (n := 1) (ks := ["size"]) GD hr (by rfl) mD kD bD pass0 (pa_cons (pv 1) pa_nil) (pk_cons (pe_meth0 (pv 0) T.cl mS GS r2 bS .nil pass0) pk_nil)) pa_nil))) pa_nil))), ?_⟩
    refine ⟨_, rfl, a, C, dx, _, _, rfl, h1, T.cl, T.nM, fldM, _, rfl, _, rfl, a, dx, _, rfl, h1, no_fldM (by decide +kernel), a, M, rfl, hA, rfl, rfl, u, _, ns, rfl, hq, hl, hin, hnd, ?_⟩
    intro p ms H1 hp s1 pm pw hp1
    refine ⟨t, p, M, ms, rfl, SqT.of (s1 _ _ h2), SqT.of hp1, fun k hk => hin k (pm.mem_iff.mp hk), ?_⟩
    have lt : addM M ms < 2 ^ M.length := addM_lt gA.lt ms
    refine ⟨addM M ms, rfl, Nat.lt_of_lt_of_le lt (Nat.pow_le_pow_right (by decide) gA.l40), fun q H2 hq2 s2 e2 => ?_⟩
    rw [addM_perm M pm] at e2
    exact out q H2 (s1.free hq2) (s1.trans s2) e2
/-- is_identity -/
def spIsId (C : Addr) : Sp := fun vs H Q _ => ∃ (a : Addr) (A : List Nat), vs = [.ref a] ∧ Tb C H a A ∧ A.length ≤ 40 ∧ ∀ H', Same H H' → Q (.bl (decide (A = oneM A.length))) H'
theorem scIsId : FnScope ["self"] ["self"] (defScope hIsId) := ⟨rfl, rfl, rfl, by decide +kernel, rfl, by decide +kernel, by decide +kernel⟩
theorem ok_isId {f C : Addr} {fd : FuncData} (F : Fun K "is_identity" "Table.is_identity" hIsId f fd) (T : TC K mg C) (DS : HasM P w K mg base C "size" 2 ["self"] (spTSize C)) (DO : Has P w K mg base "single_masks" 2 ["size"] spSingle) : FnOk P w K mg base CX0 3 f fd ["self"] (spIsId C) := by
  obtain ⟨fS, fdS, GS, mS, bS⟩ := DS
  obtain ⟨fO, fdO, GO, mO, kO, bO⟩ := DO
  refine F.ok scIsId (fun vs H Q E h => ?_) (fun cdv A outer s H vs Q E hr h => ?_)
  · obtain ⟨a, A, rfl, _⟩ := h
    rfl
  · obtain ⟨a, M, rfl, hA, l40, out⟩ := h
    obtain ⟨dx, t, h1, h2⟩ := id hA
    have hu := hr.units
    refine ⟨_, pss_one (ps_ret (pe_cmpR (op_eqD hu) (pe_fld (pv 0) rfl) (pe_call GO hr (by rfl) mO kO bO .nil pass0 (pa_cons (pe_meth0 (pv 0) T.cl mS GS hr bS .nil pass0) pa_nil)) (nomark _))), ?_⟩
    refine ⟨_, rfl, a, C, dx, _, _, rfl, h1, T.cl, T.nM, fldM, _, rfl, a, dx, _, rfl, h1, no_fldM (by decide +kernel), a, M, rfl, hA, M.length, rfl, l40, fun p H1 hp s1 e1 => ?_⟩
    have e2 := s1 _ _ h2
    rw [mV_ints] at e1 e2
    refine ⟨.tuple ((M.map fun (m : Nat) => ((m : Nat) : Int)).map PyData.int), .tuple (((oneM M.length).map fun (m : Nat) => ((m : Nat) : Int)).map PyData.int), .tup (SqT.of e2) (dps_ints _), .tup (SqT.of e1) (dps_ints _), shaped_tints _, shaped_tints _, ?_⟩
    rw [eqv_tints, mI_inj]
    exact out _ s1
end
end K49
namespace Par
open PySem PySem.Spec PyProof.Rows L2
/-! ### {x!r}, x a list of lists of ints that the guards do not name -/
/-- lists of ints at xs -/
def LsA (H : Hp) : List Addr → List (List Int) → Prop
  | [], [] => True
  | x :: xs, ns :: nss => H x = some (.lst (ns.map V.int)) ∧ LsA H xs nss
  | _, _ => False
def rowsD (nss : List (List Int)) : PyData := .list (nss.map fun ns => .list (ns.map .int))
section
variable {X : Cx}
theorem list_shownK {pins : List (Addr × Obj)} {s : Shared} {σ : L2.St} {H : Hp} {x : Addr} {ns : List Int} (I : Inv X pins σ H s) (hx : H x = some (.lst (ns.map V.int))) (sh : (PyData.list (ns.map PyData.int)).showable = true) :
    ReprK X.prog X.w [x] s.heap 1 (.ref x) (PyData.list (ns.map PyData.int)).shown := by
  obtain ⟨its, n, rv, ho, hz⟩ := I.lst hx
  have shows := ints_shown (prog := X.prog) (w := X.w) (h := s.heap) rv (by simpa [PyData.showable] using sh)
  cases its with
  | nil =>
    have z : ns = [] := by
      cases ns with
      | nil => rfl
      | cons _ _ => cases rv
    subst z
    exact ReprK.listEmpty ho rfl rfl
  | cons y l =>
    have z := ReprK.list (prog := X.prog) (w := X.w) (as := []) (d := 0) ho rfl rfl (by simp) (by simpa using shows.length_eq) (fun i z ez => shows.item i z (by simpa using ez))
    simpa only [PyData.shown] using z
theorem lists_shown {pins : List (Addr × Obj)} {s : Shared} {σ : L2.St} {H : Hp} (I : Inv X pins σ H s) (N : List Addr) : ∀ {xs : List Addr} {nss : List (List Int)} {us : List Value}, LsA H xs nss → (∀ x ∈ xs, x ∈ N) → Vals (xs.map V.ref) us →
    PyData.showableAll (nss.map fun ns => PyData.list (ns.map PyData.int)) = true → ReprAllK X.prog X.w N s.heap 1 us (PyData.shownAll (nss.map fun ns => PyData.list (ns.map PyData.int)))
  | [], [], _, _, _, .nil, _ => .nil
  | x :: xs, ns :: nss, _, h, sub, .cons r rs, sh => by
    have both : (PyData.list (ns.map PyData.int)).showable = true ∧ PyData.showableAll (nss.map fun ns => PyData.list (ns.map PyData.int)) = true := by simpa [PyData.showableAll] using sh
    cases r
    refine ReprAllK.cons ?_ (lists_shown I N h.2 (fun z hz => sub z (List.mem_cons_of_mem _ hz)) rs both.2)
    exact (list_shownK I h.1 both.1).more fun b hb => by
      rw [List.mem_singleton.mp hb]
      exact sub x (List.mem_cons_self ..)
  | [], _ :: _, _, h, _, _, _ => h.elim
  | _ :: _, [], _, h, _, _, _ => h.elim
def tFmtN (g : List Code) (te : TE) : TE := fun σ H Q => te σ H fun x H1 => ∃ (a : Addr) (xs : List Addr) (nss : List (List Int)), x = .ref a ∧ Clear g a ∧ (∀ b ∈ xs, Clear g b ∧ b ≠ a) ∧ H1 a = some (.lst (xs.map V.ref)) ∧ LsA H1 xs nss ∧
  (rowsD nss).showable = true ∧ (rowsD nss).shown.length ≤ sizeLine ∧ Q (.str (rowsD nss).shown) H1
theorem pe_fmtN {e : Expr} {te : TE} {pos : Pos} {g : List Code} (gs : X.A.guards = some g) (hu : X.A.units + 64 < cLine) (he : PE X e te) : PE X (.FormattedValue e 114 none pos) (tFmtN g te) := by
  refine ⟨fun pins s σ H Q I h => ?_⟩
  refine wpAny_FormattedValue_repr (thn (he.run pins s σ H _ I h) fun w1 t1 got => ?_)
  obtain ⟨x, H1, I1, r1, a, xs, nss, rfl, cl, cls, ha, hl, sh, len, q⟩ := got
  cases r1
  obtain ⟨its, n, rv, ho, hz⟩ := I1.lst ha
  have shows := lists_shown I1 xs hl (fun _ z => z) rv (by simpa [rowsD, PyData.showable] using sh)
  have fin : ∀ (h' : Heap) (u tk : Nat), (∀ b o, t1.heap.get? b = some o → h'.get? b = some o) → wpAny (model X.prog X.w) X.A (formatField (.str (rowsD nss).shown u) Str.empty) (EP X pins σ Q) X.xe { t1 with heap := h', toks := tk } :=
    fun h' u tk k => wpAny_formatField_str ⟨.str _, H1, I1.un (Un.kept k) (I1.hok.kept k), ⟨_, rfl⟩, q⟩ ⟨.str _, H1, I1.un (Un.kept k) (I1.hok.kept k), ⟨_, rfl⟩, q⟩ len
  cases its with
  | nil =>
    have z : xs = [] := by
      cases xs with
      | nil => rfl
      | cons _ _ => cases rv
    subst z
    have z2 : nss = [] := by
      cases nss with
      | nil => rfl
      | cons _ _ => exact hl.elim
    subst z2
    exact wpAny_pyReprObj_list_empty ⟨_, ho, rfl⟩ (by omega) ho rfl (fin t1.heap _ _ fun _ _ e => e)
  | cons y l =>
    refine wpAny_pyReprObj_listK (as := xs) (h₀ := t1.heap) (d := 1) ho rfl rfl (fun z => (cls a z).2 rfl) (by simpa using shows.length_eq) (fun i z ez => shows.item i z (by simpa using ez)) gs (fun b hb => ?_) (by omega) (fun _ _ z => z) (fun h' u tk k => ?_) (by simpa only [rowsD, PyData.shown] using len)
    · rcases List.mem_cons.mp hb with z | z
      · rw [z]
        exact cl
      · exact (cls b z).1
    · have := fin h' u tk k
      simpa only [rowsD, PyData.shown] using this
end
end Par
namespace K49
open PySem PySem.Spec PyProof.Rows L2 Par Msk
theorem ls_mono {H H' : Hp} : ∀ {xs : List Addr} {nss : List (List Int)}, (∀ x ∈ xs, ∀ us, H x = some (.lst us) → H' x = some (.lst us)) → LsA H xs nss → LsA H' xs nss
  | [], [], _, _ => True.intro
  | x :: _, _ :: _, k, h => ⟨k x (List.mem_cons_self ..) _ h.1, ls_mono (fun y hy => k y (List.mem_cons_of_mem _ hy)) h.2⟩
  | [], _ :: _, _, h => h.elim
  | _ :: _, [], _, h => h.elim
theorem ls_snoc {H : Hp} {x : Addr} {ns : List Int} (hx : H x = some (.lst (ns.map V.int))) : ∀ {xs : List Addr} {nss : List (List Int)}, LsA H xs nss → LsA H (xs ++ [x]) (nss ++ [ns])
  | [], [], _ => ⟨hx, True.intro⟩
  | _ :: _, _ :: _, h => ⟨h.1, ls_snoc hx h.2⟩
  | [], _ :: _, h => h.elim
  | _ :: _, [], h => h.elim
theorem ls_len {H : Hp} : ∀ {xs : List Addr} {nss : List (List Int)}, LsA H xs nss → xs.length = nss.length
  | [], [], _ => rfl
  | _ :: _, _ :: _, h => by rw [List.length_cons, List.length_cons, ls_len h.2]
  | [], _ :: _, h => h.elim
  | _ :: _, [], h => h.elim
/-- the text of a table -/
def tabT (ms : List Nat) : Str := Str.ofString "Table(" ++ (rowsD (ms.map cellsI)).shown ++ Str.ofString ")"
theorem inner_ok {m : Nat} (hm : m < 2 ^ 40) : (PyData.list ((cellsI m).map PyData.int)).showable = true ∧ (PyData.list ((cellsI m).map PyData.int)).shown.length ≤ 8082 := by
  have sm : ∀ d ∈ (cellsI m).map PyData.int, small d := fun d hd => by
    obtain ⟨k, hk, rfl⟩ := List.mem_map.mp hd
    have := cellsI_in hm k hk
    exact small_int (by omega)
  have few : (cellsI m).length ≤ 40 := cells_few (cellsI_nodup m) fun k hk => by
    have := cellsI_in hm k hk
    exact ⟨by omega, by omega⟩
  refine ⟨showAll fun d hd => (sm d hd).1, ?_⟩
  show (listText (PyData.shownAll ((cellsI m).map PyData.int))).length ≤ 8082
  have h1 := listText_le (PyData.shownAll ((cellsI m).map PyData.int))
  have h2 := piledAll (n := 200) fun d hd => (sm d hd).2.2
  rw [List.length_map] at h2
  omega
theorem rows_shown {ms : List Nat} (g : GoodT ms) : (rowsD (ms.map cellsI)).showable = true ∧ (rowsD (ms.map cellsI)).shown.length ≤ 323400 := by
  have al : ∀ d ∈ (ms.map cellsI).map (fun ns => PyData.list (ns.map PyData.int)), d.showable = true ∧ d.shown.length ≤ 8082 := fun d hd => by
    obtain ⟨ns, hn, rfl⟩ := List.mem_map.mp hd
    obtain ⟨m, hm, rfl⟩ := List.mem_map.mp hn
    exact inner_ok (Nat.lt_of_lt_of_le (g.lt m hm) (Nat.pow_le_pow_right (by decide) g.l40))
  refine ⟨showAll fun d hd => (al d hd).1, ?_⟩
  show (listText (PyData.shownAll ((ms.map cellsI).map fun ns => PyData.list (ns.map PyData.int)))).length ≤ 323400
  have h1 := listText_le (PyData.shownAll ((ms.map cellsI).map fun ns => PyData.list (ns.map PyData.int)))
  have h2 := piledAll (n := 8082) fun d hd => (al d hd).2
  rw [List.length_map, List.length_map] at h2
  have := g.l40
  omega
def Rtab (C : Addr) : Addr → Str → Hp → Prop := fun a t H => ∃ ms, Tb C H a ms ∧ GoodT ms ∧ t = tabT ms
theorem shAll_cons {D : Shw} {H : Hp} {x : V} {t : Str} {xs : List V} {ts : List Str} (h : D x t H) (r : ShAll D xs ts H) : ShAll D (x :: xs) (t :: ts) H := by
  refine ⟨by rw [List.length_cons, List.length_cons, r.1], fun i a b h1 h2 => ?_⟩
  cases i with
  | zero =>
    simp at h1 h2
    subst h1; subst h2
    exact h
  | succ i =>
    simp at h1 h2
    exact r.2 i a b h1 h2
theorem mon_tx {C : Addr} : ∀ x t H H', Same H H' → DOwn C (Rtab C) x t H → DOwn C (Rtab C) x t H' := fun x t H H' s d => by
  obtain ⟨a, dx, fs, hx, e, ms, h1, h2⟩ := d
  exact ⟨a, dx, fs, hx, s _ _ e, ms, h1.same s, h2⟩
theorem down_t {C a : Addr} {H : Hp} {ms : List Nat} (h : Tb C H a ms) (g : GoodT ms) : DOwn C (Rtab C) (.ref a) (tabT ms) H := by
  obtain ⟨dx, x1, e1, _⟩ := id h
  exact ⟨a, dx, _, rfl, e1, ms, h, g, rfl⟩
theorem tabT_len {ms : List Nat} (g : GoodT ms) : (tabT ms).length ≤ 323410 := by
  obtain ⟨_, ln⟩ := rows_shown g
  have c1 : (Str.ofString "Table(").length = 6 := by decide +kernel
  have c3 : (Str.ofString ")").length = 1 := by decide +kernel
  unfold tabT
  rw [strLen_append, strLen_append, c1, c3]
  omega
theorem show2 {C a b : Addr} {H : Hp} {ms ns : List Nat} (h1 : Tb C H a ms) (g1 : GoodT ms) (h2 : Tb C H b ns) (g2 : GoodT ns) :
    ShAll (DOwn C (Rtab C)) [V.ref a, V.ref b] [tabT ms, tabT ns] H ∧ (listText [tabT ms, tabT ns]).length ≤ sizeLine := by
  refine ⟨shAll_cons (down_t h1 g1) (shAll_cons (down_t h2 g2) ⟨rfl, fun i x t h _ => by simp at h⟩), ?_⟩
  have e := listText_le [tabT ms, tabT ns]
  have l1 := tabT_len g1
  have l2 := tabT_len g2
  have e2 : piled [tabT ms, tabT ns] = (tabT ms).length + 2 + ((tabT ns).length + 2 + 0) := rfl
  rw [sizeLine_eq]
  omega
section
variable {P : Program} {w : World} {K : PySem.W.Frag} {mg : Str → Option Value} {base : Heap}
def rLst (K : PySem.W.Frag) : List V → Hp → VK → Prop := fun xs H Q => ∃ p ys, xs = [.ref p] ∧ (SqL K H p ys ∨ SqT K H p ys) ∧ ∀ l, H l = none → Q (.ref l) (upd H l (.lst ys))
abbrev nRep : List Str := ["self", "rows", "mask"]
theorem scRep : FnScope nRep ["self"] (defScope hRepr) := ⟨rfl, rfl, rfl, by decide +kernel, rfl, by decide +kernel, by decide +kernel⟩
theorem ok_reprT {f C : Addr} {fd : FuncData} (F : Fun K "__repr__" "Table.__repr__" hRepr f fd) (B : Bl mg) (T : TC K mg C) (DC : Has P w K mg base "cells_of" 2 ["mask"] spCellsOf) : FnH P w K mg base CX0 3 f fd ["self"] (spShow (Rtab C)) := by
  obtain ⟨fC, fdC, GC, mC, kC, bC⟩ := DC
  refine fnH_of F scRep (fun vs H Q E h => ?_) (fun g cdv A outer s H vs Q E gs cl hr h => ?_)
  · obtain ⟨f, t, rfl, _⟩ := h
    rfl
  · obtain ⟨a, tx, rfl, ⟨ms, hT, gt, rfl⟩, out⟩ := h
    obtain ⟨dx, t, h1, h2⟩ := id hT
    have hu := hr.units
    obtain ⟨sh, ln⟩ := rows_shown gt
    have c1 : (Str.ofString "Table(").length = 6 := by decide +kernel
    have c3 : (Str.ofString ")").length = 1 := by decide +kernel
    have l40 := gt.l40
    refine ⟨_, pss_cons (ps_setLc (i := 1) (own := [("mask", 2)]) (g := gName 2) (te := tCB (rLst K) (tCons (tCall spCellsOf [] E0 (tCons (tVar 2) tNil)) tNil)) rfl scRep.nd rfl rfl (sw_true rfl rfl rfl (by decide +kernel)) (pi_tup (pe_fld (pv 0) rfl)) (blkOk_by (own := [("mask", 2)]) (N := nRep) (sc := defScope hRepr) (by decide +kernel))
        (fun _ _ _ _ _ => pg_name (i := 2) scRep.nd rfl (Or.inl rfl)) (fun _ _ _ _ _ => pts_nil) (fun _ _ _ _ _ => by exact pe_callTy call_list_of (by rfl) B.list (by decide +kernel) (pa_cons (pe_call GC hr (by rfl) mC kC bC .nil pass0 (pa_cons (pv 2) pa_nil)) pa_nil)))
      (pss_one (ps_ret (pe_joined (.cons pe_str (.cons (pe_fmtN gs hu (pv 1)) (.cons pe_str .nil)))))), ?_⟩
    refine ⟨_, rfl, a, C, dx, _, _, rfl, h1, T.cl, T.nM, fldM, t, rfl, ⟨_, SqT.of h2⟩, fun D hD => ?_⟩
    refine lc_tup (K := K) (a := t) (xs := mV ms) (fun i H' => Same H H' ∧ ∃ xs : List Addr, H' D = some (.lst (xs.map V.ref)) ∧ LsA H' xs ((ms.take i).map cellsI) ∧ ∀ x ∈ xs, H x = none ∧ x ≠ D) ⟨same_new hD, [], upd_same, True.intro, fun x hx => nomatch hx⟩ (fun i H' _ h => same_sqt h.1 (SqT.of h2)) ?_ ?_
    · rintro i x H2 hx ⟨s2, xs, hD2, ls, nw⟩
      have hi : i < ms.length := by
        rcases Nat.lt_or_ge i ms.length with z | z
        · exact z
        · rw [List.getElem?_eq_none (by rw [mV_len]; exact z)] at hx
          cases hx
      obtain rfl : V.int ((ms.getD i 0 : Nat) : Int) = x := Option.some.inj ((mV_at hi).symm.trans hx)
      have lt := getD_lt gt.lt i
      refine ⟨rfl, yesT ?_⟩
      refine ⟨_, rfl, ms.getD i 0, rfl, Nat.lt_of_lt_of_le lt (Nat.pow_le_pow_right (by decide) l40), fun p H3 hp s3 e3 => ?_⟩
      refine ⟨p, _, rfl, .inr (SqT.of e3), fun q hq => ?_⟩
      have s4 := same_new (o := .lst ((cellsI (ms.getD i 0)).map V.int)) hq
      have s24 := s3.trans s4
      have qD : q ≠ D := fun z => by rw [z, s3 _ _ hD2] at hq; cases hq
      refine ⟨_, s24 _ _ hD2, ?_, ?_, xs ++ [q], ?_, ?_, ?_⟩
      · rw [List.length_map, ls_len ls, List.length_map, List.length_take]
        exact small1000 (by omega)
      · intro z o e
        rw [upd_ne (ne_of_none e hD)]
        exact s24 _ _ (s2 z o e)
      · rw [upd_same, List.map_append]
        rfl
      · have st : (ms.take (i + 1)).map cellsI = (ms.take i).map cellsI ++ [cellsI (ms.getD i 0)] := by
          rw [List.take_succ, List.getElem?_eq_getElem hi, List.map_append, List.getD_eq_getElem?_getD, List.getElem?_eq_getElem hi]
          rfl
        rw [st]
        refine ls_snoc (by rw [upd_ne qD]; exact upd_same) (ls_mono (fun x hx us e => ?_) ls)
        rw [upd_ne (nw x hx).2]
        exact s24 _ _ e
      · intro x hx
        rcases List.mem_append.mp hx with z | z
        · exact nw x z
        · have e : x = q := by simpa using z
          subst e
          exact ⟨s2.free (s3.free hq), qD⟩
    · rintro H2 ⟨s2, xs, hD2, ls, nw⟩
      rw [mV_len, List.take_length] at ls
      refine ⟨_, rfl, ?_, ?_⟩
      · rw [Str.empty_append, c1, sizeLine_eq]
        omega
      refine ⟨_, rfl, D, xs, ms.map cellsI, rfl, cl D hD, fun b hb => ⟨cl b (nw b hb).1, (nw b hb).2⟩, hD2, ls, sh, by rw [sizeLine_eq]; omega, _, rfl, ?_, ?_⟩
      · rw [Str.empty_append, strLen_append, c1, sizeLine_eq]
        omega
      refine ⟨_, rfl, ?_, ?_⟩
      · rw [Str.empty_append, strLen_append, strLen_append, c1, c3, sizeLine_eq]
        omega
      rw [Str.empty_append]
      exact out _ s2
def HasRT (P : Program) (w : World) (K : PySem.W.Frag) (mg : Str → Option Value) (base : Heap) (C : Addr) : Prop :=
  ∃ f fd, FnH P w K mg base CX0 3 f fd ["self"] (spShow (Rtab C)) ∧ PySem.W.findIn K (.ref C) "__repr__" = some (some (.ref f)) ∧ PySem.W.isFn K (.ref f) = true ∧ Binds K fd ["self"] []
end
end K49
/-! sums without carry of naturals, and how many of them are independent; no law in it -/
namespace Rnk
open Msk
def xs : List Nat → Nat
  | [] => 0
  | y :: l => y ^^^ xs l
/-- a sum of things of S -/
def In (S : Nat → Prop) (x : Nat) : Prop := ∃ l : List Nat, (∀ y ∈ l, S y) ∧ x = xs l
theorem xs_app : ∀ l k : List Nat, xs (l ++ k) = xs l ^^^ xs k
  | [], k => (Nat.zero_xor _).symm
  | y :: l, k => by
    show y ^^^ xs (l ++ k) = (y ^^^ xs l) ^^^ xs k
    rw [xs_app l k, Nat.xor_assoc]
theorem In.zero {S : Nat → Prop} : In S 0 := ⟨[], fun _ h => (nomatch h), rfl⟩
theorem In.of {S : Nat → Prop} {x : Nat} (h : S x) : In S x := ⟨[x], fun y hy => by rw [List.mem_singleton.mp hy]; exact h, (Nat.xor_zero x).symm⟩
theorem In.xor {S : Nat → Prop} {x y : Nat} (hx : In S x) (hy : In S y) : In S (x ^^^ y) := by
  obtain ⟨l, a, rfl⟩ := hx
  obtain ⟨k, b, rfl⟩ := hy
  exact ⟨l ++ k, fun z hz => (List.mem_append.mp hz).elim (a z) (b z), (xs_app l k).symm⟩
theorem In.bind {S T : Nat → Prop} (f : ∀ y, S y → In T y) {x : Nat} (h : In S x) : In T x := by
  obtain ⟨l, a, rfl⟩ := h
  induction l with
  | nil => exact .zero
  | cons y l ih => exact (f y (a y (List.mem_cons_self ..))).xor (ih fun z hz => a z (List.mem_cons_of_mem _ hz))
theorem In.mono {S T : Nat → Prop} (f : ∀ y, S y → T y) {x : Nat} (h : In S x) : In T x := h.bind fun y hy => .of (f y hy)
theorem In.comb {S : Nat → Prop} : ∀ {ms : List Nat}, (∀ m ∈ ms, In S m) → ∀ s, In S (comb ms s)
  | [], _, _ => .zero
  | m :: ms, h, s => by
    show In S ((if s.testBit 0 then m else 0) ^^^ Msk.comb ms (s >>> 1))
    refine In.xor ?_ (In.comb (fun x hx => h x (List.mem_cons_of_mem _ hx)) _)
    split
    · exact h m (List.mem_cons_self ..)
    · exact .zero
/-- what is a sum of some of the list is told by bits -/
theorem In.get {ms : List Nat} {x : Nat} (h : In (fun y => y ∈ ms) x) : ∃ s, s < 2 ^ ms.length ∧ Msk.comb ms s = x := by
  obtain ⟨l, a, rfl⟩ := h
  induction l with
  | nil => exact ⟨0, Nat.two_pow_pos _, comb_zero _⟩
  | cons y l ih =>
    obtain ⟨s, hs, es⟩ := ih fun z hz => a z (List.mem_cons_of_mem _ hz)
    obtain ⟨i, hi, ei⟩ := List.getElem_of_mem (a y (List.mem_cons_self ..))
    refine ⟨2 ^ i ^^^ s, xor_lt (Nat.pow_lt_pow_right (by decide) hi) hs, ?_⟩
    rw [comb_xor, comb_one, es, List.getD_eq_getElem?_getD, List.getElem?_eq_getElem hi, ei]
    rfl
theorem comb_mem {ms : List Nat} (s : Nat) : In (fun y => y ∈ ms) (comb ms s) := In.comb (fun m hm => .of hm) s
/-- independent naturals below 2 ^ m are at most m -/
theorem few {T : List Nat} {m : Nat} (lt : ∀ x ∈ T, x < 2 ^ m) (ind : Indep T) : T.length ≤ m := by
  have nd : ((List.range (2 ^ T.length)).map (comb T)).Nodup := by
    rw [List.nodup_iff_pairwise_ne, List.pairwise_map]
    refine List.Pairwise.imp_of_mem ?_ List.nodup_range
    intro a b ha hb ne e
    have h := ind (a ^^^ b) (xor_lt (List.mem_range.mp ha) (List.mem_range.mp hb)) (by rw [comb_xor, e, Nat.xor_self])
    exact xor_ne ne h
  have h := erase_few (2 ^ m) _ nd fun x hx => by
    obtain ⟨s, _, rfl⟩ := List.mem_map.mp hx
    exact comb_lt T s lt
  rw [List.length_map, List.length_range] at h
  exact (Nat.pow_le_pow_iff_right (by decide)).mp h
theorem comb_low {ms : List Nat} : ∀ {s t : Nat}, True → comb ms s = comb ms s := fun _ => rfl
/-- independent sums of B are at most as many as B -/
theorem dim {A B : List Nat} (ind : Indep A) (h : ∀ a ∈ A, In (fun y => y ∈ B) a) : A.length ≤ B.length := by
  obtain ⟨T, lT, tl, te⟩ : ∃ T : List Nat, T.length = A.length ∧ (∀ t ∈ T, t < 2 ^ B.length) ∧ A = comp B T := by
    clear ind
    induction A with
    | nil => exact ⟨[], rfl, fun _ h => (nomatch h), rfl⟩
    | cons a A ih =>
      obtain ⟨T, lT, tl, te⟩ := ih fun x hx => h x (List.mem_cons_of_mem _ hx)
      obtain ⟨s, hs, es⟩ := (h a (List.mem_cons_self ..)).get
      refine ⟨s :: T, by rw [List.length_cons, List.length_cons, lT], fun t ht => ?_, ?_⟩
      · rcases List.mem_cons.mp ht with rfl | ht
        · exact hs
        · exact tl t ht
      · show a :: A = comb B s :: comp B T
        rw [es, ← te]
  have indT : Indep T := fun s hs e => ind s (by rw [← lT]; exact hs) (by rw [te, comb_comp, e, comb_zero])
  have := few tl indT
  omega
/-- r of the sums of S are independent, and all of them are sums of these r -/
def Rk (S : Nat → Prop) (r : Nat) : Prop := ∃ B : List Nat, Indep B ∧ B.length = r ∧ (∀ b ∈ B, In S b) ∧ ∀ x, S x → In (fun y => y ∈ B) x
theorem Rk.leL {S : Nat → Prop} {r : Nat} (h : Rk S r) {D : List Nat} (f : ∀ x, S x → In (fun y => y ∈ D) x) : r ≤ D.length := by
  obtain ⟨B, ind, rfl, bs, _⟩ := h
  exact dim ind fun b hb => (bs b hb).bind f
theorem Rk.le {S T : Nat → Prop} {r q : Nat} (h : Rk S r) (k : Rk T q) (f : ∀ x, S x → In T x) : r ≤ q := by
  obtain ⟨D, _, rfl, _, dt⟩ := k
  exact h.leL fun x hx => (f x hx).bind dt
theorem Rk.only {S T : Nat → Prop} {r q : Nat} (h : Rk S r) (k : Rk T q) (f : ∀ x, S x → In T x) (g : ∀ x, T x → In S x) : r = q := Nat.le_antisymm (h.le k f) (k.le h g)
theorem Rk.add {S T U : Nat → Prop} {r q u : Nat} (h : Rk S r) (k : Rk T q) (l : Rk U u) (f : ∀ x, U x → In (fun y => S y ∨ T y) x) : u ≤ r + q := by
  obtain ⟨B, _, rfl, _, bs⟩ := h
  obtain ⟨D, _, rfl, _, dt⟩ := k
  rw [← List.length_append]
  exact l.leL fun x hx => (f x hx).bind fun y hy => hy.elim (fun z => (bs y z).mono fun w hw => List.mem_append_left _ hw) (fun z => (dt y z).mono fun w hw => List.mem_append_right _ hw)
theorem Rk.zero {S : Nat → Prop} (h : Rk S 0) : ∀ x, S x → x = 0 := by
  obtain ⟨B, _, l, _, bs⟩ := h
  intro x hx
  obtain ⟨s, hs, e⟩ := (bs x hx).get
  rw [List.length_eq_zero_iff.mp l] at e
  exact e.symm
theorem Rk.none {S : Nat → Prop} {r : Nat} (h : Rk S r) (z : ∀ x, S x → x = 0) : r = 0 := by
  have := h.leL (D := []) fun x hx => by rw [z x hx]; exact .zero
  exact Nat.le_zero.mp this
theorem even_comb : ∀ {B : List Nat}, (∀ b ∈ B, b % 2 = 0) → ∀ s, comb B s % 2 = 0
  | [], _, _ => rfl
  | b :: B, h, s => by
    show ((if s.testBit 0 then b else 0) ^^^ comb B (s >>> 1)) % 2 = 0
    have i := even_comb (fun x hx => h x (List.mem_cons_of_mem _ hx)) (s >>> 1)
    have j := h b (List.mem_cons_self ..)
    rw [xor_mod2]
    split <;> omega
/-- with the lowest bit never there, and all of them below 2 ^ n -/
theorem Rk.even {S : Nat → Prop} {r n : Nat} (h : Rk S r) (n1 : 1 ≤ n) (e : ∀ x, S x → x % 2 = 0 ∧ x < 2 ^ n) : r < n := by
  obtain ⟨B, ind, rfl, bs, _⟩ := h
  have be : ∀ b ∈ B, b % 2 = 0 ∧ b < 2 ^ n := fun b hb => by
    obtain ⟨l, a, rfl⟩ := bs b hb
    clear hb
    induction l with
    | nil => exact ⟨rfl, Nat.two_pow_pos _⟩
    | cons y l ih =>
      have i := ih fun z hz => a z (List.mem_cons_of_mem _ hz)
      have j := e y (a y (List.mem_cons_self ..))
      exact ⟨by show (y ^^^ xs l) % 2 = 0; rw [xor_mod2]; omega, xor_lt j.2 i.2⟩
  have ce : ∀ s, comb B s % 2 = 0 := even_comb fun b hb => (be b hb).1
  have i2 : Indep (1 :: B) := fun s hs z => by
    have z2 : (if s.testBit 0 then 1 else 0) ^^^ comb B (s >>> 1) = 0 := z
    have c := ce (s >>> 1)
    have m : ((if s.testBit 0 then 1 else 0) ^^^ comb B (s >>> 1)) % 2 = 0 := by rw [z2]
    rw [xor_mod2] at m
    cases t : s.testBit 0 with
    | true => rw [t, if_pos rfl] at m; omega
    | false =>
      rw [t, if_neg Bool.false_ne_true, Nat.zero_xor] at z2
      have h1 : s >>> 1 < 2 ^ B.length := by
        rw [List.length_cons, Nat.pow_succ] at hs
        rw [Nat.shiftRight_eq_div_pow]
        omega
      have h2 := ind _ h1 z2
      rw [Nat.shiftRight_eq_div_pow] at h2
      have h3 : s % 2 = 0 := by
        rw [Nat.testBit_zero] at t
        have := of_decide_eq_false t
        omega
      omega
  have := few (m := n) (T := 1 :: B) (fun x hx => by
    rcases List.mem_cons.mp hx with rfl | hx
    · exact Nat.one_lt_two_pow (by omega)
    · exact (be x hx).2) i2
  rw [List.length_cons] at this
  exact this
/-- all below 2 ^ n -/
theorem Rk.small {S : Nat → Prop} {r n : Nat} (h : Rk S r) (e : ∀ x, S x → x < 2 ^ n) : r ≤ n := by
  have := h.leL (D := oneM n) fun x hx => by
    have := comb_mem (ms := oneM n) x
    rwa [comb_oneM (e x hx)] at this
  rwa [oneM_len] at this
/-! ### pivots: nonzero, with different lengths -/
theorem bl_xor_ne {a b : Nat} (h : bl a < bl b) : bl (a ^^^ b) = bl b := by
  have b0 : b ≠ 0 := fun z => by
    rw [z] at h
    exact absurd h (Nat.not_lt_zero _)
  refine Nat.le_antisymm (bl_le (xor_lt (Nat.lt_of_lt_of_le (lt_bl a) (Nat.pow_le_pow_right (by decide) (by omega))) (lt_bl b))) ?_
  have t : (a ^^^ b).testBit (bl b - 1) = true := by
    rw [Nat.testBit_xor, top_bit b0, high_bit (by omega)]
    rfl
  have := bit_lt t
  omega
theorem piv_top : ∀ {ps : List Nat}, (∀ p ∈ ps, p ≠ 0) → (ps.map bl).Nodup → ∀ {s : Nat}, s < 2 ^ ps.length → s ≠ 0 → comb ps s ≠ 0 ∧ bl (comb ps s) ∈ ps.map bl
  | [], _, _, s, h, h0 => absurd (by rw [List.length_nil, Nat.pow_zero] at h; omega) h0
  | p :: ps, hz, nd, s, h, h0 => by
    have p0 := hz p (List.mem_cons_self ..)
    have hs : s >>> 1 < 2 ^ ps.length := by
      rw [List.length_cons, Nat.pow_succ] at h
      rw [Nat.shiftRight_eq_div_pow]
      omega
    have nd2 := List.nodup_cons.mp (show (bl p :: ps.map bl).Nodup from nd)
    have zero_of : ∀ c : Nat, bl c ≠ 0 → c ≠ 0 := fun c h z => h (by rw [z]; rfl)
    show ((if s.testBit 0 then p else 0) ^^^ comb ps (s >>> 1)) ≠ 0 ∧ bl ((if s.testBit 0 then p else 0) ^^^ comb ps (s >>> 1)) ∈ bl p :: ps.map bl
    by_cases z : s >>> 1 = 0
    · rw [z, comb_zero, Nat.xor_zero]
      have : s = 1 := by
        rw [Nat.shiftRight_eq_div_pow] at z
        omega
      rw [this]
      exact ⟨p0, List.mem_cons_self ..⟩
    · obtain ⟨c0, cm⟩ := piv_top (fun x hx => hz x (List.mem_cons_of_mem _ hx)) nd2.2 hs z
      generalize comb ps (s >>> 1) = c at c0 cm ⊢
      cases t : s.testBit 0 with
      | false =>
        rw [if_neg Bool.false_ne_true, Nat.zero_xor]
        exact ⟨c0, List.mem_cons_of_mem _ cm⟩
      | true =>
        rw [if_pos rfl]
        have ne : bl p ≠ bl c := fun e => nd2.1 (e ▸ cm)
        rcases Nat.lt_or_gt_of_ne ne with l | l
        · rw [bl_xor_ne l]
          refine ⟨zero_of _ ?_, List.mem_cons_of_mem _ cm⟩
          rw [bl_xor_ne l]
          have := bl_pos c0
          omega
        · rw [Nat.xor_comm, bl_xor_ne l]
          refine ⟨zero_of _ ?_, List.mem_cons_self ..⟩
          rw [bl_xor_ne l]
          have := bl_pos p0
          omega
theorem piv_ind {ps : List Nat} (hz : ∀ p ∈ ps, p ≠ 0) (nd : (ps.map bl).Nodup) : Indep ps := fun s hs e => by
  cases Nat.decEq s 0 with
  | isTrue h => exact h
  | isFalse h => exact absurd e (piv_top hz nd hs h).1
/-- pivots of what S holds -/
structure Pv (S : Nat → Prop) (ps : List Nat) : Prop where
  nz : ∀ p ∈ ps, p ≠ 0
  keys : (ps.map bl).Nodup
  from_ : ∀ p ∈ ps, In S p
  all : ∀ x, S x → In (fun y => y ∈ ps) x
theorem Pv.rk {S : Nat → Prop} {ps : List Nat} (h : Pv S ps) : Rk S ps.length := ⟨ps, piv_ind h.nz h.keys, rfl, h.from_, h.all⟩
theorem Pv.none : Pv (fun _ => False) [] := ⟨fun _ h => (nomatch h), List.nodup_nil, fun _ h => (nomatch h), fun _ h => h.elim⟩
/-- one thing more: what is left of it is nothing, or a new pivot -/
theorem Pv.skip {S : Nat → Prop} {ps : List Nat} {m a : Nat} (h : Pv S ps) (ha : In (fun y => y ∈ ps) a) (e : m ^^^ a = 0) : Pv (fun x => S x ∨ x = m) ps :=
  ⟨h.nz, h.keys, fun p hp => (h.from_ p hp).mono fun _ => Or.inl, fun x hx => hx.elim (h.all x) fun z => by
    have : m = a := by
      cases Nat.decEq m a with
      | isTrue y => exact y
      | isFalse y => exact absurd e (xor_ne y)
    rw [z, this]
    exact ha⟩
theorem Pv.snoc {S : Nat → Prop} {ps : List Nat} {m a : Nat} (h : Pv S ps) (ha : In (fun y => y ∈ ps) a) (e : m ^^^ a ≠ 0) (no : ∀ q ∈ ps, bl q ≠ bl (m ^^^ a)) : Pv (fun x => S x ∨ x = m) (ps ++ [m ^^^ a]) := by
  refine ⟨fun p hp => ?_, ?_, fun p hp => ?_, fun x hx => ?_⟩
  · rcases List.mem_append.mp hp with z | z
    · exact h.nz p z
    · rw [List.mem_singleton.mp z]
      exact e
  · rw [List.map_append]
    refine List.nodup_append.mpr ⟨h.keys, by simp, fun x hx y hy => ?_⟩
    obtain ⟨q, hq, rfl⟩ := List.mem_map.mp hx
    have : y = bl (m ^^^ a) := by simpa using hy
    rw [this]
    exact no q hq
  · rcases List.mem_append.mp hp with z | z
    · exact (h.from_ p z).mono fun _ => Or.inl
    · rw [List.mem_singleton.mp z]
      exact (In.of (Or.inr rfl)).xor (ha.bind fun y hy => (h.from_ y hy).mono fun _ => Or.inl)
  · rcases hx with z | z
    · exact (h.all x z).mono fun y hy => List.mem_append_left _ hy
    · rw [z]
      have h2 : In (fun y => y ∈ ps ++ [m ^^^ a]) ((m ^^^ a) ^^^ a) := (In.of (List.mem_append_right _ (by simp))).xor (ha.mono fun y hy => List.mem_append_left _ hy)
      rwa [Nat.xor_assoc, Nat.xor_self, Nat.xor_zero] at h2
/-- a new pivot tells of a thing that was no sum yet -/
theorem Pv.new {S : Nat → Prop} {ps : List Nat} {m a : Nat} (h : Pv S ps) (ha : In (fun y => y ∈ ps) a) (e : m ^^^ a ≠ 0) (no : ∀ q ∈ ps, bl q ≠ bl (m ^^^ a)) : ¬ In S m := fun hi => by
  have r2 := (h.snoc ha e no).rk
  have := r2.only h.rk (fun x hx => hx.elim .of fun z => z ▸ hi) fun x hx => .of (.inl hx)
  rw [List.length_append] at this
  have l1 : [m ^^^ a].length = 1 := rfl
  omega
/-- what can be left of m -/
theorem Pv.reduce {S : Nat → Prop} {ps : List Nat} (h : Pv S ps) : ∀ (k m : Nat), bl m ≤ k → ∃ a, In (fun y => y ∈ ps) a ∧ ∀ q ∈ ps, bl q ≠ bl (m ^^^ a) := fun k => by
  induction k with
  | zero =>
    intro m hm
    refine ⟨0, .zero, fun q hq e => ?_⟩
    have := bl_pos (h.nz q hq)
    rw [Nat.xor_zero] at e
    omega
  | succ k ih =>
    intro m hm
    by_cases z : ∃ q ∈ ps, bl q = bl m
    · obtain ⟨q, hq, e⟩ := z
      have q0 := h.nz q hq
      have lt : bl (m ^^^ q) < bl q := by
        rw [Nat.xor_comm]
        exact bl_xor q0 e
      obtain ⟨a, ia, no⟩ := ih (m ^^^ q) (by omega)
      refine ⟨q ^^^ a, (In.of hq).xor ia, fun p hp => ?_⟩
      rw [← Nat.xor_assoc]
      exact no p hp
    · refine ⟨0, .zero, fun q hq e => z ⟨q, hq, ?_⟩⟩
      rwa [Nat.xor_zero] at e
theorem Pv.ex : ∀ l : List Nat, ∃ ps, Pv (fun x => x ∈ l) ps
  | [] => ⟨[], ⟨fun _ h => (nomatch h), List.nodup_nil, fun _ h => (nomatch h), fun _ h => (nomatch h)⟩⟩
  | m :: l => by
    obtain ⟨ps, h⟩ := Pv.ex l
    obtain ⟨a, ia, no⟩ := h.reduce (bl m) m (Nat.le_refl _)
    have to : ∀ qs, Pv (fun x => x ∈ l ∨ x = m) qs → Pv (fun x => x ∈ m :: l) qs := fun qs k => ⟨k.nz, k.keys, fun p hp => (k.from_ p hp).mono fun y hy => List.mem_cons.mpr hy.symm, fun x hx => k.all x (List.mem_cons.mp hx).symm⟩
    cases Nat.decEq (m ^^^ a) 0 with
    | isTrue e => exact ⟨ps, to _ (h.skip ia e)⟩
    | isFalse e => exact ⟨_, to _ (h.snoc ia e no)⟩
theorem Rk.of_iff {S T : Nat → Prop} {r : Nat} (h : Rk S r) (e : ∀ x, S x ↔ T x) : Rk T r := by
  obtain ⟨B, i, l, a, b⟩ := h
  exact ⟨B, i, l, fun x hx => (a x hx).mono fun y => (e y).mp, fun x hx => b x ((e x).mpr hx)⟩
theorem Rk.of_in {S T : Nat → Prop} {r : Nat} (h : Rk S r) (f : ∀ x, S x → In T x) (g : ∀ x, T x → In S x) : Rk T r := by
  obtain ⟨B, i, l, a, b⟩ := h
  exact ⟨B, i, l, fun x hx => (a x hx).bind f, fun x hx => (g x hx).bind b⟩
theorem Rk.ex {S : Nat → Prop} {n : Nat} (lt : ∀ x, S x → x < n) : ∃ r, Rk S r := by
  classical
  obtain ⟨ps, h⟩ := Pv.ex ((List.range n).filter fun x => decide (S x))
  refine ⟨ps.length, h.rk.of_iff fun x => ?_⟩
  rw [List.mem_filter, List.mem_range, decide_eq_true_eq]
  exact ⟨fun h => h.2, fun h => ⟨lt x h, h⟩⟩
/-! ### a naturals' bits by a function, and additive tests -/
def mk : Nat → (Nat → Bool) → Nat
  | 0, _ => 0
  | n + 1, f => mk n f ^^^ (if f n then 2 ^ n else 0)
theorem mk_bit (f : Nat → Bool) (i : Nat) : ∀ n, (mk n f).testBit i = (decide (i < n) && f i)
  | 0 => by
    show (0 : Nat).testBit i = _
    rw [Nat.zero_testBit, decide_eq_false (Nat.not_lt_zero i)]
    rfl
  | n + 1 => by
    show (mk n f ^^^ (if f n then 2 ^ n else 0)).testBit i = _
    rw [Nat.testBit_xor, mk_bit f i n]
    by_cases z : i = n
    · subst z
      rw [decide_eq_false (Nat.lt_irrefl i), decide_eq_true (Nat.lt_succ_self i)]
      cases e : f i with
      | true => rw [if_pos rfl, Nat.testBit_two_pow_self]; rfl
      | false => rw [if_neg Bool.false_ne_true, Nat.zero_testBit]; rfl
    · have : (if f n then 2 ^ n else 0 : Nat).testBit i = false := by
        cases f n with
        | true => rw [if_pos rfl, Nat.testBit_two_pow]; exact decide_eq_false fun y => z y.symm
        | false => rw [if_neg Bool.false_ne_true, Nat.zero_testBit]
      rw [this, Bool.xor_false]
      congr 1
      exact decide_eq_decide.mpr ⟨fun h => by omega, fun h => by omega⟩
def px : Nat → (Nat → Bool) → Bool
  | 0, _ => false
  | n + 1, f => f 0 ^^ px n fun k => f (k + 1)
theorem px_false : ∀ n, px n (fun _ => false) = false
  | 0 => rfl
  | n + 1 => by
    show (false ^^ px n fun _ => false) = false
    rw [px_false n]
    rfl
theorem px_xor : ∀ (n : Nat) (f g : Nat → Bool), px n (fun k => f k ^^ g k) = (px n f ^^ px n g)
  | 0, _, _ => rfl
  | n + 1, f, g => by
    show ((f 0 ^^ g 0) ^^ px n fun k => f (k + 1) ^^ g (k + 1)) = ((f 0 ^^ px n fun k => f (k + 1)) ^^ (g 0 ^^ px n fun k => g (k + 1)))
    rw [px_xor n]
    cases f 0 <;> cases g 0 <;> cases px n (fun k => f (k + 1)) <;> cases px n (fun k => g (k + 1)) <;> rfl
theorem px_congr : ∀ {n : Nat} {f g : Nat → Bool}, (∀ k, k < n → f k = g k) → px n f = px n g
  | 0, _, _, _ => rfl
  | n + 1, f, g, h => by
    show (f 0 ^^ px n _) = (g 0 ^^ px n _)
    rw [h 0 (Nat.succ_pos _), px_congr fun k hk => h (k + 1) (Nat.succ_lt_succ hk)]
theorem px_one : ∀ (n : Nat) (f : Nat → Bool) (j : Nat), j < n → px n (fun k => f k && decide (k = j)) = f j
  | n + 1, f, 0, _ => by
    show ((f 0 && decide (0 = 0)) ^^ px n fun k => f (k + 1) && decide (k + 1 = 0)) = f 0
    rw [decide_eq_true rfl, Bool.and_true, px_congr (g := fun _ => false) fun k _ => by rw [decide_eq_false (by omega), Bool.and_false], px_false, Bool.xor_false]
  | n + 1, f, j + 1, h => by
    show ((f 0 && decide (0 = j + 1)) ^^ px n fun k => f (k + 1) && decide (k + 1 = j + 1)) = f (j + 1)
    rw [decide_eq_false (by omega), Bool.and_false, Bool.false_xor, px_congr (g := fun k => f (k + 1) && decide (k = j)) fun k _ => by congr 1; exact decide_eq_decide.mpr ⟨fun h => by omega, fun h => by omega⟩]
    exact px_one n (fun k => f (k + 1)) j (by omega)
/-- an additive test of a sum -/
def Add (t : Nat → Bool) : Prop := ∀ x y, t (x ^^^ y) = (t x ^^ t y)
theorem Add.zero {t : Nat → Bool} (h : Add t) : t 0 = false := by
  have := h 0 0
  rw [Nat.xor_self, Bool.xor_self] at this
  exact this
theorem Add.comb {t : Nat → Bool} (h : Add t) : ∀ (ms : List Nat) (s : Nat), t (comb ms s) = px ms.length fun k => s.testBit k && t (ms.getD k 0)
  | [], _ => h.zero
  | m :: ms, s => by
    show t ((if s.testBit 0 then m else 0) ^^^ Msk.comb ms (s >>> 1)) = ((s.testBit 0 && t m) ^^ px ms.length fun k => s.testBit (k + 1) && t (ms.getD k 0))
    rw [h, Add.comb h ms]
    congr 1
    · cases s.testBit 0 with
      | true => rw [if_pos rfl]; rfl
      | false => rw [if_neg Bool.false_ne_true, h.zero]; rfl
    · refine px_congr fun k _ => ?_
      rw [Nat.testBit_shiftRight, Nat.add_comm 1 k]
theorem add_bit (j : Nat) : Add fun x => x.testBit j := fun x y => Nat.testBit_xor ..
/-- rows that are sums of r things: what tests tell of the rows are sums of r things -/
theorem dual1 {β : Type} {P : β → Nat → Bool} (hP : ∀ b, Add (P b)) {n : Nat} {g : Nat → Nat} {B : List Nat} (h : ∀ i, i < n → In (fun y => y ∈ B) (g i)) :
    ∃ D : List Nat, D.length = B.length ∧ ∀ b, In (fun y => y ∈ D) (mk n fun i => P b (g i)) := by
  have ex : ∀ i, ∃ t, i < n → comb B t = g i := fun i => by
    by_cases z : i < n
    · obtain ⟨s, _, e⟩ := (h i z).get
      exact ⟨s, fun _ => e⟩
    · exact ⟨0, fun y => absurd y z⟩
  obtain ⟨t, ht⟩ := Classical.axiomOfChoice ex
  refine ⟨(List.range B.length).map fun k => mk n fun i => (t i).testBit k, by simp, fun b => ?_⟩
  have e : mk n (fun i => P b (g i)) = comb ((List.range B.length).map fun k => mk n fun i => (t i).testBit k) (mk B.length fun k => P b (B.getD k 0)) := by
    refine Nat.eq_of_testBit_eq fun j => ?_
    rw [mk_bit, (add_bit j).comb, List.length_map, List.length_range]
    by_cases z : j < n
    · rw [decide_eq_true z, Bool.true_and, ← ht j z, (hP b).comb]
      refine px_congr fun k hk => ?_
      have : ((List.range B.length).map fun k => mk n fun i => (t i).testBit k).getD k 0 = mk n fun i => (t i).testBit k := by
        rw [List.getD_eq_getElem?_getD, List.getElem?_map, List.getElem?_range hk]
        rfl
      rw [this, mk_bit, mk_bit, decide_eq_true hk, decide_eq_true z, Bool.true_and, Bool.true_and, Bool.and_comm]
    · rw [decide_eq_false z, Bool.false_and]
      symm
      have : ∀ m, px m (fun _ => false) = false := fun m => by
        induction m with
        | zero => rfl
        | succ m ih => show (false ^^ px m fun _ => false) = false; rw [ih]; rfl
      rw [← this B.length]
      refine px_congr fun k hk => ?_
      have : ((List.range B.length).map fun k => mk n fun i => (t i).testBit k).getD k 0 = mk n fun i => (t i).testBit k := by
        rw [List.getD_eq_getElem?_getD, List.getElem?_map, List.getElem?_range hk]
        rfl
      rw [this, mk_bit, mk_bit, decide_eq_false z, Bool.false_and, Bool.and_false]
  rw [e]
  exact comb_mem _
/-- columns that are sums of r things: so are the rows -/
theorem dual2 {n : Nat} {g : Nat → Nat} (lt : ∀ i, i < n → g i < 2 ^ n) {B : List Nat} (h : ∀ j, j < n → ∃ c, In (fun y => y ∈ B) c ∧ ∀ i, i < n → c.testBit i = (g i).testBit j) :
    ∃ D : List Nat, D.length = B.length ∧ ∀ i, i < n → In (fun y => y ∈ D) (g i) := by
  have ex : ∀ j, ∃ c, j < n → In (fun y => y ∈ B) c ∧ ∀ i, i < n → c.testBit i = (g i).testBit j := fun j => by
    by_cases z : j < n
    · obtain ⟨c, hc⟩ := h j z
      exact ⟨c, fun _ => hc⟩
    · exact ⟨0, fun y => absurd y z⟩
  obtain ⟨c, hc⟩ := Classical.axiomOfChoice ex
  obtain ⟨D, lD, hD⟩ := dual1 (P := fun (i x : Nat) => x.testBit i) (fun i => add_bit i) (g := c) fun j hj => (hc j hj).1
  refine ⟨D, lD, fun i hi => ?_⟩
  have e : g i = mk n fun j => (c j).testBit i := by
    refine Nat.eq_of_testBit_eq fun j => ?_
    rw [mk_bit]
    by_cases z : j < n
    · rw [decide_eq_true z, Bool.true_and, (hc j z).2 i hi]
    · rw [decide_eq_false z, Bool.false_and]
      exact Nat.testBit_lt_two_pow (Nat.lt_of_lt_of_le (lt i hi) (Nat.pow_le_pow_right (by decide) (by omega)))
  rw [e]
  exact hD i
/-- as many rows are independent as there are independent columns -/
theorem rank_eq {β : Type} {ok : β → Prop} {P : β → Nat → Bool} (hP : ∀ b, Add (P b)) {n r q : Nat} {g : Nat → Nat} (lt : ∀ i, i < n → g i < 2 ^ n)
    (rows : Rk (fun x => ∃ i, i < n ∧ x = g i) r) (cols : Rk (fun x => ∃ b, ok b ∧ x = mk n fun i => P b (g i)) q)
    (e : Nat → β) (oke : ∀ j, j < n → ok (e j)) (e0 : ∀ x, x < 2 ^ n → P (e 0) x = x.testBit 0) (e1 : ∀ j x, 1 ≤ j → j < n → x < 2 ^ n → P (e j) x = (x.testBit 0 ^^ x.testBit j)) : r = q := by
  obtain ⟨B, ib, rfl, bs, bx⟩ := id rows
  obtain ⟨D, id_, rfl, ds, dx⟩ := id cols
  refine Nat.le_antisymm ?_ ?_
  · obtain ⟨G, lG, hG⟩ := dual2 lt (B := D) fun j hj => by
      have c0 := dx _ ⟨e 0, oke 0 (by omega), rfl⟩
      rcases Nat.eq_zero_or_pos j with z | z
      · subst z
        refine ⟨_, c0, fun i hi => ?_⟩
        rw [mk_bit, decide_eq_true hi, Bool.true_and, e0 _ (lt i hi)]
      · have cj := dx _ ⟨e j, oke j hj, rfl⟩
        refine ⟨_, c0.xor cj, fun i hi => ?_⟩
        rw [Nat.testBit_xor, mk_bit, mk_bit, decide_eq_true hi, Bool.true_and, Bool.true_and, e0 _ (lt i hi), e1 j _ z hj (lt i hi), ← Bool.xor_assoc, Bool.xor_self, Bool.false_xor]
    rw [← lG]
    exact rows.leL fun x ⟨i, hi, hx⟩ => by rw [hx]; exact hG i hi
  · obtain ⟨G, lG, hG⟩ := dual1 hP (n := n) (g := g) (B := B) fun i hi => bx _ ⟨i, hi, rfl⟩
    rw [← lG]
    exact cols.leL fun x ⟨b, hb, hx⟩ => by rw [hx]; exact hG b
/-- a sum that leaves out the i-th -/
theorem comb_erase : ∀ {ms : List Nat} {i t : Nat}, t.testBit i = false → In (fun y => y ∈ ms.eraseIdx i) (Msk.comb ms t)
  | [], _, _, _ => .zero
  | m :: ms, 0, t, h => by
    show In _ ((if t.testBit 0 then m else 0) ^^^ Msk.comb ms (t >>> 1))
    rw [h, if_neg Bool.false_ne_true, Nat.zero_xor]
    exact comb_mem _
  | m :: ms, i + 1, t, h => by
    show In _ ((if t.testBit 0 then m else 0) ^^^ Msk.comb ms (t >>> 1))
    refine In.xor ?_ ((comb_erase (ms := ms) (i := i) (t := t >>> 1) (by rw [Nat.testBit_shiftRight, Nat.add_comm 1 i]; exact h)).mono fun y hy => List.mem_cons_of_mem _ hy)
    split
    · exact .of (List.mem_cons_self ..)
    · exact .zero
theorem Rk.indep {ms : List Nat} (h : Rk (fun x => x ∈ ms) ms.length) : Indep ms := fun s hs e => by
  cases Nat.decEq s 0 with
  | isTrue z => exact z
  | isFalse z =>
    exfalso
    obtain ⟨i, hi⟩ : ∃ i, s.testBit i = true := Nat.exists_testBit_of_ne_zero z
    have il : i < ms.length := by
      rcases Nat.lt_or_ge i ms.length with y | y
      · exact y
      · rw [Nat.testBit_lt_two_pow (Nat.lt_of_lt_of_le hs (Nat.pow_le_pow_right (by decide) y))] at hi
        cases hi
    have em : ms[i] = Msk.comb ms (s ^^^ 2 ^ i) := by
      rw [comb_xor, e, Nat.zero_xor, comb_one, List.getD_eq_getElem?_getD, List.getElem?_eq_getElem il]
      rfl
    have h2 := h.leL (D := ms.eraseIdx i) fun x hx => by
      obtain ⟨j, hj, ej⟩ := List.getElem_of_mem hx
      by_cases y : j = i
      · subst y
        rw [← ej, em]
        exact comb_erase (by rw [Nat.testBit_xor, hi, Nat.testBit_two_pow_self]; rfl)
      · refine .of ?_
        rw [← ej]
        exact List.mem_eraseIdx_iff_getElem.mpr ⟨j, hj, y, rfl⟩
    rw [List.length_eraseIdx_of_lt il] at h2
    omega
theorem Rk.list {ms : List Nat} (h : Indep ms) : Rk (fun x => x ∈ ms) ms.length := ⟨ms, h, rfl, fun b hb => .of hb, fun x hx => .of hx⟩
theorem indep_iff {ms : List Nat} {r : Nat} (h : Rk (fun x => x ∈ ms) r) : Indep ms ↔ r = ms.length := by
  constructor
  · intro i
    exact h.only (Rk.list i) (fun x hx => .of hx) fun x hx => .of hx
  · intro e
    rw [e] at h
    exact h.indep
theorem indep_snoc {ms : List Nat} {m : Nat} (h : Indep ms) (no : ¬ In (fun y => y ∈ ms) m) : Indep (ms ++ [m]) := by
  obtain ⟨ps, pv⟩ := Pv.ex ms
  obtain ⟨a, ia, nq⟩ := pv.reduce (bl m) m (Nat.le_refl _)
  have ne : m ^^^ a ≠ 0 := fun z => no (by
    have : m = a := by
      cases Nat.decEq m a with
      | isTrue y => exact y
      | isFalse y => exact absurd z (xor_ne y)
    rw [this]
    exact ia.bind pv.from_)
  have r2 := (pv.snoc ia ne nq).rk
  have r1 := pv.rk.only (Rk.list h) (fun x hx => .of hx) fun x hx => .of hx
  rw [List.length_append, r1] at r2
  refine (indep_iff (r2.of_iff (T := fun x => x ∈ ms ++ [m]) fun x => by rw [List.mem_append, List.mem_singleton])).mpr ?_
  rw [List.length_append]
  rfl
end Rnk
namespace K49
open PySem PySem.Spec PyProof.Rows L2 Par Msk
open Rnk (Rk In Add px)
theorem run_app (bs : List Int) (ps qs : List (List Int × List Int)) : runB bs (ps ++ qs) = runB (runB bs ps) qs := by
  unfold runB
  rw [List.foldl_append]
/-- one table behind the other is the table of both in a row -/
theorem rep_comp {R S : List Nat} {n : Nat} {ps qs : List (List Int × List Int)} (r : Rep R n ps) (s : Rep S n qs) (f : Fit1 n ps) : Rep (comp R S) n (ps ++ qs) := by
  refine ⟨(comp_len R S).trans s.len, comp_lt r.lt, fun bs ok hl i hi => ?_⟩
  have okr : OkB (runB bs ps) := run_okp (fun t ht k hk => ((f t ht).2.1 k hk).1) ok
  rw [comp_at, comb_cells, ← r.par ok hl (cellsI_in (getD_lt s.lt i)), run_app]
  exact s.does _ okr (by rw [run_len, hl]) i hi
/-- the inverse is the table of the flips in reverse order -/
theorem rep_inv {R S G : List Nat} {n : Nat} {ps : List (List Int × List Int)} (r : Rep R n ps) (s : Rep S n ps.reverse) (f : Fit1 n ps) (h1 : 1 ≤ n) (h2 : n ≤ 40) (iv : Inv2 n R G) : S = G := by
  have c := rep_comp r s f
  have e : comp R S = oneM n := rep_eq c (rep_one n) h1 h2 fun bs ok hl => by
    rw [run_app]
    exact run_back ps bs fun t ht => ⟨by rw [hl]; exact (f t ht).1, (f t ht).2.2⟩
  exact iv.only ⟨s.len, s.lt⟩ e
theorem rep_ex {n : Nat} : ∀ ts : List (List Int × List Int), (∀ t ∈ ts, ∀ k ∈ t.1, 0 ≤ k ∧ k < (n : Nat)) → ∃ B', Rep B' n ts := fun ts => by
  induction h : ts.length generalizing ts with
  | zero =>
    intro _
    rw [List.length_eq_zero_iff.mp h]
    exact ⟨_, rep_one n⟩
  | succ k ih =>
    intro hh
    have hne : ts ≠ [] := fun e => by rw [e] at h; cases h
    obtain ⟨B0, r0⟩ := ih ts.dropLast (by rw [List.length_dropLast]; omega) (fun t ht => hh t ((List.dropLast_sublist _).subset ht))
    have r1 := rep_step (t := ts.getLast hne) r0 (hh _ (List.getLast_mem hne))
    rw [List.dropLast_concat_getLast] at r1
    exact ⟨_, r1⟩
/-- a board of this size -/
def Sb (n : Nat) (bs : List Int) : Prop := OkB bs ∧ bs.length = n
/-- whether the parity of these cells is odd -/
def Pt (bs : List Int) (x : Nat) : Bool := decide (parB bs (cellsI x) = 1)
theorem pt_add (bs : List Int) : Add (Pt bs) := fun x y => by
  unfold Pt
  rw [par_xor]
  have a := par01 bs (cellsI x)
  have b := par01 bs (cellsI y)
  rcases a with a | a <;> rcases b with b | b <;> rw [a, b] <;> rfl
theorem pt_pow (bs : List Int) (i : Nat) : Pt bs (2 ^ i) = decide (bs.getD i 0 % 2 = 1) := by
  unfold Pt
  rw [cells_pow, par_one1]
theorem pt_px (bs : List Int) {n x : Nat} (hx : x < 2 ^ n) : Pt bs x = px n fun k => x.testBit k && decide (bs.getD k 0 % 2 = 1) := by
  have h := (pt_add bs).comb (oneM n) x
  rw [comb_oneM hx, oneM_len] at h
  rw [h]
  refine Rnk.px_congr fun k hk => ?_
  rw [oneM_at hk, pt_pow]
/-- the cells that differ, as a number -/
def chN (n : Nat) (bs ls : List Int) : Nat := Rnk.mk n fun i => decide (bs.getD i 0 ≠ ls.getD i 0)
theorem chN_lt (n : Nat) (bs ls : List Int) : chN n bs ls < 2 ^ n := by
  refine Nat.lt_pow_two_of_testBit _ fun i hi => ?_
  unfold chN
  rw [Rnk.mk_bit, decide_eq_false (by omega), Bool.false_and]
theorem ch_rep {R : List Nat} {n : Nat} {ps : List (List Int × List Int)} {bs : List Int} (r : Rep R n ps) (sb : Sb n bs) : chN n bs (runB bs ps) = Rnk.mk n fun i => Pt bs (R.getD i 0 ^^^ 2 ^ i) := by
  refine Nat.eq_of_testBit_eq fun j => ?_
  unfold chN
  rw [Rnk.mk_bit, Rnk.mk_bit]
  by_cases z : j < n
  · rw [decide_eq_true z, Bool.true_and, Bool.true_and, pt_add, pt_pow]
    have a := bit_at sb.1 (i := j) (by rw [sb.2]; exact z)
    have b := r.does bs sb.1 sb.2 j z
    unfold Pt
    rw [b]
    have c := par01 bs (cellsI (R.getD j 0))
    rw [b] at c
    rcases a with a | a <;> rcases c with c | c <;> rw [a, c] <;> rfl
  · rw [decide_eq_false z, Bool.false_and, Bool.false_and]
/-- the changes of all boards -/
def Ch (n : Nat) (ps : List (List Int × List Int)) (x : Nat) : Prop := ∃ bs, Sb n bs ∧ x = chN n bs (runB bs ps)
/-- the rows and the cells that they stand for -/
def Gp (n : Nat) (R : List Nat) (x : Nat) : Prop := ∃ i, i < n ∧ x = R.getD i 0 ^^^ 2 ^ i
/-- a board with cell j up -/
def ej (n j : Nat) : List Int := mkB n fun k => decide (k = (j : Int))
theorem ej_at {n j i : Nat} (hi : i < n) : (ej n j).getD i 0 = if i = 0 ∨ i = j then 1 else 0 := by
  unfold ej mkB
  rw [List.getD_eq_getElem?_getD, List.getElem?_map, List.getElem?_range hi]
  show (if (decide (i = 0) || decide ((i : Int) = (j : Int))) = true then 1 else 0 : Int) = _
  by_cases a : i = 0 <;> by_cases b : i = j <;> simp [a, b] <;> omega
theorem ej_sb {n j : Nat} (n1 : 1 ≤ n) (n40 : n ≤ 40) : Sb n (ej n j) := ⟨mkB_ok n1 n40, mkB_len _ _⟩
theorem pt_e0 {n x : Nat} (n1 : 1 ≤ n) (hx : x < 2 ^ n) : Pt (ej n 0) x = x.testBit 0 := by
  rw [pt_px _ hx, Rnk.px_congr (g := fun k => x.testBit k && decide (k = 0)) fun k hk => by
    rw [ej_at hk]
    congr 1
    by_cases a : k = 0 <;> simp [a]]
  exact Rnk.px_one n _ 0 n1
theorem pt_ej {n j x : Nat} (j1 : 1 ≤ j) (jn : j < n) (hx : x < 2 ^ n) : Pt (ej n j) x = (x.testBit 0 ^^ x.testBit j) := by
  rw [pt_px _ hx, Rnk.px_congr (g := fun k => (x.testBit k && decide (k = 0)) ^^ (x.testBit k && decide (k = j))) fun k hk => by
    rw [ej_at hk]
    by_cases a : k = 0
    · rw [if_pos (.inl a), decide_eq_true a, decide_eq_false (by omega : ¬ k = j)]
      cases x.testBit k <;> rfl
    · by_cases b : k = j
      · rw [if_pos (.inr b), decide_eq_false a, decide_eq_true b]
        cases x.testBit k <;> rfl
      · rw [if_neg (fun h => h.elim a b), decide_eq_false a, decide_eq_false b]
        cases x.testBit k <;> rfl]
  rw [Rnk.px_xor, Rnk.px_one n _ 0 (by omega), Rnk.px_one n _ j jn]
/-- as many rows as changes are independent -/
theorem dep_of {R : List Nat} {n r : Nat} {ps : List (List Int × List Int)} (rep : Rep R n ps) (n1 : 1 ≤ n) (n40 : n ≤ 40) (h : Rk (Gp n R) r) : Rk (Ch n ps) r := by
  obtain ⟨q, hq⟩ := Rk.ex (S := Ch n ps) (n := 2 ^ n) fun x ⟨bs, _, e⟩ => by
    rw [e]
    exact chN_lt _ _ _
  have e : r = q := by
    refine Rnk.rank_eq (β := List Int) (ok := Sb n) (P := Pt) pt_add (g := fun i => R.getD i 0 ^^^ 2 ^ i) (fun i hi => xor_lt (getD_lt rep.lt i) (Nat.pow_lt_pow_right (by decide) hi)) h (hq.of_iff fun x => ?_) (ej n) (fun j _ => ej_sb n1 n40) (fun x hx => pt_e0 n1 hx) fun j x j1 jn hx => pt_ej j1 jn hx
    exact ⟨fun ⟨bs, sb, e⟩ => ⟨bs, sb, by rw [e, ch_rep rep sb]⟩, fun ⟨bs, sb, e⟩ => ⟨bs, sb, by rw [e, ch_rep rep sb]⟩⟩
  rw [e]
  exact hq
/-! ### what depth keeps to -/
theorem chN_self (n : Nat) (bs : List Int) : chN n bs bs = 0 := by
  refine Nat.eq_of_testBit_eq fun j => ?_
  unfold chN
  rw [Rnk.mk_bit, Nat.zero_testBit, decide_eq_false (fun z => z rfl : ¬ bs.getD j 0 ≠ bs.getD j 0), Bool.and_false]
theorem chN_comm (n : Nat) (bs ls : List Int) : chN n bs ls = chN n ls bs := by
  refine Nat.eq_of_testBit_eq fun j => ?_
  unfold chN
  rw [Rnk.mk_bit, Rnk.mk_bit]
  congr 1
  exact decide_eq_decide.mpr ⟨Ne.symm, Ne.symm⟩
theorem chN_tri {n : Nat} {a b c : List Int} (ha : Sb n a) (hb : Sb n b) (hc : Sb n c) : chN n a c = chN n a b ^^^ chN n b c := by
  refine Nat.eq_of_testBit_eq fun j => ?_
  unfold chN
  rw [Nat.testBit_xor, Rnk.mk_bit, Rnk.mk_bit, Rnk.mk_bit]
  by_cases z : j < n
  · rw [decide_eq_true z, Bool.true_and, Bool.true_and, Bool.true_and]
    have x := bit_at ha.1 (i := j) (by rw [ha.2]; exact z)
    have y := bit_at hb.1 (i := j) (by rw [hb.2]; exact z)
    have w := bit_at hc.1 (i := j) (by rw [hc.2]; exact z)
    rcases x with x | x <;> rcases y with y | y <;> rcases w with w | w <;> rw [x, y, w] <;> rfl
  · rw [decide_eq_false z, Bool.false_and, Bool.false_and, Bool.false_and]
    rfl
theorem chN_zero {n : Nat} {a b : List Int} (ha : Sb n a) (hb : b.length = n) (e : chN n a b = 0) : a = b := by
  refine List.ext_getElem (by rw [ha.2, hb]) fun i h1 h2 => ?_
  have z : (chN n a b).testBit i = false := by rw [e, Nat.zero_testBit]
  unfold chN at z
  rw [Rnk.mk_bit, decide_eq_true (by rw [← ha.2]; exact h1), Bool.true_and] at z
  have y := of_decide_eq_false z
  rw [List.getD_eq_getElem?_getD, List.getD_eq_getElem?_getD, List.getElem?_eq_getElem h1, List.getElem?_eq_getElem h2] at y
  cases Decidable.em (a[i] = b[i]) with
  | inl h => exact h
  | inr h => exact absurd h y
theorem sb_run {n : Nat} {bs : List Int} {ps : List (List Int × List Int)} (f : Fit1 n ps) (sb : Sb n bs) : Sb n (runB bs ps) :=
  ⟨run_okp (fun t ht k hk => ((f t ht).2.1 k hk).1) sb.1, by rw [run_len]; exact sb.2⟩
theorem fit_app {n : Nat} {ps qs : List (List Int × List Int)} (f : Fit1 n ps) (g : Fit1 n qs) : Fit1 n (ps ++ qs) := fun t ht => (List.mem_append.mp ht).elim (f t) (g t)
theorem fit_rev {n : Nat} {ps : List (List Int × List Int)} (f : Fit1 n ps) : Fit1 n ps.reverse := fun t ht => f t (List.mem_reverse.mp ht)
theorem back {n : Nat} {bs : List Int} {ps : List (List Int × List Int)} (f : Fit1 n ps) (sb : Sb n bs) : runB (runB bs ps) ps.reverse = bs := run_back ps bs fun t ht => ⟨by rw [sb.2]; exact (f t ht).1, (f t ht).2.2⟩
/-- one flip changes its cells or none -/
theorem ch_one {n : Nat} {bs : List Int} {t : List Int × List Int} (h : ∀ k ∈ t.2, 1 ≤ k ∧ k < (n : Nat)) (nd : t.2.Nodup) (sb : Sb n bs) : chN n bs (aftB bs t.1 t.2) = if parB bs t.1 = 1 then maskI t.2 else 0 := by
  refine Nat.eq_of_testBit_eq fun j => ?_
  unfold chN
  rw [Rnk.mk_bit]
  by_cases z : j < n
  · rw [decide_eq_true z, Bool.true_and, aft_at (by rw [sb.2]; exact z)]
    have x := bit_at sb.1 (i := j) (by rw [sb.2]; exact z)
    by_cases p : parB bs t.1 = 1
    · rw [if_pos p, mask_bit nd fun k hk => by have := h k hk; omega]
      by_cases m : (j : Int) ∈ t.2
      · rw [if_pos ⟨p, m⟩, decide_eq_true m]
        rcases x with x | x <;> rw [x] <;> rfl
      · rw [if_neg (fun y => m y.2), decide_eq_false m, decide_eq_false (fun y => y rfl : ¬ bs.getD j 0 ≠ bs.getD j 0)]
    · rw [if_neg p, if_neg (fun y => p y.1), Nat.zero_testBit, decide_eq_false (fun y => y rfl : ¬ bs.getD j 0 ≠ bs.getD j 0)]
  · rw [decide_eq_false z, Bool.false_and]
    split
    · rw [mask_bit nd fun k hk => by have := h k hk; omega]
      symm
      exact decide_eq_false fun y => by have := h _ y; omega
    · rw [Nat.zero_testBit]
def Nd (ps : List (List Int × List Int)) : Prop := ∀ t ∈ ps, t.2.Nodup
theorem ch_in {n : Nat} : ∀ {ps : List (List Int × List Int)} {bs : List Int}, Fit1 n ps → Nd ps → Sb n bs → In (fun y => y ∈ ps.map fun t => maskI t.2) (chN n bs (runB bs ps))
  | [], bs, _, _, _ => by
    show In _ (chN n bs bs)
    rw [chN_self]
    exact .zero
  | t :: ps, bs, f, nd, sb => by
    have f1 := f t (List.mem_cons_self ..)
    have fs : Fit1 n ps := fun x hx => f x (List.mem_cons_of_mem _ hx)
    have sa : Sb n (aftB bs t.1 t.2) := ⟨aft_ok sb.1 fun k hk => (f1.2.1 k hk).1, by rw [aft_len]; exact sb.2⟩
    show In _ (chN n bs (runB (aftB bs t.1 t.2) ps))
    rw [chN_tri sb sa (sb_run fs sa), ch_one f1.2.1 (nd t (List.mem_cons_self ..)) sb]
    refine In.xor ?_ ((ch_in fs (fun x hx => nd x (List.mem_cons_of_mem _ hx)) sa).mono fun y hy => List.mem_cons_of_mem _ hy)
    split
    · exact .of (List.mem_cons_self ..)
    · exact .zero
/-- no deeper than there are flips -/
theorem dep_few {n r : Nat} {ps : List (List Int × List Int)} (f : Fit1 n ps) (nd : Nd ps) (h : Rk (Ch n ps) r) : r ≤ ps.length := by
  have := h.leL (D := ps.map fun t => maskI t.2) fun x ⟨bs, sb, e⟩ => by
    rw [e]
    exact ch_in f nd sb
  rwa [List.length_map] at this
/-- and less deep than there are cells -/
theorem dep_cells {n r : Nat} {ps : List (List Int × List Int)} (f : Fit1 n ps) (n1 : 1 ≤ n) (h : Rk (Ch n ps) r) : r < n := by
  refine h.even n1 fun x ⟨bs, sb, e⟩ => ?_
  rw [e]
  refine ⟨?_, chN_lt _ _ _⟩
  have sr := sb_run f sb
  have z : (chN n bs (runB bs ps)).testBit 0 = false := by
    unfold chN
    rw [Rnk.mk_bit, List.getD_eq_getElem?_getD, List.getD_eq_getElem?_getD, sb.1.2.1, sr.1.2.1, decide_eq_false (fun y => y rfl : ¬ (some (1 : Int)).getD 0 ≠ (some (1 : Int)).getD 0), Bool.and_false]
  rw [Nat.testBit_zero] at z
  have := of_decide_eq_false z
  omega
theorem dep_zero {R : List Nat} {n r : Nat} {ps : List (List Int × List Int)} (rep : Rep R n ps) (n1 : 1 ≤ n) (n40 : n ≤ 40) (h : Rk (Ch n ps) r) : r = 0 ↔ R = oneM n := by
  constructor
  · intro e
    rw [e] at h
    exact rep_eq rep (rep_one n) n1 n40 fun bs ok hl => by
      have := h.zero _ ⟨bs, ⟨ok, hl⟩, rfl⟩
      exact (chN_zero ⟨ok, hl⟩ (by rw [run_len]; exact hl) this).symm
  · intro e
    refine h.none fun x ⟨bs, sb, ex⟩ => ?_
    have same : bs = runB bs ps := by
      refine List.ext_getElem (by rw [run_len]) fun i h1 h2 => ?_
      have a := rep.does bs sb.1 sb.2 i (by rw [← sb.2]; exact h1)
      have b := (rep_one n).does bs sb.1 sb.2 i (by rw [← sb.2]; exact h1)
      rw [e, b] at a
      rw [List.getD_eq_getElem?_getD, List.getD_eq_getElem?_getD, show runB bs [] = bs from rfl, List.getElem?_eq_getElem h1, List.getElem?_eq_getElem h2] at a
      exact a
    rw [ex, ← same, chN_self]
theorem dep_rev {n r : Nat} {ps : List (List Int × List Int)} (f : Fit1 n ps) (h : Rk (Ch n ps) r) : Rk (Ch n ps.reverse) r := by
  refine h.of_iff fun x => ⟨fun ⟨bs, sb, e⟩ => ⟨runB bs ps, sb_run f sb, ?_⟩, fun ⟨bs, sb, e⟩ => ⟨runB bs ps.reverse, sb_run (fit_rev f) sb, ?_⟩⟩
  · rw [e, back f sb, chN_comm]
  · have b := back (fit_rev f) sb
    rw [List.reverse_reverse] at b
    rw [e, b, chN_comm]
theorem dep_add {n r q u : Nat} {ps qs : List (List Int × List Int)} (f : Fit1 n ps) (g : Fit1 n qs) (h : Rk (Ch n ps) r) (k : Rk (Ch n qs) q) (l : Rk (Ch n (ps ++ qs)) u) : u ≤ r + q := by
  refine h.add k l fun x ⟨bs, sb, e⟩ => ?_
  rw [e, run_app, chN_tri sb (sb_run f sb) (sb_run g (sb_run f sb))]
  exact (In.of (.inl ⟨bs, sb, rfl⟩)).xor (In.of (.inr ⟨_, sb_run f sb, rfl⟩))
theorem dep_both {n r q u : Nat} {ps qs : List (List Int × List Int)} (f : Fit1 n ps) (g : Fit1 n qs) (h : Rk (Ch n ps) r) (k : Rk (Ch n qs) q) (l : Rk (Ch n (ps ++ qs)) u) : u ≤ r + q ∧ r ≤ u + q ∧ q ≤ u + r := by
  refine ⟨dep_add f g h k l, ?_, ?_⟩
  · refine l.add (dep_rev g k) h fun x ⟨bs, sb, e⟩ => ?_
    have sp := sb_run f sb
    have spq := sb_run g sp
    have b := back g sp
    have t := chN_tri sb spq sp
    rw [e, t]
    refine (In.of (.inl ⟨bs, sb, by rw [run_app]⟩)).xor (In.of (.inr ⟨_, spq, by rw [b]⟩))
  · refine l.add (dep_rev f h) k fun x ⟨bs, sb, e⟩ => ?_
    have s0 := sb_run (fit_rev f) sb
    have b := back (fit_rev f) sb
    rw [List.reverse_reverse] at b
    have t := chN_tri sb s0 (sb_run g sb)
    rw [e, t]
    exact (In.of (.inr ⟨bs, sb, rfl⟩)).xor (In.of (.inl ⟨_, s0, by rw [run_app, b]⟩))
theorem sum_permI {l m : List Int} (p : l.Perm m) : l.sum = m.sum := by
  induction p with
  | nil => rfl
  | cons x _ ih => rw [List.sum_cons, List.sum_cons, ih]
  | swap x y l => rw [List.sum_cons, List.sum_cons, List.sum_cons, List.sum_cons]; omega
  | trans _ _ h1 h2 => exact h1.trans h2
theorem par_mask {bs ns : List Int} (nd : ns.Nodup) (h0 : ∀ k ∈ ns, 0 ≤ k) : parB bs (cellsI (maskI ns)) = parB bs ns := by
  have p : (cellsI (maskI ns)).Perm ns := (List.perm_ext_iff_of_nodup (cellsI_nodup _) nd).mpr fun k => cells_mask nd h0 k
  unfold parB
  rw [sum_permI (p.map fun (k : Int) => bs.getD k.toNat 0)]
/-- a flip's depth -/
theorem dep_flip {n r : Nat} {t : List Int × List Int} (f : Fit1 n [t]) (n1 : 1 ≤ n) (n40 : n ≤ 40) (nd1 : t.1.Nodup) (nd2 : t.2.Nodup) (h : Rk (Ch n [t]) r) : r = if t.1 ≠ [] ∧ t.2 ≠ [] then 1 else 0 := by
  have f1 := f t (List.mem_cons_self ..)
  have one : ∀ bs, Sb n bs → chN n bs (runB bs [t]) = if parB bs t.1 = 1 then maskI t.2 else 0 := fun bs sb => ch_one f1.2.1 nd2 sb
  split
  next c =>
    have a := dep_few f (fun x hx => by rw [List.mem_singleton.mp hx]; exact nd2) h
    have b : r ≠ 0 := fun z => by
      rw [z] at h
      obtain ⟨k, hk⟩ := List.exists_mem_of_ne_nil _ c.2
      have m0 : maskI t.2 ≠ 0 := fun y => by
        have kk := f1.2.1 k hk
        have := mask_bit (i := k.toNat) nd2 fun k hk => by have := f1.2.1 k hk; omega
        rw [y, Nat.zero_testBit, Int.toNat_of_nonneg (by omega), decide_eq_true hk] at this
        cases this
      have d0 : maskI t.1 = 0 := bits_zero n1 n40 (mask_lt fun k hk => f1.1 k hk) fun bs ok hl => by
        have e := h.zero _ ⟨bs, ⟨ok, hl⟩, rfl⟩
        rw [one bs ⟨ok, hl⟩] at e
        rw [par_mask nd1 fun k hk => (f1.1 k hk).1]
        rcases par01 bs t.1 with p | p
        · exact p
        · rw [if_pos p] at e
          exact absurd e m0
      obtain ⟨j, hj⟩ := List.exists_mem_of_ne_nil _ c.1
      have jj := f1.1 j hj
      have := mask_bit (i := j.toNat) nd1 fun k hk => (f1.1 k hk).1
      rw [d0, Nat.zero_testBit, Int.toNat_of_nonneg jj.1, decide_eq_true hj] at this
      cases this
    have : [t].length = 1 := rfl
    omega
  next c =>
    refine h.none fun x ⟨bs, sb, e⟩ => ?_
    rw [e, one bs sb]
    by_cases z : t.2 = []
    · rw [z]
      split <;> rfl
    · have y : t.1 = [] := by
        cases e1 : t.1 with
        | nil => rfl
        | cons a b => exact absurd ⟨by rw [e1]; simp, z⟩ c
      rw [y, if_neg (show ¬ parB bs [] = 1 by show ¬ (0 : Int) % 2 = 1; decide)]
end K49
namespace K49
open PySem PySem.Spec PyProof.Rows L2 Par Msk
/-- the board with this number -/
def bdN (n m : Nat) : List Int := 1 :: (List.range (n - 1)).map fun (j : Nat) => (((m / 2 ^ j) % 2 : Nat) : Int)
theorem bits_num : ∀ l : List Int, (∀ x ∈ l, x = 0 ∨ x = 1) → ∃ m, m < 2 ^ l.length ∧ l = (List.range l.length).map fun (j : Nat) => (((m / 2 ^ j) % 2 : Nat) : Int)
  | [], _ => ⟨0, by decide, rfl⟩
  | x :: l, h => by
    obtain ⟨m, lt, e⟩ := bits_num l fun y hy => h y (List.mem_cons_of_mem _ hy)
    have hx := h x (List.mem_cons_self ..)
    obtain ⟨k, rfl, kl⟩ : ∃ k : Nat, x = (k : Int) ∧ k < 2 := by
      rcases hx with rfl | rfl
      · exact ⟨0, rfl, by decide⟩
      · exact ⟨1, rfl, by decide⟩
    refine ⟨k + 2 * m, ?_, ?_⟩
    · rw [List.length_cons, Nat.pow_succ]
      omega
    · rw [List.length_cons, List.range_succ_eq_map, List.map_cons, List.map_map]
      have a : (k + 2 * m) / 2 ^ 0 % 2 = k := by
        rw [Nat.pow_zero, Nat.div_one]
        omega
      have b : ∀ j : Nat, (k + 2 * m) / 2 ^ (j + 1) = m / 2 ^ j := fun j => by
        rw [Nat.pow_succ, Nat.mul_comm (2 ^ j) 2, ← Nat.div_div_eq_div_mul, show (k + 2 * m) / 2 = m from by omega]
      rw [a]
      refine congrArg _ (e.trans ?_)
      rw [← e]
      refine (Eq.trans e ?_)
      refine List.map_congr_left fun j _ => ?_
      show _ = (((k + 2 * m) / 2 ^ (j + 1) % 2 : Nat) : Int)
      rw [b]
theorem bd_ok {n : Nat} (n1 : 1 ≤ n) (n40 : n ≤ 40) (m : Nat) : OkB (bdN n m) ∧ (bdN n m).length = n := by
  refine ⟨⟨fun x hx => ?_, rfl, ?_⟩, ?_⟩
  · rcases List.mem_cons.mp hx with z | z
    · exact .inr z
    · obtain ⟨j, _, rfl⟩ := List.mem_map.mp z
      have := Nat.mod_lt (m / 2 ^ j) (y := 2) (by decide)
      omega
  · rw [bdN, List.length_cons, List.length_map, List.length_range]
    omega
  · rw [bdN, List.length_cons, List.length_map, List.length_range]
    omega
theorem bd_all {n : Nat} {bs : List Int} (n1 : 1 ≤ n) (ok : OkB bs) (hl : bs.length = n) : bs ∈ (List.range (2 ^ (n - 1))).map (bdN n) := by
  obtain ⟨h1, h2, _⟩ := ok
  cases bs with
  | nil => exact nomatch h2
  | cons x l =>
    obtain rfl : x = 1 := Option.some.inj h2
    obtain ⟨m, lt, e⟩ := bits_num l fun y hy => h1 y (List.mem_cons_of_mem _ hy)
    have ll : l.length = n - 1 := by
      rw [List.length_cons] at hl
      omega
    rw [ll] at lt e
    exact List.mem_map.mpr ⟨m, List.mem_range.mpr lt, by rw [bdN, ← e]⟩
theorem ls_at {H : Hp} : ∀ {xs : List Addr} {nss : List (List Int)} {i : Nat} {x : Addr}, LsA H xs nss → xs[i]? = some x → ∃ ns, nss[i]? = some ns ∧ H x = some (.lst (ns.map V.int))
  | [], [], _, _, _, h => nomatch h
  | _ :: _, ns :: _, 0, _, h, e => ⟨ns, rfl, (Option.some.inj e) ▸ h.1⟩
  | _ :: _, _ :: _, i + 1, _, h, e => ls_at (i := i) h.2 e
  | [], _ :: _, _, _, h, _ => h.elim
  | _ :: _, [], _, _, h, _ => h.elim
theorem ls_same {H H' : Hp} {xs : List Addr} {nss : List (List Int)} (s : Same H H') (h : LsA H xs nss) : LsA H' xs nss := ls_mono (fun x _ us e => s _ _ e) h
section
variable {P : Program} {w : World} {K : PySem.W.Frag} {mg : Str → Option Value} {base : Heap}
abbrev sGaps : Stmt := topS 37
abbrev sDepth : Stmt := topS 38
theorem in_take {ms : List Nat} : ∀ {j a : Nat}, a < 2 ^ j → Rnk.In (fun y => y ∈ ms.take j) (comb ms a) := fun {j a} h => by
  induction ms generalizing j a with
  | nil => exact .zero
  | cons m ms ih =>
    cases j with
    | zero =>
      have : a = 0 := by
        rw [Nat.pow_zero] at h
        omega
      rw [this, comb_zero]
      exact .zero
    | succ j =>
      have h2 : a >>> 1 < 2 ^ j := by
        rw [Nat.pow_succ] at h
        rw [Nat.shiftRight_eq_div_pow]
        omega
      show Rnk.In _ ((if a.testBit 0 then m else 0) ^^^ comb ms (a >>> 1))
      refine Rnk.In.xor ?_ ((ih h2).mono fun y hy => by rw [List.take_succ_cons]; exact List.mem_cons_of_mem _ hy)
      split
      · exact .of (by rw [List.take_succ_cons]; exact List.mem_cons_self ..)
      · exact .zero
theorem pv_snoc0 {ms : List Nat} {j : Nat} {ps : List (Nat × Nat)} {r a : Nat} (h : PvOk ms j ps) (r0 : r ≠ 0) (er : r = ms.getD j 0 ^^^ comb ms a) (ha : a < 2 ^ j) (no : ∀ q ∈ ps, bl q.1 ≠ bl r) : PvOk ms (j + 1) (ps ++ [(r, a ^^^ 2 ^ j)]) := by
  refine ⟨fun p hp => ?_, ?_⟩
  · rcases List.mem_append.mp hp with z | z
    · obtain ⟨h1, h2, h3⟩ := h.each p z
      exact ⟨h1, h2, Nat.lt_of_lt_of_le h3 (Nat.pow_le_pow_right (by decide) (by omega))⟩
    · rw [List.mem_singleton.mp z]
      refine ⟨r0, ?_, add_bit ha⟩
      show r = comb ms (a ^^^ 2 ^ j)
      rw [comb_xor, comb_one, Nat.xor_comm]
      exact er
  · rw [List.map_append]
    refine List.nodup_append.mpr ⟨h.keys, by simp, fun x hx y hy => ?_⟩
    obtain ⟨q, hq, rfl⟩ := List.mem_map.mp hx
    have : y = bl r := by simpa using hy
    rw [this]
    exact no q hq
/-- pivots_of any list -/
def spPivG (K : PySem.W.Frag) : Sp := fun vs H Q _ => ∃ (t : Addr) (ms : List Nat), vs = [.ref t] ∧ SqL K H t (mV ms) ∧ ms.length ≤ 300 ∧
  ∀ d ps H', H d = none → Same H H' → PvAt H' d ps → PvOk ms ms.length ps → ps.length ≤ ms.length → Rnk.Pv (fun x => x ∈ ms) (ps.map fun p => p.1) → Q (.ref d) H'
theorem ok_pivG {f : Addr} {fd : FuncData} (F : Fun K "pivots_of" "pivots_of" sPivots f fd) (B : Bl mg) (D : Has P w K mg base "reduced" 2 ["pivots", "mask"] spReduced) : FnOk P w K mg base CX0 3 f fd ["masks"] (spPivG K) := by
  obtain ⟨fD, fdD, GD, mD, kD, bD⟩ := D
  refine F.ok scPivots (fun vs H Q E h => ?_) (fun cdv A outer s H vs Q E hr h => ?_)
  · obtain ⟨t, ms, rfl, _⟩ := h
    rfl
  · obtain ⟨t, ms, rfl, hq, l40, out⟩ := h
    have hu1 := hr.units
    have hu : (A.deeper (envOfC "pivots_of" (defScope sPivots) s.heap.objs.size f cdv)).units + 1 < cLine := by omega
    refine ⟨_, pss_cons (ps_set (i := 1) scPivots.nd rfl (Or.inl rfl) pe_dnewK)
      (pss_cons (ps_for PassesOwn.never rfl (pi_enum (by rfl) B.enumerate (pa_cons (pv 0) pa_nil)) (pg_tup rfl (pgs_cons (pg_name (i := 2) scPivots.nd rfl (Or.inl rfl)) (pgs_cons (pg_name (i := 3) scPivots.nd rfl (Or.inl rfl)) pgs_nil)))
        (pss_cons (ps_asg (pe_call GD hr (by rfl) mD kD bD .nil pass0 (pa_cons (pv 1) (pa_cons (pv 3) pa_nil))) (pg_tup rfl (pgs_cons (pg_name (i := 4) scPivots.nd rfl (Or.inl rfl)) (pgs_cons (pg_name (i := 5) scPivots.nd rfl (Or.inl rfl)) pgs_nil))))
        (pss_one (ps_if (pt_cmpR op_ne (pv 4) pe_int (nomark _)) (pss_one (ps_dput hu (pv 1) (pe_bits (pv 4)) (pe_tup (pa_cons (pv 4) (pa_cons (pe_op op_xor (pv 5) (pe_op op_oneShl pe_int (pv 2))) pa_nil))) rfl)) pss_nil))))
      (pss_one (ps_ret (pv 1)))), ?_⟩
    intro d hd
    refine ⟨_, rfl, t, _, rfl, same_sq (same_new hd) hq, ?_⟩
    refine for_it walk_enum (fun i σ H' => ∃ (v2 v3 v4 v5 : Option V) (ps : List (Nat × Nat)), σ = [some (.ref t), some (.ref d), v2, v3, v4, v5] ∧ Same H H' ∧ PvAt H' d ps ∧ PvOk ms i ps ∧ ps.length ≤ i ∧ Rnk.Pv (fun x => x ∈ ms.take i) (ps.map fun p => p.1))
      ⟨none, none, none, none, [], rfl, same_new hd, ⟨[], upd_same, True.intro⟩, ⟨fun p hp => (nomatch hp), List.nodup_nil⟩, Nat.le_refl _, by rw [List.take_zero]; exact ⟨fun _ h => (nomatch h), List.nodup_nil, fun _ h => (nomatch h), fun _ h => (nomatch h)⟩⟩ (fun i σ H' _ ⟨_, _, _, _, _, _, s1, _⟩ => same_sq s1 hq) ?_ ?_
    · rintro i x σ H1 H2 hi ⟨v2, v3, v4, v5, ps, rfl, s1, pa, po, lp, pv⟩ ⟨T, x1, y1, rfl, hT, rfl, ex, ey⟩
      have hi2 : i < ms.length := by rw [mV_len] at hi; exact hi
      have ey2 : y1 = .int ((ms.getD i 0 : Nat) : Int) := (Option.some.inj ((mV_at hi2).symm.trans ey)).symm
      have ex2 : x1 = .int (i : Nat) := (Option.some.inj ex).symm
      subst ey2 ex2
      have s2 := same_new (o := .tup [.int (i : Nat), .int ((ms.getD i 0 : Nat) : Int)]) hT
      have pa2 : PvAt (upd H1 T (.tup [.int (i : Nat), .int ((ms.getD i 0 : Nat) : Int)])) d ps := pa.same s2
      refine ⟨T, _, rfl, SqT.of upd_same, rfl, _, _, rfl, _, _, rfl, rfl, ?_⟩
      refine ⟨_, rfl, _, rfl, d, ms.getD i 0, ms, i, ps, rfl, pa2, po, fun p r a H3 hp s3 ep er ha no => ?_⟩
      refine ⟨p, _, rfl, SqT.of ep, rfl, _, _, rfl, _, _, rfl, rfl, ?_⟩
      have st : ms.take (i + 1) = ms.take i ++ [ms.getD i 0] := by
        rw [List.take_succ, List.getElem?_eq_getElem hi2, List.getD_eq_getElem?_getD, List.getElem?_eq_getElem hi2]
        rfl
      have inp : Rnk.In (fun y => y ∈ ps.map fun p => p.1) (comb ms a) := (in_take ha).bind pv.all
      have iff : ∀ x, (x ∈ ms.take i ∨ x = ms.getD i 0) ↔ x ∈ ms.take (i + 1) := fun x => by
        rw [st, List.mem_append, List.mem_singleton]
      have pvw : ∀ qs, Rnk.Pv (fun x => x ∈ ms.take i ∨ x = ms.getD i 0) qs → Rnk.Pv (fun x => x ∈ ms.take (i + 1)) qs := fun qs k => ⟨k.nz, k.keys, fun p hp => (k.from_ p hp).mono fun y => (iff y).mp, fun x hx => k.all x ((iff x).mpr hx)⟩
      refine ⟨_, rfl, rfl, _, rfl, ?_⟩
      by_cases r0 : r = 0
      · rw [decide_eq_true (by rw [r0]; rfl : V.int ((r : Nat) : Int) = V.int 0)]
        refine iteF ⟨_, _, _, _, ps, rfl, (s1.trans s2).trans s3, pa2.same s3, ⟨fun q hq => ⟨(po.each q hq).1, (po.each q hq).2.1, Nat.lt_of_lt_of_le (po.each q hq).2.2 (Nat.pow_le_pow_right (by decide) (by omega))⟩, po.keys⟩, by omega, pvw _ (pv.skip inp (by rw [← er]; exact r0))⟩
      rw [decide_eq_false (fun z => r0 (by injection z with z; omega) : ¬ V.int ((r : Nat) : Int) = V.int 0)]
      refine iteT ⟨_, rfl, _, rfl, _, rfl, i, rfl, rfl, by omega, _, _, rfl, rfl, (by show 2 ≤ sizeLine; decide), fun t2 ht2 => ?_⟩
      have e2 : ((2 : Int) ^ i) = ((2 ^ i : Nat) : Int) := by
        rw [Int.natCast_pow]
        rfl
      dsimp only []
      rw [e2, bitX]
      have s13 := (s1.trans s2).trans s3
      have s4 := same_new (o := .tup [.int ((r : Nat) : Int), .int ((a ^^^ 2 ^ i : Nat) : Int)]) ht2
      obtain ⟨kvs, ek, pl⟩ := (pa2.same s3).same s4
      refine ⟨_, rfl, _, rfl, _, rfl, ?_⟩
      rw [bits_bl]
      have hdH : H d = none := hd
      refine ⟨d, _, rfl, DPut.k (k := Sum.inl ((bl r : Nat) : Int)) ek (by rw [pl.len]; exact small1000 (by omega)), ?_⟩
      rw [pl.put no]
      refine ⟨_, _, _, _, ps ++ [(r, a ^^^ 2 ^ i)], rfl, fun b o e => ?_, ⟨_, upd_same, ?_⟩, pv_snoc0 po r0 er ha no, by rw [List.length_append]; show ps.length + 1 ≤ i + 1; omega, ?_⟩
      · rw [upd_ne (ne_of_none e hdH)]
        exact s4 _ _ (s13 b o e)
      · skip
        refine (PvL.snoc (q := (r, a ^^^ 2 ^ i)) upd_same pl).same fun t' x' y' e' => ?_
        rw [upd_ne fun z => by rw [z, ek] at e'; cases e']
        exact e'
      · rw [List.map_append]
        have k := pvw _ (pv.snoc inp (by rw [← er]; exact r0) fun q hq => by
          obtain ⟨q0, h0, rfl⟩ := List.mem_map.mp hq
          rw [← er]
          exact no q0 h0)
        rw [← er] at k
        exact k
    · rintro σ H1 ⟨v2, v3, v4, v5, ps, rfl, s1, pa, po, lp, pv⟩
      rw [mV_len] at po lp pv
      rw [List.take_length] at pv
      exact ⟨_, rfl, out d ps H1 hd s1 pa po lp pv⟩
/-- rank_of any list -/
def spRankG (K : PySem.W.Frag) : Sp := fun vs H Q _ => ∃ (t : Addr) (ms : List Nat), vs = [.ref t] ∧ SqL K H t (mV ms) ∧ ms.length ≤ 300 ∧ ∀ r H', Same H H' → Rnk.Rk (fun x => x ∈ ms) r → Q (.int ((r : Nat) : Int)) H'
theorem ok_rankG {f : Addr} {fd : FuncData} (F : Fun K "rank_of" "rank_of" sRank f fd) (B : Bl mg) (D : Has P w K mg base "pivots_of" 3 ["masks"] (spPivG K)) : FnOk P w K mg base CX0 4 f fd ["masks"] (spRankG K) := by
  obtain ⟨fD, fdD, GD, mD, kD, bD⟩ := D
  refine F.ok scRank (fun vs H Q E h => ?_) (fun cdv A outer s H vs Q E hr h => ?_)
  · obtain ⟨t, ms, rfl, _⟩ := h
    rfl
  · obtain ⟨t, ms, rfl, hq, l40, out⟩ := h
    refine ⟨_, pss_one (ps_ret (pe_callB call_lenD (by rfl) B.len PySem.boot_len (pa_cons (pe_call GD hr (by rfl) mD kD bD .nil pass0 (pa_cons (pv 0) pa_nil)) pa_nil))), ?_⟩
    refine ⟨_, rfl, t, ms, rfl, hq, l40, fun d ps H1 hd s1 pa po lp pv => ?_⟩
    obtain ⟨kvs, ek, pl⟩ := pa
    refine ⟨d, kvs, rfl, ek, ?_⟩
    rw [pl.len]
    have := pv.rk
    rw [List.length_map] at this
    exact out _ _ s1 this
/-- gaps_of -/
def spGaps (C : Addr) : Sp := fun vs H Q _ => ∃ (b : Addr) (R : List Nat), vs = [.ref b] ∧ Tb C H b R ∧ GoodT R ∧ ∀ q (xs : List Addr) H', H q = none → Same H H' → H' q = some (.lst (xs.map V.ref)) → TupsAt H' xs ((List.range R.length).map fun i => cellsI (R.getD i 0 ^^^ 2 ^ i)) → Q (.ref q) H'
abbrev nGap : List Str := ["table", "cell"]
theorem scGap : FnScope nGap ["table"] (defScope sGaps) := ⟨rfl, rfl, rfl, by decide +kernel, rfl, by decide +kernel, by decide +kernel⟩
theorem cells_xor (a b : Nat) (k : Int) : k ∈ cellsI (a ^^^ b) ↔ xor (decide (k ∈ cellsI a)) (decide (k ∈ cellsI b)) = true := by
  rw [(cells_perm a b).mem_iff]
  exact mem_symm k
theorem TupsAt.snoc2 {H : Hp} {x : Addr} {ns : List Int} (hx : H x = some (.tup (ns.map V.int))) : ∀ {xs : List Addr} {nss : List (List Int)}, TupsAt H xs nss → TupsAt H (xs ++ [x]) (nss ++ [ns])
  | [], [], _ => ⟨hx, True.intro⟩
  | _ :: _, _ :: _, h => ⟨h.1, h.2.snoc2 hx⟩
  | [], _ :: _, h => h.elim
  | _ :: _, [], h => h.elim
theorem ok_gaps {f C : Addr} {fd : FuncData} (F : Fun K "gaps_of" "gaps_of" sGaps f fd) (B : Bl mg) (T : TC K mg C) (DS : HasM P w K mg base C "size" 2 ["self"] (spTSize C)) (DR : HasM P w K mg base C "row" 4 ["self", "cell"] (spRow C)) (DA : Has P w K mg base "added_cells" 2 ["one", "other"] (spAdded K)) :
    FnOk P w K mg base CX0 5 f fd ["table"] (spGaps C) := by
  obtain ⟨fS, fdS, GS, mS, bS⟩ := DS
  obtain ⟨fR, fdR, GR, mR, bR⟩ := DR
  obtain ⟨fA, fdA, GA, mA, kA, bA⟩ := DA
  refine F.ok scGap (fun vs H Q E h => ?_) (fun cdv A outer s H vs Q E hr h => ?_)
  · obtain ⟨b, R, rfl, _⟩ := h
    rfl
  · obtain ⟨b, R, rfl, hT, gR, out⟩ := h
    have r2 : Room 2 _ := hr.mono (by decide)
    obtain ⟨dx, t, h1, h2⟩ := id hT
    have l40 := gR.l40
    refine ⟨_, (pss_one (ps_ret (pe_lc (own := [("cell", 1)]) (g := gName 1) (te := tCall (spAdded K) [] E0 (tCons (tMeth C "row" (spRow C) [] E0 (tVar 0) (tCons (tVar 1) tNil)) (tCons (tTup (tCons (tVar 1) tNil)) tNil))) rfl scGap.nd (pi_range1 (by rfl) B.range (pa_cons (pe_meth0 (pv 0) T.cl mS GS r2 bS .nil pass0) pa_nil)) (blkOk_by (own := [("cell", 1)]) (N := nGap) (sc := defScope sGaps) (by decide +kernel)) (fun _ _ _ _ _ => (pg_name (i := 1) scGap.nd rfl (Or.inl rfl))) (fun _ _ _ _ _ => pts_nil) (fun _ _ _ _ _ => by exact (pe_call GA r2 (by rfl) mA kA bA .nil pass0 (pa_cons (pe_meth (pv 0) T.cl mR GR hr bR .nil pass0 (pa_cons (pv 1) pa_nil)) (pa_cons (pe_tup (pa_cons (pv 1) pa_nil)) pa_nil))))))), ?_⟩
    refine ⟨_, rfl, b, dx, _, rfl, h1, no_fldM (by decide +kernel), b, R, rfl, hT, _, rfl, by omega, by omega, fun D hD => ?_⟩
    rw [Int.toNat_natCast]
    refine lc_range (lo := 0) (n := R.length) (fun i H' => Same H H' ∧ ∃ xs : List Addr, H' D = some (.lst (xs.map V.ref)) ∧ xs.length = i ∧ TupsAt H' xs ((List.range i).map fun i => cellsI (R.getD i 0 ^^^ 2 ^ i)))
      ⟨same_new hD, [], upd_same, rfl, True.intro⟩ ?_ ?_
    · rintro i H2 hi ⟨s2, xs, hD2, lx, tu⟩
      rw [Int.zero_add]
      refine ⟨rfl, yesT ?_⟩
      refine ⟨_, rfl, b, dx, _, rfl, s2 _ _ h1, no_fldM (by decide +kernel), _, rfl, b, R, (i : Int), rfl, hT.same s2, l40, gR.lt, by omega, by omega, fun p H3 hp s3 e3 => ?_⟩
      rw [Int.toNat_natCast] at e3
      refine ⟨_, rfl, (by show 1 ≤ sizeLine; decide), fun u hu => ?_⟩
      have s4 := same_new (o := .tup [.int (i : Int)]) hu
      have e4 := s4 _ _ e3
      have inn := cellsI_in (getD_lt gR.lt i)
      have few : (cellsI (R.getD i 0)).length ≤ 40 := cells_few (cellsI_nodup _) fun k hk => by
        have := inn k hk
        exact ⟨by omega, by omega⟩
      refine ⟨p, u, cellsI (R.getD i 0), [(i : Int)], rfl, SqT.of e4, SqT.of upd_same, by omega, by show 1 ≤ 500; decide, fun k hk => ?_, fun k hk => ?_, fun q ks H5 hq s5 up mem e5 => ?_⟩
      · have := inn k hk
        exact ⟨by omega, by omega⟩
      · rw [List.mem_singleton.mp hk]
        exact ⟨by omega, by omega⟩
      have ek : ks = cellsI (R.getD i 0 ^^^ 2 ^ i) := up_same up (cellsI_up _) fun k => by
        rw [mem k, cells_xor, cells_pow]
      rw [ek] at e5
      have s25 := (s3.trans s4).trans s5
      have hDH : H D = none := hD
      have qD : q ≠ D := fun z => by
        rw [z, s4 _ _ (s3 _ _ hD2)] at hq
        cases hq
      have up5 : ∀ x us, H2 x = some (.tup us) → (upd H5 D (.lst (xs.map V.ref ++ [.ref q]))) x = some (.tup us) := fun x us e => by
        rw [upd_ne fun z => by rw [z, hD2] at e; cases e]
        exact s25 _ _ e
      refine ⟨_, s25 _ _ hD2, ?_, ?_, xs ++ [q], ?_, ?_, ?_⟩
      · rw [List.length_map, lx]
        exact small1000 (by omega)
      · intro z o e
        rw [upd_ne (ne_of_none e hDH)]
        exact s25 _ _ (s2 z o e)
      · rw [upd_same, List.map_append]
        rfl
      · rw [List.length_append, lx]
        rfl
      · rw [List.range_succ, List.map_append]
        exact TupsAt.snoc2 (by rw [upd_ne qD]; exact e5) (tu.mono up5)
    · rintro H2 ⟨s2, xs, hD2, lx, tu⟩
      exact out D xs H2 hD s2 hD2 tu
theorem TupsAt.at {H : Hp} : ∀ {xs : List Addr} {nss : List (List Int)} {i : Nat} {x : Addr}, TupsAt H xs nss → xs[i]? = some x → ∃ ns, nss[i]? = some ns ∧ H x = some (.tup (ns.map V.int))
  | [], [], _, _, _, h => nomatch h
  | _ :: _, ns :: _, 0, _, h, e => ⟨ns, rfl, (Option.some.inj e) ▸ h.1⟩
  | _ :: _, _ :: _, i + 1, _, h, e => h.2.at (i := i) e
  | [], _ :: _, _, _, h, _ => h.elim
  | _ :: _, [], _, _, h, _ => h.elim
/-- [te for x in l], l a list of tuples, te pure but for new things -/
theorem lc_tups {l : Addr} {xs : List Addr} {nss : List (List Int)} {i : Nat} {σ : L2.St} {H1 : Hp} {D : Addr} {Qd : Hp → Prop} {te : TE} (g : List Int → V) (hi : i < σ.length) (hD : H1 D = none) (el : SqL K H1 l (xs.map V.ref)) (tu : TupsAt H1 xs nss) (few : xs.length ≤ 1000)
    (step : ∀ (x : Addr) (ns : List Int) (H2 : Hp) (Q : VK), ns ∈ nss → Same H1 H2 → H2 x = some (.tup (ns.map V.int)) → (∀ H3, Same H2 H3 → Q (g ns) H3) → te ((wipe σ [i]).set i (some (V.ref x))) H2 Q)
    (out : ∀ H', Same H1 H' → H' D = some (.lst (nss.map g)) → Qd H') :
    ∃ W : Nat → Nat → Hp → Prop, (∃ m, W 0 m (upd H1 D (.lst []))) ∧ ∀ j m H, W j m H →
      ((Itl K l).stop j H ∧ Qd H) ∨ ((Itl K l).go j H ∧ ∃ Nx : Hp → Prop, (∀ H', Nx H' → ∃ m', m' < m ∧ W (j + 1) m' H') ∧ ∀ x H', (Itl K l).yld j H x H' → gName i x (wipe σ [i]) H' fun σ2 H2 => wipe σ2 [i] = wipe σ [i] ∧ tYes σ2 H2 fun b H3 =>
        if b = true then te σ2 H3 fun y H4 => ∃ acc, H4 D = some (.lst acc) ∧ acc.length < sizeLine ∧ Nx (upd H4 D (.lst (acc ++ [y]))) else Nx H3) := by
  refine lc_list (K := K) (a := l) (xs := xs.map V.ref) (fun j H' => Same H1 H' ∧ H' D = some (.lst ((nss.take j).map g))) ⟨same_new hD, upd_same⟩ (fun j H' _ h => same_sq h.1 el) ?_ ?_
  · rintro j x H2 hx ⟨s2, hD2⟩
    rw [List.getElem?_map] at hx
    obtain ⟨a, ha, rfl⟩ : ∃ a, xs[j]? = some a ∧ x = V.ref a := by
      cases e : xs[j]? with
      | none => rw [e] at hx; cases hx
      | some a => rw [e] at hx; exact ⟨a, rfl, (Option.some.inj hx).symm⟩
    obtain ⟨ns, hn, en⟩ := tu.at ha
    have jl : j < xs.length := (List.getElem?_eq_some_iff.mp ha).1
    refine ⟨by simp [wipe], yesT ?_⟩
    refine step a ns H2 _ (List.mem_of_getElem? hn) s2 (s2 _ _ en) fun H3 s3 => ?_
    refine ⟨_, s3 _ _ hD2, ?_, ?_, ?_⟩
    · rw [List.length_map, List.length_take]
      exact small1000 (by omega)
    · intro b o e
      rw [upd_ne (ne_of_none e hD)]
      exact s3 _ _ (s2 b o e)
    · rw [upd_same, List.take_succ, hn, List.map_append]
      rfl
  · rintro H2 ⟨s2, hD2⟩
    rw [List.length_map, tu.len, List.take_length] at hD2
    exact out H2 s2 hD2
theorem cellsN {m n : Nat} (h : m < 2 ^ n) (h40 : n ≤ 40) : (cellsI m).Nodup ∧ (cellsI m).length ≤ 40 ∧ (∀ k ∈ cellsI m, 0 ≤ k ∧ k < 40) ∧ maskI (cellsI m) = m := by
  have inn := cellsI_in h
  have b : ∀ k ∈ cellsI m, 0 ≤ k ∧ k < 40 := fun k hk => by
    have := inn k hk
    exact ⟨by omega, by omega⟩
  exact ⟨cellsI_nodup _, cells_few (cellsI_nodup _) b, b, mask_cells (cellsI_nodup _) fun _ => Iff.rfl⟩
/-- depth_of -/
def spDepth (C : Addr) : Sp := fun vs H Q _ => ∃ (b : Addr) (R : List Nat), vs = [.ref b] ∧ Tb C H b R ∧ GoodT R ∧ ∀ (r : Nat) H', Same H H' → Rnk.Rk (Gp R.length R) r → Q (.int ((r : Nat) : Int)) H'
abbrev nDep : List Str := ["table", "gap"]
theorem scDep : FnScope nDep ["table"] (defScope sDepth) := ⟨rfl, rfl, rfl, by decide +kernel, rfl, by decide +kernel, by decide +kernel⟩
theorem ok_depth {f C : Addr} {fd : FuncData} (F : Fun K "depth_of" "depth_of" sDepth f fd) (B : Bl mg) (DG : Has P w K mg base "gaps_of" 5 ["table"] (spGaps C)) (DM : Has P w K mg base "mask_of" 2 ["cells"] (spMaskOf K)) (DN : Has P w K mg base "rank_of" 4 ["masks"] (spRankG K)) :
    FnOk P w K mg base CX0 6 f fd ["table"] (spDepth C) := by
  obtain ⟨fG, fdG, GG, mG, kG, bG⟩ := DG
  obtain ⟨fM, fdM, GM, mM, kM, bM⟩ := DM
  obtain ⟨fN, fdN, GN, mN, kN, bN⟩ := DN
  refine F.ok scDep (fun vs H Q E h => ?_) (fun cdv A outer s H vs Q E hr h => ?_)
  · obtain ⟨b, R, rfl, _⟩ := h
    rfl
  · obtain ⟨b, R, rfl, hT, gR, out⟩ := h
    have r2 : Room 2 _ := hr.mono (by decide)
    have r4 : Room 4 _ := hr.mono (by decide)
    have l40 := gR.l40
    refine ⟨_, (pss_one (ps_ret (pe_call GN r4 (by rfl) mN kN bN .nil pass0 (pa_cons (pe_lc (own := [("gap", 1)]) (g := gName 1) (te := tCall (spMaskOf K) [] E0 (tCons (tVar 1) tNil)) rfl scDep.nd (pi_list (pe_call GG hr (by rfl) mG kG bG .nil pass0 (pa_cons (pv 0) pa_nil))) (blkOk_by (own := [("gap", 1)]) (N := nDep) (sc := defScope sDepth) (by decide +kernel)) (fun _ _ _ _ _ => (pg_name (i := 1) scDep.nd rfl (Or.inl rfl))) (fun _ _ _ _ _ => pts_nil) (fun _ _ _ _ _ => by exact (pe_call GM r2 (by rfl) mM kM bM .nil pass0 (pa_cons (pv 1) pa_nil)))) pa_nil)))), ?_⟩
    refine ⟨_, rfl, b, R, rfl, hT, gR, fun q xs H1 hq s1 e1 tu => ⟨q, rfl, ⟨_, SqL.of e1⟩, fun D hD => ?_⟩⟩
    refine lc_tups (fun ns => V.int ((maskI ns : Nat) : Int)) (by show 1 < 2; decide) hD (SqL.of e1) tu (by rw [tu.len, List.length_map, List.length_range]; omega) (fun x ns H2 Q2 hn s2 ex good => ?_) (fun H2 s2 e2 => ?_)
    · obtain ⟨i, hi, rfl⟩ := List.mem_map.mp hn
      have lt : R.getD i 0 ^^^ 2 ^ i < 2 ^ R.length := xor_lt (getD_lt gR.lt i) (Nat.pow_lt_pow_right (by decide) (List.mem_range.mp hi))
      obtain ⟨n1, n2, n3, n4⟩ := cellsN lt l40
      exact ⟨_, rfl, x, _, rfl, .inr (SqT.of ex), n1, n2, n3, fun H3 s3 => good H3 s3⟩
    · have em : (((List.range R.length).map fun i => cellsI (R.getD i 0 ^^^ 2 ^ i)).map fun ns => V.int ((maskI ns : Nat) : Int)) = mV ((List.range R.length).map fun i => R.getD i 0 ^^^ 2 ^ i) := by
        unfold mV
        rw [List.map_map, List.map_map]
        refine List.map_congr_left fun i hi => ?_
        have lt : R.getD i 0 ^^^ 2 ^ i < 2 ^ R.length := xor_lt (getD_lt gR.lt i) (Nat.pow_lt_pow_right (by decide) (List.mem_range.mp hi))
        show V.int ((maskI (cellsI (R.getD i 0 ^^^ 2 ^ i)) : Nat) : Int) = _
        rw [(cellsN lt l40).2.2.2]
        rfl
      rw [em] at e2
      refine ⟨D, _, rfl, SqL.of e2, by rw [List.length_map, List.length_range]; omega, fun r H3 s3 rk => out r H3 ((s1.trans s2).trans s3) (rk.of_iff fun x => ?_)⟩
      rw [List.mem_map]
      exact ⟨fun ⟨i, hi, e⟩ => ⟨i, List.mem_range.mp hi, e.symm⟩, fun ⟨i, hi, e⟩ => ⟨i, List.mem_range.mpr hi, e.symm⟩⟩
end
end K49
namespace K49
open PySem PySem.Spec PyProof.Rows L2 Par Msk
/-- the cells that differ -/
def chL (n : Nat) (bs ls : List Int) : List Int := ((List.range n).filter fun i => decide (bs.getD i 0 ≠ ls.getD i 0)).map fun (j : Nat) => (j : Int)
theorem chL_step (n : Nat) (bs ls : List Int) : chL (n + 1) bs ls = chL n bs ls ++ (if bs.getD n 0 ≠ ls.getD n 0 then [(n : Int)] else []) := by
  unfold chL
  rw [range_filt]
  congr 1
  by_cases z : bs.getD n 0 ≠ ls.getD n 0
  · rw [if_pos z, decide_eq_true z, if_pos rfl]
  · rw [if_neg z, decide_eq_false z, if_neg Bool.false_ne_true]
theorem chL_mem {n : Nat} {bs ls : List Int} {k : Int} : k ∈ chL n bs ls ↔ ∃ j : Nat, k = (j : Int) ∧ j < n ∧ bs.getD j 0 ≠ ls.getD j 0 := by
  unfold chL
  rw [List.mem_map]
  constructor
  · rintro ⟨j, hj, rfl⟩
    obtain ⟨a, b⟩ := List.mem_filter.mp hj
    exact ⟨j, rfl, List.mem_range.mp a, of_decide_eq_true b⟩
  · rintro ⟨j, rfl, a, b⟩
    exact ⟨j, List.mem_filter.mpr ⟨List.mem_range.mpr a, decide_eq_true b⟩, rfl⟩
theorem chL_len (n : Nat) (bs ls : List Int) : (chL n bs ls).length ≤ n := by
  unfold chL
  rw [List.length_map]
  exact Nat.le_trans (List.length_filter_le _ _) (by rw [List.length_range]; exact Nat.le_refl _)
theorem chL_up (n : Nat) (bs ls : List Int) : (chL n bs ls).Pairwise (· < ·) := by
  unfold chL
  rw [List.pairwise_map]
  exact (List.Pairwise.filter _ (range_up n)).imp fun h => by omega
theorem chL_num (n : Nat) (bs ls : List Int) : maskI (chL n bs ls) = chN n bs ls := by
  refine Nat.eq_of_testBit_eq fun i => ?_
  rw [mask_bit (up_nodup (chL_up n bs ls)) fun k hk => by
    obtain ⟨j, rfl, _⟩ := chL_mem.mp hk
    omega]
  unfold chN
  rw [Rnk.mk_bit]
  by_cases z : i < n <;> by_cases y : bs.getD i 0 ≠ ls.getD i 0
  · rw [decide_eq_true z, decide_eq_true y, decide_eq_true (chL_mem.mpr ⟨i, rfl, z, y⟩)]
    rfl
  · rw [decide_eq_false y, Bool.and_false, decide_eq_false]
    intro h
    obtain ⟨j, e, _, w⟩ := chL_mem.mp h
    have : i = j := by omega
    rw [this] at y
    exact y w
  all_goals
    rw [decide_eq_false z, Bool.false_and, decide_eq_false]
    intro h
    obtain ⟨j, e, w, _⟩ := chL_mem.mp h
    omega
section
variable {P : Program} {w : World} {K : PySem.W.Frag} {mg : Str → Option Value} {base : Heap}
/-- _law_changed -/
def spChanged (K : PySem.W.Frag) : Sp := fun vs H Q _ => ∃ (a l : Addr) (bs : List Int) (as : List Addr) (ps : List (List Int × List Int)), vs = [.ref l, .ref a] ∧ H a = some (.lst (bs.map V.int)) ∧ bs.length ≤ 40 ∧ H l = some (.lst (as.map V.ref)) ∧ Prs K H as ps ∧
  (∀ p ∈ ps, p.1.length ≤ 500 ∧ ∀ k ∈ p.1, 0 ≤ k ∧ k < bs.length) ∧ ∀ q H', H q = none → Same H H' → H' q = some (.lst ((chL bs.length bs (runB bs ps)).map V.int)) → Q (.ref q) H'
abbrev nChanged : List Str := ["_law_pairs_here", "_law_bits_here", "_law_later", "_law_spot", "_law_bit"]
theorem scChanged : FnScope nChanged ["_law_pairs_here", "_law_bits_here"] (defScope slChanged) := ⟨rfl, rfl, rfl, by decide +kernel, rfl, by decide +kernel, by decide +kernel⟩
theorem ok_changed {f : Addr} {fd : FuncData} (F : Fun K "_law_changed" "_law_changed" slChanged f fd) (B : Bl mg) (DA : Has P w K mg base "_law_after_all" 4 ["_law_bits_here", "_law_pairs_here"] (spAfterAll K)) : FnOk P w K mg base CX0 5 f fd ["_law_pairs_here", "_law_bits_here"] (spChanged K) := by
  obtain ⟨fA, fdA, GA, mA, kA, bA⟩ := DA
  refine F.ok scChanged (fun vs H Q E h => ?_) (fun cdv A outer s H vs Q E hr h => ?_)
  · obtain ⟨a, l, bs, as, ps, rfl, _⟩ := h
    rfl
  · obtain ⟨a, l, bs, as, ps, rfl, ha, b40, hl, pr, ok, out⟩ := h
    refine ⟨_, (pss_cons (ps_set (i := 2) scChanged.nd rfl (Or.inr rfl) (pe_call GA hr (by rfl) mA kA bA .nil pass0 (pa_cons (pv 1) (pa_cons (pv 0) pa_nil))))
      (pss_one (ps_ret (pe_lc (own := [("_law_spot", 3), ("_law_bit", 4)]) (g := gTup K 2 (gCons (gName 3) (gCons (gName 4) gNil))) (tt := tTest (tOp rNe (tVar 4) (tOp (rIxL K) (tVar 2) (tVar 3)))) (te := tVar 3) rfl scChanged.nd (pi_enum (by rfl) B.enumerate (pa_cons (pv 1) pa_nil)) (blkOk_by (own := [("_law_spot", 3), ("_law_bit", 4)]) (N := nChanged) (sc := defScope slChanged) (by decide +kernel)) (fun _ _ _ _ _ => (by exact (pg_tup rfl (pgs_cons (pg_name (i := 3) scChanged.nd rfl (Or.inl rfl)) (pgs_cons (pg_name (i := 4) scChanged.nd rfl (Or.inl rfl)) pgs_nil))))) (fun _ _ _ _ _ => by exact pts_one (pt_cmpR op_ne (pv 4) (pe_ix ix_list (pv 2) (pv 3) (fun _ _ => rfl)) (nomark _))) (fun _ _ _ _ _ => pv 3))))), ?_⟩
    refine ⟨_, rfl, _, rfl, a, l, bs, as, ps, rfl, ha, b40, hl, pr, ok, fun g H1 s1 eg => ?_⟩
    have ha1 := s1 _ _ ha
    obtain ⟨ls, hls⟩ : ∃ ls, runB bs ps = ls := ⟨_, rfl⟩
    have ll : ls.length = bs.length := by rw [← hls, run_len]
    rw [hls] at eg out
    refine ⟨_, rfl, a, _, rfl, SqL.of ha1, fun D hD => ?_⟩
    refine lc_it walk_enum (fun i H' => Same H1 H' ∧ H' D = some (.lst ((chL i bs ls).map V.int))) ⟨same_new hD, upd_same⟩ (fun i H' _ h => SqL.of (h.1 _ _ ha1)) ?_ ?_
    · rintro i x H3 H4 hi ⟨s3, hD3⟩ ⟨T1, x1, y1, rfl, hT, rfl, ex, ey⟩
      have hi2 : i < bs.length := by rw [List.length_map] at hi; exact hi
      have ey2 : y1 = .int (bs.getD i 0) := by
        have ey' : (bs.map V.int)[i]? = some y1 := ey
        rw [List.getElem?_map, List.getElem?_eq_getElem hi2] at ey'
        rw [List.getD_eq_getElem?_getD, List.getElem?_eq_getElem hi2]
        exact (Option.some.inj ey').symm
      have ex2 : x1 = .int (i : Nat) := (Option.some.inj ex).symm
      subst ey2 ex2
      have s4 : Same H1 (upd H3 T1 (.tup [.int (i : Nat), .int (bs.getD i 0)])) := s3.trans (same_new hT)
      have hD4 := (same_new (o := .tup [.int (i : Nat), .int (bs.getD i 0)]) hT) _ _ hD3
      have st := chL_step i bs ls
      have at_ : atI (ls.map V.int) ((i : Nat) : Int) = some (.int (ls.getD i 0)) := atI_nat (by
        rw [List.getElem?_map, List.getElem?_eq_getElem (by omega), List.getD_eq_getElem?_getD, List.getElem?_eq_getElem (by omega)]
        rfl)
      refine ⟨T1, _, rfl, SqT.of upd_same, rfl, _, _, rfl, _, _, rfl, rfl, rfl, _, rfl, _, rfl, _, rfl, g, _, _, _, rfl, rfl, SqL.of (s4 _ _ eg), at_, rfl, _, rfl, ?_⟩
      by_cases z : bs.getD i 0 = ls.getD i 0
      · rw [decide_eq_true (congrArg V.int z)]
        rw [if_neg (fun y => y z), List.append_nil] at st
        refine iteF ⟨s4, ?_⟩
        rw [st]
        exact hD4
      · rw [decide_eq_false (fun y => z (by injection y) : ¬ V.int (bs.getD i 0) = V.int (ls.getD i 0))]
        rw [if_pos z] at st
        refine iteT ⟨_, rfl, _, hD4, ?_, ?_, ?_⟩
        · rw [List.length_map]
          have := chL_len i bs ls
          exact small1000 (by omega)
        · intro y o e
          rw [upd_ne (ne_of_none e hD)]
          exact s4 y o e
        · rw [upd_same, st, List.map_append]
          rfl
    · rintro H3 ⟨s3, hD3⟩
      rw [List.length_map] at hD3
      exact out D _ (s1.free hD) (s1.trans s3) hD3
/-- _law_table -/
def spTable (K : PySem.W.Frag) (C : Addr) : Sp := fun vs H Q _ => ∃ (l : Addr) (n : Nat) (as : List Addr) (ps : List (List Int × List Int)), vs = [.ref l, .int ((n : Nat) : Int)] ∧ 1 ≤ n ∧ n ≤ 40 ∧ SqL K H l (as.map V.ref) ∧ Prs K H as ps ∧ (∀ t ∈ ps, Okp n t) ∧ Fit1 n ps ∧ as.length ≤ 600 ∧
  ∀ g R H', Rep R n ps → H g = none → Same H H' → Tb C H' g R → Q (.ref g) H'
abbrev nTable : List Str := ["_law_pairs_here", "_law_width_here", "_law_pair_here"]
theorem scTable : FnScope nTable ["_law_pairs_here", "_law_width_here"] (defScope slTable) := ⟨rfl, rfl, rfl, by decide +kernel, rfl, by decide +kernel, by decide +kernel⟩
theorem ok_table {f C CF : Addr} {fd : FuncData} (F : Fun K "_law_table" "_law_table" slTable f fd) (DT : Has P w K mg base "table_of" 9 ["size", "flips"] (spTabOf K C CF)) (DF : Has P w K mg base "_law_flip_of" 8 ["_law_pair_here"] (spFlipS K CF)) :
    FnOk P w K mg base CX0 10 f fd ["_law_pairs_here", "_law_width_here"] (spTable K C) := by
  obtain ⟨fT, fdT, GT, mT, kT, bT⟩ := DT
  obtain ⟨fF, fdF, GF, mF, kF, bF⟩ := DF
  refine F.ok scTable (fun vs H Q E h => ?_) (fun cdv A outer s H vs Q E hr h => ?_)
  · obtain ⟨l, n, as, ps, rfl, _⟩ := h
    rfl
  · obtain ⟨l, n, as, ps, rfl, n1, n40, el, pr, okk, fit, few, out⟩ := h
    have r8 : Room 8 _ := hr.mono (by decide)
    have okl : ∀ t ∈ ps, OkF t.1 t.2 ∧ (comm t.1 t.2).length % 2 = 0 := fun t ht => ⟨(okk t ht).1, (okk t ht).2.2.2.1⟩
    refine ⟨_, (pss_one (ps_ret (pe_call GT hr (by rfl) mT kT bT .nil pass0 (pa_cons (pv 1) (pa_cons (pe_lc (own := [("_law_pair_here", 2)]) (g := gName 2) (te := tCall (spFlipS K CF) [] E0 (tCons (tVar 2) tNil)) rfl scTable.nd (pi_list (pv 0)) (blkOk_by (own := [("_law_pair_here", 2)]) (N := nTable) (sc := defScope slTable) (by decide +kernel)) (fun _ _ _ _ _ => (pg_name (i := 2) scTable.nd rfl (Or.inl rfl))) (fun _ _ _ _ _ => pts_nil) (fun _ _ _ _ _ => by exact (pe_call GF r8 (by rfl) mF kF bF .nil pass0 (pa_cons (pv 2) pa_nil)))) pa_nil))))), ?_⟩
    refine ⟨_, rfl, _, rfl, l, rfl, ⟨_, el⟩, fun D0 hD0 => ?_⟩
    refine lc_flips (C := CF) (l := l) (as := as) (ps := ps) (i := 2) (by show 2 < 3; decide) hD0 el pr okl (by omega) (fun fs H1 s1 e1 fl => ?_)
    exact ⟨n, D0, fs, ps, rfl, n1, n40, .inl (SqL.of e1), fl.fls (fun t ht => ⟨(okk t ht).1, (okk t ht).2.2.2.2⟩), fit, fun g R H2 rep hg s2 tb => out g R H2 rep (s1.free hg) (s1.trans s2) tb⟩
end
end K49
namespace K49
open PySem PySem.Spec PyProof.Rows L2 Par Msk
abbrev sChanges : Stmt := topS 35
abbrev sIndep : Stmt := topS 36
abbrev sBoardOf : Stmt := topS 27
abbrev sWitness : Stmt := topS 39
abbrev sIsWit : Stmt := topS 40
/-- the columns of the gaps -/
def colN (n : Nat) (R : List Nat) (j : Nat) : Nat := Rnk.mk n fun i => (R.getD i 0 ^^^ 2 ^ i).testBit j
theorem getD_map {α : Type} [Inhabited α] (n : Nat) (f : Nat → Nat) {k : Nat} (hk : k < n) : ((List.range n).map f).getD k 0 = f k := by
  rw [List.getD_eq_getElem?_getD, List.getElem?_map, List.getElem?_range hk]
  rfl
/-- the changes of the boards with at most one cell up beside cell 0 span all changes -/
theorem ch_basis {R : List Nat} {n : Nat} {ps : List (List Int × List Int)} {bs : List Int} (rep : Rep R n ps) (n1 : 1 ≤ n) (n40 : n ≤ 40) (sb : Sb n bs) :
    Rnk.In (fun x => ∃ j, j < n ∧ x = chN n (ej n j) (runB (ej n j) ps)) (chN n bs (runB bs ps)) := by
  have lt : ∀ i, i < n → R.getD i 0 ^^^ 2 ^ i < 2 ^ n := fun i hi => xor_lt (getD_lt rep.lt i) (Nat.pow_lt_pow_right (by decide) hi)
  have e0 : chN n (ej n 0) (runB (ej n 0) ps) = colN n R 0 := by
    rw [ch_rep rep (ej_sb n1 n40)]
    refine Nat.eq_of_testBit_eq fun i => ?_
    unfold colN
    rw [Rnk.mk_bit, Rnk.mk_bit]
    by_cases z : i < n
    · rw [pt_e0 n1 (lt i z)]
    · rw [decide_eq_false z, Bool.false_and, Bool.false_and]
  have ej_ : ∀ j, 1 ≤ j → j < n → chN n (ej n j) (runB (ej n j) ps) = colN n R 0 ^^^ colN n R j := fun j j1 jn => by
    rw [ch_rep rep (ej_sb n1 n40)]
    refine Nat.eq_of_testBit_eq fun i => ?_
    unfold colN
    rw [Nat.testBit_xor, Rnk.mk_bit, Rnk.mk_bit, Rnk.mk_bit]
    by_cases z : i < n
    · rw [pt_ej j1 jn (lt i z), decide_eq_true z, Bool.true_and, Bool.true_and, Bool.true_and]
    · rw [decide_eq_false z, Bool.false_and, Bool.false_and, Bool.false_and]
      rfl
  have c0 : Rnk.In (fun x => ∃ j, j < n ∧ x = chN n (ej n j) (runB (ej n j) ps)) (colN n R 0) := .of ⟨0, by omega, e0.symm⟩
  have cj : ∀ j, j < n → Rnk.In (fun x => ∃ j, j < n ∧ x = chN n (ej n j) (runB (ej n j) ps)) (colN n R j) := fun j jn => by
    rcases Nat.eq_zero_or_pos j with z | z
    · rw [z]
      exact c0
    · have h : Rnk.In (fun x => ∃ j, j < n ∧ x = chN n (ej n j) (runB (ej n j) ps)) (colN n R 0 ^^^ (colN n R 0 ^^^ colN n R j)) := c0.xor (.of ⟨j, jn, (ej_ j z jn).symm⟩)
      rwa [← Nat.xor_assoc, Nat.xor_self, Nat.zero_xor] at h
  have e : chN n bs (runB bs ps) = comb ((List.range n).map (colN n R)) (Rnk.mk n fun k => decide (bs.getD k 0 % 2 = 1)) := by
    rw [ch_rep rep sb]
    refine Nat.eq_of_testBit_eq fun i => ?_
    rw [Rnk.mk_bit, (Rnk.add_bit i).comb, List.length_map, List.length_range]
    by_cases z : i < n
    · rw [decide_eq_true z, Bool.true_and, pt_px bs (lt i z)]
      refine Rnk.px_congr fun k hk => ?_
      rw [getD_map (α := Nat) n (colN n R) hk, Rnk.mk_bit]
      unfold colN
      rw [Rnk.mk_bit, decide_eq_true hk, decide_eq_true z, Bool.true_and, Bool.true_and, Bool.and_comm]
    · rw [decide_eq_false z, Bool.false_and, ← Rnk.px_false n]
      refine Rnk.px_congr fun k hk => ?_
      rw [getD_map (α := Nat) n (colN n R) hk]
      unfold colN
      rw [Rnk.mk_bit, Rnk.mk_bit, decide_eq_false z, Bool.false_and, Bool.and_false]
  rw [e]
  refine Rnk.In.comb (fun m hm => ?_) _
  obtain ⟨j, hj, rfl⟩ := List.mem_map.mp hm
  exact cj j (List.mem_range.mp hj)
theorem dep_basis {R : List Nat} {n r : Nat} {ps : List (List Int × List Int)} (rep : Rep R n ps) (n1 : 1 ≤ n) (n40 : n ≤ 40) (h : Rnk.Rk (fun x => ∃ j, j < n ∧ x = chN n (ej n j) (runB (ej n j) ps)) r) : Rnk.Rk (Ch n ps) r :=
  h.of_in (fun x ⟨j, hj, e⟩ => .of ⟨ej n j, ej_sb n1 n40, e⟩) fun x ⟨bs, sb, e⟩ => by
    rw [e]
    exact ch_basis rep n1 n40 sb
/-- what a table changes on a board -/
def chg (R : List Nat) (bs : List Int) : Nat := chN R.length bs (imgB R bs)
theorem chg_run {R : List Nat} {n : Nat} {ps : List (List Int × List Int)} {bs : List Int} (rep : Rep R n ps) (f : Fit1 n ps) (sb : Sb n bs) : chg R bs = chN n bs (runB bs ps) := by
  unfold chg
  rw [img_run rep f sb.1 sb.2, rep.len]
theorem mem_chN {n : Nat} {bs ls : List Int} (hb : Sb n bs) (hl : Sb n ls) (k : Int) : k ∈ cellsI (chN n bs ls) ↔ xor (decide (k ∈ upF 0 bs)) (decide (k ∈ upF 0 ls)) = true := by
  by_cases z : ∃ i : Nat, k = (i : Int) ∧ i < n
  · obtain ⟨i, rfl, hi⟩ := z
    rw [mem_cellsN]
    unfold chN
    rw [Rnk.mk_bit, decide_eq_true hi, Bool.true_and]
    have a := bit_at hb.1 (i := i) (by rw [hb.2]; exact hi)
    have b := bit_at hl.1 (i := i) (by rw [hl.2]; exact hi)
    have u := up_iff (bs := bs) i (by rw [hb.2]; exact hi)
    have w := up_iff (bs := ls) i (by rw [hl.2]; exact hi)
    rw [show decide ((i : Int) ∈ upF 0 bs) = decide (bs.getD i 0 = 1) from decide_eq_decide.mpr u, show decide ((i : Int) ∈ upF 0 ls) = decide (ls.getD i 0 = 1) from decide_eq_decide.mpr w]
    rcases a with a | a <;> rcases b with b | b <;> rw [a, b] <;> decide
  · have no : ∀ {cs : List Int}, Sb n cs → ¬ k ∈ upF 0 cs := fun {cs} h m => z (by
      have := upF_in m
      rw [h.2] at this
      exact ⟨k.toNat, by omega, by omega⟩)
    rw [decide_eq_false (no hb), decide_eq_false (no hl)]
    constructor
    · intro m
      obtain ⟨i, e, t⟩ := mem_cellsI.mp m
      exfalso
      unfold chN at t
      rw [Rnk.mk_bit, Bool.and_eq_true] at t
      exact z ⟨i, e, of_decide_eq_true t.1⟩
    · intro m
      exact absurd m (by decide)
section
variable {P : Program} {w : World} {K : PySem.W.Frag} {mg : Str → Option Value} {base : Heap}
/-- changes_of -/
def spChanges (C CB : Addr) : Sp := fun vs H Q _ => ∃ (g bd : Addr) (R : List Nat) (bs : List Int), vs = [.ref g, .ref bd] ∧ Tb C H g R ∧ GoodT R ∧ Bd CB H bd bs ∧ OkB bs ∧ bs.length = R.length ∧
  ∀ q H', H q = none → Same H H' → H' q = some (.tup ((cellsI (chg R bs)).map V.int)) → Q (.ref q) H'
theorem scChanges : FnScope ["table", "board"] ["table", "board"] (defScope sChanges) := ⟨rfl, rfl, rfl, by decide +kernel, rfl, by decide +kernel, by decide +kernel⟩
theorem img_ok {R : List Nat} {bs : List Int} (g : GoodT R) : Sb R.length (imgB R bs) := ⟨mkB_ok g.l1 g.l40, mkB_len _ _⟩
theorem ok_changes {f C CB : Addr} {fd : FuncData} (F : Fun K "changes_of" "changes_of" sChanges f fd) (T : TC K mg C) (TB : BC K mg CB) (DG : HasM P w K mg base C "image" 8 ["self", "board"] (spImage C CB)) (DU : HasM P w K mg base CB "up" 2 ["self"] (spUps CB)) (DA : Has P w K mg base "added_cells" 2 ["one", "other"] (spAdded K)) :
    FnOk P w K mg base CX0 9 f fd ["table", "board"] (spChanges C CB) := by
  obtain ⟨fG, fdG, GG, mG, bG⟩ := DG
  obtain ⟨fU, fdU, GU, mU, bU⟩ := DU
  obtain ⟨fA, fdA, GA, mA, kA, bA⟩ := DA
  refine F.ok scChanges (fun vs H Q E h => ?_) (fun cdv A outer s H vs Q E hr h => ?_)
  · obtain ⟨g, bd, R, bs, rfl, _⟩ := h
    rfl
  · obtain ⟨g, bd, R, bs, rfl, tb, gR, hB, okb, el, out⟩ := h
    have r2 : Room 2 _ := hr.mono (by decide)
    have r8 : Room 8 _ := hr
    obtain ⟨dx, t, h1, h2⟩ := id tb
    obtain ⟨dy, u, g1, g2⟩ := id hB
    have l40 := gR.l40
    refine ⟨_, (pss_one (ps_ret (pe_call GA r2 (by rfl) mA kA bA .nil pass0 (pa_cons (pe_meth0 (pv 1) TB.cl mU GU r2 bU .nil pass0) (pa_cons (pe_meth0 (pe_meth (pv 0) T.cl mG GG r8 bG .nil pass0 (pa_cons (pv 1) pa_nil)) TB.cl mU GU r2 bU .nil pass0) pa_nil))))), ?_⟩
    refine ⟨_, rfl, bd, dy, _, rfl, g1, no_fld (by decide +kernel), bd, bs, rfl, hB, by omega, fun p H1 hp s1 e1 => ?_⟩
    refine ⟨_, rfl, g, dx, _, rfl, s1 _ _ h1, no_fldM (by decide +kernel), _, rfl, g, bd, R, bs, rfl, tb.same s1, hB.same s1, okb, el, gR.lt, fun q H2 hq s2 bq => ?_⟩
    obtain ⟨dz, w_, z1, z2⟩ := id bq
    have si := img_ok (bs := bs) gR
    refine ⟨q, dz, _, rfl, z1, no_fld (by decide +kernel), q, imgB R bs, rfl, bq, by rw [si.2]; omega, fun p2 H3 hp2 s3 e3 => ?_⟩
    have few : ∀ {cs : List Int}, Sb R.length cs → (upF 0 cs).length ≤ 500 ∧ ∀ k ∈ upF 0 cs, Cell k := fun {cs} h => ⟨by have := upF_len 0 cs; have := h.2; omega, fun k hk => by
      have := upF_in hk
      have := h.2
      exact ⟨by omega, by omega⟩⟩
    have sb : Sb R.length bs := ⟨okb, el⟩
    refine ⟨p, p2, upF 0 bs, upF 0 (imgB R bs), rfl, SqT.of (s3 _ _ (s2 _ _ e1)), SqT.of e3, (few sb).1, (few si).1, (few sb).2, (few si).2, fun r ks H4 hr4 s4 up mem e4 => ?_⟩
    have ek : ks = cellsI (chg R bs) := up_same up (cellsI_up _) fun k => by
      rw [mem k]
      exact (mem_chN sb si k).symm
    rw [ek] at e4
    have s14 := s1.trans (s2.trans s3)
    exact out r H4 (s14.free hr4) (s14.trans s4) e4
/-- are_independent of tuples of cells -/
def spIndep (K : PySem.W.Frag) : Sp := fun vs H Q _ => ∃ (l : Addr) (xs : List Addr) (ms : List Nat), vs = [.ref l] ∧ H l = some (.lst (xs.map V.ref)) ∧ TupsAt H xs (ms.map cellsI) ∧ (∀ m ∈ ms, m < 2 ^ 40) ∧ ms.length ≤ 300 ∧
  ∀ (b : Bool) H', Same H H' → (b = true ↔ Indep ms) → Q (.bl b) H'
abbrev nIndep : List Str := ["items", "masks", "item"]
theorem scIndep : FnScope nIndep ["items"] (defScope sIndep) := ⟨rfl, rfl, rfl, by decide +kernel, rfl, by decide +kernel, by decide +kernel⟩
theorem ok_indep {f : Addr} {fd : FuncData} (F : Fun K "are_independent" "are_independent" sIndep f fd) (B : Bl mg) (DC : HasD P w K mg base "cell_tuple" 5 "things" (spCells K)) (DM : Has P w K mg base "mask_of" 2 ["cells"] (spMaskOf K)) (DN : Has P w K mg base "rank_of" 4 ["masks"] (spRankG K)) :
    FnOk P w K mg base CX0 6 f fd ["items"] (spIndep K) := by
  obtain ⟨fC, fdC, dsC, GC, mC, kC, hdC, bC⟩ := DC
  obtain ⟨fM, fdM, GM, mM, kM, bM⟩ := DM
  obtain ⟨fN, fdN, GN, mN, kN, bN⟩ := DN
  refine F.ok scIndep (fun vs H Q E h => ?_) (fun cdv A outer s H vs Q E hr h => ?_)
  · obtain ⟨l, xs, ms, rfl, _⟩ := h
    rfl
  · obtain ⟨l, xs, ms, rfl, el, tu, lt, few, out⟩ := h
    have r2 : Room 2 _ := hr.mono (by decide)
    have r4 : Room 4 _ := hr.mono (by decide)
    have r5 : Room 5 _ := hr
    refine ⟨_, (pss_cons (ps_setLc (i := 1) (own := [("item", 2)]) (g := gName 2) (te := tCall (spMaskOf K) [] E0 (tCons (tCall (spCells K) [V.int 40] E0 (tCons (tVar 2) tNil)) tNil)) rfl scIndep.nd rfl rfl (sw_true rfl rfl rfl (by decide +kernel)) (pi_list (pv 0)) (blkOk_by (own := [("item", 2)]) (N := nIndep) (sc := defScope sIndep) (by decide +kernel)) (fun _ _ _ _ _ => (pg_name (i := 2) scIndep.nd rfl (Or.inl rfl))) (fun _ _ _ _ _ => pts_nil) (fun _ _ _ _ _ => by exact (pe_call GM r2 (by rfl) mM kM bM .nil pass0 (pa_cons (pe_call GC r5 (by rfl) mC kC bC hdC pass0 (pa_cons (pv 2) pa_nil)) pa_nil))))
      (pss_one (ps_ret (pe_cmpR op_eq (pe_call GN r4 (by rfl) mN kN bN .nil pass0 (pa_cons (pv 1) pa_nil)) (pe_callB call_len_seq (by rfl) B.len PySem.boot_len (pa_cons (pv 1) pa_nil)) (nomark _))))), ?_⟩
    refine ⟨_, rfl, l, rfl, ⟨_, SqL.of el⟩, fun D hD => ?_⟩
    have lx : xs.length = ms.length := by rw [tu.len, List.length_map]
    refine lc_tups (fun ns => V.int ((maskI ns : Nat) : Int)) (by show 2 < 3; decide) hD (SqL.of el) tu (by omega) (fun x ns H2 Q2 hn s2 ex good => ?_) (fun H2 s2 e2 => ?_)
    · obtain ⟨m, hm, rfl⟩ := List.mem_map.mp hn
      obtain ⟨n1, n2, n3, n4⟩ := cellsN (lt m hm) (Nat.le_refl 40)
      refine ⟨_, rfl, x, 40, cellsI m, rfl, .inr (SqT.of ex), by omega, n3, n1, fun p ms' H3 hp s3 pm sm e3 => ?_⟩
      have e := sort_same pm sm (cellsI_up m)
      rw [e] at e3
      exact ⟨p, _, rfl, .inr (SqT.of e3), n1, n2, n3, fun H4 s4 => good H4 (s3.trans s4)⟩
    · have em : ((ms.map cellsI).map fun ns => V.int ((maskI ns : Nat) : Int)) = mV ms := by
        unfold mV
        rw [List.map_map]
        refine List.map_congr_left fun m hm => ?_
        show V.int ((maskI (cellsI m) : Nat) : Int) = _
        rw [(cellsN (lt m hm) (Nat.le_refl 40)).2.2.2]
      rw [em] at e2
      refine ⟨_, rfl, D, ms, rfl, SqL.of e2, few, fun r H3 s3 rk => ?_⟩
      refine ⟨_, rfl, D, _, rfl, .inl (SqL.of (s3 _ _ e2)), rfl, ?_⟩
      rw [mV_len]
      refine out _ _ (s2.trans s3) ?_
      rw [decide_eq_true_eq, Rnk.indep_iff rk]
      exact ⟨fun h => by injection h with h; omega, fun h => by rw [h]⟩
/-- boards at these places -/
def Bds (CB : Addr) (H : Hp) : List Addr → List (List Int) → Prop
  | [], [] => True
  | a :: as, b :: bs => Bd CB H a b ∧ Bds CB H as bs
  | _, _ => False
theorem Bds.same {CB : Addr} {H H' : Hp} (s : Same H H') : ∀ {as : List Addr} {bss : List (List Int)}, Bds CB H as bss → Bds CB H' as bss
  | [], [], _ => True.intro
  | _ :: _, _ :: _, h => ⟨h.1.same s, h.2.same s⟩
  | [], _ :: _, h => h.elim
  | _ :: _, [], h => h.elim
theorem Bds.len {CB : Addr} {H : Hp} : ∀ {as : List Addr} {bss : List (List Int)}, Bds CB H as bss → as.length = bss.length
  | [], [], _ => rfl
  | _ :: _, _ :: _, h => by rw [List.length_cons, List.length_cons, h.2.len]
  | [], _ :: _, h => h.elim
  | _ :: _, [], h => h.elim
theorem Bds.snoc {CB : Addr} {H : Hp} {a : Addr} {b : List Int} (hb : Bd CB H a b) : ∀ {as : List Addr} {bss : List (List Int)}, Bds CB H as bss → Bds CB H (as ++ [a]) (bss ++ [b])
  | [], [], _ => ⟨hb, True.intro⟩
  | _ :: _, _ :: _, h => ⟨h.1, h.2.snoc hb⟩
  | [], _ :: _, h => h.elim
  | _ :: _, [], h => h.elim
/-- boards stay where lists change -/
theorem Bd.keep {CB : Addr} {H H' : Hp} {a : Addr} {b : List Int} (k : ∀ x o, (∀ xs, o ≠ HO.lst xs) → H x = some o → H' x = some o) (h : Bd CB H a b) : Bd CB H' a b := by
  obtain ⟨dx, t, h1, h2⟩ := h
  exact ⟨dx, t, k _ _ (fun _ z => nomatch z) h1, k _ _ (fun _ z => nomatch z) h2⟩
theorem Bds.keep {CB : Addr} {H H' : Hp} (k : ∀ x o, (∀ xs, o ≠ HO.lst xs) → H x = some o → H' x = some o) : ∀ {as : List Addr} {bss : List (List Int)}, Bds CB H as bss → Bds CB H' as bss
  | [], [], _ => True.intro
  | _ :: _, _ :: _, h => ⟨h.1.keep k, h.2.keep k⟩
  | [], _ :: _, h => h.elim
  | _ :: _, [], h => h.elim
/-- the witness, board by board -/
noncomputable def witB (R : List Nat) (n : Nat) : Nat → List (List Int)
  | 0 => []
  | j + 1 => open Classical in if Rnk.In (fun y => y ∈ (witB R n j).map (chg R)) (chg R (ej n j)) then witB R n j else witB R n j ++ [ej n j]
theorem wit_all {R : List Nat} {n : Nat} : ∀ k, ∀ bs ∈ witB R n k, ∃ j, j < k ∧ bs = ej n j
  | 0, _, h => nomatch h
  | k + 1, bs, h => by
    unfold witB at h
    split at h
    · obtain ⟨j, hj, e⟩ := wit_all k bs h
      exact ⟨j, by omega, e⟩
    · rcases List.mem_append.mp h with h | h
      · obtain ⟨j, hj, e⟩ := wit_all k bs h
        exact ⟨j, by omega, e⟩
      · exact ⟨k, by omega, List.mem_singleton.mp h⟩
theorem wit_len (R : List Nat) (n : Nat) : ∀ k, (witB R n k).length ≤ k
  | 0 => Nat.le_refl _
  | k + 1 => by
    have := wit_len R n k
    unfold witB
    split
    · omega
    · rw [List.length_append]
      show _ + 1 ≤ _
      omega
theorem wit_ind (R : List Nat) (n : Nat) : ∀ k, Indep ((witB R n k).map (chg R))
  | 0 => fun s hs _ => by
    have : s < 1 := hs
    omega
  | k + 1 => by
    have ih := wit_ind R n k
    unfold witB
    split
    next => exact ih
    next h =>
      rw [List.map_append]
      exact Rnk.indep_snoc ih h
theorem wit_span (R : List Nat) (n : Nat) : ∀ k j, j < k → Rnk.In (fun y => y ∈ (witB R n k).map (chg R)) (chg R (ej n j))
  | 0, _, h => absurd h (Nat.not_lt_zero _)
  | k + 1, j, h => by
    have ih := wit_span R n k j
    unfold witB
    by_cases z : j = k
    · subst z
      split
      next h => exact h
      next => exact .of (by rw [List.map_append]; exact List.mem_append_right _ (List.mem_singleton.mpr rfl))
    · have ih := ih (by omega)
      split
      · exact ih
      · exact ih.mono fun y hy => by rw [List.map_append]; exact List.mem_append_left _ hy
theorem wit_rk {R : List Nat} {n : Nat} {ps : List (List Int × List Int)} (rep : Rep R n ps) (fit : Fit1 n ps) (n1 : 1 ≤ n) (n40 : n ≤ 40) : Rnk.Rk (Ch n ps) (witB R n n).length := by
  refine dep_basis rep n1 n40 ((Rnk.Rk.list (wit_ind R n n)).of_in (T := fun x => ∃ j, j < n ∧ x = chN n (ej n j) (runB (ej n j) ps)) (fun x hx => ?_) (fun x ⟨j, hj, e⟩ => ?_) |> fun h => by rwa [List.length_map] at h)
  · obtain ⟨bs, hb, rfl⟩ := List.mem_map.mp hx
    obtain ⟨j, hj, rfl⟩ := wit_all n bs hb
    exact .of ⟨j, hj, chg_run rep fit (ej_sb n1 n40)⟩
  · rw [e, ← chg_run rep fit (ej_sb n1 n40)]
    exact wit_span R n n j hj
theorem chg_lt (R : List Nat) (bs : List Int) : chg R bs < 2 ^ R.length := chN_lt _ _ _
/-- witness_of -/
def spWit (C CB : Addr) : Sp := fun vs H Q _ => ∃ (g : Addr) (R : List Nat), vs = [.ref g] ∧ Tb C H g R ∧ GoodT R ∧
  ∀ q (as : List Addr) H', H q = none → Same H H' → H' q = some (.lst (as.map V.ref)) → Bds CB H' as (witB R R.length R.length) → Q (.ref q) H'
abbrev nWit : List Str := ["table", "witness", "masks", "cell", "board", "mask", "rest", "added"]
theorem scWit : FnScope nWit ["table"] (defScope sWitness) := ⟨rfl, rfl, rfl, by decide +kernel, rfl, by decide +kernel, by decide +kernel⟩
theorem ej_one (n j : Nat) : (mkB n fun k => decide (k ∈ [(j : Int)])) = ej n j := by
  unfold ej
  congr 1
  funext k
  exact decide_eq_decide.mpr List.mem_singleton
theorem ok_wit {f C CB : Addr} {fd : FuncData} (F : Fun K "witness_of" "witness_of" sWitness f fd) (B : Bl mg) (T : TC K mg C) (TB : BC K mg CB) (DS : HasM P w K mg base C "size" 2 ["self"] (spTSize C)) (DI : HasIni P w K mg base CB) (DC : Has P w K mg base "changes_of" 9 ["table", "board"] (spChanges C CB))
    (DM : Has P w K mg base "mask_of" 2 ["cells"] (spMaskOf K)) (DP : Has P w K mg base "pivots_of" 3 ["masks"] (spPivG K)) (DD : Has P w K mg base "reduced" 2 ["pivots", "mask"] spReduced) : FnOk P w K mg base CX0 10 f fd ["table"] (spWit C CB) := by
  obtain ⟨fS, fdS, GS, mS, bS⟩ := DS
  obtain ⟨fI, fdI, GI, MI, kb2, _⟩ := DI
  obtain ⟨fC, fdC, GC, mC, kC, bC⟩ := DC
  obtain ⟨fM, fdM, GM, mM, kM, bM⟩ := DM
  obtain ⟨fP, fdP, GP, mP, kP, bP⟩ := DP
  obtain ⟨fD, fdD, GD, mD, kD, bD⟩ := DD
  refine F.ok scWit (fun vs H Q E h => ?_) (fun cdv A outer s H vs Q E hr h => ?_)
  · obtain ⟨g, R, rfl, _⟩ := h
    rfl
  · obtain ⟨g, R, rfl, tb, gR, out⟩ := h
    have r2 : Room 2 _ := hr.mono (by decide)
    have r3 : Room 3 _ := hr.mono (by decide)
    have r7 : Room 7 _ := hr.mono (by decide)
    have n1 := gR.l1
    have n40 := gR.l40
    obtain ⟨dx, t, h1, h2⟩ := id tb
    refine ⟨_, (pss_cons (ps_set (i := 1) scWit.nd rfl (Or.inl rfl) (pe_lst pa_nil))
      (pss_cons (ps_set (i := 2) scWit.nd rfl (Or.inl rfl) (pe_lst pa_nil))
      (pss_cons (ps_for PassesOwn.never rfl (pi_range1 (by rfl) B.range (pa_cons (pe_meth0 (pv 0) T.cl mS GS r2 bS .nil pass0) pa_nil)) (pg_name (i := 3) scWit.nd rfl (Or.inl rfl)) (pss_cons (ps_set (i := 4) scWit.nd rfl (Or.inl rfl) (pe_makeN (n := 1) (ks := ["up"]) (E := E0) MI GI r7 (by rfl) TB.mgC kb2 pass0 (pa_cons (pe_meth0 (pv 0) T.cl mS GS r2 bS .nil pass0) pa_nil) (pk_cons (pe_tup (pa_cons (pv 3) pa_nil)) pk_nil)))
      (pss_cons (ps_set (i := 5) scWit.nd rfl (Or.inl rfl) (pe_call GM r2 (by rfl) mM kM bM .nil pass0 (pa_cons (pe_call GC hr (by rfl) mC kC bC .nil pass0 (pa_cons (pv 0) (pa_cons (pv 4) pa_nil))) pa_nil)))
      (pss_cons (ps_asg (pe_call GD r2 (by rfl) mD kD bD .nil pass0 (pa_cons (pe_call GP r3 (by rfl) mP kP bP .nil pass0 (pa_cons (pv 2) pa_nil)) (pa_cons (pv 5) pa_nil))) (pg_tup rfl (pgs_cons (pg_name (i := 6) scWit.nd rfl (Or.inl rfl)) (pgs_cons (pg_name (i := 7) scWit.nd rfl (Or.inl rfl)) pgs_nil))))
      (pss_one (ps_if (pt_cmpR op_ne (pv 6) pe_int (nomark _)) (pss_cons (ps_expr (pe_bm PySem.F.plainAttrs_list PySem.F.slot_list_append PySem.F.type_list_append mt_append (pv 1) (pa_cons (pv 4) pa_nil)))
      (pss_one (ps_expr (pe_bm PySem.F.plainAttrs_list PySem.F.slot_list_append PySem.F.type_list_append mt_append (pv 2) (pa_cons (pv 5) pa_nil))))) pss_nil))))))
      (pss_one (ps_ret (pv 1)))))), ?_⟩
    refine ⟨(by show 0 ≤ sizeLine; decide), fun wa hwa => ?_⟩
    have sw := same_new (o := .lst []) hwa
    refine ⟨(by show 0 ≤ sizeLine; decide), fun ma hma => ?_⟩
    have sm := same_new (o := .lst []) hma
    have wm : wa ≠ ma := fun z => by
      rw [← z, upd_same] at hma
      cases hma
    have s0 := sw.trans sm
    refine ⟨_, rfl, g, dx, _, rfl, s0 _ _ h1, no_fldM (by decide +kernel), g, R, rfl, tb.same s0, _, rfl, by omega, by omega, ?_⟩
    rw [Int.toNat_natCast]
    obtain ⟨n, hn⟩ : ∃ n, n = R.length := ⟨_, rfl⟩
    rw [← hn] at n1 n40 out ⊢
    have wmH : H ma = none := sw.free hma
    refine for_range (lo := 0) (fun i σ H' => ∃ (as : List Addr) (v3 v4 v5 v6 v7 : Option V), σ = [some (.ref g), some (.ref wa), some (.ref ma), v3, v4, v5, v6, v7] ∧ Same H H' ∧ H' wa = some (.lst (as.map V.ref)) ∧ H' ma = some (.lst (mV ((witB R n i).map (chg R)))) ∧ Bds CB H' as (witB R n i))
      ⟨[], none, none, none, none, none, rfl, s0, by rw [upd_ne wm, upd_same]; rfl, upd_same, True.intro⟩ ?_ ?_
    · rintro i σ H1 hi ⟨as, v3, v4, v5, v6, v7, rfl, s1, ew, em, bds⟩
      rw [Int.zero_add]
      have la := bds.len
      have lw := wit_len R n i
      refine ⟨_, rfl, g, dx, _, rfl, s1 _ _ h1, no_fldM (by decide +kernel), g, R, rfl, tb.same s1, _, rfl, (by show 1 ≤ sizeLine; decide), fun u hu => ?_⟩
      have s2 := same_new (o := .tup [.int (i : Int)]) hu
      rw [← hn]
      refine ⟨rfl, rfl, made_board (n := n) (ns := [(i : Int)]) (.inr (SqT.of upd_same)) (by show 1 ≤ 500; decide) n1 n40 (fun k hk => by rw [List.mem_singleton.mp hk]; exact ⟨by omega, by omega⟩) (by simp) fun x H3 hx s3 hb => ?_⟩
      rw [ej_one] at hb
      have s13 := s2.trans s3
      have s03 := s1.trans s13
      have sbx := ej_sb (j := i) n1 n40
      refine ⟨_, rfl, _, rfl, g, x, R, ej n i, rfl, tb.same s03, gR, hb, sbx.1, by rw [sbx.2, hn], fun p H4 hp s4 e4 => ?_⟩
      obtain ⟨c1, c2, c3, c4⟩ := cellsN (chg_lt R (ej n i)) gR.l40
      refine ⟨p, cellsI (chg R (ej n i)), rfl, .inr (SqT.of e4), c1, c2, c3, fun H5 s5 => ?_⟩
      rw [c4]
      have s15 := s13.trans (s4.trans s5)
      have s35 := s4.trans s5
      refine ⟨_, rfl, ma, (witB R n i).map (chg R), rfl, SqL.of (s15 _ _ em), (by rw [List.length_map]; omega), fun d ps H6 hd s6 pa po lp pv_ => ?_⟩
      have s16 := s15.trans s6
      refine ⟨_, rfl, d, chg R (ej n i), (witB R n i).map (chg R), _, ps, rfl, pa, po, fun pr r a H7 hpr s7 ep er ha no => ?_⟩
      refine ⟨pr, _, rfl, SqT.of ep, rfl, _, _, rfl, _, _, rfl, rfl, ?_⟩
      have s17 := s16.trans s7
      have s07 := s1.trans s17
      have bd7 : Bd CB H7 x (ej n i) := hb.same (s35.trans (s6.trans s7))
      have bds7 := bds.same s17
      have ew7 := s17 _ _ ew
      have em7 := s17 _ _ em
      have inp : Rnk.In (fun y => y ∈ ps.map fun p => p.1) (comb ((witB R n i).map (chg R)) a) := (Rnk.comb_mem a).bind pv_.all
      refine ⟨_, rfl, rfl, _, rfl, ?_⟩
      have wstep : witB R n (i + 1) = open Classical in if Rnk.In (fun y => y ∈ (witB R n i).map (chg R)) (chg R (ej n i)) then witB R n i else witB R n i ++ [ej n i] := by rw [witB]
      by_cases r0 : r = 0
      · rw [decide_eq_true (by rw [r0]; rfl : V.int ((r : Nat) : Int) = V.int 0)]
        have isin : Rnk.In (fun y => y ∈ (witB R n i).map (chg R)) (chg R (ej n i)) := by
          have : chg R (ej n i) = comb ((witB R n i).map (chg R)) a := by
            cases Nat.decEq (chg R (ej n i)) (comb ((witB R n i).map (chg R)) a) with
            | isTrue y => exact y
            | isFalse y => exact absurd (er.symm.trans r0) (xor_ne y)
          rw [this]
          exact Rnk.comb_mem a
        rw [if_pos isin] at wstep
        rw [wstep]
        exact iteF ⟨as, _, _, _, _, _, rfl, s07, ew7, em7, bds7⟩
      · rw [decide_eq_false (fun z => r0 (by injection z with z; omega) : ¬ V.int ((r : Nat) : Int) = V.int 0)]
        have notin : ¬ Rnk.In (fun y => y ∈ (witB R n i).map (chg R)) (chg R (ej n i)) := pv_.new inp (by rw [← er]; exact r0) fun q hq => by
          obtain ⟨q0, h0, rfl⟩ := List.mem_map.mp hq
          rw [← er]
          exact no q0 h0
        rw [if_neg notin] at wstep
        refine iteT ⟨_, rfl, .inl ⟨rfl, _, SqL.of ew7⟩, _, rfl, wa, _, _, rfl, rfl, ew7, (by rw [List.length_map]; exact small1000 (by omega)), ?_⟩
        have em8 : (upd H7 wa (.lst (as.map V.ref ++ [V.ref x]))) ma = some (.lst (mV ((witB R n i).map (chg R)))) := by rw [upd_ne (Ne.symm wm)]; exact em7
        refine ⟨_, rfl, .inl ⟨rfl, _, SqL.of em8⟩, _, rfl, ma, _, _, rfl, rfl, em8, (by rw [mV_len, List.length_map]; exact small1000 (by omega)), ?_⟩
        have kp : ∀ z o, (∀ xs, o ≠ HO.lst xs) → H7 z = some o → (upd (upd H7 wa (.lst (as.map V.ref ++ [V.ref x]))) ma (.lst (mV ((witB R n i).map (chg R)) ++ [V.int ((chg R (ej n i) : Nat) : Int)]))) z = some o := fun z o nl e => by
          rw [upd_ne (fun y => by rw [y, em7] at e; exact nl _ (Option.some.inj e).symm), upd_ne (fun y => by rw [y, ew7] at e; exact nl _ (Option.some.inj e).symm)]
          exact e
        refine ⟨as ++ [x], _, _, _, _, _, rfl, fun z o e => ?_, ?_, ?_, ?_⟩
        · rw [upd_ne (ne_of_none e wmH), upd_ne (ne_of_none e hwa)]
          exact s07 z o e
        · rw [upd_ne wm, upd_same, List.map_append]
          rfl
        · rw [upd_same, wstep, List.map_append]
          unfold mV
          rw [List.map_append]
          rfl
        · rw [wstep]
          exact Bds.snoc (bd7.keep kp) (bds7.keep kp)
    · rintro σ H1 ⟨as, v3, v4, v5, v6, v7, rfl, s1, ew, em, bds⟩
      exact ⟨_, rfl, out wa as H1 hwa s1 ew bds⟩
end
end K49
namespace Par
open PySem PySem.Spec PyProof.Rows L2
/-! ### an own object beside a thing of another kind: == and != on either side -/
inductive Oth (H : Hp) : V → String → Prop where
  | non : Oth H .non "NoneType"
  | int (i : Int) : Oth H (.int i) "int"
  | str (x : Str) : Oth H (.str x) "str"
  | lst {a : Addr} {xs : List V} : H a = some (.lst xs) → Oth H (.ref a) "list"
  | tup {a : Addr} {xs : List V} : H a = some (.tup xs) → Oth H (.ref a) "tuple"
  | dic {a : Addr} {kvs : List (Key × V)} : H a = some (.dK kvs) → Oth H (.ref a) "dict"
theorem Oth.same {H H' : Hp} {v : V} {T : String} (s : Same H H') (h : Oth H v T) : Oth H' v T := by
  cases h with
  | non => exact .non
  | int i => exact .int i
  | str x => exact .str x
  | lst e => exact .lst (s _ _ e)
  | tup e => exact .tup (s _ _ e)
  | dic e => exact .dic (s _ _ e)
/-- the class is none of these -/
structure NoB (K : PySem.W.Frag) (C : Addr) : Prop where
  no : ∀ T, T = "NoneType" ∨ T = "int" ∨ T = "str" ∨ T = "list" ∨ T = "tuple" ∨ T = "dict" → PySem.W.subIn K (.ref C) (.type T) = some false
theorem not_sub {K : PySem.W.Frag} {C : Addr} {T : String} (h : T = "NoneType" ∨ T = "int" ∨ T = "str" ∨ T = "list" ∨ T = "tuple" ∨ T = "dict") : PySem.W.subIn K (.type T) (.ref C) = some false := by
  rcases h with rfl | rfl | rfl | rfl | rfl | rfl <;> rfl
section
variable {X : Cx} {pins : List (Addr × Obj)} {s : Shared} {σ : L2.St} {H : Hp}
theorem Oth.six {v : V} {T : String} (h : Oth H v T) : T = "NoneType" ∨ T = "int" ∨ T = "str" ∨ T = "list" ∨ T = "tuple" ∨ T = "dict" := by cases h <;> simp
theorem Oth.is {v : V} {u : Value} {T : String} (I : Inv X pins σ H s) (r : RelV v u) (h : Oth H v T) : s.TypeIs u T := by
  cases h with
  | non => cases r; rfl
  | int i => obtain ⟨t, rfl⟩ := r; rfl
  | str x => obtain ⟨t, rfl⟩ := r; rfl
  | lst e =>
    cases r
    obtain ⟨_, _, n, _, h1⟩ := I.hok _ _ e
    exact ⟨_, h1, rfl⟩
  | tup e =>
    cases r
    obtain ⟨_, _, _, o, h1, h2, _⟩ := I.hok _ _ e
    exact ⟨o, h1, h2⟩
  | dic e =>
    cases r
    obtain ⟨_, _, vs, _, o, es, ep, h1, h2, _⟩ := I.hok _ _ e
    exact ⟨o, h1, h2.1⟩
theorem looks_of {M : Model} {u : Value} {T : String} (h : s.TypeIs u T) : PySem.W.Looks M s.heap (typeOf u) (.type T) := by
  cases u with
  | ref a =>
    obtain ⟨o, ho, hc⟩ := h
    exact hc ▸ (PySem.W.Looks.ld ho).andThen .now
  | _ => exact PySem.W.Looks.of_pure h
variable {C f : Addr} {CX : CXT} {n : Nat} {fd : FuncData} {ps : List Str} {sp : Sp} {E : XK}
theorem own_callV {a : Addr} {y : V} {u : Value} {A : Around} {Q : V → Hp → Prop} (I : Inv X pins σ H s) (ry : RelV y u) (F : FnOk X.prog X.w X.K X.mg X.base CX n f fd ps sp) (hr : Room n A) (hA : A.frames = X.A.frames) (hb : Binds X.K fd ps []) (hx : Passes CX X E)
    (h : sp [.ref a, y] H Q E) : wpAny (model X.prog X.w) A (call (.ref f) [.ref a, u]) (fun v s' => ∃ z H', Inv X pins σ H' s' ∧ RelV z v ∧ Q z H') X.xe s := by
  have e0 : Env0 X.prog X.w X.K X.mg X.base A X.stack s H := by
    have e := I.env0
    exact ⟨by rw [hA]; exact e.frames, e.mod, e.bs, e.bsz, e.funs, e.frf, e.hok, e.bare⟩
  have hl := F.len _ _ _ _ h
  have r2 : Vals [V.ref a, y] [Value.ref a, u] := .cons rfl (.cons ry .nil)
  refine wpAny_call (codeAny_mono (F.run A X.stack s H ⟨[.ref a, u], []⟩ [.ref a, u] [.ref a, y] Q E hr e0 (by
    have := hb s [.ref a, u] I.kIn (by simpa using hl)
    simpa using this) r2 h) fun r s' hq => ?_)
  cases r with
  | error e => exact hx pins σ H s e s' I hq
  | ok fl =>
    cases fl with
    | ret w =>
      obtain ⟨z, H', I', rz, q⟩ := I.after hq
      exact ⟨z, H', I', rz, q⟩
    | next => exact False.elim hq
    | brk => exact False.elim hq
    | cont => exact False.elim hq
/-- own == other -/
def rOwnL (C : Addr) (sp : Sp) (E : XK) (neg : Bool) : R2 := fun x y H Q => ∃ a dx fs T, x = .ref a ∧ H a = some (.ins C dx fs) ∧ Oth H y T ∧ sp [.ref a, y] H (fun v H' => ∃ r : Bool, v = .bl r ∧ Q (.bl (xor neg r)) H') E
/-- other == own -/
def rOwnR (C : Addr) (sp : Sp) (E : XK) : R2 := fun x y H Q => ∃ b dx fs T, y = .ref b ∧ H b = some (.ins C dx fs) ∧ Oth H x T ∧ sp [.ref b, x] H (fun v H' => ∃ r : Bool, v = .bl r ∧ Q (.bl r) H') E
theorem op_ownEqL (T : EqC X.K C f) (F : FnOk X.prog X.w X.K X.mg X.base CX n f fd ps sp) (hr : Room n X.A) (hb : Binds X.K fd ps []) (hx : Passes CX X E) : OpR X (compareOp .Eq) (rOwnL C sp E false) := by
  intro pins s σ H x y v u Q I rx ry h
  obtain ⟨a, dx, fs, T', rfl, ha, o, h⟩ := h
  cases rx
  obtain ⟨mA, J, _⟩ := ins_get I.hok ha
  obtain ⟨od, Ja, _⟩ := J.look
  obtain ⟨m, hF⟩ := I.fr
  show wpAny (model X.prog X.w) X.A (richCompare .Eq (.ref a) u) (EP X pins σ Q) X.xe s
  refine PySem.W.cmp_K (op := .Eq) (tb := .type T') hr.units0 hF I.ok.mod.kin Ja (looks_of (o.is I ry)) (by simp [PySem.W.notFirst, not_sub o.six]) T.eq T.fn ?_
  refine wpAny_mono (own_callV I ry F hr rfl hb hx h) (fun w s' hw => ?_) fun _ _ e => e
  obtain ⟨z, H', I', rz, b, rfl, q⟩ := hw
  cases rz
  rw [Bool.false_xor] at q
  exact ⟨.bl b, H', I', rfl, q⟩
end
section
open PySem.Builtin
open AutoSeq1 (wpAny_loadPart')
variable {prog : Program} {w : World} {A : Around} {R : Result → Shared → Prop} {s : Shared} {l b : Addr} {ob : Obj}
theorem int_no (i : Int) (t : Tok) {C dx : Addr} (hb : s.heap.get? b = some (PySem.W.instObj C dx)) (h : R (.ok (.ret .notImplemented)) s) :
    wpAny (model prog w) A.in1 (Builtin.«int.__eq__» ⟨[.int i t, .ref b], []⟩) (GQ.FinOf prog w A R) (fun e s' => R (.error e) s') s := by
  obtain ⟨hp, g, d, tk, os⟩ := s
  wp_walk using wpAny_loadPart' hb, wpAny_load hb
  exact h
theorem str_no (x : Str) (t : Tok) {C dx : Addr} (hb : s.heap.get? b = some (PySem.W.instObj C dx)) (h : R (.ok (.ret .notImplemented)) s) :
    wpAny (model prog w) A.in1 (Builtin.«str.__eq__» ⟨[.str x t, .ref b], []⟩) (GQ.FinOf prog w A R) (fun e s' => R (.error e) s') s := by
  obtain ⟨hp, g, d, tk, os⟩ := s
  wp_walk using wpAny_loadPart' hb, wpAny_load hb
  exact h
theorem none_no (h : R (.ok (.ret .notImplemented)) s) :
    wpAny (model prog w) A.in1 (Builtin.«NoneType.__eq__» ⟨[.none, .ref b], []⟩) (GQ.FinOf prog w A R) (fun e s' => R (.error e) s') s := by
  obtain ⟨hp, g, d, tk, os⟩ := s
  wp_walk
  exact h
theorem list_no (hi : ∀ (Q : Bool → Shared → Prop), Q false s → wpAny (model prog w) A.in1 (isInstance (.ref b) (.type "list")) Q (fun e s' => R (.error e) s') s) (h : R (.ok (.ret .notImplemented)) s) :
    wpAny (model prog w) A.in1 (Builtin.«list.__eq__» ⟨[.ref l, .ref b], []⟩) (GQ.FinOf prog w A R) (fun e s' => R (.error e) s') s := by
  refine wpAny_bind (m := slotArgs "__eq__" 1 ⟨[.ref l, .ref b], []⟩) (wpAny_pure ?_)
  refine wpAny_bind (m := isInstance (.ref b) (.type "list")) (hi _ ?_)
  exact wpAny_pure h
theorem tuple_no (hi : ∀ (Q : Bool → Shared → Prop), Q false s → wpAny (model prog w) A.in1 (isInstance (.ref b) (.type "tuple")) Q (fun e s' => R (.error e) s') s) (h : R (.ok (.ret .notImplemented)) s) :
    wpAny (model prog w) A.in1 (Builtin.«tuple.__eq__» ⟨[.ref l, .ref b], []⟩) (GQ.FinOf prog w A R) (fun e s' => R (.error e) s') s := by
  refine wpAny_bind (m := slotArgs "__eq__" 1 ⟨[.ref l, .ref b], []⟩) (wpAny_pure ?_)
  refine wpAny_bind (m := isInstance (.ref b) (.type "tuple")) (hi _ ?_)
  exact wpAny_pure h
theorem dict_no (hl : s.TypeIs (.ref l) "dict") (hi : ∀ (Q : Bool → Shared → Prop), Q false s → wpAny (model prog w) A.in1 (isInstance (.ref b) (.type "dict")) Q (fun e s' => R (.error e) s') s) (h : R (.ok (.ret .notImplemented)) s) :
    wpAny (model prog w) A.in1 (Builtin.«dict.__eq__» ⟨[.ref l, .ref b], []⟩) (GQ.FinOf prog w A R) (fun e s' => R (.error e) s') s := by
  refine wpAny_bind (m := Builtin.Dict.dictSlotArgs "__eq__" ⟨[.ref l, .ref b], []⟩) ?_
  unfold Builtin.Dict.dictSlotArgs
  refine wpAny_bind (wpAny_notOrdered_dict hl ?_)
  refine wpAny_bind (m := slotArgs "__eq__" 1 ⟨[.ref l, .ref b], []⟩) (wpAny_pure ?_)
  refine wpAny_pure ?_
  refine wpAny_bind (m := isInstance (.ref b) (.type "dict")) (hi _ ?_)
  exact wpAny_bind (wpAny_rule (wpAny_pure h))
end
section
variable {X : Cx} {pins : List (Addr × Obj)} {s : Shared} {σ : L2.St} {H : Hp} {C f : Addr} {CX : CXT} {n : Nat} {fd : FuncData} {ps : List Str} {sp : Sp} {E : XK}
theorem inst_no {M : Model} {A : Around} {E : Value → Shared → Prop} {b dx : Addr} {T : String} {K : PySem.W.Frag} (KX : K.In s.heap) (hb : s.heap.get? b = some (PySem.W.instObj C dx)) (e : PySem.W.subIn K (.ref C) (.type T) = some false) (Q : Bool → Shared → Prop) (h : Q false s) :
    wpAny M A (isInstance (.ref b) (.type T)) Q E s := by
  have t : PySem.W.Looks M s.heap (typeOf (.ref b)) (.ref C) := (PySem.W.Looks.ld hb).andThen .now
  unfold isInstance
  exact wpAny_bind (t.here ((PySem.W.looks_subIn KX e).here h))
theorem Oth.declines {v : V} {u : Value} {T : String} {b dx : Addr} {A : Around} {Q : Option Value → Shared → Prop} (I : Inv X pins σ H s) (r : RelV v u) (o : Oth H v T) (N : NoB X.K C) (hb : s.heap.get? b = some (PySem.W.instObj C dx)) (h : Q none s) :
    wpAny (model X.prog X.w) A (tryCompare u (cmpInfo .Eq).2.1 (.ref b)) Q X.xe s := by
  have ty := o.is I r
  have no := N.no T o.six
  cases o with
  | non =>
    cases r
    exact wpAny_tryCompare_declines ty F.slot_NoneType_eq (GQ.call_here F.slot_NoneType_eq ty F.entry_NoneType_eq (F.args_NoneType_eq_2 _ _) (none_no ⟨rfl, h⟩))
  | int i =>
    obtain ⟨t, rfl⟩ := r
    exact wpAny_tryCompare_declines ty F.slot_int_eq (GQ.call_here F.slot_int_eq ty F.entry_int_eq (F.args_int_eq_2 _ _) (int_no i t hb ⟨rfl, h⟩))
  | str x =>
    obtain ⟨t, rfl⟩ := r
    exact wpAny_tryCompare_declines ty F.slot_str_eq (GQ.call_here F.slot_str_eq ty F.entry_str_eq (F.args_str_eq_2 _ _) (str_no x t hb ⟨rfl, h⟩))
  | lst e =>
    cases r
    exact wpAny_tryCompare_declines ty F.slot_list_eq (GQ.call_here F.slot_list_eq ty F.entry_list_eq (F.args_list_eq_2 _ _) (list_no (fun Q q => inst_no I.kIn hb no Q q) ⟨rfl, h⟩))
  | tup e =>
    cases r
    exact wpAny_tryCompare_declines ty F.slot_tuple_eq (GQ.call_here F.slot_tuple_eq ty F.entry_tuple_eq (F.args_tuple_eq_2 _ _) (tuple_no (fun Q q => inst_no I.kIn hb no Q q) ⟨rfl, h⟩))
  | dic e =>
    cases r
    exact wpAny_tryCompare_declines ty F.slot_dict_eq (GQ.call_here F.slot_dict_eq ty F.entry_dict_eq (F.args_dict_eq_2 _ _) (dict_no ty (fun Q q => inst_no I.kIn hb no Q q) ⟨rfl, h⟩))
theorem op_ownEqR (T : EqC X.K C f) (N : NoB X.K C) (F : FnOk X.prog X.w X.K X.mg X.base CX n f fd ps sp) (hr : Room n X.A) (hb : Binds X.K fd ps []) (hx : Passes CX X E) : OpR X (compareOp .Eq) (rOwnR C sp E) := by
  intro pins s σ H x y v u Q I rx ry h
  obtain ⟨b, dx, fs, T', rfl, hb', o, h⟩ := h
  cases ry
  obtain ⟨mA, J, _⟩ := ins_get I.hok hb'
  obtain ⟨od, Jb, _⟩ := J.look
  obtain ⟨_, _, _, hat, _⟩ := (show ObjOk X.prog X.w H s.heap b (.ins C dx fs) from I.hok b _ hb')
  have ty := o.is I rx
  show wpAny (model X.prog X.w) X.A (richCompare .Eq v (.ref b)) (EP X pins σ Q) X.xe s
  unfold richCompare
  simp only [ty.oneThing_none]
  refine wpAny_holding (wpAny_bind (wpAny_cRoomFor hr.units0 ?_))
  refine wpAny_bind ((looks_of ty).here (wpAny_bind (Jb.type.here ?_)))
  have ne : (Value.type T' != Value.ref C) = true := rfl
  simp only [ne, if_true]
  refine wpAny_bind ((PySem.W.looks_subIn I.kIn (N.no T' o.six)).here ?_)
  simp only [Bool.false_eq_true, if_false, Bool.not_false, if_true]
  refine wpAny_bind (o.declines I rx N hat ?_)
  have one : wpAny (model X.prog X.w) X.A (tryCompare (.ref b) (cmpInfo .Eq).2.1 v) (fun r s' => ∃ w, r = some w ∧ EP X pins σ Q w s') X.xe s := by
    unfold tryCompare
    refine wpAny_bind (PySem.W.ifBound_K I.kIn Jb T.eq T.fn (wpAny_mono (own_callV I rx F hr rfl hb hx h) (fun w s' hw => ?_) fun _ _ e => e))
    obtain ⟨z, H', I', rz, r, rfl, q⟩ := hw
    cases rz
    exact wpAny_pure ⟨_, rfl, .bl r, H', I', rfl, q⟩
  refine wpAny_bind (m := tryCompare (.ref b) (cmpInfo .Eq).2.1 v) (wpAny_mono one (fun r s' z => ?_) fun _ _ e => e)
  obtain ⟨w, rfl, q⟩ := z
  exact wpAny_pure q
/-- own != other: by the own == -/
theorem ne_entry {A : Around} {a : Addr} {u : Value} {Q : Fin → Shared → Prop} {h : Heap} {g : Array GenState} {d : Drawn} {t : Nat} {os : OsState} {B : String} {bm : List Value} {Ex : Value → Shared → Prop} {prog : Program} {w : World} (O : h.OwnEqNoNe a C f B bm) (hu : A.units < cLine)
    (hc : wpAny (model prog w) A (call (.ref f) [.ref a, u]) (fun v s' => ∃ r, v = .bool r ∧ Q (.done (.ret (.bool (!r)))) s') Ex ⟨h, g, d, t, os⟩) :
    wpAny (model prog w) A (Builtin.«object.__ne__» ⟨[.ref a, u], []⟩) Q Ex ⟨h, g, d, t, os⟩ := by
  refine wpAny_bind (m := slotArgs "__ne__" 1 ⟨[.ref a, u], []⟩) (wpAny_pure ?_)
  refine wpAny_bind (wpAny_cRoomFor hu ?_)
  refine wpAny_bind (m := callSpecialIfBound? (.ref a) (Str.ofString "__eq__") [u]) (wpAny_callSpecialIfBound?_own O.ownEq (wpAny_mono hc (fun v s' q => ?_) fun _ _ e => e))
  obtain ⟨r, rfl, q⟩ := q
  exact wpAny_bind (m := truthy (.bool r)) (wpAny_truthy_bool (wpAny_pure q))
theorem op_ownNeL (T : EqC X.K C f) (F : FnOk X.prog X.w X.K X.mg X.base CX n f fd ps sp) (hr : Room (n + 1) X.A) (hb : Binds X.K fd ps []) (hx : Passes CX X E) : OpR X (compareOp .NotEq) (rOwnL C sp E true) := by
  intro pins s σ H x y v u Q I rx ry h
  obtain ⟨a, dx, fs, T', rfl, ha, o, h⟩ := h
  cases rx
  obtain ⟨mA, J, _⟩ := ins_get I.hok ha
  obtain ⟨oda, Ja, _⟩ := J.look
  obtain ⟨nm, q, N, bs, hd, sn, sub, ab, col, dd, k0, k1, k2, k3, k5, newId, hC, hN, hE, hNe⟩ := T.is
  obtain ⟨of, h1, h2⟩ := fn_at I.kIn T.fn
  have G : s.heap.Ns N (s.heap.nsMap N) := .of_isNs (PySem.W.isNs_of_in I.kIn hN)
  have none_ne := PySem.W.ns_none_of I.kIn G hNe
  have O : s.heap.OwnEqNoNe a C f "object" [.type "object"] := ⟨_, of, nm, q, N, bs, hd, sn, sub, ab, col, dd, k0, k1, k2, k3, k5, newId, _, _, Ja.at_, Ja.cls, I.kIn _ _ hC, G, ns_some_of I.kIn G hE, h1, h2, PySem.F.cmp_object.mro, look_eq, none_ne⟩
  have ty := o.is I ry
  have call := own_callV (A := X.A.in1) I ry F hr.in1 rfl hb hx h
  have hun := hr.units
  have hCh := I.kIn _ _ hC
  have cb := Ja.cls
  have at_ := Ja.at_
  have e1 : PySem.W.Looks (model X.prog X.w) s.heap (typeOf (.ref a)) (.ref C) := Ja.type
  have e2 := looks_of (M := model X.prog X.w) ty
  have e3 := PySem.W.looks_subIn (M := model X.prog X.w) I.kIn (not_sub (K := X.K) (C := C) o.six)
  show wpAny (model X.prog X.w) X.A (richCompare .NotEq (.ref a) u) (EP X pins σ Q) X.xe s
  unfold richCompare
  simp only [oneThing_ref]
  refine wpAny_holding (wpAny_bind (wpAny_cRoomFor hr.units0 ?_))
  refine wpAny_bind (e1.here (wpAny_bind (e2.here ?_)))
  have ne : (Value.ref C != Value.type T') = true := rfl
  simp only [ne, if_true]
  refine wpAny_bind (e3.here ?_)
  simp only [Bool.false_eq_true, if_false]
  have one : wpAny (model X.prog X.w) X.A (tryCompare (.ref a) (cmpInfo .NotEq).2.1 u) (fun r s' => ∃ w, r = some w ∧ EP X pins σ Q w s') X.xe s := by
    obtain ⟨hh, gg, dd', tt, os⟩ := s
    unfold tryCompare
    refine wpAny_bind (wpAny_callSpecialIfBound?_inst at_ cb hCh G none_ne PySem.F.cmp_object.mro PySem.F.cmp_object.ne (wpAny_call (codeAny_call_builtin PySem.F.cmp_object.ne.plain PySem.F.cmpEntry_ne
      (wpAny_check_slot_inst PySem.F.cmpKind_ne PySem.F.cmpSplit_ne (PySem.F.cmpArgs_ne _ _) PySem.F.cmp_object.hasObject at_ cb hCh
        (ne_entry (A := X.A.in1) O (by show X.A.units + 1 < cLine; omega) (wpAny_mono call (fun w s' hw => ?_) fun _ _ e => e))))))
    obtain ⟨z, H', I', rz, r, rfl, q⟩ := hw
    cases rz
    rw [Bool.true_xor] at q
    exact ⟨r, rfl, wpAny_pure ⟨_, rfl, .bl (!r), H', I', rfl, q⟩⟩
  refine wpAny_bind (m := tryCompare (.ref a) (cmpInfo .NotEq).2.1 u) (wpAny_mono one (fun r s' z => ?_) fun _ _ e => e)
  obtain ⟨w, rfl, q⟩ := z
  exact wpAny_pure q
end
end Par
namespace K49
open PySem PySem.Spec PyProof.Rows L2 Par Msk
theorem oth_ty {K : PySem.W.Frag} {H : Hp} {v : V} {T : String} (h : Oth H v T) : TyOf K H v (.type T) := by
  cases h with
  | non => exact .non
  | int i => exact .int i
  | str x => exact .str x
  | lst e => exact .lst e
  | tup e => exact .tup e
  | dic e => exact .dK e
theorem kit_oth {K : PySem.W.Frag} {C : Addr} {T : String} (hd : PySem.W.hasDictIn K C = true) (ty : PySem.W.typeIn K (.ref C) = some (.type "type")) (six : T = "NoneType" ∨ T = "int" ∨ T = "str" ∨ T = "list" ∨ T = "tuple" ∨ T = "dict") :
    PySem.W.kitOne K (.type T) (.ref C) = some false := by
  obtain ⟨cd, hc, _⟩ := PySem.W.any_some hd
  have e1 : (Value.type T == Value.ref C) = false := beq_eq_false_iff_ne.mpr fun z => nomatch z
  have e2 : ((PySem.W.clsIn K C).isSome && PySem.W.typeIn K (.ref C) == some (.type "type")) = true := by
    rw [hc, ty]
    rfl
  show (if (Value.type T == Value.ref C) = true then some true else if ((PySem.W.clsIn K C).isSome && PySem.W.typeIn K (.ref C) == some (.type "type")) = true then PySem.W.subIn K (.type T) (.ref C) else none) = some false
  rw [if_neg (by rw [e1]; simp), if_pos e2]
  exact not_sub six
theorem kit_noseq {K : PySem.W.Frag} {n : String} (h : n = "NoneType" ∨ n = "bool" ∨ n = "int" ∨ n = "str" ∨ n = "dict") : PySem.W.kitAny K (.type n) [.type "list", .type "tuple"] = some false := by
  have h1 : PySem.W.kitOne K (.type n) (.type "list") = some false := by rcases h with rfl | rfl | rfl | rfl | rfl <;> exact kit_ty (by decide +kernel)
  have h2 : PySem.W.kitOne K (.type n) (.type "tuple") = some false := by rcases h with rfl | rfl | rfl | rfl | rfl <;> exact kit_ty (by decide +kernel)
  exact kitAny_cons h1 (fun _ => kitAny_cons h2 (fun _ => kitAny_nil) (fun z => nomatch z)) (fun z => nomatch z)
/-- a board with these bits, or something else -/
def It (CB : Addr) (H : Hp) (v : V) : Option (List Int) → Prop
  | some bs => ∃ a, v = .ref a ∧ Bd CB H a bs ∧ OkB bs
  | none => ∃ T, Oth H v T
theorem It.same {CB : Addr} {H H' : Hp} (s : Same H H') {v : V} : ∀ {o : Option (List Int)}, It CB H v o → It CB H' v o
  | some _, ⟨a, e, b, k⟩ => ⟨a, e, b.same s, k⟩
  | none, ⟨T, h⟩ => ⟨T, h.same s⟩
def Its (CB : Addr) (H : Hp) : List V → List (Option (List Int)) → Prop
  | [], [] => True
  | x :: xs, o :: os => It CB H x o ∧ Its CB H xs os
  | _, _ => False
theorem Its.same {CB : Addr} {H H' : Hp} (s : Same H H') : ∀ {xs : List V} {os : List (Option (List Int))}, Its CB H xs os → Its CB H' xs os
  | [], [], _ => True.intro
  | _ :: _, _ :: _, h => ⟨h.1.same s, h.2.same s⟩
  | [], _ :: _, h => h.elim
  | _ :: _, [], h => h.elim
theorem Its.len {CB : Addr} {H : Hp} : ∀ {xs : List V} {os : List (Option (List Int))}, Its CB H xs os → os.length = xs.length
  | [], [], _ => rfl
  | _ :: _, _ :: _, h => by rw [List.length_cons, List.length_cons, h.2.len]
  | [], _ :: _, h => h.elim
  | _ :: _, [], h => h.elim
theorem Its.at {CB : Addr} {H : Hp} : ∀ {xs : List V} {os : List (Option (List Int))} {i : Nat} {x : V}, Its CB H xs os → xs[i]? = some x → ∃ o, os[i]? = some o ∧ It CB H x o
  | [], [], _, _, _, h => nomatch h
  | _ :: _, o :: _, 0, _, h, e => ⟨o, rfl, (Option.some.inj e) ▸ h.1⟩
  | _ :: _, _ :: _, i + 1, _, h, e => h.2.at (i := i) e
  | [], _ :: _, _, _, h, _ => h.elim
  | _ :: _, [], _, _, h, _ => h.elim
theorem Its.append {CB : Addr} {H : Hp} {ys : List V} {qs : List (Option (List Int))} (h2 : Its CB H ys qs) : ∀ {xs : List V} {os : List (Option (List Int))}, Its CB H xs os → Its CB H (xs ++ ys) (os ++ qs)
  | [], [], _ => h2
  | _ :: _, _ :: _, h => ⟨h.1, Its.append h2 h.2⟩
  | [], _ :: _, h => h.elim
  | _ :: _, [], h => h.elim
theorem Its.take {CB : Addr} {H : Hp} : ∀ (k : Nat) {xs : List V} {os : List (Option (List Int))}, Its CB H xs os → Its CB H (xs.take k) (os.take k)
  | 0, _, _, _ => by rw [List.take_zero, List.take_zero]; exact True.intro
  | k + 1, [], [], _ => True.intro
  | k + 1, _ :: _, _ :: _, h => ⟨h.1, h.2.take k⟩
  | _ + 1, [], _ :: _, h => h.elim
  | _ + 1, _ :: _, [], h => h.elim
theorem Its.drop {CB : Addr} {H : Hp} : ∀ (k : Nat) {xs : List V} {os : List (Option (List Int))}, Its CB H xs os → Its CB H (xs.drop k) (os.drop k)
  | 0, _, _, h => h
  | k + 1, [], [], _ => True.intro
  | k + 1, _ :: _, _ :: _, h => h.2.drop k
  | _ + 1, [], _ :: _, h => h.elim
  | _ + 1, _ :: _, [], h => h.elim
theorem Its.reverse {CB : Addr} {H : Hp} : ∀ {xs : List V} {os : List (Option (List Int))}, Its CB H xs os → Its CB H xs.reverse os.reverse
  | [], [], _ => True.intro
  | x :: xs, o :: os, h => by
    rw [List.reverse_cons, List.reverse_cons]
    exact Its.append (show Its CB H [x] [o] from ⟨h.1, True.intro⟩) h.2.reverse
  | [], _ :: _, h => h.elim
  | _ :: _, [], h => h.elim
theorem Bds.its {CB : Addr} {H : Hp} : ∀ {as : List Addr} {bss : List (List Int)}, Bds CB H as bss → (∀ bs ∈ bss, OkB bs) → Its CB H (as.map V.ref) (bss.map some)
  | [], [], _, _ => True.intro
  | a :: as, b :: bs, h, k => ⟨⟨a, rfl, h.1, k b (List.mem_cons_self ..)⟩, h.2.its fun x hx => k x (List.mem_cons_of_mem _ hx)⟩
  | [], _ :: _, h, _ => h.elim
  | _ :: _, [], h, _ => h.elim
/-- a list or tuple of such things, or none of both -/
def Thg (K : PySem.W.Frag) (CB : Addr) (H : Hp) (v : V) : Option (List (Option (List Int))) → Prop
  | some os => ∃ a xs, v = .ref a ∧ (SqL K H a xs ∨ SqT K H a xs) ∧ xs.length ≤ 200 ∧ Its CB H xs os
  | none => ∃ n, TyX K H v (.type n) ∧ (n = "NoneType" ∨ n = "bool" ∨ n = "int" ∨ n = "str" ∨ n = "dict")
theorem Thg.same {K : PySem.W.Frag} {CB : Addr} {H H' : Hp} (s : Same H H') {v : V} : ∀ {o : Option (List (Option (List Int)))}, Thg K CB H v o → Thg K CB H' v o
  | some _, ⟨a, xs, e, h, l, i⟩ => ⟨a, xs, e, h.elim (fun h => .inl (same_sq s h)) fun h => .inr (same_sqt s h), l, i.same s⟩
  | none, ⟨n, t, h⟩ => ⟨n, same_tyx s t, h⟩
def isB (n : Nat) : Option (List Int) → Bool
  | some bs => decide (bs.length = n)
  | none => false
theorem all_boards {n : Nat} : ∀ {os : List (Option (List Int))}, (os.map (isB n)).all id = true → ∃ bss : List (List Int), os = bss.map some ∧ ∀ bs ∈ bss, bs.length = n
  | [], _ => ⟨[], rfl, fun _ h => nomatch h⟩
  | o :: os, h => by
    rw [List.map_cons, List.all_cons, Bool.and_eq_true] at h
    obtain ⟨bss, e, l⟩ := all_boards h.2
    cases o with
    | none => exact nomatch h.1
    | some bs =>
      refine ⟨bs :: bss, by rw [e]; rfl, fun b hb => ?_⟩
      rcases List.mem_cons.mp hb with rfl | hb
      · exact of_decide_eq_true h.1
      · exact l b hb
/-- a witness -/
def WitP (n : Nat) (ps : List (List Int × List Int)) (o : Option (List (Option (List Int)))) : Prop := ∃ bss : List (List Int), o = some (bss.map some) ∧ (∀ bs ∈ bss, bs.length = n) ∧ Rnk.Rk (Ch n ps) bss.length ∧ Indep (bss.map fun bs => chN n bs (runB bs ps))
section
variable {P : Program} {w : World} {K : PySem.W.Frag} {mg : Str → Option Value} {base : Heap}
/-- is_board_of -/
def spBoardOf (CB : Addr) : Sp := fun vs H Q _ => ∃ (v : V) (n : Nat) (o : Option (List Int)), vs = [v, .int ((n : Nat) : Int)] ∧ It CB H v o ∧ Q (.bl (isB n o)) H
theorem scBoardOf : FnScope ["thing", "size"] ["thing", "size"] (defScope sBoardOf) := ⟨rfl, rfl, rfl, by decide +kernel, rfl, by decide +kernel, by decide +kernel⟩
theorem ok_boardOf {f CB : Addr} {fd : FuncData} (F : Fun K "is_board_of" "is_board_of" sBoardOf f fd) (B : Bl mg) (TB : BC K mg CB) (TI : IsC K CB) (tyB : PySem.W.typeIn K (.ref CB) = some (.type "type")) (DS : HasM P w K mg base CB "size" 2 ["self"] (spSize CB)) : FnOk P w K mg base CX0 3 f fd ["thing", "size"] (spBoardOf CB) := by
  obtain ⟨fS, fdS, GS, mS, bS⟩ := DS
  refine F.ok scBoardOf (fun vs H Q E h => ?_) (fun cdv A outer s H vs Q E hr h => ?_)
  · obtain ⟨v, n, o, rfl, _⟩ := h
    rfl
  · obtain ⟨v, n, o, rfl, io, out⟩ := h
    refine ⟨_, (pss_one (ps_ret (pe_and (pe_callB call_isi (by rfl) B.isinstance (by decide +kernel) (pa_cons (pv 0) (pa_cons (pe_glob (v := .ref CB) (by rfl) TB.mgC rfl) pa_nil))) (pe_one (pe_cmpR op_eq (pe_meth0 (pv 0) TB.cl mS GS hr bS .nil pass0) (pv 1) (nomark _)))))), ?_⟩
    cases o with
    | none =>
      obtain ⟨T', oth⟩ := io
      exact ⟨_, rfl, _, _, _, _, false, rfl, .own CB, .base (oth_ty oth), kit_oth TB.cl.hd tyB oth.six, _, rfl, iteF out⟩
    | some bs =>
      obtain ⟨a, rfl, hb, okb⟩ := io
      obtain ⟨dx, t, h1, h2⟩ := id hb
      refine ⟨_, rfl, _, _, _, _, true, rfl, .own CB, .base (.ins h1 TB.cl TI.ha TI.hn TI.ht TI.hm), kit_self, _, rfl, iteT ?_⟩
      refine ⟨_, rfl, a, dx, _, rfl, h1, no_fld (by decide +kernel), a, bs, rfl, hb, _, rfl, rfl, ?_⟩
      have e : decide (V.int ((bs.length : Nat) : Int) = V.int ((n : Nat) : Int)) = isB n (some bs) := decide_eq_decide.mpr ⟨fun h => by injection h with h; omega, fun h => by rw [h]⟩
      rw [e]
      exact out
/-- is_witness -/
def spIsWit (K : PySem.W.Frag) (C CB : Addr) : Sp := fun vs H Q _ => ∃ (g : Addr) (R : List Nat) (n : Nat) (ps : List (List Int × List Int)) (v : V) (o : Option (List (Option (List Int)))), vs = [.ref g, v] ∧ Tb C H g R ∧ Rep R n ps ∧ Fit1 n ps ∧ 1 ≤ n ∧ n ≤ 40 ∧ Thg K CB H v o ∧
  ∀ (b : Bool) H', Same H H' → (b = true ↔ WitP n ps o) → Q (.bl b) H'
abbrev nIsWit : List Str := ["table", "boards", "board"]
theorem scIsWit : FnScope nIsWit ["table", "boards"] (defScope sIsWit) := ⟨rfl, rfl, rfl, by decide +kernel, rfl, by decide +kernel, by decide +kernel⟩
theorem ok_isWit {f C CB : Addr} {fd : FuncData} (F : Fun K "is_witness" "is_witness" sIsWit f fd) (B : Bl mg) (T : TC K mg C) (DD : Has P w K mg base "depth_of" 6 ["table"] (spDepth C)) (DB : Has P w K mg base "is_board_of" 3 ["thing", "size"] (spBoardOf CB)) (DS : HasM P w K mg base C "size" 2 ["self"] (spTSize C))
    (DC : Has P w K mg base "changes_of" 9 ["table", "board"] (spChanges C CB)) (DI : Has P w K mg base "are_independent" 6 ["items"] (spIndep K)) : FnOk P w K mg base CX0 10 f fd ["table", "boards"] (spIsWit K C CB) := by
  obtain ⟨fD, fdD, GD, mD, kD, bD⟩ := DD
  obtain ⟨fB, fdB, GB, mB, kB, bB⟩ := DB
  obtain ⟨fS, fdS, GS, mS, bS⟩ := DS
  obtain ⟨fC, fdC, GC, mC, kC, bC⟩ := DC
  obtain ⟨fI, fdI, GI, mI, kI, bI⟩ := DI
  refine F.ok scIsWit (fun vs H Q E h => ?_) (fun cdv A outer s H vs Q E hr h => ?_)
  · obtain ⟨g, R, n, ps, v, o, rfl, _⟩ := h
    rfl
  · obtain ⟨g, R, n, ps, v, o, rfl, tb, rep, fit, n1, n40, th, out⟩ := h
    have r2 : Room 2 _ := hr.mono (by decide)
    have r3 : Room 3 _ := hr.mono (by decide)
    have r6 : Room 6 _ := hr.mono (by decide)
    have gR := rep_good rep fit n1 n40
    have lR := rep.len
    rcases o with _ | its
    · obtain ⟨nm, ty, hn⟩ := id th
      refine ⟨_, (pss_cons (ps_if (PW.pt (pw_or (pt_not (pt_val (pe_callB call_isiT (by rfl) B.isinstance (by decide +kernel) (pa_cons (pv 1) (pa_cons (pe_tup (pa_cons (pe_bltn (v := .ty "list") (by rfl) B.list (by decide +kernel) rfl) (pa_cons (pe_bltn (v := .ty "tuple") (by rfl) B.tuple (by decide +kernel) rfl) pa_nil))) pa_nil))))) (pw_or1 (pt_cmpR op_ne (pe_callB call_len_seq (by rfl) B.len PySem.boot_len (pa_cons (pv 1) pa_nil)) (pe_call GD r6 (by rfl) mD kD bD .nil pass0 (pa_cons (pv 0) pa_nil)) (nomark _))))) (pss_one (ps_ret pe_bl)) pss_nil)
      (pss_cons (ps_if (pt_not (pt_val (pe_callB (cr_all rfl) (by rfl) B.all (by decide +kernel) (pa_cons (pe_lc (own := [("board", 2)]) (g := gName 2) (te := tCall (spBoardOf CB) [] E0 (tCons (tVar 2) (tCons (tMeth C "size" (spTSize C) [] E0 (tVar 0) tNil) tNil))) rfl scIsWit.nd (pi_list (pv 1)) (blkOk_by (own := [("board", 2)]) (N := nIsWit) (sc := defScope sIsWit) (by decide +kernel)) (fun _ _ _ _ _ => (pg_name (i := 2) scIsWit.nd rfl (Or.inl rfl))) (fun _ _ _ _ _ => pts_nil) (fun _ _ _ _ _ => by exact (pe_call GB r3 (by rfl) mB kB bB .nil pass0 (pa_cons (pv 2) (pa_cons (pe_meth0 (pv 0) T.cl mS GS r2 bS .nil pass0) pa_nil))))) pa_nil)))) (pss_one (ps_ret pe_bl)) pss_nil)
      (pss_one (ps_ret (pe_call GI r6 (by rfl) mI kI bI .nil pass0 (pa_cons (pe_lc (own := [("board", 2)]) (g := gName 2) (te := tCall (spChanges C CB) [] E0 (tCons (tVar 0) (tCons (tVar 2) tNil))) rfl scIsWit.nd (pi_list (pv 1)) (blkOk_by (own := [("board", 2)]) (N := nIsWit) (sc := defScope sIsWit) (by decide +kernel)) (fun _ _ _ _ _ => (pg_name (i := 2) scIsWit.nd rfl (Or.inl rfl))) (fun _ _ _ _ _ => pts_nil) (fun _ _ _ _ _ => by exact (pe_call GC hr (by rfl) mC kC bC .nil pass0 (pa_cons (pv 0) (pa_cons (pv 2) pa_nil))))) pa_nil)))))), ?_⟩
      refine ⟨_, rfl, by decide, fun p hp => ?_⟩
      refine ⟨_, p, _, _, _, false, rfl, upd_same, .cons (.ty _) (.cons (.ty _) .nil), same_tyx (same_new hp) ty, kit_noseq hn, _, rfl, iteT ?_⟩
      exact out false _ (same_new hp) ⟨(fun z => nomatch z), fun ⟨_, e, _⟩ => nomatch e⟩
    obtain ⟨a, xs, rfl, hq | hq, lx, hi⟩ := th
    · have li := hi.len
      refine ⟨_, (pss_cons (ps_if (PW.pt (pw_or (pt_not (pt_val (pe_callB call_isiT (by rfl) B.isinstance (by decide +kernel) (pa_cons (pv 1) (pa_cons (pe_tup (pa_cons (pe_bltn (v := .ty "list") (by rfl) B.list (by decide +kernel) rfl) (pa_cons (pe_bltn (v := .ty "tuple") (by rfl) B.tuple (by decide +kernel) rfl) pa_nil))) pa_nil))))) (pw_or1 (pt_cmpR op_ne (pe_callB call_len_seq (by rfl) B.len PySem.boot_len (pa_cons (pv 1) pa_nil)) (pe_call GD r6 (by rfl) mD kD bD .nil pass0 (pa_cons (pv 0) pa_nil)) (nomark _))))) (pss_one (ps_ret pe_bl)) pss_nil)
      (pss_cons (ps_if (pt_not (pt_val (pe_callB (cr_all rfl) (by rfl) B.all (by decide +kernel) (pa_cons (pe_lc (own := [("board", 2)]) (g := gName 2) (te := tCall (spBoardOf CB) [] E0 (tCons (tVar 2) (tCons (tMeth C "size" (spTSize C) [] E0 (tVar 0) tNil) tNil))) rfl scIsWit.nd (pi_list (pv 1)) (blkOk_by (own := [("board", 2)]) (N := nIsWit) (sc := defScope sIsWit) (by decide +kernel)) (fun _ _ _ _ _ => (pg_name (i := 2) scIsWit.nd rfl (Or.inl rfl))) (fun _ _ _ _ _ => pts_nil) (fun _ _ _ _ _ => by exact (pe_call GB r3 (by rfl) mB kB bB .nil pass0 (pa_cons (pv 2) (pa_cons (pe_meth0 (pv 0) T.cl mS GS r2 bS .nil pass0) pa_nil))))) pa_nil)))) (pss_one (ps_ret pe_bl)) pss_nil)
      (pss_one (ps_ret (pe_call GI r6 (by rfl) mI kI bI .nil pass0 (pa_cons (pe_lc (own := [("board", 2)]) (g := gName 2) (te := tCall (spChanges C CB) [] E0 (tCons (tVar 0) (tCons (tVar 2) tNil))) rfl scIsWit.nd (pi_list (pv 1)) (blkOk_by (own := [("board", 2)]) (N := nIsWit) (sc := defScope sIsWit) (by decide +kernel)) (fun _ _ _ _ _ => (pg_name (i := 2) scIsWit.nd rfl (Or.inl rfl))) (fun _ _ _ _ _ => pts_nil) (fun _ _ _ _ _ => by exact (pe_call GC hr (by rfl) mC kC bC .nil pass0 (pa_cons (pv 0) (pa_cons (pv 2) pa_nil))))) pa_nil)))))), ?_⟩
      refine ⟨_, rfl, by decide, fun p hp => ?_⟩
      have s1 : Same H (upd H p (.tup [.ty "list", .ty "tuple"])) := same_new hp
      refine ⟨_, p, _, _, _, true, rfl, upd_same, .cons (.ty _) (.cons (.ty _) .nil), sq_ty (same_sq s1 hq), kit_seq (by simp), _, rfl, iteF ?_⟩
      refine ⟨_, rfl, a, _, rfl, .inl (same_sq s1 hq), ?_⟩
      refine ⟨_, rfl, g, R, rfl, tb.same s1, gR, fun r H2 s2 rk => ?_⟩
      have s12 := s1.trans s2
      rw [lR] at rk
      have rkc := dep_of rep n1 n40 rk
      refine ⟨rfl, _, rfl, ?_⟩
      by_cases lr : xs.length = r
      rotate_left
      · rw [decide_eq_false (fun z => lr (by injection z with z; omega) : ¬ V.int ((xs.length : Nat) : Int) = V.int ((r : Nat) : Int))]
        refine iteT (out false _ s12 ⟨(fun z => nomatch z), ?_⟩)
        rintro ⟨bss, eb, _, rb, _⟩
        obtain rfl := Option.some.inj eb
        have := rb.only rkc (fun x hx => .of hx) fun x hx => .of hx
        rw [List.length_map] at li
        omega
      rw [decide_eq_true (congrArg (fun (k : Nat) => V.int (k : Int)) lr)]
      refine iteF ?_
      obtain ⟨dx, t, h1, h2⟩ := id tb
      refine ⟨_, rfl, a, rfl, ⟨_, same_sq s12 hq⟩, fun D hD => ?_⟩
      refine lc_list (K := K) (a := a) (xs := xs) (fun i H' => Same H H' ∧ H' D = some (.lst ((its.take i).map fun o => V.bl (isB n o)))) ⟨s12.trans (same_new hD), upd_same⟩ (fun i H' _ h => same_sq h.1 hq) ?_ ?_
      · rintro i x H3 hx ⟨s3, hD3⟩
        have xi : i < xs.length := (List.getElem?_eq_some_iff.mp hx).1
        obtain ⟨o, ho, io⟩ := hi.at hx
        refine ⟨rfl, yesT ?_⟩
        refine ⟨_, rfl, _, rfl, g, dx, _, rfl, s3 _ _ h1, no_fldM (by decide +kernel), g, R, rfl, tb.same s3, x, n, o, (by rw [lR]; rfl), io.same s3, ?_⟩
        refine ⟨_, hD3, ?_, ?_, ?_⟩
        · rw [List.length_map, List.length_take]
          exact small1000 (by omega)
        · intro b o e
          rw [upd_ne (ne_of_none e (s12.free hD))]
          exact s3 b o e
        · rw [upd_same, List.take_succ, ho, List.map_append]
          rfl
      rintro H3 ⟨s3, hD3⟩
      rw [← li] at hD3
      rw [List.take_length] at hD3
      refine ⟨D, its.map (isB n), rfl, SqL.of (by rw [hD3, List.map_map]; rfl), _, rfl, ?_⟩
      cases hall : (its.map (isB n)).all id with
      | false =>
        refine iteT (out false _ s3 ⟨(fun z => nomatch z), ?_⟩)
        rintro ⟨bss, eb, lb, _, _⟩
        obtain rfl := Option.some.inj eb
        exfalso
        rw [List.all_eq_false] at hall
        obtain ⟨b, hb, nb⟩ := hall
        obtain ⟨o, ho, rfl⟩ := List.mem_map.mp hb
        obtain ⟨bs, hbs, rfl⟩ := List.mem_map.mp ho
        exact nb (by show decide (bs.length = n) = true; exact decide_eq_true (lb bs hbs))
      | true =>
        refine iteF ?_
        obtain ⟨bss, rfl, lb⟩ := all_boards hall
        refine ⟨_, rfl, a, rfl, ⟨_, same_sq s3 hq⟩, fun D2 hD2 => ?_⟩
        refine lc_list (K := K) (a := a) (xs := xs) (fun i H' => Same H3 H' ∧ ∃ ts : List Addr, H' D2 = some (.lst (ts.map V.ref)) ∧ TupsAt H' ts (((bss.take i).map (chg R)).map cellsI)) ⟨same_new hD2, [], upd_same, True.intro⟩ (fun i H' _ h => same_sq (s3.trans h.1) hq) ?_ ?_
        · rintro i x H4 hx ⟨s4, ts, hD4, tu⟩
          have s04 := s3.trans s4
          obtain ⟨o, ho, io⟩ := hi.at hx
          rw [List.getElem?_map] at ho
          obtain ⟨bs, hbs, rfl⟩ : ∃ bs, bss[i]? = some bs ∧ o = some bs := by
            cases e : bss[i]? with
            | none => rw [e] at ho; cases ho
            | some bs => rw [e] at ho; exact ⟨bs, rfl, (Option.some.inj ho).symm⟩
          obtain ⟨b, rfl, hb, okb⟩ := io
          refine ⟨rfl, yesT ?_⟩
          refine ⟨_, rfl, _, rfl, g, b, R, bs, rfl, tb.same s04, gR, hb.same s04, okb, by rw [lb bs (List.mem_of_getElem? hbs), lR], fun q H5 hq5 s5 e5 => ?_⟩
          have qD : q ≠ D2 := fun z => by rw [z, hD4] at hq5; cases hq5
          refine ⟨_, s5 _ _ hD4, ?_, ?_, ts ++ [q], ?_, ?_⟩
          · rw [List.length_map, tu.len, List.length_map, List.length_map, List.length_take]
            rw [List.length_map] at li
            exact small1000 (by omega)
          · intro z o e
            rw [upd_ne (ne_of_none e hD2)]
            exact s5 _ _ (s4 z o e)
          · rw [upd_same, List.map_append]
            rfl
          · rw [List.take_succ, hbs, List.map_append, List.map_append]
            refine TupsAt.snoc2 (by rw [upd_ne qD]; exact e5) (tu.mono fun z us e => ?_)
            rw [upd_ne fun y => by rw [y, hD4] at e; cases e]
            exact s5 _ _ e
        rintro H4 ⟨s4, ts, hD4, tu⟩
        rw [List.length_map] at li
        rw [← li, List.take_length] at tu
        refine ⟨D2, ts, bss.map (chg R), rfl, hD4, tu, fun m hm => ?_, by rw [List.length_map]; omega, fun b H5 s5 ib => out b _ ((s3.trans s4).trans s5) ?_⟩
        · obtain ⟨bs, _, rfl⟩ := List.mem_map.mp hm
          exact Nat.lt_of_lt_of_le (chg_lt R bs) (Nat.pow_le_pow_right (by decide) gR.l40)
        have em : bss.map (chg R) = bss.map fun bs => chN n bs (runB bs ps) := List.map_congr_left fun bs hbs => by
          obtain ⟨i, hi2, ei⟩ := List.getElem_of_mem hbs
          obtain ⟨x, hx⟩ : ∃ x, xs[i]? = some x := ⟨xs[i]'(by omega), List.getElem?_eq_getElem (by omega)⟩
          obtain ⟨o, ho, io⟩ := hi.at hx
          rw [List.getElem?_map, List.getElem?_eq_getElem hi2, ei] at ho
          obtain rfl : some bs = o := Option.some.inj ho
          obtain ⟨b, _, _, okb⟩ := io
          exact chg_run rep fit ⟨okb, lb bs hbs⟩
        rw [ib, em]
        have rk2 : Rnk.Rk (Ch n ps) bss.length := by
          rw [li, lr]
          exact rkc
        constructor
        · intro ind
          exact ⟨bss, rfl, lb, rk2, ind⟩
        · rintro ⟨bss2, e2, _, _, ind⟩
          have : bss = bss2 := List.map_inj_right (fun _ _ h => Option.some.inj h) |>.mp (Option.some.inj e2)
          rw [this]
          exact ind
    · have li := hi.len
      refine ⟨_, (pss_cons (ps_if (PW.pt (pw_or (pt_not (pt_val (pe_callB call_isiT (by rfl) B.isinstance (by decide +kernel) (pa_cons (pv 1) (pa_cons (pe_tup (pa_cons (pe_bltn (v := .ty "list") (by rfl) B.list (by decide +kernel) rfl) (pa_cons (pe_bltn (v := .ty "tuple") (by rfl) B.tuple (by decide +kernel) rfl) pa_nil))) pa_nil))))) (pw_or1 (pt_cmpR op_ne (pe_callB call_len_seq (by rfl) B.len PySem.boot_len (pa_cons (pv 1) pa_nil)) (pe_call GD r6 (by rfl) mD kD bD .nil pass0 (pa_cons (pv 0) pa_nil)) (nomark _))))) (pss_one (ps_ret pe_bl)) pss_nil)
      (pss_cons (ps_if (pt_not (pt_val (pe_callB (cr_all rfl) (by rfl) B.all (by decide +kernel) (pa_cons (pe_lc (own := [("board", 2)]) (g := gName 2) (te := tCall (spBoardOf CB) [] E0 (tCons (tVar 2) (tCons (tMeth C "size" (spTSize C) [] E0 (tVar 0) tNil) tNil))) rfl scIsWit.nd (pi_tup (pv 1)) (blkOk_by (own := [("board", 2)]) (N := nIsWit) (sc := defScope sIsWit) (by decide +kernel)) (fun _ _ _ _ _ => (pg_name (i := 2) scIsWit.nd rfl (Or.inl rfl))) (fun _ _ _ _ _ => pts_nil) (fun _ _ _ _ _ => by exact (pe_call GB r3 (by rfl) mB kB bB .nil pass0 (pa_cons (pv 2) (pa_cons (pe_meth0 (pv 0) T.cl mS GS r2 bS .nil pass0) pa_nil))))) pa_nil)))) (pss_one (ps_ret pe_bl)) pss_nil)
      (pss_one (ps_ret (pe_call GI r6 (by rfl) mI kI bI .nil pass0 (pa_cons (pe_lc (own := [("board", 2)]) (g := gName 2) (te := tCall (spChanges C CB) [] E0 (tCons (tVar 0) (tCons (tVar 2) tNil))) rfl scIsWit.nd (pi_tup (pv 1)) (blkOk_by (own := [("board", 2)]) (N := nIsWit) (sc := defScope sIsWit) (by decide +kernel)) (fun _ _ _ _ _ => (pg_name (i := 2) scIsWit.nd rfl (Or.inl rfl))) (fun _ _ _ _ _ => pts_nil) (fun _ _ _ _ _ => by exact (pe_call GC hr (by rfl) mC kC bC .nil pass0 (pa_cons (pv 0) (pa_cons (pv 2) pa_nil))))) pa_nil)))))), ?_⟩
      refine ⟨_, rfl, by decide, fun p hp => ?_⟩
      have s1 : Same H (upd H p (.tup [.ty "list", .ty "tuple"])) := same_new hp
      refine ⟨_, p, _, _, _, true, rfl, upd_same, .cons (.ty _) (.cons (.ty _) .nil), sqt_ty (same_sqt s1 hq), kit_seq (by simp), _, rfl, iteF ?_⟩
      refine ⟨_, rfl, a, _, rfl, .inr (same_sqt s1 hq), ?_⟩
      refine ⟨_, rfl, g, R, rfl, tb.same s1, gR, fun r H2 s2 rk => ?_⟩
      have s12 := s1.trans s2
      rw [lR] at rk
      have rkc := dep_of rep n1 n40 rk
      refine ⟨rfl, _, rfl, ?_⟩
      by_cases lr : xs.length = r
      rotate_left
      · rw [decide_eq_false (fun z => lr (by injection z with z; omega) : ¬ V.int ((xs.length : Nat) : Int) = V.int ((r : Nat) : Int))]
        refine iteT (out false _ s12 ⟨(fun z => nomatch z), ?_⟩)
        rintro ⟨bss, eb, _, rb, _⟩
        obtain rfl := Option.some.inj eb
        have := rb.only rkc (fun x hx => .of hx) fun x hx => .of hx
        rw [List.length_map] at li
        omega
      rw [decide_eq_true (congrArg (fun (k : Nat) => V.int (k : Int)) lr)]
      refine iteF ?_
      obtain ⟨dx, t, h1, h2⟩ := id tb
      refine ⟨_, rfl, a, rfl, ⟨_, same_sqt s12 hq⟩, fun D hD => ?_⟩
      refine lc_tup (K := K) (a := a) (xs := xs) (fun i H' => Same H H' ∧ H' D = some (.lst ((its.take i).map fun o => V.bl (isB n o)))) ⟨s12.trans (same_new hD), upd_same⟩ (fun i H' _ h => same_sqt h.1 hq) ?_ ?_
      · rintro i x H3 hx ⟨s3, hD3⟩
        have xi : i < xs.length := (List.getElem?_eq_some_iff.mp hx).1
        obtain ⟨o, ho, io⟩ := hi.at hx
        refine ⟨rfl, yesT ?_⟩
        refine ⟨_, rfl, _, rfl, g, dx, _, rfl, s3 _ _ h1, no_fldM (by decide +kernel), g, R, rfl, tb.same s3, x, n, o, (by rw [lR]; rfl), io.same s3, ?_⟩
        refine ⟨_, hD3, ?_, ?_, ?_⟩
        · rw [List.length_map, List.length_take]
          exact small1000 (by omega)
        · intro b o e
          rw [upd_ne (ne_of_none e (s12.free hD))]
          exact s3 b o e
        · rw [upd_same, List.take_succ, ho, List.map_append]
          rfl
      rintro H3 ⟨s3, hD3⟩
      rw [← li] at hD3
      rw [List.take_length] at hD3
      refine ⟨D, its.map (isB n), rfl, SqL.of (by rw [hD3, List.map_map]; rfl), _, rfl, ?_⟩
      cases hall : (its.map (isB n)).all id with
      | false =>
        refine iteT (out false _ s3 ⟨(fun z => nomatch z), ?_⟩)
        rintro ⟨bss, eb, lb, _, _⟩
        obtain rfl := Option.some.inj eb
        exfalso
        rw [List.all_eq_false] at hall
        obtain ⟨b, hb, nb⟩ := hall
        obtain ⟨o, ho, rfl⟩ := List.mem_map.mp hb
        obtain ⟨bs, hbs, rfl⟩ := List.mem_map.mp ho
        exact nb (by show decide (bs.length = n) = true; exact decide_eq_true (lb bs hbs))
      | true =>
        refine iteF ?_
        obtain ⟨bss, rfl, lb⟩ := all_boards hall
        refine ⟨_, rfl, a, rfl, ⟨_, same_sqt s3 hq⟩, fun D2 hD2 => ?_⟩
        refine lc_tup (K := K) (a := a) (xs := xs) (fun i H' => Same H3 H' ∧ ∃ ts : List Addr, H' D2 = some (.lst (ts.map V.ref)) ∧ TupsAt H' ts (((bss.take i).map (chg R)).map cellsI)) ⟨same_new hD2, [], upd_same, True.intro⟩ (fun i H' _ h => same_sqt (s3.trans h.1) hq) ?_ ?_
        · rintro i x H4 hx ⟨s4, ts, hD4, tu⟩
          have s04 := s3.trans s4
          obtain ⟨o, ho, io⟩ := hi.at hx
          rw [List.getElem?_map] at ho
          obtain ⟨bs, hbs, rfl⟩ : ∃ bs, bss[i]? = some bs ∧ o = some bs := by
            cases e : bss[i]? with
            | none => rw [e] at ho; cases ho
            | some bs => rw [e] at ho; exact ⟨bs, rfl, (Option.some.inj ho).symm⟩
          obtain ⟨b, rfl, hb, okb⟩ := io
          refine ⟨rfl, yesT ?_⟩
          refine ⟨_, rfl, _, rfl, g, b, R, bs, rfl, tb.same s04, gR, hb.same s04, okb, by rw [lb bs (List.mem_of_getElem? hbs), lR], fun q H5 hq5 s5 e5 => ?_⟩
          have qD : q ≠ D2 := fun z => by rw [z, hD4] at hq5; cases hq5
          refine ⟨_, s5 _ _ hD4, ?_, ?_, ts ++ [q], ?_, ?_⟩
          · rw [List.length_map, tu.len, List.length_map, List.length_map, List.length_take]
            rw [List.length_map] at li
            exact small1000 (by omega)
          · intro z o e
            rw [upd_ne (ne_of_none e hD2)]
            exact s5 _ _ (s4 z o e)
          · rw [upd_same, List.map_append]
            rfl
          · rw [List.take_succ, hbs, List.map_append, List.map_append]
            refine TupsAt.snoc2 (by rw [upd_ne qD]; exact e5) (tu.mono fun z us e => ?_)
            rw [upd_ne fun y => by rw [y, hD4] at e; cases e]
            exact s5 _ _ e
        rintro H4 ⟨s4, ts, hD4, tu⟩
        rw [List.length_map] at li
        rw [← li, List.take_length] at tu
        refine ⟨D2, ts, bss.map (chg R), rfl, hD4, tu, fun m hm => ?_, by rw [List.length_map]; omega, fun b H5 s5 ib => out b _ ((s3.trans s4).trans s5) ?_⟩
        · obtain ⟨bs, _, rfl⟩ := List.mem_map.mp hm
          exact Nat.lt_of_lt_of_le (chg_lt R bs) (Nat.pow_le_pow_right (by decide) gR.l40)
        have em : bss.map (chg R) = bss.map fun bs => chN n bs (runB bs ps) := List.map_congr_left fun bs hbs => by
          obtain ⟨i, hi2, ei⟩ := List.getElem_of_mem hbs
          obtain ⟨x, hx⟩ : ∃ x, xs[i]? = some x := ⟨xs[i]'(by omega), List.getElem?_eq_getElem (by omega)⟩
          obtain ⟨o, ho, io⟩ := hi.at hx
          rw [List.getElem?_map, List.getElem?_eq_getElem hi2, ei] at ho
          obtain rfl : some bs = o := Option.some.inj ho
          obtain ⟨b, _, _, okb⟩ := io
          exact chg_run rep fit ⟨okb, lb bs hbs⟩
        rw [ib, em]
        have rk2 : Rnk.Rk (Ch n ps) bss.length := by
          rw [li, lr]
          exact rkc
        constructor
        · intro ind
          exact ⟨bss, rfl, lb, rk2, ind⟩
        · rintro ⟨bss2, e2, _, _, ind⟩
          have : bss = bss2 := List.map_inj_right (fun _ _ h => Option.some.inj h) |>.mp (Option.some.inj e2)
          rw [this]
          exact ind
end
end K49
namespace K49
open PySem PySem.Spec PyProof.Rows L2 Par Msk
abbrev scTop : Scope := { kind := .function, names := [(".0", .local), ("_law_top", .cell), ("enumerate", .globalImplicit), ("_law_plain", .cell)], isGenerator := false, isCoroutine := false }
theorem ej_list (n j : Nat) : ej n j = (List.range n).map fun (i : Nat) => if i = 0 ∨ i = j then (1 : Int) else 0 := by
  unfold ej mkB
  refine List.map_congr_left fun i _ => ?_
  by_cases a : i = 0 <;> by_cases b : i = j <;> simp [a, b] <;> omega
theorem ej_plain {n : Nat} (n1 : 1 ≤ n) : ([1] ++ (List.replicate (n - 1) (0 : Int))) = ej n 0 := by
  refine List.ext_getElem ?_ fun i h1 h2 => ?_
  · rw [List.length_append, List.length_replicate, (show (ej n 0).length = n from mkB_len _ _)]
    show 1 + (n - 1) = n
    omega
  · have hi : i < n := by rwa [(show (ej n 0).length = n from mkB_len _ _)] at h2
    have e := ej_at (j := 0) hi
    rw [List.getD_eq_getElem?_getD, List.getElem?_eq_getElem h2] at e
    have e2 : (ej n 0)[i] = if i = 0 ∨ i = 0 then 1 else 0 := e
    rw [e2]
    cases i with
    | zero => rfl
    | succ i =>
      rw [if_neg (by omega)]
      show (List.replicate (n - 1) (0 : Int))[i]'_ = 0
      exact List.getElem_replicate _
section
variable {P : Program} {w : World} {K : PySem.W.Frag} {mg : Str → Option Value} {base : Heap}
/-- _law_basic_bits -/
def spBasic : Sp := fun vs H Q _ => ∃ n : Nat, vs = [.int ((n : Nat) : Int)] ∧ 1 ≤ n ∧ n ≤ 40 ∧ ∀ q (as : List Addr) H', H q = none → Same H H' → H' q = some (.lst (as.map V.ref)) → LsA H' as ((List.range n).map (ej n)) → (∀ x ∈ as, H x = none) → Q (.ref q) H'
abbrev nBasic : List Str := ["_law_width_here", "_law_plain", "_law_top", "_law_spot", "_law_bit"]
theorem scBasic : FnScope nBasic ["_law_width_here"] (defScope slBasicBits) := ⟨rfl, rfl, rfl, by decide +kernel, rfl, by decide +kernel, by decide +kernel⟩
theorem ok_basic {f : Addr} {fd : FuncData} (F : Fun K "_law_basic_bits" "_law_basic_bits" slBasicBits f fd) (B : Bl mg) : FnOk P w K mg base CX0 3 f fd ["_law_width_here"] spBasic := by
  refine F.ok scBasic (fun vs H Q E h => ?_) (fun cdv A outer s H vs Q E hr h => ?_)
  · obtain ⟨n, rfl, _⟩ := h
    rfl
  · obtain ⟨n, rfl, n1, n40, out⟩ := h
    refine ⟨_, (pss_cons (ps_set (i := 1) scBasic.nd rfl (Or.inr rfl) (pe_op op_cat (pe_lst (pa_cons pe_int pa_nil)) (pe_op op_rep (pe_lst (pa_cons pe_int pa_nil)) (pe_op op_sub (pv 0) pe_int))))
      (pss_one (ps_ret (pe_op op_cat (pe_lst (pa_cons (pv 1) pa_nil)) (pe_lc (own := [("_law_top", 2)]) (g := gName 2) (te := tLc (iEnum K (tCons (tVar 1) tNil)) (gTup K 2 (gCons (gName 3) (gCons (gName 4) gNil))) tYes (tCB (fun xs H Q => (∃ i, xs = [V.int i] ∧ Q (.int i) H) ∨ ∃ k, xs = [V.bl k] ∧ Q (.int (if k then 1 else 0)) H) (tCons (tOrV (tOp rEq (tVar 4) (tC (.int 1))) (tOp rEq (tVar 3) (tVar 2))) tNil)) [3, 4]) rfl scBasic.nd (pi_range2 (by rfl) B.range (pa_cons pe_int (pa_cons (pv 0) pa_nil))) (blkOk_by (own := [("_law_top", 2)]) (N := nBasic) (sc := defScope slBasicBits) (by decide +kernel)) (fun _ _ _ _ _ => (pg_name (i := 2) scBasic.nd rfl (Or.inr rfl))) (fun _ _ _ _ _ => pts_nil) (fun _ _ _ _ _ => by exact (pe_lc (own := [("_law_spot", 3), ("_law_bit", 4)]) (g := gTup K 2 (gCons (gName 3) (gCons (gName 4) gNil))) rfl scBasic.nd (pi_enum (by rfl) B.enumerate (pa_cons (pv 1) pa_nil)) (blkOk_by (own := [("_law_spot", 3), ("_law_bit", 4)]) (N := nBasic) (sc := scTop) (by decide +kernel)) (fun _ _ _ _ _ => (by exact (pg_tup rfl (pgs_cons (pg_name (i := 3) scBasic.nd rfl (Or.inl rfl)) (pgs_cons (pg_name (i := 4) scBasic.nd rfl (Or.inl rfl)) pgs_nil))))) (fun _ _ _ _ _ => pts_nil) (fun _ _ _ _ _ => by exact (pe_callTy call_int1 (by rfl) B.int (by decide +kernel) (pa_cons (pe_or (pe_cmpR op_eq (pv 4) pe_int (nomark _)) (pe_one (pe_cmpR op_eq (pv 3) (pv 2) (nomark _)))) pa_nil)))))))))), ?_⟩
    refine ⟨(by show 1 ≤ sizeLine; decide), fun a1 ha1 => ⟨(by show 1 ≤ sizeLine; decide), fun a2 ha2 => ?_⟩⟩
    have s1 := same_new (o := .lst [V.int 1]) ha1
    have s2 := same_new (o := .lst [V.int 0]) ha2
    refine ⟨_, rfl, _, _, rfl, rfl, ?_⟩
    refine ⟨a2, ((n : Nat) : Int) - 1, [V.int 0], rfl, rfl, upd_same, by omega, by omega, (by rw [sizeLine_eq]; show 1 * (((n : Nat) : Int) - 1).toNat ≤ _; omega), fun a3 ha3 => ?_⟩
    have efl : (List.replicate (((n : Nat) : Int) - 1).toNat [V.int 0]).flatten = (List.replicate (n - 1) (0 : Int)).map V.int := by
      rw [show (((n : Nat) : Int) - 1).toNat = n - 1 by omega, List.map_replicate]
      generalize n - 1 = k
      induction k with
      | zero => rfl
      | succ k ih =>
        rw [List.replicate_succ, List.flatten_cons, ih, List.replicate_succ]
        rfl
    rw [efl]
    have s3 := same_new (o := .lst ((List.replicate (n - 1) (0 : Int)).map V.int)) ha3
    have e1 := s3 _ _ (s2 _ _ (show (upd H a1 (.lst [V.int 1])) a1 = some (.lst [V.int 1]) from upd_same))
    have s13 := (s1.trans s2).trans s3
    refine ⟨a1, a3, _, _, rfl, rfl, e1, upd_same, (by rw [List.length_map, List.length_replicate, sizeLine_eq]; show 1 + (n - 1) ≤ _; omega), fun a4 ha4 => ?_⟩
    have ep : ([V.int 1] ++ (List.replicate (n - 1) (0 : Int)).map V.int) = (ej n 0).map V.int := by
      rw [← ej_plain n1, List.map_append]
      rfl
    rw [ep]
    have s4 := same_new (o := .lst ((ej n 0).map V.int)) ha4
    have fa4 := s13.free ha4
    have e4 : (upd (upd (upd (upd H a1 (.lst [V.int 1])) a2 (.lst [V.int 0])) a3 (.lst ((List.replicate (n - 1) (0 : Int)).map V.int))) a4 (.lst ((ej n 0).map V.int))) a4 = some (.lst ((ej n 0).map V.int)) := upd_same
    have s14 := s13.trans s4
    generalize upd (upd (upd (upd H a1 (.lst [V.int 1])) a2 (.lst [V.int 0])) a3 (.lst ((List.replicate (n - 1) (0 : Int)).map V.int))) a4 (.lst ((ej n 0).map V.int)) = H4 at e4 s14 ⊢
    refine ⟨_, rfl, (by show 1 ≤ sizeLine; decide), fun a5 ha5 => ?_⟩
    have s5 := same_new (o := .lst [V.ref a4]) ha5
    have e5 : (upd H4 a5 (.lst [V.ref a4])) a5 = some (.lst ([a4].map V.ref)) := upd_same
    have e45 := s5 _ _ e4
    have s15 := s14.trans s5
    generalize upd H4 a5 (.lst [V.ref a4]) = H5 at e5 e45 s15 ⊢
    have lej : (ej n 0).length = n := mkB_len _ _
    refine ⟨_, rfl, 1, ((n : Nat) : Int), rfl, ⟨by decide, by decide, by omega, by omega⟩, fun D hD => ?_⟩
    rw [show (((n : Nat) : Int) - 1).toNat = n - 1 by omega]
    refine lc_range (lo := 1) (n := n - 1) (fun i H' => Same H5 H' ∧ ∃ xs : List Addr, H' D = some (.lst (xs.map V.ref)) ∧ LsA H' xs ((List.range i).map fun k => ej n (k + 1)) ∧ ∀ x ∈ xs, x ≠ D ∧ H x = none) ⟨same_new hD, [], upd_same, True.intro, fun x hx => nomatch hx⟩ ?_ ?_
    · rintro i H6 hi ⟨s6, xs, hD6, ls, nx⟩
      refine ⟨rfl, yesT ?_⟩
      refine ⟨_, rfl, a4, _, rfl, SqL.of (s6 _ _ e45), fun D2 hD2 => ?_⟩
      refine lc_it walk_enum (fun k H' => Same H6 H' ∧ H' D2 = some (.lst (((ej n (i + 1)).take k).map V.int))) ⟨same_new hD2, upd_same⟩ (fun k H' _ h => SqL.of (h.1 _ _ (s6 _ _ e45))) ?_ ?_
      · rintro k x H7 H8 hk ⟨s7, hD7⟩ ⟨T1, x1, y1, rfl, hT, rfl, ex, ey⟩
        have hk2 : k < n := by rw [List.length_map, lej] at hk; exact hk
        have ey2 : y1 = .int ((ej n 0).getD k 0) := by
          have ey' : ((ej n 0).map V.int)[k]? = some y1 := ey
          rw [List.getElem?_map, List.getElem?_eq_getElem (by omega)] at ey'
          rw [List.getD_eq_getElem?_getD, List.getElem?_eq_getElem (by omega)]
          exact (Option.some.inj ey').symm
        have ex2 : x1 = .int (k : Nat) := (Option.some.inj ex).symm
        subst ey2 ex2
        have v0 := ej_at (j := 0) hk2
        generalize (ej n 0).getD k 0 = b0 at v0 ⊢
        have s8 := s7.trans (same_new (o := .tup [.int (k : Nat), .int b0]) hT)
        have hD8 := (same_new (o := .tup [.int (k : Nat), .int b0]) hT) _ _ hD7
        have st : (ej n (i + 1)).take (k + 1) = (ej n (i + 1)).take k ++ [(ej n (i + 1)).getD k 0] := by
          have lk : k < (ej n (i + 1)).length := by rw [(show (ej n (i + 1)).length = n from mkB_len _ _)]; exact hk2
          rw [List.take_succ, List.getElem?_eq_getElem lk, List.getD_eq_getElem?_getD, List.getElem?_eq_getElem lk]
          rfl
        have put : ∃ acc, (upd H7 T1 (.tup [.int (k : Nat), .int b0])) D2 = some (.lst acc) ∧ acc.length < sizeLine ∧ Same H6 (upd (upd H7 T1 (.tup [.int (k : Nat), .int b0])) D2 (.lst (acc ++ [V.int ((ej n (i + 1)).getD k 0)]))) ∧
            (upd (upd H7 T1 (.tup [.int (k : Nat), .int b0])) D2 (.lst (acc ++ [V.int ((ej n (i + 1)).getD k 0)]))) D2 = some (.lst (((ej n (i + 1)).take (k + 1)).map V.int)) := by
          refine ⟨_, hD8, ?_, ?_, ?_⟩
          · rw [List.length_map, List.length_take]
            exact small1000 (by omega)
          · intro z o e
            rw [upd_ne (ne_of_none e hD2)]
            exact s8 z o e
          · rw [upd_same, st, List.map_append]
            rfl
        refine ⟨T1, _, rfl, SqT.of upd_same, rfl, _, _, rfl, _, _, rfl, rfl, rfl, yesT ?_⟩
        have v1 := ej_at (j := i + 1) hk2
        refine ⟨_, rfl, rfl, _, rfl, ?_⟩
        by_cases z : k = 0
        · rw [if_pos (.inl z)] at v1 v0
          subst v0
          rw [v1] at put
          exact ite2 (fun _ => .inr ⟨true, rfl, put⟩) fun h => absurd (decide_eq_true rfl) h
        · rw [if_neg (by omega)] at v0
          subst v0
          refine ite2 (fun h => absurd (of_decide_eq_true h) (by decide)) fun _ => ⟨_, rfl, _, rfl, rfl, .inr ⟨decide (V.int ((k : Nat) : Int) = V.int (1 + (i : Int))), rfl, ?_⟩⟩
          by_cases y : k = i + 1
          · rw [if_pos (.inr y)] at v1
            rw [v1] at put
            rw [decide_eq_true (show V.int ((k : Nat) : Int) = V.int (1 + (i : Int)) by congr 1; omega)]
            exact put
          · rw [if_neg (by omega)] at v1
            rw [v1] at put
            rw [decide_eq_false (fun h => y (by injection h with h; omega) : ¬ V.int ((k : Nat) : Int) = V.int (1 + (i : Int)))]
            exact put
      · rintro H7 ⟨s7, hD7⟩
        have lej2 : (ej n (i + 1)).length = n := mkB_len _ _
        rw [List.length_map, lej, show (ej n (i + 1)).take n = ej n (i + 1) from List.take_of_length_le (by omega)] at hD7
        have nD : D2 ≠ D := fun z => by rw [z, hD6] at hD2; cases hD2
        refine ⟨_, s7 _ _ hD6, ?_, ?_, xs ++ [D2], ?_, ?_, ?_⟩
        · rw [List.length_map, ls_len ls, List.length_map, List.length_range]
          exact small1000 (by omega)
        · intro z o e
          rw [upd_ne (ne_of_none e hD)]
          exact s7 _ _ (s6 z o e)
        · rw [upd_same, List.map_append]
          rfl
        · rw [List.range_succ, List.map_append]
          refine ls_snoc ?_ (ls_mono (fun x hx us e => ?_) ls)
          · rw [upd_ne nD]
            exact hD7
          · rw [upd_ne (nx x hx).1]
            exact s7 _ _ e
        · intro x hx
          rcases List.mem_append.mp hx with z | z
          · exact nx x z
          · rw [List.mem_singleton.mp z]
            exact ⟨nD, (s15.trans s6).free hD2⟩
    rintro H6 ⟨s6, xs, hD6, ls, nx⟩
    refine ⟨a5, D, _, _, rfl, rfl, s6 _ _ e5, hD6, (by rw [List.length_map, List.length_map, ls_len ls, List.length_map, List.length_range, sizeLine_eq]; show 1 + (n - 1) ≤ _; omega), fun q hq => ?_⟩
    have s7 := same_new (o := .lst ([a4].map V.ref ++ xs.map V.ref)) hq
    refine out q ([a4] ++ xs) _ ((s15.trans s6).free hq) ((s15.trans s6).trans s7) (by rw [upd_same, List.map_append]) ?_ ?_
    rotate_left
    · intro x hx
      rcases List.mem_append.mp hx with h | h
      · rw [List.mem_singleton.mp h]
        exact fa4
      · exact (nx x h).2
    have er : (List.range n).map (ej n) = ej n 0 :: (List.range (n - 1)).map fun k => ej n (k + 1) := by
      obtain ⟨k, rfl⟩ : ∃ k, n = k + 1 := ⟨n - 1, by omega⟩
      rw [List.range_succ_eq_map, List.map_cons, List.map_map]
      rfl
    rw [er]
    exact ⟨s7 _ _ (s6 _ _ e45), ls_same s7 ls⟩
end
end K49
namespace K49
open PySem PySem.Spec PyProof.Rows L2 Par Msk
open Rnk (Rk In Add px)
/-! ### the parity of the cells of c among those of m -/
def dot (n c m : Nat) : Bool := px n fun i => c.testBit i && m.testBit i
theorem dot_add (n c : Nat) : Add (dot n c) := fun x y => by
  unfold dot
  rw [← Rnk.px_xor]
  refine Rnk.px_congr fun k _ => ?_
  rw [Nat.testBit_xor]
  cases c.testBit k <;> cases x.testBit k <;> cases y.testBit k <;> rfl
theorem dot_ch {n c : Nat} {bs ls : List Int} (hc : c < 2 ^ n) (hb : Sb n bs) (hl : Sb n ls) : dot n c (chN n bs ls) = (Pt bs c ^^ Pt ls c) := by
  unfold dot
  rw [pt_px bs hc, pt_px ls hc, ← Rnk.px_xor]
  refine Rnk.px_congr fun k hk => ?_
  unfold chN
  rw [Rnk.mk_bit, decide_eq_true hk, Bool.true_and]
  have a := bit_at hb.1 (i := k) (by rw [hb.2]; exact hk)
  have b := bit_at hl.1 (i := k) (by rw [hl.2]; exact hk)
  cases c.testBit k <;> rcases a with a | a <;> rcases b with b | b <;> rw [a, b] <;> decide
/-- the table followed by the inverse's rows -/
theorem pt_back {G : List Nat} {n c : Nat} {ps : List (List Int × List Int)} {bs : List Int} (rep : Rep G n ps) (hc : c < 2 ^ n) (sb : Sb n bs) : Pt bs (comb G c) = Pt (runB bs ps) c := by
  unfold Pt
  rw [rep.par sb.1 sb.2 (cellsI_in hc), ← comb_cells]
theorem toggle {n : Nat} {bs ls : List Int} (hb : Sb n bs) (hl : Sb n ls) : flipB bs (cellsI (chN n bs ls)) = ls := by
  refine List.ext_getElem (by rw [flipB_len, hb.2, hl.2]) fun i h1 h2 => ?_
  have hi : i < bs.length := by rwa [flipB_len] at h1
  have hn : i < n := by rw [← hb.2]; exact hi
  have e := flip_at (bs := bs) (hs := cellsI (chN n bs ls)) hi
  rw [List.getD_eq_getElem?_getD, List.getElem?_eq_getElem h1] at e
  have e2 : (flipB bs (cellsI (chN n bs ls)))[i] = _ := e
  rw [e2]
  have a := bit_at hb.1 hi
  have b := bit_at hl.1 (i := i) (by rw [hl.2]; exact hn)
  have bl_ : ls.getD i 0 = ls[i] := by rw [List.getD_eq_getElem?_getD, List.getElem?_eq_getElem h2]; rfl
  rw [bl_] at b
  have m : decide ((i : Int) ∈ cellsI (chN n bs ls)) = decide (bs.getD i 0 ≠ ls.getD i 0) := by
    rw [show decide ((i : Int) ∈ cellsI (chN n bs ls)) = (chN n bs ls).testBit i from by
      cases e : (chN n bs ls).testBit i with
      | true => exact decide_eq_true (mem_cellsN.mpr e)
      | false => exact decide_eq_false fun y => by rw [mem_cellsN.mp y] at e; cases e]
    unfold chN
    rw [Rnk.mk_bit, decide_eq_true hn, Bool.true_and]
  rw [m, bl_]
  rcases a with a | a <;> rcases b with b | b <;> rw [a, b] <;> rfl
/-- the last flip: these cells tested, those toggled -/
def lastF (G : List Nat) (c d : Nat) : List Int × List Int := (cellsI (comb G c ^^^ c), cellsI d)
section
variable {R G : List Nat} {n c : Nat} {ps : List (List Int × List Int)} {bs : List Int} (rep : Rep R n ps) (fit : Fit1 n ps) (n1 : 1 ≤ n) (n40 : n ≤ 40) (repG : Rep G n ps.reverse) (sb : Sb n bs) (hc : c < 2 ^ n) (o1 : dot n c (chN n bs (runB bs ps)) = true) (o2 : dot n c (chN n bs (runB bs ps.reverse)) = true)
include fit repG hc
theorem last_lt : comb G c ^^^ c < 2 ^ n := xor_lt (comb_lt G c repG.lt) hc
theorem last_pt {x : List Int} (sx : Sb n x) : Pt (runB x ps) (comb G c ^^^ c) = dot n c (chN n x (runB x ps)) := by
  rw [pt_add, pt_back repG hc (sb_run fit sx), back fit sx, dot_ch hc sx (sb_run fit sx)]
theorem last_pt0 {x : List Int} (sx : Sb n x) : Pt x (comb G c ^^^ c) = dot n c (chN n x (runB x ps.reverse)) := by
  rw [pt_add, pt_back repG hc sx, dot_ch hc sx (sb_run (fit_rev fit) sx), Bool.xor_comm]
include sb o1 o2
theorem last_fit : Fit1 n [lastF G c (chN n bs (runB bs ps))] := fun t ht => by
  rw [List.mem_singleton.mp ht]
  have sr := sb_run fit sb
  refine ⟨cellsI_in (last_lt fit repG hc), fun k hk => ?_, ?_⟩
  · have inn := cellsI_in (chN_lt n bs (runB bs ps)) k hk
    refine ⟨?_, inn.2⟩
    by_cases h : 1 ≤ k
    · exact h
    · exfalso
      have k0 : k = ((0 : Nat) : Int) := by omega
      rw [k0] at hk
      have z := mem_cellsN.mp hk
      unfold chN at z
      rw [Rnk.mk_bit, List.getD_eq_getElem?_getD, List.getD_eq_getElem?_getD, sb.1.2.1, sr.1.2.1, decide_eq_false (fun y => y rfl : ¬ (some (1 : Int)).getD 0 ≠ (some (1 : Int)).getD 0), Bool.and_false] at z
      cases z
  · have h := sum_flip (bs := bs) (hs := cellsI (chN n bs (runB bs ps))) (cellsI (comb G c ^^^ c)) fun k hk => by
      rw [sb.2]
      exact cellsI_in (last_lt fit repG hc) k hk
    rw [toggle sb sr] at h
    have a := last_pt fit repG hc sb
    have b := last_pt0 fit repG hc sb
    rw [o1] at a
    rw [o2] at b
    unfold Pt parB at a b
    have a2 := of_decide_eq_true a
    have b2 := of_decide_eq_true b
    show (comm (cellsI (comb G c ^^^ c)) (cellsI (chN n bs (runB bs ps)))).length % 2 = 0
    omega
/-- what the table followed by the last flip changes -/
theorem last_ch {x : List Int} (sx : Sb n x) : chN n x (runB x (ps ++ [lastF G c (chN n bs (runB bs ps))])) = chN n x (runB x ps) ^^^ (if dot n c (chN n x (runB x ps)) = true then chN n bs (runB bs ps) else 0) := by
  have f1 := last_fit fit repG sb hc o1 o2 _ (List.mem_singleton.mpr rfl)
  have sr := sb_run fit sx
  have sa : Sb n (runB x (ps ++ [lastF G c (chN n bs (runB bs ps))])) := sb_run (fit_app fit (last_fit fit repG sb hc o1 o2)) sx
  rw [chN_tri sx sr sa, run_snoc]
  congr 1
  have e := ch_one (t := lastF G c (chN n bs (runB bs ps))) f1.2.1 (cellsI_nodup _) sr
  rw [e]
  have p := last_pt fit repG hc sx
  unfold Pt at p
  have mk : maskI (lastF G c (chN n bs (runB bs ps))).2 = chN n bs (runB bs ps) := mask_cells (cellsI_nodup _) fun _ => Iff.rfl
  rw [mk]
  by_cases z : dot n c (chN n x (runB x ps)) = true
  · rw [z] at p
    rw [if_pos z]
    exact if_pos (of_decide_eq_true p)
  · have z2 : dot n c (chN n x (runB x ps)) = false := by simpa using z
    rw [z2] at p
    rw [if_neg z]
    exact if_neg (of_decide_eq_false p)
/-- the board is led back to itself -/
theorem last_home : runB bs (ps ++ [lastF G c (chN n bs (runB bs ps))]) = bs := by
  have e := last_ch fit repG sb hc o1 o2 sb
  rw [if_pos o1, Nat.xor_self] at e
  exact (chN_zero sb (by rw [run_len]; exact sb.2) e).symm
/-- one depth less -/
theorem last_dep {r r' : Nat} (h : Rk (Ch n ps) r) (h' : Rk (Ch n (ps ++ [lastF G c (chN n bs (runB bs ps))])) r') : r' + 1 = r := by
  obtain ⟨B, ib, lb, bi, ba⟩ := id h'
  have inV : ∀ x, Ch n (ps ++ [lastF G c (chN n bs (runB bs ps))]) x → In (Ch n ps) x := fun x ⟨y, sy, e⟩ => by
    rw [e, last_ch fit repG sb hc o1 o2 sy]
    refine (In.of ⟨y, sy, rfl⟩).xor ?_
    split
    · exact .of ⟨bs, sb, rfl⟩
    · exact .zero
  have dz : ∀ x, Ch n (ps ++ [lastF G c (chN n bs (runB bs ps))]) x → dot n c x = false := fun x ⟨y, sy, e⟩ => by
    rw [e, last_ch fit repG sb hc o1 o2 sy, dot_add]
    by_cases z : dot n c (chN n y (runB y ps)) = true
    · rw [if_pos z, z, o1]
      rfl
    · rw [if_neg z, (dot_add n c).zero]
      simpa using z
  have dz2 : ∀ x, In (Ch n (ps ++ [lastF G c (chN n bs (runB bs ps))])) x → dot n c x = false := fun x ⟨l, al, e⟩ => by
    rw [e]
    clear e
    induction l with
    | nil => exact (dot_add n c).zero
    | cons y l ih =>
      show dot n c (y ^^^ Rnk.xs l) = false
      rw [dot_add, dz y (al y (List.mem_cons_self ..)), ih fun z hz => al z (List.mem_cons_of_mem _ hz)]
      rfl
  have no : ¬ In (fun y => y ∈ B) (chN n bs (runB bs ps)) := fun hi => by
    have := dz2 _ (hi.bind bi)
    rw [o1] at this
    cases this
  have up := (Rnk.Rk.list (Rnk.indep_snoc ib no)).le h fun x hx => by
    rcases List.mem_append.mp hx with z | z
    · exact (bi x z).bind inV
    · rw [List.mem_singleton.mp z]
      exact .of ⟨bs, sb, rfl⟩
  have dn := h.leL (D := B ++ [chN n bs (runB bs ps)]) fun x ⟨y, sy, e⟩ => by
    have hy := last_ch fit repG sb hc o1 o2 sy
    have e2 : x = chN n y (runB y (ps ++ [lastF G c (chN n bs (runB bs ps))])) ^^^ (if dot n c (chN n y (runB y ps)) = true then chN n bs (runB bs ps) else 0) := by
      rw [hy, Nat.xor_assoc, Nat.xor_self, Nat.xor_zero, e]
    rw [e2]
    refine ((ba _ ⟨y, sy, rfl⟩).mono fun z hz => List.mem_append_left _ hz).xor ?_
    split
    · exact .of (List.mem_append_right _ (List.mem_singleton.mpr rfl))
    · exact .zero
  rw [List.length_append, lb] at up dn
  have l1 : [chN n bs (runB bs ps)].length = 1 := rfl
  omega
theorem last_busy : (lastF G c (chN n bs (runB bs ps))).1 ≠ [] ∧ (lastF G c (chN n bs (runB bs ps))).2 ≠ [] := by
  constructor
  · intro z
    have p := last_pt fit repG hc sb
    rw [o1] at p
    unfold Pt at p
    have z2 : cellsI (comb G c ^^^ c) = [] := z
    rw [z2] at p
    exact absurd (of_decide_eq_true p) (show ¬ (0 : Int) % 2 = 1 by decide)
  · intro z
    have e : chN n bs (runB bs ps) = 0 := by
      have := mask_cells (ns := ([] : List Int)) (m := chN n bs (runB bs ps)) List.nodup_nil fun k => by
        rw [show cellsI (chN n bs (runB bs ps)) = [] from z]
      exact this.symm
    rw [e, (dot_add n c).zero] at o1
    cases o1
end
end K49
namespace K49
open PySem PySem.Spec PyProof.Rows L2 Par Msk
open Rnk (Rk In Add px)
abbrev sRevF : Stmt := topS 45
abbrev sShort : Stmt := topS 56
abbrev sCBoard : Stmt := topS 58
abbrev sLast : Stmt := topS 59
abbrev sOdd : Stmt := topS 60
/-- cells that share an odd number with each of both -/
def oddC (xs ys : List Int) : List Int := match xs.filter fun k => decide (k ∈ ys) with
  | c :: _ => [c]
  | [] => [xs.getD 0 0, ys.getD 0 0]
theorem dot_pow {n a m : Nat} (h : a < n) : dot n (2 ^ a) m = m.testBit a := by
  unfold dot
  rw [Rnk.px_congr (g := fun k => m.testBit k && decide (k = a)) fun k _ => by
    rw [Nat.testBit_two_pow, Bool.and_comm]
    congr 1
    exact decide_eq_decide.mpr ⟨Eq.symm, Eq.symm⟩]
  exact Rnk.px_one n _ a h
theorem dot_comm (n c m : Nat) : dot n c m = dot n m c := Rnk.px_congr fun k _ => Bool.and_comm _ _
theorem odd_ok {n d e : Nat} (hd : d < 2 ^ n) (he : e < 2 ^ n) (d0 : d ≠ 0) (e0 : e ≠ 0) :
    (oddC (cellsI d) (cellsI e)).Nodup ∧ (∀ k ∈ oddC (cellsI d) (cellsI e), 0 ≤ k ∧ k < (n : Nat)) ∧ (oddC (cellsI d) (cellsI e)).length ≤ 2 ∧ dot n (maskI (oddC (cellsI d) (cellsI e))) d = true ∧ dot n (maskI (oddC (cellsI d) (cellsI e))) e = true := by
  have ne : ∀ {m : Nat}, m ≠ 0 → cellsI m ≠ [] := fun {m} h z => h (by
    have := mask_cells (ns := ([] : List Int)) (m := m) List.nodup_nil fun k => by rw [z]
    exact this.symm)
  have nat : ∀ {m : Nat} {k : Int}, m < 2 ^ n → k ∈ cellsI m → ∃ i : Nat, k = (i : Int) ∧ i < n ∧ m.testBit i = true := fun {m k} h hk => by
    obtain ⟨i, rfl, t⟩ := mem_cellsI.mp hk
    have := cellsI_in h _ hk
    exact ⟨i, rfl, by omega, t⟩
  unfold oddC
  cases ef : (cellsI d).filter fun k => decide (k ∈ cellsI e) with
  | cons c l =>
    have hc : c ∈ (cellsI d).filter fun k => decide (k ∈ cellsI e) := by rw [ef]; exact List.mem_cons_self ..
    obtain ⟨h1, h2⟩ := List.mem_filter.mp hc
    have h2 := of_decide_eq_true h2
    obtain ⟨i, rfl, hi, t1⟩ := nat hd h1
    have t2 := mem_cellsN.mp h2
    have mk : maskI [(i : Int)] = 2 ^ i := by
      show 2 ^ ((i : Int)).toNat ^^^ 0 = _
      rw [Int.toNat_natCast, Nat.xor_zero]
    refine ⟨by simp, fun k hk => by rw [List.mem_singleton.mp hk]; exact ⟨by omega, by omega⟩, by show 1 ≤ 2; decide, ?_, ?_⟩
    · show dot n (maskI [(i : Int)]) d = true
      rw [mk, dot_pow hi]
      exact t1
    · show dot n (maskI [(i : Int)]) e = true
      rw [mk, dot_pow hi]
      exact t2
  | nil =>
    have no : ∀ k, k ∈ cellsI d → ¬ k ∈ cellsI e := fun k h1 h2 => by
      have : k ∈ (cellsI d).filter fun k => decide (k ∈ cellsI e) := List.mem_filter.mpr ⟨h1, decide_eq_true h2⟩
      rw [ef] at this
      cases this
    have hd_ : ∀ {xs : List Int}, xs ≠ [] → xs.getD 0 0 ∈ xs := fun {xs} h => by
      cases xs with
      | nil => exact absurd rfl h
      | cons x l => exact List.mem_cons_self ..
    have m1 := hd_ (ne d0)
    have m2 := hd_ (ne e0)
    generalize (cellsI d).getD 0 0 = a at m1
    generalize (cellsI e).getD 0 0 = b at m2
    have na := no a m1
    have nb : ¬ b ∈ cellsI d := fun h => no b h m2
    obtain ⟨i, rfl, hi, t1⟩ := nat hd m1
    obtain ⟨j, rfl, hj, t2⟩ := nat he m2
    have t3 : e.testBit i = false := by
      cases z : e.testBit i with
      | false => rfl
      | true => exact absurd (mem_cellsN.mpr z) na
    have t4 : d.testBit j = false := by
      cases z : d.testBit j with
      | false => rfl
      | true => exact absurd (mem_cellsN.mpr z) nb
    have ij : i ≠ j := fun z => by rw [z, t4] at t1; cases t1
    have mk : maskI [(i : Int), (j : Int)] = 2 ^ i ^^^ 2 ^ j := by
      show 2 ^ ((i : Int)).toNat ^^^ (2 ^ ((j : Int)).toNat ^^^ 0) = _
      rw [Int.toNat_natCast, Int.toNat_natCast, Nat.xor_zero]
    have dt : ∀ m, dot n (2 ^ i ^^^ 2 ^ j) m = (m.testBit i ^^ m.testBit j) := fun m => by
      rw [dot_comm, dot_add, dot_comm, dot_pow hi, dot_comm, dot_pow hj]
    refine ⟨?_, fun k hk => ?_, by show 2 ≤ 2; decide, ?_, ?_⟩
    · refine List.nodup_cons.mpr ⟨fun z => ?_, by simp⟩
      have := List.mem_singleton.mp z
      omega
    · rcases List.mem_cons.mp hk with rfl | hk
      · exact ⟨by omega, by omega⟩
      · rw [List.mem_singleton.mp hk]
        exact ⟨by omega, by omega⟩
    · show dot n (maskI [(i : Int), (j : Int)]) d = true
      rw [mk, dt, t1, t4]
      rfl
    · show dot n (maskI [(i : Int), (j : Int)]) e = true
      rw [mk, dt, t3, t2]
      rfl
/-- the gaps, and the cell up on the board that is changed for sure -/
def gapsN (R : List Nat) : List Nat := (List.range R.length).map fun i => R.getD i 0 ^^^ 2 ^ i
def cbK (R : List Nat) : Nat := match (gapsN R).filter fun m => decide (m ≠ 0) with
  | m :: _ => ((cellsI m).getD 0 0).toNat
  | [] => 0
theorem cb_ok {R : List Nat} {n : Nat} {ps : List (List Int × List Int)} (rep : Rep R n ps) (n1 : 1 ≤ n) (n40 : n ≤ 40) (no : R ≠ oneM n) :
    ∃ m l, (gapsN R).filter (fun m => decide (m ≠ 0)) = m :: l ∧ m < 2 ^ n ∧ m ≠ 0 ∧ (∃ (k : Nat) (l' : List Int), cellsI m = (k : Int) :: l' ∧ k < n ∧ cbK R = k) ∧ chN n (ej n (cbK R)) (runB (ej n (cbK R)) ps) ≠ 0 := by
  have lR := rep.len
  cases ef : (gapsN R).filter fun m => decide (m ≠ 0) with
  | nil =>
    exfalso
    refine no ?_
    refine List.ext_getElem (by rw [lR, oneM_len]) fun i h1 h2 => ?_
    have z : R.getD i 0 ^^^ 2 ^ i = 0 := by
      cases Nat.decEq (R.getD i 0 ^^^ 2 ^ i) 0 with
      | isTrue y => exact y
      | isFalse y =>
        have : (R.getD i 0 ^^^ 2 ^ i) ∈ (gapsN R).filter fun m => decide (m ≠ 0) := List.mem_filter.mpr ⟨List.mem_map.mpr ⟨i, List.mem_range.mpr h1, rfl⟩, decide_eq_true y⟩
        rw [ef] at this
        cases this
    have e1 : R.getD i 0 = R[i] := by rw [List.getD_eq_getElem?_getD, List.getElem?_eq_getElem h1]; rfl
    have e2 : (oneM n).getD i 0 = (oneM n)[i] := by rw [List.getD_eq_getElem?_getD, List.getElem?_eq_getElem h2]; rfl
    rw [← e1, ← e2, oneM_at (by rw [← lR]; exact h1)]
    cases Nat.decEq (R.getD i 0) (2 ^ i) with
    | isTrue y => exact y
    | isFalse y => exact absurd z (xor_ne y)
  | cons m l =>
    have hm : m ∈ (gapsN R).filter fun m => decide (m ≠ 0) := by rw [ef]; exact List.mem_cons_self ..
    obtain ⟨h1, h2⟩ := List.mem_filter.mp hm
    have m0 := of_decide_eq_true h2
    obtain ⟨i, hi, rfl⟩ := List.mem_map.mp h1
    have hi := List.mem_range.mp hi
    rw [lR] at hi
    have lt : R.getD i 0 ^^^ 2 ^ i < 2 ^ n := xor_lt (getD_lt rep.lt i) (Nat.pow_lt_pow_right (by decide) hi)
    cases ec : cellsI (R.getD i 0 ^^^ 2 ^ i) with
    | nil =>
      have := mask_cells (ns := ([] : List Int)) (m := R.getD i 0 ^^^ 2 ^ i) List.nodup_nil fun k => by rw [ec]
      exact absurd this.symm m0
    | cons k l' =>
      have kin : k ∈ cellsI (R.getD i 0 ^^^ 2 ^ i) := by rw [ec]; exact List.mem_cons_self ..
      have kb := cellsI_in lt k kin
      obtain ⟨j, rfl⟩ : ∃ j : Nat, k = (j : Int) := ⟨k.toNat, by omega⟩
      have jn : j < n := by omega
      have tj := mem_cellsN.mp kin
      have ek : cbK R = j := by
        unfold cbK
        rw [ef]
        show ((cellsI (R.getD i 0 ^^^ 2 ^ i)).getD 0 0).toNat = j
        rw [ec]
        exact Int.toNat_natCast j
      refine ⟨_, l, rfl, lt, m0, ⟨j, l', ec, jn, ek⟩, ?_⟩
      rw [ek, ch_rep rep (ej_sb n1 n40)]
      intro z
      have t : (Rnk.mk n fun i => Pt (ej n j) (R.getD i 0 ^^^ 2 ^ i)).testBit i = false := by rw [z, Nat.zero_testBit]
      rw [Rnk.mk_bit, decide_eq_true hi, Bool.true_and] at t
      rcases Nat.eq_zero_or_pos j with j0 | j1
      · rw [j0] at t tj
        rw [pt_e0 n1 lt, tj] at t
        cases t
      · have up := cellsI_up (R.getD i 0 ^^^ 2 ^ i)
        have t0 : (R.getD i 0 ^^^ 2 ^ i).testBit 0 = false := by
          cases z : (R.getD i 0 ^^^ 2 ^ i).testBit 0 with
          | false => rfl
          | true =>
            exfalso
            have m0 : ((0 : Nat) : Int) ∈ cellsI (R.getD i 0 ^^^ 2 ^ i) := mem_cellsN.mpr z
            rw [ec] at m0 up
            rcases List.mem_cons.mp m0 with y | y
            · omega
            · have := (List.pairwise_cons.mp up).1 _ y
              omega
        rw [pt_ej j1 jn lt, t0, tj] at t
        cases t
/-- the last flip that the program finds -/
def lastT (R G : List Nat) (bs : List Int) : List Int × List Int := lastF G (maskI (oddC (cellsI (chg R bs)) (cellsI (chg G bs)))) (chg R bs)
/-- the flips that lead a table to the identity, one by one -/
inductive Sh : List Nat → List (List Int × List Int) → Prop
  | done {R : List Nat} (e : R = oneM R.length) : Sh R []
  | step {R G : List Nat} {t : List Int × List Int} {qs : List (List Int × List Int)} (no : R ≠ oneM R.length) (iv : Inv2 R.length R G) (et : t = lastT R G (ej R.length (cbK R))) (r : Sh (aftM R t.1 t.2) qs) : Sh R (t :: qs)
theorem Sh.only : ∀ {R : List Nat} {qs qs' : List (List Int × List Int)}, Sh R qs → Sh R qs' → qs = qs' := fun {R qs qs'} h => by
  induction h generalizing qs' with
  | done e =>
    intro k
    cases k with
    | done _ => rfl
    | step no _ _ _ => exact absurd e no
  | step no iv et r ih =>
    intro k
    cases k with
    | done e => exact absurd e no
    | step no2 iv2 et2 r2 =>
      have eg := iv.only iv2.g iv2.ag
      rw [eg] at et2
      have e : _ = _ := et.trans et2.symm
      rw [← e] at r2 ⊢
      rw [ih r2]
/-- what is known of the last flip -/
structure Last (R G : List Nat) (n : Nat) (ps : List (List Int × List Int)) (bs : List Int) : Prop where
  fit : Fit1 n [lastT R G bs]
  home : runB bs (ps ++ [lastT R G bs]) = bs
  dep : ∀ r r', Rk (Ch n ps) r → Rk (Ch n (ps ++ [lastT R G bs])) r' → r' + 1 = r
  busy : (lastT R G bs).1 ≠ [] ∧ (lastT R G bs).2 ≠ []
  odd : (oddC (cellsI (chg R bs)) (cellsI (chg G bs))).Nodup ∧ (∀ k ∈ oddC (cellsI (chg R bs)) (cellsI (chg G bs)), 0 ≤ k ∧ k < (n : Nat)) ∧ (oddC (cellsI (chg R bs)) (cellsI (chg G bs))).length ≤ 2
  cd : chg R bs ≠ 0 ∧ chg G bs ≠ 0 ∧ chg R bs < 2 ^ n ∧ chg G bs < 2 ^ n
theorem last_of {R G : List Nat} {n : Nat} {ps : List (List Int × List Int)} {bs : List Int} (rep : Rep R n ps) (fit : Fit1 n ps) (n1 : 1 ≤ n) (n40 : n ≤ 40) (iv : Inv2 n R G) (sb : Sb n bs) (ch : chN n bs (runB bs ps) ≠ 0) : Last R G n ps bs := by
  obtain ⟨S, rS⟩ := rep_ex (n := n) ps.reverse fun t ht => (fit_rev fit t ht).1
  obtain rfl := rep_inv rep rS fit n1 n40 iv
  have e1 := chg_run rep fit sb
  have e2 := chg_run rS (fit_rev fit) sb
  have sg := sb_run (fit_rev fit) sb
  have ch2 : chN n bs (runB bs ps.reverse) ≠ 0 := fun z => ch (by
    have b := chN_zero sb sg.2 z
    have k := back (fit_rev fit) sb
    rw [List.reverse_reverse, ← b] at k
    rw [k]
    exact chN_self n bs)
  obtain ⟨o0, o1, o2, o3, o4⟩ := odd_ok (chN_lt n bs (runB bs ps)) (chN_lt n bs (runB bs ps.reverse)) ch ch2
  have hc := mask_lt o1
  have d0 : chg R bs ≠ 0 := by rw [e1]; exact ch
  refine ⟨?_, ?_, ?_, ?_, ?_, ?_⟩
  · unfold lastT
    rw [e1, e2]
    exact last_fit fit rS sb hc o3 o4
  · unfold lastT
    rw [e1, e2]
    exact last_home fit rS sb hc o3 o4
  · unfold lastT
    rw [e1, e2]
    exact fun r r' => last_dep fit rS sb hc o3 o4
  · unfold lastT
    rw [e1, e2]
    exact last_busy fit rS sb hc o3 o4
  · rw [e1, e2]
    exact ⟨o0, o1, o2⟩
  · rw [e1, e2]
    exact ⟨ch, ch2, chN_lt _ _ _, chN_lt _ _ _⟩
section
variable {P : Program} {w : World} {K : PySem.W.Frag} {mg : Str → Option Value} {base : Heap}
/-- reversed_flips: a new list -/
def spRev (K : PySem.W.Frag) : Sp := fun vs H Q _ => ∃ (a : Addr) (xs : List V), vs = [.ref a] ∧ (SqL K H a xs ∨ SqT K H a xs) ∧ ∀ q H', H q = none → Same H H' → H' q = some (.lst xs.reverse) → Q (.ref q) H'
theorem scRev : FnScope ["flips"] ["flips"] (defScope sRevF) := ⟨rfl, rfl, rfl, by decide +kernel, rfl, by decide +kernel, by decide +kernel⟩
theorem ok_rev {f : Addr} {fd : FuncData} (F : Fun K "reversed_flips" "reversed_flips" sRevF f fd) (B : Bl mg) (hR : mg "reversed" = none) : FnOk P w K mg base CX0 2 f fd ["flips"] (spRev K) := by
  refine F.ok scRev (fun vs H Q E h => ?_) (fun cdv A outer s H vs Q E hr h => ?_)
  · obtain ⟨a, xs, rfl, _⟩ := h
    rfl
  · obtain ⟨a, xs, rfl, hq, out⟩ := h
    refine ⟨_, pss_one (ps_ret (pe_listRev rfl (by rfl) B.list (by rfl) hR (pv 0))), ?_⟩
    exact ⟨_, rfl, a, xs, rfl, hq, fun q hq' => out q _ hq' (same_new hq') upd_same⟩
/-- cells_odd_in_both -/
def spOdd : Sp := fun vs H Q _ => ∃ (a b : Addr) (xs ys : List Int), vs = [.ref a, .ref b] ∧ H a = some (.tup (xs.map V.int)) ∧ H b = some (.tup (ys.map V.int)) ∧ xs ≠ [] ∧ ys ≠ [] ∧ xs.length ≤ 40 ∧ ∀ q H', H q = none → Same H H' → H' q = some (.tup ((oddC xs ys).map V.int)) → Q (.ref q) H'
abbrev nOdd : List Str := ["one", "other", "common", "cell"]
theorem scOdd : FnScope nOdd ["one", "other"] (defScope sOdd) := ⟨rfl, rfl, rfl, by decide +kernel, rfl, by decide +kernel, by decide +kernel⟩
theorem ok_odd {f : Addr} {fd : FuncData} (F : Fun K "cells_odd_in_both" "cells_odd_in_both" sOdd f fd) (B : Bl mg) : FnOk P w K mg base CX0 2 f fd ["one", "other"] spOdd := by
  refine F.ok scOdd (fun vs H Q E h => ?_) (fun cdv A outer s H vs Q E hr h => ?_)
  · obtain ⟨a, b, xs, ys, rfl, _⟩ := h
    rfl
  · obtain ⟨a, b, xs, ys, rfl, ha, hb, x0, y0, few, out⟩ := h
    refine ⟨_, (pss_cons (ps_setLc (i := 2) (own := [("cell", 3)]) (g := gName 3) (tt := tTest (tOp (rIn K false) (tVar 3) (tVar 1))) (te := tVar 3) rfl scOdd.nd rfl rfl (sw_true rfl rfl rfl (by decide +kernel)) (pi_tup (pv 0)) (blkOk_by (own := [("cell", 3)]) (N := nOdd) (sc := defScope sOdd) (by decide +kernel)) (fun _ _ _ _ _ => (pg_name (i := 3) scOdd.nd rfl (Or.inl rfl))) (fun _ _ _ _ _ => by exact pts_one (pt_cmpR op_in_seq (pv 3) (pv 1) (by rfl))) (fun _ _ _ _ _ => pv 3))
      (pss_cons (ps_if (pt_truth (pv 2) (fun _ => rfl)) (pss_one (ps_ret (pe_tup (pa_cons (pe_ix ix_list (pv 2) pe_int (fun _ _ => rfl)) pa_nil)))) pss_nil)
      (pss_one (ps_ret (pe_tup (pa_cons (pe_ix ix_tup (pv 0) pe_int (fun _ _ => rfl)) (pa_cons (pe_ix ix_tup (pv 1) pe_int (fun _ _ => rfl)) pa_nil))))))), ?_⟩
    refine ⟨_, rfl, a, rfl, ⟨_, SqT.of ha⟩, fun D hD => ?_⟩
    refine lc_tup (K := K) (a := a) (xs := xs.map V.int) (fun i H' => Same H H' ∧ H' D = some (.lst (((xs.take i).filter fun k => decide (k ∈ ys)).map V.int))) ⟨same_new hD, upd_same⟩ (fun i H' _ h => SqT.of (h.1 _ _ ha)) ?_ ?_
    · rintro i x H2 hx ⟨s2, hD2⟩
      rw [List.getElem?_map] at hx
      obtain ⟨k, hk, rfl⟩ : ∃ k, xs[i]? = some k ∧ x = V.int k := by
        cases e : xs[i]? with
        | none => rw [e] at hx; cases hx
        | some k => rw [e] at hx; exact ⟨k, rfl, (Option.some.inj hx).symm⟩
      have st : (xs.take (i + 1)).filter (fun k => decide (k ∈ ys)) = (xs.take i).filter (fun k => decide (k ∈ ys)) ++ (if k ∈ ys then [k] else []) := by
        rw [List.take_succ, hk, List.filter_append]
        congr 1
        by_cases z : k ∈ ys <;> simp [z]
      have il : i < xs.length := (List.getElem?_eq_some_iff.mp hk).1
      refine ⟨rfl, _, rfl, _, rfl, b, _, rfl, .inr (SqT.of (s2 _ _ hb)), rfl, flat_ints _, _, rfl, ?_⟩
      show if inV (V.int k) (ys.map V.int) = true then _ else _
      rw [in_ints]
      by_cases z : k ∈ ys
      · rw [if_pos z] at st
        rw [decide_eq_true z]
        refine iteT ⟨_, rfl, _, hD2, ?_, ?_, ?_⟩
        · rw [List.length_map]
          have := List.length_filter_le (fun k => decide (k ∈ ys)) (xs.take i)
          rw [List.length_take] at this
          exact small1000 (by omega)
        · intro y o e
          rw [upd_ne (ne_of_none e hD)]
          exact s2 y o e
        · rw [upd_same, st, List.map_append]
          rfl
      · rw [if_neg z, List.append_nil] at st
        rw [decide_eq_false z]
        refine iteF ⟨s2, ?_⟩
        rw [st]
        exact hD2
    · rintro H2 ⟨s2, hD2⟩
      rw [List.length_map, List.take_length] at hD2
      cases ef : xs.filter fun k => decide (k ∈ ys) with
      | cons c l =>
        rw [ef] at hD2
        refine ⟨_, rfl, true, .inl ⟨_, SqL.of hD2, rfl⟩, iteT ?_⟩
        refine ⟨_, rfl, D, _, 0, .int c, rfl, rfl, SqL.of hD2, atI_nat (j := 0) rfl, (by show 1 ≤ sizeLine; decide), fun q hq => ?_⟩
        have s3 := same_new (o := .tup [V.int c]) hq
        refine out q _ (s2.free hq) (s2.trans s3) ?_
        unfold oddC
        rw [ef]
        exact upd_same
      | nil =>
        rw [ef] at hD2
        refine ⟨_, rfl, false, .inl ⟨_, SqL.of hD2, rfl⟩, iteF ?_⟩
        have at0 : ∀ {zs : List Int}, zs ≠ [] → atI (zs.map V.int) 0 = some (.int (zs.getD 0 0)) := fun {zs} h => by
          cases zs with
          | nil => exact absurd rfl h
          | cons z l => exact atI_nat (j := 0) rfl
        refine ⟨_, rfl, a, _, 0, _, rfl, rfl, SqT.of (s2 _ _ ha), at0 x0, _, rfl, b, _, 0, _, rfl, rfl, SqT.of (s2 _ _ hb), at0 y0, (by show 2 ≤ sizeLine; decide), fun q hq => ?_⟩
        have s3 := same_new (o := .tup [V.int (xs.getD 0 0), V.int (ys.getD 0 0)]) hq
        refine out q _ (s2.free hq) (s2.trans s3) ?_
        unfold oddC
        rw [ef]
        exact upd_same
/-- changed_board -/
def spCB (C CB : Addr) : Sp := fun vs H Q _ => ∃ (g : Addr) (R : List Nat) (n : Nat) (ps : List (List Int × List Int)), vs = [.ref g] ∧ Tb C H g R ∧ Rep R n ps ∧ Fit1 n ps ∧ 1 ≤ n ∧ n ≤ 40 ∧ R ≠ oneM n ∧ ∀ q H', H q = none → Same H H' → Bd CB H' q (ej n (cbK R)) → Q (.ref q) H'
abbrev nCB : List Str := ["table", "gaps", "gap"]
theorem scCB : FnScope nCB ["table"] (defScope sCBoard) := ⟨rfl, rfl, rfl, by decide +kernel, rfl, by decide +kernel, by decide +kernel⟩
theorem filt_one (v : Nat) : ([v].filter fun m => decide (m ≠ 0)) = if v ≠ 0 then [v] else [] := by
  by_cases z : v = 0 <;> simp [z]
theorem cut_one {xs : List V} {x : V} {l : List V} (e : xs = x :: l) : cutV xs none (some 1) = [x] := by
  subst e
  unfold cutV
  rw [HT.sIx_none, show (some (1 : Int)) = some ((1 : Nat) : Int) from rfl, HT.sIx_nat]
  show ((x :: l).drop 0).take (min 1 (l.length + 1) - 0) = [x]
  rw [show min 1 (l.length + 1) - 0 = 1 by omega]
  rfl
theorem ok_cb {f C CB : Addr} {fd : FuncData} (F : Fun K "changed_board" "changed_board" sCBoard f fd) (B : Bl mg) (T : TC K mg C) (TB : BC K mg CB) (DG : Has P w K mg base "gaps_of" 5 ["table"] (spGaps C)) (DS : HasM P w K mg base C "size" 2 ["self"] (spTSize C)) (DI : HasIni P w K mg base CB) : FnOk P w K mg base CX0 8 f fd ["table"] (spCB C CB) := by
  obtain ⟨fG, fdG, GG, mG, kG, bG⟩ := DG
  obtain ⟨fS, fdS, GS, mS, bS⟩ := DS
  obtain ⟨fI, fdI, GI, MI, kb2, _⟩ := DI
  refine F.ok scCB (fun vs H Q E h => ?_) (fun cdv A outer s H vs Q E hr h => ?_)
  · obtain ⟨g, R, n, ps, rfl, _⟩ := h
    rfl
  · obtain ⟨g, R, n, ps, rfl, tb, rep, fit, n1, n40, no, out⟩ := h
    have r2 : Room 2 _ := hr.mono (by decide)
    have r5 : Room 5 _ := hr.mono (by decide)
    have gR := rep_good rep fit n1 n40
    have lR := rep.len
    obtain ⟨dx, t, h1, h2⟩ := id tb
    refine ⟨_, (pss_cons (ps_setLc (i := 1) (own := [("gap", 2)]) (g := gName 2) (tt := (fun σ H Q => tVar 2 σ H fun x H' => ∃ k, TruV K x H' k ∧ Q k H')) (te := tVar 2) rfl scCB.nd rfl rfl (sw_true rfl rfl rfl (by decide +kernel)) (pi_list (pe_call GG r5 (by rfl) mG kG bG .nil pass0 (pa_cons (pv 0) pa_nil))) (blkOk_by (own := [("gap", 2)]) (N := nCB) (sc := defScope sCBoard) (by decide +kernel)) (fun _ _ _ _ _ => (pg_name (i := 2) scCB.nd rfl (Or.inl rfl))) (fun _ _ _ _ _ => by exact pts_one (pt_truth (pv 2) (fun _ => rfl))) (fun _ _ _ _ _ => pv 2))
      (pss_one (ps_ret (pe_makeN (n := 1) (ks := ["up"]) (E := E0) MI GI hr (by rfl) TB.mgC kb2 pass0 (pa_cons (pe_meth0 (pv 0) T.cl mS GS r2 bS .nil pass0) pa_nil) (pk_cons (pe_slice (r := rSlA K) sl_tupA (pe_ix ix_list (pv 1) pe_int (fun _ _ => rfl)) po_none (po_some pe_int)) pk_nil))))), ?_⟩
    refine ⟨_, rfl, g, R, rfl, tb, gR, fun q xs H1 hq s1 e1 tu => ⟨q, rfl, ⟨_, SqL.of e1⟩, fun D hD => ?_⟩⟩
    -- the gaps that are not empty
    refine lc_list (K := K) (tt := (fun σ H Q => tVar 2 σ H fun x H' => ∃ k, TruV K x H' k ∧ Q k H')) (a := q) (xs := xs.map V.ref) (fun i H' => Same H1 H' ∧ ∃ zs : List Addr, H' D = some (.lst (zs.map V.ref)) ∧ zs.length ≤ i ∧ TupsAt H' zs ((((gapsN R).take i).filter fun m => decide (m ≠ 0)).map cellsI)) ⟨same_new hD, [], upd_same, Nat.le_refl _, True.intro⟩ (fun i H' _ h => SqL.of (h.1 _ _ e1)) ?_ ?_
    · rintro i x H2 hx ⟨s2, zs, hD2, lz, tz⟩
      rw [List.getElem?_map] at hx
      obtain ⟨a, ha, rfl⟩ : ∃ a, xs[i]? = some a ∧ x = V.ref a := by
        cases e : xs[i]? with
        | none => rw [e] at hx; cases hx
        | some a => rw [e] at hx; exact ⟨a, rfl, (Option.some.inj hx).symm⟩
      obtain ⟨ns, hn, en⟩ := tu.at ha
      have il : i < R.length := by
        have := (List.getElem?_eq_some_iff.mp ha).1
        rw [tu.len, List.length_map, List.length_range] at this
        exact this
      rw [List.getElem?_map, List.getElem?_range il] at hn
      obtain rfl : cellsI (R.getD i 0 ^^^ 2 ^ i) = ns := Option.some.inj hn
      have gi : (gapsN R)[i]? = some (R.getD i 0 ^^^ 2 ^ i) := by
        unfold gapsN
        rw [List.getElem?_map, List.getElem?_range il]
        rfl
      have st : ((gapsN R).take (i + 1)).filter (fun m => decide (m ≠ 0)) = ((gapsN R).take i).filter (fun m => decide (m ≠ 0)) ++ (if R.getD i 0 ^^^ 2 ^ i ≠ 0 then [R.getD i 0 ^^^ 2 ^ i] else []) := by
        rw [List.take_succ, gi, List.filter_append]
        congr 1
        exact filt_one _
      have e2 := s2 _ _ en
      have em : ((cellsI (R.getD i 0 ^^^ 2 ^ i)).map V.int).isEmpty = decide (R.getD i 0 ^^^ 2 ^ i = 0) := by
        by_cases z : R.getD i 0 ^^^ 2 ^ i = 0
        · rw [z]
          rfl
        · rw [decide_eq_false z]
          cases ec : cellsI (R.getD i 0 ^^^ 2 ^ i) with
          | nil =>
            have := mask_cells (ns := ([] : List Int)) (m := R.getD i 0 ^^^ 2 ^ i) List.nodup_nil fun k => by rw [ec]
            exact absurd this.symm z
          | cons _ _ => rfl
      refine ⟨rfl, _, rfl, _, .inr (.inl ⟨_, SqT.of e2, rfl⟩), ?_⟩
      rw [em]
      have hi_ : i ≤ 40 := by have := gR.l40; omega
      by_cases z : R.getD i 0 ^^^ 2 ^ i = 0
      · rw [if_neg (fun y => y z), List.append_nil] at st
        rw [decide_eq_true z]
        refine iteF ⟨s2, zs, hD2, by omega, ?_⟩
        rw [st]
        exact tz
      · rw [if_pos z] at st
        rw [decide_eq_false z]
        refine iteT ⟨_, rfl, _, hD2, ?_, ?_, zs ++ [a], ?_, ?_, ?_⟩
        · rw [List.length_map]
          exact small1000 (by omega)
        · intro y o e
          rw [upd_ne (ne_of_none e hD)]
          exact s2 y o e
        · rw [upd_same, List.map_append]
          rfl
        · rw [List.length_append]
          show _ + 1 ≤ _
          omega
        · rw [st, List.map_append]
          refine TupsAt.snoc2 ?_ (tz.mono fun y us e => ?_)
          · rw [upd_ne fun y => by rw [y, hD2] at e2; cases e2]
            exact e2
          · rw [upd_ne fun y' => by rw [y', hD2] at e; cases e]
            exact e
    rintro H2 ⟨s2, zs, hD2, lz, tz⟩
    have lg : xs.length = (gapsN R).length := by rw [tu.len, List.length_map]; unfold gapsN; rw [List.length_map]
    rw [List.length_map, lg, List.take_length] at tz
    obtain ⟨m, l, ef, mlt, m0, ⟨k, l', ec, kn, ek⟩, _⟩ := cb_ok rep n1 n40 no
    rw [ef, List.map_cons, ec] at tz
    cases zs with
    | nil => exact tz.elim
    | cons z0 zr =>
      have ez : H2 z0 = some (.tup (((k : Int) :: l').map V.int)) := tz.1
      have s02 := s1.trans s2
      refine ⟨_, rfl, g, dx, _, rfl, s02 _ _ h1, no_fldM (by decide +kernel), g, R, rfl, tb.same s02, ?_⟩
      refine ⟨_, rfl, D, _, 0, .ref z0, rfl, rfl, SqL.of hD2, atI_nat (j := 0) rfl, ?_⟩
      have make : ∀ (u : Addr) (H3 : Hp), Same H2 H3 → H3 u = some (.tup [V.int (k : Int)]) → ∀ x dx', H3 x = none → H3 dx' = none → dx' ≠ x → spInit K CB [.ref x, .int ((n : Nat) : Int), .ref u] (upd (upd H3 dx' (.own x)) x (.ins CB dx' [])) (fun v H4 => v = .non ∧ Q (.ref x) H4) (fun _ _ _ => False) := fun u H3 s3 eu =>
        made_board (W := fun x H4 => Q (.ref x) H4) (n := n) (ns := [(k : Int)]) (.inr (SqT.of eu)) (by show 1 ≤ 500; decide) n1 n40 (fun j hj => by rw [List.mem_singleton.mp hj]; exact ⟨by omega, by omega⟩) (by simp) fun x H4 hx s4 hb => by
          rw [ej_one, ← ek] at hb
          exact out x H4 ((s02.trans s3).free hx) ((s02.trans s3).trans s4) hb
      rw [lR]
      refine ⟨_, rfl, z0, _, rfl, SqT.of ez, fun w => ⟨rfl, rfl, ?_⟩, fun w u hu => ⟨rfl, rfl, ?_⟩⟩
      · have l0 : l' = [] := by
          have e := w.2
          rw [show (some (1 : Int)) = some ((1 : Nat) : Int) from rfl, HT.sIx_nat, List.length_map, List.length_cons] at e
          cases l' with
          | nil => rfl
          | cons _ _ =>
            rw [List.length_cons] at e
            omega
        rw [l0] at ez
        exact make z0 H2 (Same.refl _) ez
      · have s3 := same_new (o := .tup (cutV (((k : Int) :: l').map V.int) none (some 1))) hu
        refine make u _ s3 ?_
        rw [upd_same, cut_one (xs := ((k : Int) :: l').map V.int) (x := V.int (k : Int)) (l := l'.map V.int) rfl]
/-- last_flip -/
def spLast (K : PySem.W.Frag) (C CB CF : Addr) : Sp := fun vs H Q _ => ∃ (g bd : Addr) (R : List Nat) (n : Nat) (ps : List (List Int × List Int)) (bs : List Int), vs = [.ref g, .ref bd] ∧ Tb C H g R ∧ Rep R n ps ∧ Fit1 n ps ∧ 1 ≤ n ∧ n ≤ 40 ∧ Bd CB H bd bs ∧ Sb n bs ∧ chN n bs (runB bs ps) ≠ 0 ∧
  ∀ q G H', Inv2 n R G → Last R G n ps bs → H q = none → Same H H' → Fp CF H' q (lastT R G bs).1 (lastT R G bs).2 → OkF (lastT R G bs).1 (lastT R G bs).2 → (lastT R G bs).1.Pairwise (· < ·) → (lastT R G bs).2.Pairwise (· < ·) → Q (.ref q) H'
abbrev nLast : List Str := ["table", "board", "changed", "inverse", "chosen"]
theorem scLast : FnScope nLast ["table", "board"] (defScope sLast) := ⟨rfl, rfl, rfl, by decide +kernel, rfl, by decide +kernel, by decide +kernel⟩
theorem ok_last {f C CB CF : Addr} {fd : FuncData} (F : Fun K "last_flip" "last_flip" sLast f fd) (B : Bl mg) (T : TC K mg C) (TF : FC K mg CF) (DC : Has P w K mg base "changes_of" 9 ["table", "board"] (spChanges C CB)) (DI : HasM P w K mg base C "inverse" 8 ["self"] (spInv C)) (DO : Has P w K mg base "cells_odd_in_both" 2 ["one", "other"] spOdd)
    (DX : HasM P w K mg base C "source" 6 ["self", "cells"] (spSource K C)) (DA : Has P w K mg base "added_cells" 2 ["one", "other"] (spAdded K)) (DJ : HasFI P w K mg base CF) : FnOk P w K mg base CX0 10 f fd ["table", "board"] (spLast K C CB CF) := by
  obtain ⟨fC, fdC, GC, mC, kC, bC⟩ := DC
  obtain ⟨fI, fdI, GI, mI, bI⟩ := DI
  obtain ⟨fO, fdO, GO, mO, kO, bO⟩ := DO
  obtain ⟨fX, fdX, GX, mX, bX⟩ := DX
  obtain ⟨fA, fdA, GA, mA, kA, bA⟩ := DA
  obtain ⟨fJ, fdJ, GJ, MJ, bJ⟩ := DJ
  refine F.ok scLast (fun vs H Q E h => ?_) (fun cdv A outer s H vs Q E hr h => ?_)
  · obtain ⟨g, bd, R, n, ps, bs, rfl, _⟩ := h
    rfl
  · obtain ⟨g, bd, R, n, ps, bs, rfl, tb, rep, fit, n1, n40, hb, sb, ch, out⟩ := h
    have r2 : Room 2 _ := hr.mono (by decide)
    have r6 : Room 6 _ := hr.mono (by decide)
    have r7 : Room 7 _ := hr.mono (by decide)
    have r8 : Room 8 _ := hr.mono (by decide)
    have r9 : Room 9 _ := hr
    have gR := rep_good rep fit n1 n40
    have lR := rep.len
    have el : bs.length = R.length := by rw [sb.2, lR]
    obtain ⟨dx, t, h1, h2⟩ := id tb
    refine ⟨_, (pss_cons (ps_set (i := 2) scLast.nd rfl (Or.inl rfl) (pe_call GC r9 (by rfl) mC kC bC .nil pass0 (pa_cons (pv 0) (pa_cons (pv 1) pa_nil))))
      (pss_cons (ps_set (i := 3) scLast.nd rfl (Or.inl rfl) (pe_meth0 (pv 0) T.cl mI GI r8 bI .nil pass0))
      (pss_cons (ps_set (i := 4) scLast.nd rfl (Or.inl rfl) (pe_call GO r2 (by rfl) mO kO bO .nil pass0 (pa_cons (pv 2) (pa_cons (pe_call GC r9 (by rfl) mC kC bC .nil pass0 (pa_cons (pv 3) (pa_cons (pv 1) pa_nil))) pa_nil))))
      (pss_one (ps_ret (pe_make (E := E0) MJ GJ r7 (by rfl) TF.mgC bJ .nil pass0 (pa_cons (pe_call GA r2 (by rfl) mA kA bA .nil pass0 (pa_cons (pe_meth (pv 3) T.cl mX GX r6 bX .nil pass0 (pa_cons (pv 4) pa_nil)) (pa_cons (pv 4) pa_nil))) (pa_cons (pv 2) pa_nil)))))))), ?_⟩
    refine ⟨_, rfl, _, rfl, g, bd, R, bs, rfl, tb, gR, hb, sb.1, el, fun a H1 ha s1 ea => ?_⟩
    refine ⟨_, rfl, g, dx, _, rfl, s1 _ _ h1, no_fldM (by decide +kernel), g, R, rfl, tb.same s1, gR, fun gi G H2 iv hgi s2 ti => ?_⟩
    rw [lR] at iv
    have L := last_of rep fit n1 n40 iv sb ch
    have gG := good_inv iv gR
    have lG : G.length = n := iv.g.len
    have s12 := s1.trans s2
    have cne : ∀ {m : Nat}, m ≠ 0 → cellsI m ≠ [] := fun {m} h z => h (by
      have := mask_cells (ns := ([] : List Int)) (m := m) List.nodup_nil fun k => by rw [z]
      exact this.symm)
    have few : ∀ {m : Nat}, m < 2 ^ n → (cellsI m).length ≤ 40 ∧ ∀ k ∈ cellsI m, 0 ≤ k ∧ k < 40 := fun {m} h => ⟨(cellsN h n40).2.1, (cellsN h n40).2.2.1⟩
    obtain ⟨c1, c2, c3, c4⟩ := L.cd
    refine ⟨_, rfl, _, rfl, _, rfl, gi, bd, G, bs, rfl, ti, gG, hb.same s12, sb.1, (by rw [sb.2, lG]), fun b H3 hb3 s3 eb => ?_⟩
    have s23 := s2.trans s3
    refine ⟨a, b, _, _, rfl, s23 _ _ ea, eb, cne c1, cne c2, (few c3).1, fun c H4 hc4 s4 ec => ?_⟩
    obtain ⟨o1, o2, o3⟩ := L.odd
    have s24 := s23.trans s4
    obtain ⟨dy, u, j1, j2⟩ := id ti
    have s34 := s3.trans s4
    refine ⟨_, rfl, gi, dy, _, rfl, s34 _ _ j1, no_fldM (by decide +kernel), _, rfl, gi, c, G, _, rfl, ti.same s34, gG, .inr (SqT.of ec), by omega, (by rw [lG]; exact o2), o1, fun p H5 hp5 s5 ep => ?_⟩
    rw [← comb_add] at ep
    have mlt := mask_lt o2
    have clt : comb G (maskI (oddC (cellsI (chg R bs)) (cellsI (chg G bs)))) < 2 ^ n := by
      have := comb_lt G (maskI (oddC (cellsI (chg R bs)) (cellsI (chg G bs)))) (n := n) iv.g.lt
      exact this
    refine ⟨_, rfl, p, c, _, _, rfl, SqT.of ep, SqT.of (s5 _ _ ec), by have := (few clt).1; omega, by omega, fun k hk => ?_, fun k hk => ?_, fun q ks H6 hq6 s6 up mem e6 => ?_⟩
    · have := (few clt).2 k hk
      exact ⟨this.1, this.2⟩
    · have := o2 k hk
      exact ⟨this.1, by omega⟩
    have ek : ks = (lastT R G bs).1 := up_same up (cellsI_up _) fun k => by
      rw [mem k]
      show _ ↔ k ∈ cellsI (comb G (maskI (oddC (cellsI (chg R bs)) (cellsI (chg G bs)))) ^^^ maskI (oddC (cellsI (chg R bs)) (cellsI (chg G bs))))
      rw [cells_xor]
      have := cells_mask o1 (fun k hk => (o2 k hk).1) k
      rw [show decide (k ∈ cellsI (maskI (oddC (cellsI (chg R bs)) (cellsI (chg G bs))))) = decide (k ∈ oddC (cellsI (chg R bs)) (cellsI (chg G bs))) from decide_eq_decide.mpr this]
    rw [ek] at e6
    have s26 := (s24.trans s5).trans s6
    have f1 := L.fit _ (List.mem_singleton.mpr rfl)
    have upt : (lastT R G bs).1.Pairwise (· < ·) := cellsI_up _
    have uph : (lastT R G bs).2.Pairwise (· < ·) := cellsI_up _
    have b1 : ∀ k ∈ (lastT R G bs).1, 0 ≤ k ∧ k < 40 := fun k hk => by
      have := f1.1 k hk
      exact ⟨by omega, by omega⟩
    have b2 : ∀ k ∈ (lastT R G bs).2, 1 ≤ k ∧ k < 40 := fun k hk => by
      have := f1.2.1 k hk
      exact ⟨by omega, by omega⟩
    have l1 := cells_few (up_nodup upt) b1
    have l2 := cells_few (up_nodup uph) fun k hk => by have := b2 k hk; exact ⟨by omega, by omega⟩
    have ea6 : H6 a = some (.tup ((lastT R G bs).2.map V.int)) := s26 _ _ ea
    refine ⟨_, rfl, made_flip (W := fun x H' => Q (.ref x) H') (.inr (SqT.of e6)) (.inr (SqT.of ea6)) (by omega) (by omega) b1 b2 (up_nodup upt) (up_nodup uph) f1.2.2 fun x ts' hs' H7 hx s7 p1 p2 w1 w2 fp => ?_⟩
    have e1 := sort_same p1 w1 upt
    have e2 := sort_same p2 w2 uph
    rw [e1, e2] at fp
    have s17 := (s1.trans s26).trans s7
    exact out x G H7 iv L ((s1.trans s26).free hx) s17 fp ⟨b1, b2, up_nodup upt, up_nodup uph, l1, l2⟩ upt uph
end
end K49
namespace K49
open PySem PySem.Spec PyProof.Rows L2 Par Msk
open Rnk (Rk In Add px)
theorem Fls.snoc {CF : Addr} {H : Hp} {f : Addr} {t : List Int × List Int} (hf : Fp CF H f t.1 t.2) (ok : OkF t.1 t.2) : ∀ {fs : List Addr} {ps : List (List Int × List Int)}, Fls CF H fs ps → Fls CF H (fs ++ [f]) (ps ++ [t])
  | [], [], _ => ⟨hf, ok, True.intro⟩
  | _ :: _, _ :: _, h => ⟨h.1, h.2.1, h.2.2.snoc hf ok⟩
  | [], _ :: _, h => h.elim
  | _ :: _, [], h => h.elim
theorem Fls.len_ {CF : Addr} {H : Hp} : ∀ {fs : List Addr} {ps : List (List Int × List Int)}, Fls CF H fs ps → fs.length = ps.length
  | [], [], _ => rfl
  | _ :: _, _ :: _, h => by rw [List.length_cons, List.length_cons, h.2.2.len_]
  | [], _ :: _, h => h.elim
  | _ :: _, [], h => h.elim
theorem Fls.app {CF : Addr} {H : Hp} {gs : List Addr} {qs : List (List Int × List Int)} (h2 : Fls CF H gs qs) : ∀ {fs : List Addr} {ps : List (List Int × List Int)}, Fls CF H fs ps → Fls CF H (fs ++ gs) (ps ++ qs)
  | [], [], _ => h2
  | _ :: _, _ :: _, h => ⟨h.1, h.2.1, Fls.app h2 h.2.2⟩
  | [], _ :: _, h => h.elim
  | _ :: _, [], h => h.elim
theorem Fls.rev {CF : Addr} {H : Hp} : ∀ {fs : List Addr} {ps : List (List Int × List Int)}, Fls CF H fs ps → Fls CF H fs.reverse ps.reverse
  | [], [], _ => True.intro
  | f :: fs, t :: ts, h => by
    rw [List.reverse_cons, List.reverse_cons]
    exact Fls.app (show Fls CF H [f] [t] from ⟨h.1, h.2.1, True.intro⟩) h.2.2.rev
  | [], _ :: _, h => h.elim
  | _ :: _, [], h => h.elim
/-- flips stay where lists change -/
theorem Fls.keep {CF : Addr} {H H' : Hp} (k : ∀ x o, (∀ xs, o ≠ HO.lst xs) → H x = some o → H' x = some o) : ∀ {fs : List Addr} {ps : List (List Int × List Int)}, Fls CF H fs ps → Fls CF H' fs ps
  | [], [], _ => True.intro
  | _ :: _, _ :: _, h => ⟨by
      obtain ⟨dx, t, u, h1, h2, h3⟩ := h.1
      exact ⟨dx, t, u, k _ _ (fun _ z => nomatch z) h1, k _ _ (fun _ z => nomatch z) h2, k _ _ (fun _ z => nomatch z) h3⟩, h.2.1, h.2.2.keep k⟩
  | [], _ :: _, h => h.elim
  | _ :: _, [], h => h.elim
theorem Tb.keepL {C : Addr} {H H' : Hp} {g : Addr} {R : List Nat} (k : ∀ x o, (∀ xs, o ≠ HO.lst xs) → H x = some o → H' x = some o) (h : Tb C H g R) : Tb C H' g R := by
  obtain ⟨dx, t, h1, h2⟩ := h
  exact ⟨dx, t, k _ _ (fun _ z => nomatch z) h1, k _ _ (fun _ z => nomatch z) h2⟩
/-- a flip that is not idle, in order -/
def Bsy (t : List Int × List Int) : Prop := t.1 ≠ [] ∧ t.2 ≠ [] ∧ t.1.Pairwise (· < ·) ∧ t.2.Pairwise (· < ·)
/-- led to the identity: the flips in reverse order are the table -/
theorem rep_home {R : List Nat} {n : Nat} {ps qs : List (List Int × List Int)} (rep : Rep R n ps) (fit : Fit1 n ps) (fq : Fit1 n qs) (id_ : Rep (oneM n) n (ps ++ qs)) : Rep R n qs.reverse := by
  refine ⟨rep.len, rep.lt, fun bs ok hl i hi => ?_⟩
  rw [rep.does bs ok hl i hi]
  have sp := sb_run fit ⟨ok, hl⟩
  have e : runB (runB bs ps) qs = bs := by
    rw [← run_app]
    refine List.ext_getElem (by rw [run_len]) fun j h1 h2 => ?_
    have a := id_.does bs ok hl j (by rw [← hl]; exact h2)
    have b := (rep_one n).does bs ok hl j (by rw [← hl]; exact h2)
    rw [b] at a
    have a2 : bs.getD j 0 = (runB bs (ps ++ qs)).getD j 0 := a
    rw [List.getD_eq_getElem?_getD, List.getD_eq_getElem?_getD, List.getElem?_eq_getElem h1, List.getElem?_eq_getElem h2] at a2
    exact a2.symm
  have b := back fq sp
  rw [e] at b
  rw [b]
section
variable {P : Program} {w : World} {K : PySem.W.Frag} {mg : Str → Option Value} {base : Heap}
/-- shortest_flips -/
def spShort (C CF : Addr) : Sp := fun vs H Q _ => ∃ (g : Addr) (R : List Nat) (n : Nat) (ps : List (List Int × List Int)), vs = [.ref g] ∧ Tb C H g R ∧ Rep R n ps ∧ Fit1 n ps ∧ 1 ≤ n ∧ n ≤ 40 ∧
  ∀ q (fs : List Addr) (qs : List (List Int × List Int)) H', H q = none → Same H H' → H' q = some (.lst (fs.map V.ref)) → Fls CF H' fs qs → Sh R qs.reverse → Fit1 n qs → Rep R n qs → Rk (Ch n ps) qs.length → (∀ t ∈ qs, Bsy t) → qs.length ≤ 40 → Q (.ref q) H'
abbrev nShort : List Str := ["table", "backwards", "rest", "last"]
theorem scShort : FnScope nShort ["table"] (defScope sShort) := ⟨rfl, rfl, rfl, by decide +kernel, rfl, by decide +kernel, by decide +kernel⟩
theorem ok_short {f C CB CF : Addr} {fd : FuncData} (F : Fun K "shortest_flips" "shortest_flips" sShort f fd) (T : TC K mg C) (DZ : HasM P w K mg base C "is_identity" 3 ["self"] (spIsId C)) (DB : Has P w K mg base "changed_board" 8 ["table"] (spCB C CB)) (DL : Has P w K mg base "last_flip" 10 ["table", "board"] (spLast K C CB CF))
    (DH : HasM P w K mg base C "then" 9 ["self", "later"] (spThen C)) (DQ : Has P w K mg base "table_of" 9 ["size", "flips"] (spTabOf K C CF)) (DS : HasM P w K mg base C "size" 2 ["self"] (spTSize C)) (DR : Has P w K mg base "reversed_flips" 2 ["flips"] (spRev K)) : FnOk P w K mg base CX0 11 f fd ["table"] (spShort C CF) := by
  obtain ⟨fZ, fdZ, GZ, mZ, bZ⟩ := DZ
  obtain ⟨fB, fdB, GB, mB, kB, bB⟩ := DB
  obtain ⟨fL, fdL, GL, mL, kL, bL⟩ := DL
  obtain ⟨fH, fdH, GH, mH, bH⟩ := DH
  obtain ⟨fQ, fdQ, GQ, mQ, kQ, bQ⟩ := DQ
  obtain ⟨fS, fdS, GS, mS, bS⟩ := DS
  obtain ⟨fR, fdR, GR, mR, kR, bR⟩ := DR
  refine F.ok scShort (fun vs H Q E h => ?_) (fun cdv A outer s H vs Q E hr h => ?_)
  · obtain ⟨g, R, n, ps, rfl, _⟩ := h
    rfl
  · obtain ⟨g, R, n, ps, rfl, tb, rep, fit, n1, n40, out⟩ := h
    have r2 : Room 2 _ := hr.mono (by decide)
    have r3 : Room 3 _ := hr.mono (by decide)
    have r8 : Room 8 _ := hr.mono (by decide)
    have r9 : Room 9 _ := hr.mono (by decide)
    have r10 : Room 10 _ := hr
    obtain ⟨r, rk⟩ := Rk.ex (S := Ch n ps) (n := 2 ^ n) fun x ⟨bs, _, e⟩ => by
      rw [e]
      exact chN_lt _ _ _
    have r40 : r ≤ 40 := by
      have := dep_cells fit n1 rk
      omega
    refine ⟨_, (pss_cons (ps_set (i := 1) scShort.nd rfl (Or.inl rfl) (pe_lst pa_nil))
      (pss_cons (ps_set (i := 2) scShort.nd rfl (Or.inl rfl) (pv 0))
      (pss_cons (ps_while PassesOwn.never (pt_not (pt_val (pe_meth0 (pv 2) T.cl mZ GZ r3 bZ .nil pass0))) (pss_cons (ps_set (i := 3) scShort.nd rfl (Or.inl rfl) (pe_call GL r10 (by rfl) mL kL bL .nil pass0 (pa_cons (pv 2) (pa_cons (pe_call GB r8 (by rfl) mB kB bB .nil pass0 (pa_cons (pv 2) pa_nil)) pa_nil))))
      (pss_cons (ps_expr (pe_bm PySem.F.plainAttrs_list PySem.F.slot_list_append PySem.F.type_list_append mt_append (pv 1) (pa_cons (pv 3) pa_nil)))
      (pss_one (ps_set (i := 2) scShort.nd rfl (Or.inl rfl) (pe_meth (pv 2) T.cl mH GH r9 bH .nil pass0 (pa_cons (pe_call GQ r9 (by rfl) mQ kQ bQ .nil pass0 (pa_cons (pe_meth0 (pv 2) T.cl mS GS r2 bS .nil pass0) (pa_cons (pe_lst (pa_cons (pv 3) pa_nil)) pa_nil))) pa_nil)))))))
      (pss_one (ps_ret (pe_call GR r2 (by rfl) mR kR bR .nil pass0 (pa_cons (pv 1) pa_nil))))))), ?_⟩
    refine ⟨(by show 0 ≤ sizeLine; decide), fun bw hbw => ?_⟩
    have s0 := same_new (o := .lst []) hbw
    refine ⟨_, rfl, ?_⟩
    refine while_by (fun σ H' => ∃ (gr : Addr) (v3 : Option V) (R' : List Nat) (fs : List Addr) (qs : List (List Int × List Int)) (r' : Nat), σ = [some (.ref g), some (.ref bw), some (.ref gr), v3] ∧ Same H H' ∧ H' bw = some (.lst (fs.map V.ref)) ∧ Fls CF H' fs qs ∧ Tb C H' gr R' ∧ Rep R' n (ps ++ qs) ∧ Fit1 n qs ∧
        (∀ tail, Sh R' tail → Sh R (qs ++ tail)) ∧ (∀ t ∈ qs, Bsy t) ∧ Rk (Ch n (ps ++ qs)) r' ∧ qs.length + r' = r)
      (fun _ H' => match H' bw with
        | some (.lst xs) => r - xs.length
        | _ => 0) ⟨g, none, R, [], [], r, rfl, s0, upd_same, True.intro, tb.same s0, by rw [List.append_nil]; exact rep, (fun t ht => nomatch ht), fun tail h => h, (fun t ht => nomatch ht), by rw [List.append_nil]; exact rk, by rw [List.length_nil, Nat.zero_add]⟩ ?_ ?_
    · rintro σ H1 ⟨gr, v3, R', fs, qs, r', rfl, s1, ebw, fls, tbr, repr_, fq, sh, bsy, rk', cnt⟩
      have fitq := fit_app fit fq
      have gR' := rep_good repr_ fitq n1 n40
      have lR' := repr_.len
      have lf := fls.len_
      obtain ⟨dx, t0, h1, h2⟩ := id tbr
      refine ⟨_, rfl, gr, dx, _, rfl, h1, no_fldM (by decide +kernel), gr, R', rfl, tbr, gR'.l40, fun H2 s2 => ⟨_, rfl, ?_⟩⟩
      rw [lR']
      by_cases z : R' = oneM n
      · rw [decide_eq_true z]
        refine iteF ?_
        have r0 : r' = 0 := (dep_zero repr_ n1 n40 rk').mpr z
        have ebw2 := s2 _ _ ebw
        refine ⟨_, rfl, bw, _, rfl, .inl (SqL.of ebw2), fun q H3 hq s3 e3 => ?_⟩
        have s03 := (s1.trans s2).trans s3
        rw [← List.map_reverse] at e3
        have repq : Rep R n qs.reverse := rep_home rep fit fq (by rw [← z]; exact repr_)
        have lenr : qs.length = r := by omega
        have shq : Sh R (qs ++ []) := sh [] (.done (by rw [lR', z]))
        rw [List.append_nil] at shq
        refine out q fs.reverse qs.reverse H3 ((s1.trans s2).free hq) s03 e3 ((fls.same (s2.trans s3)).rev) (by rw [List.reverse_reverse]; exact shq) (fit_rev fq) repq (by rw [List.length_reverse, lenr]; exact rk) (fun t ht => bsy t (List.mem_reverse.mp ht)) (by rw [List.length_reverse]; omega)
      · rw [decide_eq_false z]
        refine iteT ?_
        have tb2 := tbr.same s2
        obtain ⟨_, _, _, _, _, _, ch⟩ := cb_ok repr_ n1 n40 z
        have rp : r' ≠ 0 := fun y => z ((dep_zero repr_ n1 n40 rk').mp y)
        refine ⟨_, rfl, _, rfl, gr, R', n, ps ++ qs, rfl, tb2, repr_, fitq, n1, n40, z, fun b H3 hb s3 bd => ?_⟩
        refine ⟨gr, b, R', n, ps ++ qs, _, rfl, tb2.same s3, repr_, fitq, n1, n40, bd, ej_sb n1 n40, ch, fun q G H4 iv L hq s4 fp okf u1 u2 => ?_⟩
        obtain ⟨t, et⟩ : ∃ t, t = lastT R' G (ej n (cbK R')) := ⟨_, rfl⟩
        have Lf := L.fit
        have Ld := L.dep
        have Lb := L.busy
        rw [← et] at fp okf u1 u2 Lf Ld Lb
        have s24 := (s2.trans s3).trans s4
        have s14 := s1.trans s24
        have ebw4 := s24 _ _ ebw
        refine ⟨_, rfl, .inl ⟨rfl, _, SqL.of ebw4⟩, _, rfl, bw, _, _, rfl, rfl, ebw4, (by rw [List.length_map]; exact small1000 (by omega)), ?_⟩
        have kp : ∀ x o, (∀ xs, o ≠ HO.lst xs) → H4 x = some o → (upd H4 bw (.lst (fs.map V.ref ++ [V.ref q]))) x = some o := fun x o nl e => by
          rw [upd_ne fun y => by rw [y, ebw4] at e; exact nl _ (Option.some.inj e).symm]
          exact e
        have s05 : Same H (upd H4 bw (.lst (fs.map V.ref ++ [V.ref q]))) := fun x o e => by
          rw [upd_ne (ne_of_none e hbw)]
          exact s14 x o e
        have fls5 : Fls CF (upd H4 bw (.lst (fs.map V.ref ++ [V.ref q]))) (fs ++ [q]) (qs ++ [t]) := Fls.keep kp (Fls.snoc fp okf (fls.same s24))
        have tb5 : Tb C (upd H4 bw (.lst (fs.map V.ref ++ [V.ref q]))) gr R' := Tb.keepL kp (tb2.same (s3.trans s4))
        have fp5 : Fp CF (upd H4 bw (.lst (fs.map V.ref ++ [V.ref q]))) q t.1 t.2 := (Fls.keep kp (fs := [q]) (ps := [t]) ⟨fp, okf, True.intro⟩).1
        have ebw5 : (upd H4 bw (.lst (fs.map V.ref ++ [V.ref q]))) bw = some (.lst ((fs ++ [q]).map V.ref)) := by rw [upd_same, List.map_append]; rfl
        generalize upd H4 bw (.lst (fs.map V.ref ++ [V.ref q])) = H5 at s05 fls5 tb5 fp5 ebw5 ⊢
        obtain ⟨d5, w5, a5, _⟩ := id tb5
        refine ⟨_, rfl, gr, d5, _, rfl, a5, no_fldM (by decide +kernel), ?_⟩
        refine ⟨_, rfl, gr, d5, _, rfl, a5, no_fldM (by decide +kernel), gr, R', rfl, tb5, ?_⟩
        refine ⟨_, rfl, (by show 1 ≤ sizeLine; decide), fun l hl => ?_⟩
        have s6 := same_new (o := .lst [V.ref q]) hl
        rw [lR']
        refine ⟨n, l, [q], [t], rfl, n1, n40, .inl (SqL.of upd_same), ⟨fp5.same s6, okf, True.intro⟩, Lf, fun g2 R2 H7 rep2 hg2 s7 tb7 => ?_⟩
        have gR2 := rep_good rep2 Lf n1 n40
        have s67 := s6.trans s7
        refine ⟨gr, g2, R', R2, rfl, tb5.same s67, tb7, gR', gR2, (by rw [lR', rep2.len]), fun g3 H8 hg3 s8 tb8 => ?_⟩
        have s58 := s67.trans s8
        have repc : Rep (comp R' R2) n ((ps ++ qs) ++ [t]) := rep_comp repr_ rep2 fitq
        have reps := rep_step (t := t) repr_ (Lf t (List.mem_singleton.mpr rfl)).1
        have er : comp R' R2 = aftM R' t.1 t.2 := rep_eq repc reps n1 n40 fun _ _ _ => rfl
        obtain ⟨r2', rk2⟩ := Rk.ex (S := Ch n ((ps ++ qs) ++ [t])) (n := 2 ^ n) fun x ⟨bs, _, e⟩ => by
          rw [e]
          exact chN_lt _ _ _
        have dr := Ld r' r2' rk' rk2
        refine ⟨⟨g3, _, comp R' R2, fs ++ [q], qs ++ [t], r2', rfl, s05.trans s58, s58 _ _ ebw5, fls5.same s58, tb8, by rw [← List.append_assoc]; exact repc, fit_app fq Lf, fun tail ht => ?_, fun y hy => ?_, by rw [← List.append_assoc]; exact rk2, ?_⟩, ?_⟩
        · rw [List.append_assoc]
          refine sh _ (.step (G := G) (by rw [lR']; exact z) (by rw [lR']; exact iv) (by rw [lR']; exact et) ?_)
          rw [← er]
          exact ht
        · rcases List.mem_append.mp hy with w | w
          · exact bsy y w
          · rw [List.mem_singleton.mp w]
            exact ⟨Lb.1, Lb.2, u1, u2⟩
        · rw [List.length_append]
          show qs.length + 1 + r2' = r
          omega
        · show (match H8 bw with | some (.lst xs) => r - xs.length | _ => 0) < (match H1 bw with | some (.lst xs) => r - xs.length | _ => 0)
          rw [s58 _ _ ebw5, ebw]
          show r - ((fs ++ [q]).map V.ref).length < r - (fs.map V.ref).length
          rw [List.length_map, List.length_map, List.length_append]
          show r - (fs.length + 1) < r - fs.length
          omega
    · rintro σ H' Q1 Q2 hm ⟨x, e1, a1, d2, f1, q1, q2, q3, b1, m1, q4, q5, q6, f⟩
      refine ⟨x, e1, a1, d2, f1, q1, q2, q3, b1, m1, q4, q5, q6, fun H3 s3 => ?_⟩
      obtain ⟨c, ec, h⟩ := f H3 s3
      exact ⟨c, ec, hm _ _ h⟩
end
end K49
namespace K49
open PySem PySem.Spec PyProof.Rows L2 Par Msk
open Rnk (Rk)
abbrev sEnd : Stmt := topS 57
theorem rep_img {R : List Nat} {n : Nat} {qs : List (List Int × List Int)} {bs : List Int} (rep : Rep R n qs) (sb : Sb n bs) : (R.map fun m => parB bs (cellsI m)) = runB bs qs := by
  have lR := rep.len
  refine List.ext_getElem (by rw [run_len, List.length_map, lR, sb.2]) fun j h1 h2 => ?_
  rw [List.getElem_map]
  have d := rep.does bs sb.1 sb.2 j (by rw [run_len, sb.2] at h2; exact h2)
  rw [List.getD_eq_getElem?_getD, List.getD_eq_getElem?_getD, List.getElem?_eq_getElem h2, List.getElem?_eq_getElem (by rw [List.length_map] at h1; exact h1)] at d
  exact d
theorem rep_run {R : List Nat} {n : Nat} {ps qs : List (List Int × List Int)} {bs : List Int} (h : Rep R n ps) (k : Rep R n qs) (sb : Sb n bs) : runB bs ps = runB bs qs := by
  rw [← rep_img h sb, rep_img k sb]
/-- the flips that lead there and end at the board -/
def EndOf (R : List Nat) (bs : List Int) (qs : List (List Int × List Int)) : Prop := ∃ (G : List Nat) (t : List Int × List Int) (rs : List (List Int × List Int)), Inv2 R.length R G ∧ t = lastT R G bs ∧ Sh (aftM R t.1 t.2) rs.reverse ∧ qs = rs ++ [t]
theorem EndOf.only {R : List Nat} {bs : List Int} {qs qs' : List (List Int × List Int)} (h : EndOf R bs qs) (k : EndOf R bs qs') : qs = qs' := by
  obtain ⟨G, t, rs, iv, et, sh, rfl⟩ := h
  obtain ⟨G', t', rs', iv', et', sh', rfl⟩ := k
  have eg := iv.only iv'.g iv'.ag
  rw [eg] at et'
  have e : t = t' := et.trans et'.symm
  subst e
  rw [List.reverse_inj.mp (sh.only sh')]
/-- what holds of them -/
structure Ends_ (R : List Nat) (n : Nat) (ps : List (List Int × List Int)) (bs : List Int) (qs : List (List Int × List Int)) : Prop where
  eo : EndOf R bs qs
  fit : Fit1 n qs
  rep : Rep R n qs
  rk : Rk (Ch n ps) qs.length
  busy : ∀ t ∈ qs, Bsy t
  few : qs.length ≤ 41
  home : runB bs qs.dropLast = bs
  last : ∃ t, qs.getLast? = some t ∧ aftB bs t.1 t.2 ≠ bs
section
variable {P : Program} {w : World} {K : PySem.W.Frag} {mg : Str → Option Value} {base : Heap}
/-- shortest_ending_at -/
def spEnd (C CB CF : Addr) : Sp := fun vs H Q _ => ∃ (g bd : Addr) (R : List Nat) (n : Nat) (ps : List (List Int × List Int)) (bs : List Int), vs = [.ref g, .ref bd] ∧ Tb C H g R ∧ Rep R n ps ∧ Fit1 n ps ∧ 1 ≤ n ∧ n ≤ 40 ∧ Bd CB H bd bs ∧ OkB bs ∧ bs.length = n ∧ chN n bs (runB bs ps) ≠ 0 ∧
  ∀ q (fs : List Addr) (qs : List (List Int × List Int)) H', H q = none → Same H H' → H' q = some (.lst (fs.map V.ref)) → Fls CF H' fs qs → Ends_ R n ps bs qs → Q (.ref q) H'
abbrev nEnd : List Str := ["table", "board", "last"]
theorem scEnd : FnScope nEnd ["table", "board"] (defScope sEnd) := ⟨rfl, rfl, rfl, by decide +kernel, rfl, by decide +kernel, by decide +kernel⟩
theorem ok_end {f C CB CF : Addr} {fd : FuncData} (F : Fun K "shortest_ending_at" "shortest_ending_at" sEnd f fd) (T : TC K mg C) (DC : Has P w K mg base "changes_of" 9 ["table", "board"] (spChanges C CB))
    (DL : Has P w K mg base "last_flip" 10 ["table", "board"] (spLast K C CB CF)) (DS : Has P w K mg base "shortest_flips" 11 ["table"] (spShort C CF)) (DH : HasM P w K mg base C "then" 9 ["self", "later"] (spThen C)) (DQ : Has P w K mg base "table_of" 9 ["size", "flips"] (spTabOf K C CF)) (DZ : HasM P w K mg base C "size" 2 ["self"] (spTSize C)) :
    FnOk P w K mg base CX0 12 f fd ["table", "board"] (spEnd C CB CF) := by
  obtain ⟨fC, fdC, GC, mC, kC, bC⟩ := DC
  obtain ⟨fL, fdL, GL, mL, kL, bL⟩ := DL
  obtain ⟨fS, fdS, GS, mS, kS, bS⟩ := DS
  obtain ⟨fH, fdH, GH, mH, bH⟩ := DH
  obtain ⟨fQ, fdQ, GQ, mQ, kQ, bQ⟩ := DQ
  obtain ⟨fZ, fdZ, GZ, mZ, bZ⟩ := DZ
  refine F.ok scEnd (fun vs H Q E h => ?_) (fun cdv A outer s H vs Q E hr h => ?_)
  · obtain ⟨g, bd, R, n, ps, bs, rfl, _⟩ := h
    rfl
  · obtain ⟨g, bd, R, n, ps, bs, rfl, tb, rep, fit, n1, n40, hb, okb, z, y, good⟩ := h
    have r2 : Room 2 _ := hr.mono (by decide)
    have r9 : Room 9 _ := hr.mono (by decide)
    have r10 : Room 10 _ := hr.mono (by decide)
    have gR := rep_good rep fit n1 n40
    have lR := rep.len
    refine ⟨_, (pss_cons (ps_if (pt_not (pt_truth (pe_call GC r9 (by rfl) mC kC bC .nil pass0 (pa_cons (pv 0) (pa_cons (pv 1) pa_nil))) (fun _ => rfl))) (pss_one ps_off) pss_nil)
      (pss_cons (ps_set (i := 2) scEnd.nd rfl (Or.inl rfl) (pe_call GL r10 (by rfl) mL kL bL .nil pass0 (pa_cons (pv 0) (pa_cons (pv 1) pa_nil))))
      (pss_one (ps_ret (pe_op op_cat (pe_call GS hr (by rfl) mS kS bS .nil pass0 (pa_cons (pe_meth (pv 0) T.cl mH GH r9 bH .nil pass0 (pa_cons (pe_call GQ r9 (by rfl) mQ kQ bQ .nil pass0 (pa_cons (pe_meth0 (pv 0) T.cl mZ GZ r2 bZ .nil pass0) (pa_cons (pe_lst (pa_cons (pv 2) pa_nil)) pa_nil))) pa_nil)) pa_nil)) (pe_lst (pa_cons (pv 2) pa_nil))))))), ?_⟩
    have sb : Sb n bs := ⟨okb, z⟩
    refine ⟨_, rfl, _, rfl, g, bd, R, bs, rfl, tb, gR, hb, okb, by omega, fun c H1 hc s1 e1 => ?_⟩
    rw [chg_run rep fit sb] at e1
    have em : ((cellsI (chN n bs (runB bs ps))).map V.int).isEmpty = decide (chN n bs (runB bs ps) = 0) := by
      by_cases z : chN n bs (runB bs ps) = 0
      · rw [z]
        rfl
      · rw [decide_eq_false z]
        cases ec : cellsI (chN n bs (runB bs ps)) with
        | nil =>
          have := mask_cells (ns := ([] : List Int)) (m := chN n bs (runB bs ps)) List.nodup_nil fun k => by rw [ec]
          exact absurd this.symm z
        | cons _ _ => rfl
    refine ⟨_, .inr (.inl ⟨_, SqT.of e1, rfl⟩), ?_⟩
    rw [em]
    rw [decide_eq_false y]
    refine iteF ?_
    refine ⟨_, rfl, _, rfl, g, bd, R, n, ps, bs, rfl, tb.same s1, rep, fit, n1, n40, hb.same s1, sb, y, fun q G H2 iv L hq s2 fp okf u1 u2 => ?_⟩
    obtain ⟨t, et⟩ : ∃ t, t = lastT R G bs := ⟨_, rfl⟩
    have Lf := L.fit
    have Ld := L.dep
    have Lb := L.busy
    have Lh := L.home
    rw [← et] at fp okf u1 u2 Lf Ld Lb Lh
    have s02 := s1.trans s2
    have tb2 := tb.same s02
    obtain ⟨dx, w0, h1, _⟩ := id tb2
    refine ⟨_, rfl, g, dx, _, rfl, h1, no_fldM (by decide +kernel), ?_⟩
    refine ⟨_, rfl, g, dx, _, rfl, h1, no_fldM (by decide +kernel), g, R, rfl, tb2, ?_⟩
    refine ⟨_, rfl, (by show 1 ≤ sizeLine; decide), fun l hl => ?_⟩
    have s3 := same_new (o := .lst [V.ref q]) hl
    rw [lR]
    refine ⟨n, l, [q], [t], rfl, n1, n40, .inl (SqL.of upd_same), ⟨fp.same s3, okf, True.intro⟩, Lf, fun g2 R2 H4 rep2 hg2 s4 tb4 => ?_⟩
    have gR2 := rep_good rep2 Lf n1 n40
    have s34 := s3.trans s4
    refine ⟨g, g2, R, R2, rfl, tb2.same s34, tb4, gR, gR2, (by rw [lR, rep2.len]), fun g3 H5 hg3 s5 tb5 => ?_⟩
    have repc : Rep (comp R R2) n (ps ++ [t]) := rep_comp rep rep2 fit
    have reps := rep_step (t := t) rep (Lf t (List.mem_singleton.mpr rfl)).1
    have er : comp R R2 = aftM R t.1 t.2 := rep_eq repc reps n1 n40 fun _ _ _ => rfl
    have fitc := fit_app fit Lf
    refine ⟨g3, comp R R2, n, ps ++ [t], rfl, tb5, repc, fitc, n1, n40, fun w1 fs qs H6 hw s6 ew fls sh fitq repq rkq bsy few => ?_⟩
    have s25 := s34.trans s5
    have s26 := s25.trans s6
    refine ⟨_, rfl, (by show 1 ≤ sizeLine; decide), fun m hm => ?_⟩
    have s7 := same_new (o := .lst [V.ref q]) hm
    have em7 : (upd H6 m (.lst [V.ref q])) m = some (.lst [V.ref q]) := upd_same
    generalize upd H6 m (.lst [V.ref q]) = H7 at s7 em7 ⊢
    have ew7 := s7 _ _ ew
    have lf := fls.len_
    refine ⟨w1, m, fs.map V.ref, [V.ref q], rfl, rfl, ew7, em7, (by rw [List.length_map, sizeLine_eq]; show fs.length + 1 ≤ _; omega), fun r hr7 => ?_⟩
    have s8 := same_new (o := .lst (fs.map V.ref ++ [V.ref q])) hr7
    have s28 := (s26.trans s7).trans s8
    have s08 := s02.trans s28
    obtain ⟨rr, rkr⟩ := Rk.ex (S := Ch n ps) (n := 2 ^ n) fun x ⟨bs, _, e⟩ => by
      rw [e]
      exact chN_lt _ _ _
    have dr := Ld rr qs.length rkr rkq
    refine good r (fs ++ [q]) (qs ++ [t]) _ ((s02.trans (s26.trans s7)).free hr7) s08 (by rw [upd_same, List.map_append]; rfl) (Fls.snoc (fp.same s28) okf (fls.same (s7.trans s8))) ?_
    have hm_ : ∀ x, Sb n x → runB x qs = runB x (ps ++ [t]) := fun x sx => rep_run repq repc sx
    have twice : ∀ x, Sb n x → runB (runB x [t]) [t] = x := fun x sx => back Lf sx
    refine ⟨⟨G, t, qs, by rw [lR]; exact iv, et, by rw [← er]; exact sh, rfl⟩, fit_app fitq Lf, ?_, ?_, ?_, ?_, ?_, ?_⟩
    · refine ⟨rep.len, rep.lt, fun x ok hl i hi => ?_⟩
      rw [rep.does x ok hl i hi, run_app, hm_ x ⟨ok, hl⟩, run_app, twice _ (sb_run fit ⟨ok, hl⟩)]
    · rw [List.length_append]
      show Rk (Ch n ps) (qs.length + 1)
      rw [dr]
      exact rkr
    · intro x hx
      rcases List.mem_append.mp hx with w | w
      · exact bsy x w
      · rw [List.mem_singleton.mp w]
        exact ⟨Lb.1, Lb.2, u1, u2⟩
    · rw [List.length_append]
      show qs.length + 1 ≤ 41
      omega
    · rw [List.dropLast_concat, hm_ bs sb]
      exact Lh
    · refine ⟨t, by rw [List.getLast?_append]; rfl, fun e => ?_⟩
      have h2 : runB bs [t] = bs := e
      rw [run_app] at Lh
      have h3 := twice _ (sb_run fit sb)
      rw [Lh] at h3
      rw [h2] at h3
      exact y (by rw [← h3]; exact chN_self n bs)
end
end K49
namespace K49
open PySem PySem.Spec PyProof.Rows L2 Par Msk
theorem app_len (a b : Str) : (a ++ b).length = a.length + b.length := by simp [Str.length, Str.cps_append]
/-- the texts of a flip -/
def flipT (ts hs : List Int) : Str := cellsT ts ++ ">" ++ cellsT hs
def shownL (ns : List Int) : Str := (PyData.list (ns.map .int)).shown
def reprT (ts hs : List Int) : Str := "Flip(tested=" ++ shownL ts ++ ", toggled=" ++ shownL hs ++ ")"
theorem okF_in {ts hs : List Int} (h : OkF ts hs) : (∀ k ∈ ts, 0 ≤ k ∧ k < 40) ∧ (∀ k ∈ hs, 0 ≤ k ∧ k < 40) ∧ ts.length ≤ 40 ∧ hs.length ≤ 40 := ⟨h.1, fun k hk => by have := h.2.1 k hk; omega, h.2.2.2.2.1, h.2.2.2.2.2⟩
def boardT (bs : List Int) : Str := "Board(" ++ Str.ofString (toString ((bs.length : Nat) : Int)) ++ ", up=" ++ shownL (upF 0 bs) ++ ")"
def bitsT (bs : List Int) : Str := Txt.join "" (bs.map fun k => Str.ofString (toString k))
theorem len3 : ∀ n : Nat, n ≤ 40 → (Str.ofString (toString ((n : Nat) : Int))).length ≤ 2 := by decide +kernel
theorem upF_len0 (bs : List Int) : (upF 0 bs).length ≤ bs.length := upF_len 0 bs
theorem upF_cells {bs : List Int} (h : bs.length ≤ 40) : ∀ k ∈ upF 0 bs, 0 ≤ k ∧ k < 40 := fun k hk => by
  have := upF_in hk
  omega
def Rs (C : Addr) : Addr → Str → Hp → Prop := fun a t H => ∃ ks js, Fp C H a ks js ∧ OkF ks js ∧ t = reprT ks js
theorem mon_s {C : Addr} : ∀ x t H H', Same H H' → DOwn C (Rs C) x t H → DOwn C (Rs C) x t H' := fun x t H H' s d => by
  obtain ⟨a, dx, fs, hx, e, ks, js, h1, h2⟩ := d
  exact ⟨a, dx, fs, hx, s _ _ e, ks, js, h1.same s, h2⟩
def textsF (ps : List (List Int × List Int)) : List Str := ps.map fun p => reprT p.1 p.2
theorem shows_f {C : Addr} {H : Hp} : ∀ {fs : List Addr} {ps : List (List Int × List Int)}, Fls C H fs ps → ShAll (DOwn C (Rs C)) (fs.map V.ref) (textsF ps) H
  | [], [], _ => ⟨rfl, fun i x t h _ => by simp at h⟩
  | f :: fs, p :: ps, h => by
    obtain ⟨dx, x1, x2, e1, _⟩ := id h.1
    exact shAll_cons ⟨f, dx, _, rfl, e1, p.1, p.2, h.1, h.2.1, rfl⟩ (shows_f h.2.2)
  | [], _ :: _, h => h.elim
  | _ :: _, [], h => h.elim
theorem shownL_len {ns : List Int} (h : ∀ k ∈ ns, 0 ≤ k ∧ k < 40) (l : ns.length ≤ 40) : (shownL ns).length ≤ 200 := by
  have h1 := listText_le (PyData.shownAll (ns.map PyData.int))
  have h2 := piledAll (ds := ns.map PyData.int) (n := 2) fun d hd => by
    obtain ⟨k, hk, rfl⟩ := List.mem_map.mp hd
    exact lenK (h k hk)
  rw [List.length_map] at h2
  show (listText (PyData.shownAll (ns.map PyData.int))).length ≤ 200
  omega
theorem reprT_len {ts hs : List Int} (h : OkF ts hs) : (reprT ts hs).length ≤ 500 := by
  obtain ⟨i1, i2, l1, l2⟩ := okF_in h
  have c1 : (Str.ofString "Flip(tested=").length = 12 := by decide +kernel
  have c2 : (Str.ofString ", toggled=").length = 10 := by decide +kernel
  have c3 : (Str.ofString ")").length = 1 := by decide +kernel
  have b1 := shownL_len i1 l1
  have b2 := shownL_len i2 l2
  show ((Str.ofString "Flip(tested=") ++ shownL ts ++ (Str.ofString ", toggled=") ++ shownL hs ++ (Str.ofString ")")).length ≤ 500
  rw [app_len, app_len, app_len, app_len, c1, c2, c3]
  omega
theorem piled_f : ∀ {ps : List (List Int × List Int)}, (∀ t ∈ ps, OkF t.1 t.2) → piled (textsF ps) ≤ ps.length * 502
  | [], _ => Nat.zero_le _
  | p :: ps, h => by
    have ih := piled_f fun t ht => h t (List.mem_cons_of_mem _ ht)
    have := reprT_len (h p (List.mem_cons_self ..))
    show piled (reprT p.1 p.2 :: textsF ps) ≤ _
    rw [piled_cons, List.length_cons]
    omega
theorem texts_len {ps : List (List Int × List Int)} (h : ∀ t ∈ ps, OkF t.1 t.2) (l : ps.length ≤ 1000) : (listText (textsF ps)).length ≤ sizeLine := by
  have h1 := listText_le (textsF ps)
  have h2 := piled_f h
  rw [sizeLine_eq]
  omega
def Rbd (C : Addr) : Addr → Str → Hp → Prop := fun a t H => ∃ bs, Bd C H a bs ∧ OkB bs ∧ t = boardT bs
section
variable {P : Program} {w : World} {K : PySem.W.Frag} {mg : Str → Option Value} {base : Heap}
theorem scReprF : FnScope ["self"] ["self"] (defScope gRepr) := ⟨rfl, rfl, rfl, by decide +kernel, rfl, by decide +kernel, by decide +kernel⟩
/-- repr of a flip, wherever it is asked for -/
theorem ok_reprH {f C : Addr} {fd : FuncData} (F : Fun K "__repr__" "Flip.__repr__" gRepr f fd) (B : Bl mg) (T : FC K mg C) : FnH P w K mg base CX0 2 f fd ["self"] (spShow (Rs C)) := by
  refine fnH_of F scReprF (fun vs H Q E h => ?_) (fun g cdv A outer s H vs Q E gs cl hr h => ?_)
  · obtain ⟨f, t, rfl, _⟩ := h
    rfl
  · obtain ⟨f, t, rfl, ⟨ts, hs, ⟨dx, t1, t2, f1, f2, f3⟩, ok, rfl⟩, out⟩ := h
    obtain ⟨i1, i2, l1, l2⟩ := okF_in ok
    have hu := hr.units
    obtain ⟨g1, g2, g3⟩ := good_cells i1 l1
    obtain ⟨g4, g5, g6⟩ := good_cells i2 l2
    have b1 : (shownL ts).length ≤ 200000 := g3
    have b2 : (shownL hs).length ≤ 200000 := g6
    have c1 : (Str.ofString "Flip(tested=").length = 12 := by decide +kernel
    have c2 : (Str.ofString ", toggled=").length = 10 := by decide +kernel
    have c3 : (Str.ofString ")").length = 1 := by decide +kernel
    obtain ⟨sh1, dp1, ln1⟩ := shown_good (good_cells i1 l1)
    obtain ⟨sh2, dp2, ln2⟩ := shown_good (good_cells i2 l2)
    refine ⟨_, pss_one (ps_ret (pe_joined (.cons pe_str (.cons (pe_fmtH gs hu (pe_callTy call_list_of (by rfl) B.list (by decide +kernel) (pa_cons (pe_fld (pv 0) rfl) pa_nil))) (.cons pe_str (.cons (pe_fmtH gs hu (pe_callTy call_list_of (by rfl) B.list (by decide +kernel) (pa_cons (pe_fld (pv 0) rfl) pa_nil))) (.cons pe_str .nil))))))), ?_⟩
    refine ⟨_, rfl, ?_, ?_⟩
    · rw [Str.empty_append, c1, sizeLine_eq]
      omega
    refine ⟨_, rfl, f, C, dx, _, _, rfl, f1, T.cl, T.nT, fld1, t1, _, rfl, .inr (SqT.of f2), fun La hLa => ?_⟩
    have s1 := same_new (o := .lst (ts.map V.int)) hLa
    refine ⟨La, ts, rfl, cl La hLa, upd_same, sh1, ln1, _, rfl, ?_, ?_⟩
    · rw [Str.empty_append, app_len, c1, sizeLine_eq]
      show _ + (shownL ts).length ≤ _
      omega
    refine ⟨_, rfl, ?_, ?_⟩
    · rw [Str.empty_append, app_len, app_len, c1, c2, sizeLine_eq]
      show _ + (shownL ts).length + _ ≤ _
      omega
    refine ⟨_, rfl, f, C, dx, _, _, rfl, s1 _ _ f1, T.cl, T.nG, fld2, t2, _, rfl, .inr (SqT.of (s1 _ _ f3)), fun Lb hLb => ?_⟩
    have s2 := same_new (o := .lst (hs.map V.int)) hLb
    refine ⟨Lb, hs, rfl, cl Lb (s1.free hLb), upd_same, sh2, ln2, _, rfl, ?_, ?_⟩
    · rw [Str.empty_append, app_len, app_len, app_len, c1, c2, sizeLine_eq]
      show _ + (shownL ts).length + _ + (shownL hs).length ≤ _
      omega
    refine ⟨_, rfl, ?_, ?_⟩
    · rw [Str.empty_append, app_len, app_len, app_len, app_len, c1, c2, c3, sizeLine_eq]
      show _ + (shownL ts).length + _ + (shownL hs).length + _ ≤ _
      omega
    rw [Str.empty_append]
    exact out _ (s1.trans s2)
/-- repr of a board, wherever it is asked for -/
theorem scReprB : FnScope ["self"] ["self"] (defScope mRepr) := ⟨rfl, rfl, rfl, by decide +kernel, rfl, by decide +kernel, by decide +kernel⟩
theorem ok_reprB {f C : Addr} {fd : FuncData} (F : Fun K "__repr__" "Board.__repr__" mRepr f fd) (B : Bl mg) (T : BC K mg C) (DU : HasM P w K mg base C "up" 2 ["self"] (spUps C)) : FnH P w K mg base CX0 3 f fd ["self"] (spShow (Rbd C)) := by
  obtain ⟨fU, fdU, GU, mU, bU⟩ := DU
  refine fnH_of F scReprB (fun vs H Q E h => ?_) (fun g cdv A outer s H vs Q E gs cl hr h => ?_)
  · obtain ⟨b, t, rfl, _⟩ := h
    rfl
  · obtain ⟨b, t, rfl, ⟨bs, hB, okb, rfl⟩, out⟩ := h
    have h40 := okb.2.2
    obtain ⟨dx, t, e1, e2⟩ := id hB
    have hu := hr.units
    have ul := upF_len0 bs
    have gc := good_cells (upF_cells h40) (by omega)
    have b1 : (shownL (upF 0 bs)).length ≤ 200000 := gc.2.2
    have c1 : (Str.ofString "Board(").length = 6 := by decide +kernel
    have c2 : (Str.ofString ", up=").length = 5 := by decide +kernel
    have c3 : (Str.ofString ")").length = 1 := by decide +kernel
    have c4 := len3 bs.length h40
    have lg : ((bs.length : Nat) : Int).natAbs.log2 < 1920 := Nat.lt_trans (log_lt (n := ((bs.length : Nat) : Int).natAbs) (k := 100) (by omega) (by decide)) (by decide)
    obtain ⟨sh1, dp1, ln1⟩ := shown_good gc
    refine ⟨_, pss_one (ps_ret (pe_joined (.cons pe_str (.cons (pe_fmt (pe_callB call_len_seq (by rfl) B.len PySem.boot_len (pa_cons (pe_fld (pv 0) rfl) pa_nil))) (.cons pe_str (.cons (pe_fmtH gs hu (pe_callTy call_list_of (by rfl) B.list (by decide +kernel) (pa_cons (pe_meth0 (pv 0) T.cl mU GU hr bU .nil pass0) pa_nil))) (.cons pe_str .nil))))))), ?_⟩
    refine ⟨_, rfl, ?_, ?_⟩
    · rw [Str.empty_append, c1, sizeLine_eq]
      omega
    refine ⟨_, rfl, b, C, dx, _, _, rfl, e1, T.cl, T.nS, fld_, t, _, rfl, .inr (SqT.of e2), ?_⟩
    rw [List.length_map]
    refine .inr ⟨_, rfl, lg, _, rfl, ?_, ?_⟩
    · rw [Str.empty_append, app_len, c1, sizeLine_eq]
      omega
    refine ⟨_, rfl, ?_, ?_⟩
    · rw [Str.empty_append, app_len, app_len, c1, c2, sizeLine_eq]
      omega
    refine ⟨_, rfl, b, dx, _, rfl, e1, no_fld (by decide +kernel), b, bs, rfl, hB, h40, fun u H1 hu1 s1 eu => ?_⟩
    refine ⟨u, _, rfl, .inr (SqT.of eu), fun La hLa => ?_⟩
    have s2 := same_new (o := .lst ((upF 0 bs).map V.int)) hLa
    refine ⟨La, upF 0 bs, rfl, cl La (s1.free hLa), upd_same, sh1, ln1, _, rfl, ?_, ?_⟩
    · rw [Str.empty_append, app_len, app_len, app_len, c1, c2, sizeLine_eq]
      show _ + _ + _ + (shownL (upF 0 bs)).length ≤ _
      omega
    refine ⟨_, rfl, ?_, ?_⟩
    · rw [Str.empty_append, app_len, app_len, app_len, app_len, c1, c2, c3, sizeLine_eq]
      show _ + _ + _ + (shownL (upF 0 bs)).length + _ ≤ _
      omega
    rw [Str.empty_append]
    exact out _ (s1.trans s2)
end
end K49
namespace K49
open PySem PySem.Spec PyProof.Rows L2 Par Msk
/-- a table, two boards, and whether the first one is changed -/
structure Wld where
  R : List Nat
  n : Nat
  ps : List (List Int × List Int)
  b1 : List Int
  b2 : List Int
  c : Bool
structure OkW (x : Wld) : Prop where
  rep : Rep x.R x.n x.ps
  fit : Fit1 x.n x.ps
  n1 : 1 ≤ x.n
  n40 : x.n ≤ 40
  s1 : Sb x.n x.b1
  s2 : Sb x.n x.b2
  ch : x.c = true → chN x.n x.b1 (runB x.b1 x.ps) ≠ 0
def Wd (C CB : Addr) (H : Hp) (a : Addr) (x : Wld) : Prop := ∃ g f s, H a = some (.tup [.ref g, .ref f, .ref s, .bl x.c]) ∧ Tb C H g x.R ∧ Bd CB H f x.b1 ∧ Bd CB H s x.b2
theorem Wd.same {C CB : Addr} {H H' : Hp} {a : Addr} {x : Wld} (s : Same H H') (h : Wd C CB H a x) : Wd C CB H' a x := by
  obtain ⟨g, f, b, e, h1, h2, h3⟩ := h
  exact ⟨g, f, b, s _ _ e, h1.same s, h2.same s, h3.same s⟩
theorem Wd.but {C CB p : Addr} {H H' : Hp} (hp : PotAt H p) (b : But p H H') {a : Addr} {x : Wld} (h : Wd C CB H a x) : Wd C CB H' a x := by
  obtain ⟨g, f, s, e, h1, h2, h3⟩ := h
  obtain ⟨_, _, ep, _⟩ := id hp
  exact ⟨g, f, s, b _ _ (fun z => by rw [z, ep] at e; cases e) e, Tb.but hp b h1, Bd.but hp b h2, Bd.but hp b h3⟩
theorem seq_outS {a rest : TS} {D : Ends} {σ : L2.St} {H : Hp} (R : L2.St → Hp → Prop) (out : ∀ σ' H', R σ' H' → rest D σ' H') (h : ∀ N : L2.St → Hp → Prop, (∀ σ' H', R σ' H' → N σ' H') → a { D with nx := N } σ H) : tSeq a rest D σ H := h _ out
section
variable {P : Program} {w : World} {K : PySem.W.Frag} {mg : Str → Option Value} {base : Heap}
/-- _law_world -/
def spWorld (C CB : Addr) : Sp := fun vs H Q _ => ∃ (p : Addr), vs = [.ref p] ∧ PotAt H p ∧ ∀ q x H', H q = none → But p H H' → PotAt H' p → Wd C CB H' q x → OkW x → Q (.ref q) H'
abbrev nWorld : List Str := ["_law_pot_here", "_law_width_here", "_law_pairs_here", "_law_plain", "_law_first", "_law_bits_here"]
theorem scWorld : FnScope nWorld ["_law_pot_here"] (defScope slWorld) := ⟨rfl, rfl, rfl, by decide +kernel, rfl, by decide +kernel, by decide +kernel⟩
theorem ok_world {f C CB : Addr} {fd : FuncData} (F : Fun K "_law_world" "_law_world" slWorld f fd) (B : Bl mg) (DW : Has P w K mg base "_law_width" 3 ["_law_pot_here", "_law_most"] spWidth) (DZ : Has P w K mg base "_law_pairs" 5 ["_law_pot_here", "_law_width_here", "_law_most"] spPairs) (DB : Has P w K mg base "_law_basic_bits" 3 ["_law_width_here"] spBasic)
    (DC : Has P w K mg base "_law_changed" 5 ["_law_pairs_here", "_law_bits_here"] (spChanged K)) (DD : Has P w K mg base "_law_draw" 2 ["_law_pot_here", "_law_many"] spDraw) (DL : Has P w K mg base "_law_bits" 3 ["_law_pot_here", "_law_width_here"] spBits) (DT : Has P w K mg base "_law_table" 10 ["_law_pairs_here", "_law_width_here"] (spTable K C)) (DM : Has P w K mg base "_law_made" 8 ["_law_bits_here"] (spMade CB)) :
    FnOk P w K mg base CX0 11 f fd ["_law_pot_here"] (spWorld C CB) := by
  obtain ⟨fW, fdW, GW, mW, kW, bW⟩ := DW
  obtain ⟨fZ, fdZ, GZ, mZ, kZ, bZ⟩ := DZ
  obtain ⟨fB, fdB, GB, mB, kB, bB⟩ := DB
  obtain ⟨fC, fdC, GC, mC, kC, bC⟩ := DC
  obtain ⟨fD, fdD, GD, mD, kD, bD⟩ := DD
  obtain ⟨fL, fdL, GL, mL, kL, bL⟩ := DL
  obtain ⟨fT, fdT, GT, mT, kT, bT⟩ := DT
  obtain ⟨fM, fdM, GM, mM, kM, bM⟩ := DM
  refine F.ok scWorld (fun vs H Q E h => ?_) (fun cdv A outer s H vs Q E hr h => ?_)
  · obtain ⟨p, rfl, _⟩ := h
    rfl
  · obtain ⟨p, rfl, hp, out⟩ := h
    have hu := hr.units
    have r2 : Room 2 _ := hr.mono (by decide)
    have r3 : Room 3 _ := hr.mono (by decide)
    have r5 : Room 5 _ := hr.mono (by decide)
    have r8 : Room 8 _ := hr.mono (by decide)
    refine ⟨_, (pss_cons (ps_set (i := 1) scWorld.nd rfl (Or.inl rfl) (pe_call GW r3 (by rfl) mW kW bW .nil pass0 (pa_cons (pv 0) (pa_cons pe_int pa_nil))))
      (pss_cons (ps_set (i := 2) scWorld.nd rfl (Or.inr rfl) (pe_call GZ r5 (by rfl) mZ kZ bZ .nil pass0 (pa_cons (pv 0) (pa_cons (pv 1) (pa_cons pe_int pa_nil)))))
      (pss_cons (ps_setLc (i := 3) (own := [("_law_bits_here", 5)]) (g := gName 5) (tt := tTest (tOp (rNeP K) (tCall (spChanged K) [] E0 (tCons (tVar 2) (tCons (tVar 5) tNil))) (tLst tNil))) (te := tVar 5) rfl scWorld.nd rfl rfl (sw_true rfl rfl rfl (by decide +kernel)) (pi_list (pe_call GB r3 (by rfl) mB kB bB .nil pass0 (pa_cons (pv 1) pa_nil))) (blkOk_by (own := [("_law_bits_here", 5)]) (N := nWorld) (sc := defScope slWorld) (by decide +kernel)) (fun _ _ _ _ _ => (pg_name (i := 5) scWorld.nd rfl (Or.inl rfl))) (fun _ _ _ _ _ => by exact pts_one (pt_cmpR (op_neP hu) (pe_call GC r5 (by rfl) mC kC bC .nil pass0 (pa_cons (pv 2) (pa_cons (pv 5) pa_nil))) (pe_lst pa_nil) (nomark _))) (fun _ _ _ _ _ => pv 5))
      (pss_cons (ps_set (i := 4) scWorld.nd rfl (Or.inl rfl) (pe_ifExp (pt_cmpR (opR_or (op_neP hu) (op_neLen (Nat.lt_of_le_of_lt (Nat.le_add_right _ 64) hu))) (pv 3) (pe_lst pa_nil) (nomark _)) (pe_ix ix_list (pv 3) (pe_call GD r2 (by rfl) mD kD bD .nil pass0 (pa_cons (pv 0) (pa_cons (pe_callB call_len_seq (by rfl) B.len PySem.boot_len (pa_cons (pv 3) pa_nil)) pa_nil))) (fun _ _ => rfl)) (pe_call GL r3 (by rfl) mL kL bL .nil pass0 (pa_cons (pv 0) (pa_cons (pv 1) pa_nil)))))
      (pss_one (ps_ret (pe_tup (pa_cons (pe_call GT hr (by rfl) mT kT bT .nil pass0 (pa_cons (pv 2) (pa_cons (pv 1) pa_nil))) (pa_cons (pe_call GM r8 (by rfl) mM kM bM .nil pass0 (pa_cons (pv 4) pa_nil)) (pa_cons (pe_call GM r8 (by rfl) mM kM bM .nil pass0 (pa_cons (pe_call GL r3 (by rfl) mL kL bL .nil pass0 (pa_cons (pv 0) (pa_cons (pv 1) pa_nil))) pa_nil)) (pa_cons (pe_cmpR (opR_or (op_neP hu) (op_neLen (Nat.lt_of_le_of_lt (Nat.le_add_right _ 64) hu))) (pv 3) (pe_lst pa_nil) (nomark _)) pa_nil))))))))))), ?_⟩
    refine ⟨_, rfl, p, 8, rfl, hp, by decide, by decide, fun n H1 n1 n8 b1 pot1 => ?_⟩
    have n40 : n ≤ 40 := by omega
    refine ⟨_, rfl, _, rfl, p, n, 6, rfl, pot1, n1, n40, by decide, fun l as ps H2 hl b2 pot2 el prq few => ?_⟩
    have okk := prq.ok
    have fit : Fit1 n ps := fun t ht => ⟨fun k hk => ⟨((okk t ht).1.1 k hk).1, (okk t ht).2.1 k hk⟩, fun k hk => ⟨((okk t ht).1.2.1 k hk).1, (okk t ht).2.2.1 k hk⟩, (okk t ht).2.2.2.1⟩
    have lp := ref_not_int pot2 el
    refine ⟨_, rfl, n, rfl, n1, n40, fun q bas H3 hq s3 eq lsb fresh => ?_⟩
    have pr3 : Prs K H3 as ps := (prq.prs (K := K)).same s3
    have el3 := s3 _ _ el
    refine ⟨q, rfl, ⟨_, SqL.of eq⟩, fun D hD => ?_⟩
    refine lc_list (K := K) (tt := tTest (tOp (rNeP K) (tCall (spChanged K) [] E0 (tCons (tVar 2) (tCons (tVar 5) tNil))) (tLst tNil))) (a := q) (xs := bas.map V.ref) (fun i H' => Same H3 H' ∧ ∃ zs : List Addr, H' D = some (.lst (zs.map V.ref)) ∧ zs.length ≤ i ∧ ∀ a ∈ zs, ∃ bs, a ≠ p ∧ Sb n bs ∧ H3 a = some (.lst (bs.map V.int)) ∧ chN n bs (runB bs ps) ≠ 0)
      ⟨same_new hD, [], upd_same, Nat.le_refl 0, fun a ha => nomatch ha⟩ (fun i H' _ h => SqL.of (h.1 _ _ eq)) ?_ ?_
    · rintro i x H4 hx ⟨s4, zs, hD4, lz, gz⟩
      rw [List.getElem?_map] at hx
      obtain ⟨a, ha, rfl⟩ : ∃ a, bas[i]? = some a ∧ x = V.ref a := by
        cases e : bas[i]? with
        | none => rw [e] at hx; cases hx
        | some a => rw [e] at hx; exact ⟨a, rfl, (Option.some.inj hx).symm⟩
      obtain ⟨ns, hn, ea⟩ := ls_at lsb ha
      rw [List.getElem?_map] at hn
      obtain ⟨j, hj, rfl⟩ : ∃ j, (List.range n)[i]? = some j ∧ ns = ej n j := by
        cases e : (List.range n)[i]? with
        | none => rw [e] at hn; cases hn
        | some j => rw [e] at hn; exact ⟨j, rfl, (Option.some.inj hn).symm⟩
      have il : i < 41 := by
        have h1 := (List.getElem?_eq_some_iff.mp ha).1
        have h2 := ls_len lsb
        rw [List.length_map, List.length_range] at h2
        omega
      have sb := ej_sb (j := j) n1 n40
      obtain ⟨bs, hbs⟩ : ∃ bs, ej n j = bs := ⟨_, rfl⟩
      rw [hbs] at ea sb
      refine ⟨rfl, ?_⟩
      refine ⟨_, rfl, _, rfl, a, l, bs, as, ps, rfl, s4 _ _ ea, by have := sb.2; omega, s4 _ _ el3, pr3.same s4, fun t ht => ⟨by have := (okk t ht).1.2.2.2.2.1; omega, by rw [sb.2]; exact (fit t ht).1⟩, fun q1 H5 hq1 s5 e5 => ?_⟩
      refine ⟨(by show 0 ≤ sizeLine; decide), fun L hL => ?_⟩
      have s6 := same_new (o := .lst []) hL
      obtain ⟨cs, hcs⟩ : ∃ cs, chL bs.length bs (runB bs ps) = cs := ⟨_, rfl⟩
      rw [hcs] at e5
      refine ⟨.list (cs.map PyData.int), .list [], .lst (SqL.of (s6 _ _ e5)) (dps_ints _), .lst (SqL.of upd_same) .nil, eqv_lints _, rfl, by rw [show min (PyData.list (cs.map PyData.int)).depth (PyData.list []).depth = min (PyData.list (cs.map PyData.int)).depth (PyData.list (([] : List Int).map PyData.int)).depth from rfl]; exact depth_ints2 _ _, ?_⟩
      have ee : PyData.eqv (.list (cs.map PyData.int)) (.list []) = decide (cs = []) := eqv_ints cs []
      rw [ee]
      have s46 := s5.trans s6
      by_cases z : cs = []
      · rw [decide_eq_true z]
        exact ⟨_, rfl, iteF ⟨s4.trans s46, zs, s46 _ _ hD4, by omega, gz⟩⟩
      · rw [decide_eq_false z]
        refine ⟨_, rfl, iteT ⟨_, rfl, _, s46 _ _ hD4, ?_, ?_, zs ++ [a], ?_, ?_, ?_⟩⟩
        · rw [List.length_map]
          exact small1000 (by omega)
        · intro y o e
          rw [upd_ne (ne_of_none e hD)]
          exact s46 _ _ (s4 y o e)
        · rw [upd_same, List.map_append]
          rfl
        · rw [List.length_append]
          show zs.length + 1 ≤ i + 1
          omega
        · intro y hy
          rcases List.mem_append.mp hy with h | h
          · exact gz y h
          · rw [List.mem_singleton.mp h]
            refine ⟨bs, pot_ne pot2 (fresh a (List.mem_of_getElem? ha)), sb, ea, fun y0 => z ?_⟩
            have eqb := chN_zero sb (by rw [run_len]; exact sb.2) y0
            rw [← hcs, ← eqb]
            refine List.eq_nil_iff_forall_not_mem.mpr fun k hk => ?_
            obtain ⟨_, _, _, ne⟩ := chL_mem.mp hk
            exact ne rfl
    rintro H4 ⟨s4, zs, hD4, lz, gz⟩
    have s04 := s3.trans s4
    have pot4 := pot2.same s04
    have Dp : D ≠ p := pot_ne (pot2.same s3) hD
    dsimp only [gName]
    refine seq_outS (fun σ' H' => But p H4 H' ∧ PotAt H' p ∧ ∃ (a : Addr) (bs : List Int), σ' = [some (.ref p), some (.int ((n : Nat) : Int)), some (.ref l), some (.ref D), some (.ref a), none] ∧ H' a = some (.lst (bs.map V.int)) ∧ Sb n bs ∧ (zs ≠ [] → chN n bs (runB bs ps) ≠ 0)) ?_ ?_
    · rintro σ' H5 ⟨b45, pot5, a, bs, rfl, ea, sb, ch⟩
      have b25 : But p H2 H5 := (But.same s04).trans b45
      have el5 := b25 _ _ lp el
      have pr5 : Prs K H5 as ps := (prq.but pot2 b25).prs
      have eD5 := b45 _ _ Dp hD4
      refine ⟨_, rfl, _, rfl, l, n, as, ps, rfl, n1, n40, SqL.of el5, pr5, okk, fit, by omega, fun g R H6 rep hg s6 tb => ?_⟩
      refine ⟨_, rfl, a, bs, rfl, s6 _ _ ea, sb.1, fun f1 H7 hf1 s7 bd1 => ?_⟩
      have s57 := s6.trans s7
      refine ⟨_, rfl, _, rfl, p, n, rfl, pot5.same s57, n1, n40, fun q2 bs2 H8 hq2 ok2 l2 b8 pot8 e2 => ⟨q2, bs2, rfl, e2, ok2, fun f2 H9 hf2 s9 bd2 => ?_⟩⟩
      refine ⟨_, rfl, (by show 0 ≤ sizeLine; decide), fun L hL => ?_⟩
      have sL := same_new (o := .lst []) hL
      have eL : (upd H9 L (.lst [])) L = some (.lst []) := upd_same
      have b79 : But p H7 H9 := b8.trans (But.same s9)
      have s57p : But p H5 H9 := (But.same s57).trans b79
      have eD9 := sL _ _ (s57p _ _ Dp eD5)
      have tb9 := (Tb.but (pot5.same s57) b79 (tb.same s7)).same sL
      have bd19 : Bd CB (upd H9 L (.lst [])) f1 bs := (Bd.but (pot5.same s57) b79 bd1).same sL
      have bd29 := bd2.same sL
      have potL := (pot8.same s9).same sL
      have b2L : But p H (upd H9 L (.lst [])) := ((((b1.trans b2).trans (But.same s04)).trans b45).trans s57p).trans (But.same sL)
      generalize upd H9 L (.lst []) = Ha at eD9 eL tb9 bd19 bd29 potL b2L ⊢
      have fin : ∀ c : Bool, (c = true → chN n bs (runB bs ps) ≠ 0) → (4 ≤ sizeLine) ∧ ∀ (t : Addr), Ha t = none → Q (.ref t) (upd Ha t (.tup [.ref g, .ref f1, .ref f2, .bl c])) := fun c hc => ⟨by rw [sizeLine_eq]; decide, fun t ht => by
        have s := same_new (o := .tup [.ref g, .ref f1, .ref f2, .bl c]) ht
        have ft : H t = none := b2L.free hp ht potL
        exact out t ⟨R, n, ps, bs, bs2, c⟩ _ ft (b2L.trans (But.same s)) (potL.same s) ⟨g, f1, f2, upd_same, tb9.same s, bd19.same s, bd29.same s⟩ ⟨rep, fit, n1, n40, sb, ⟨ok2, l2⟩, hc⟩⟩
      by_cases z : zs = []
      · subst z
        refine .inl ⟨.list [], .list [], .lst (SqL.of eD9) .nil, .lst (SqL.of eL) .nil, rfl, rfl, by decide, ?_⟩
        exact fin false fun y => nomatch y
      · refine .inr ⟨D, L, zs.map V.ref, [], rfl, rfl, eD9, eL, (by rw [List.length_map]; exact fun y => z (List.eq_nil_of_length_eq_zero y)), ?_⟩
        exact fin true fun _ => ch z
    · intro N hN
      refine ⟨_, rfl, (by show 0 ≤ sizeLine; decide), fun L hL => ?_⟩
      have s6 := same_new (o := .lst []) hL
      have eL : (upd H4 L (.lst [])) L = some (.lst []) := upd_same
      generalize upd H4 L (.lst []) = H5 at s6 eL ⊢
      have pot5 := pot4.same s6
      have eD5 := s6 _ _ hD4
      by_cases z : zs = []
      · subst z
        refine .inl ⟨.list [], .list [], .lst (SqL.of eD5) .nil, .lst (SqL.of eL) .nil, rfl, rfl, by decide, ?_⟩
        refine ⟨_, rfl, iteF ?_⟩
        refine ⟨_, rfl, _, rfl, p, n, rfl, pot5, n1, n40, fun q2 bs2 H8 hq2 ok2 l2 b8 pot8 e2 => ?_⟩
        exact hN _ _ ⟨(But.same s6).trans b8, pot8, q2, bs2, rfl, e2, ⟨ok2, l2⟩, fun y => (y rfl).elim⟩
      · have zl : 1 ≤ zs.length := List.length_pos_iff.mpr z
        refine .inr ⟨D, L, zs.map V.ref, [], rfl, rfl, eD5, eL, (by rw [List.length_map]; show zs.length ≠ 0; omega), ?_⟩
        refine ⟨_, rfl, iteT ?_⟩
        refine ⟨_, rfl, _, rfl, _, rfl, D, _, rfl, .inl (SqL.of eD5), p, _, rfl, pot5, (by rw [List.length_map]; omega), ?_, fun c H6 c0 c1 b6 pot6 => ?_⟩
        · rw [List.length_map]
          have : (2 : Int) ^ 200 > 1000 := by decide
          have := ls_len lsb
          rw [List.length_map, List.length_range] at this
          rw [List.length_map] at lz
          omega
        rw [List.length_map] at c1
        obtain ⟨a, ha⟩ : ∃ a, zs[c.toNat]? = some a := ⟨zs[c.toNat]'(by omega), List.getElem?_eq_getElem (by omega)⟩
        have hat := atI_nat (xs := zs.map V.ref) (j := c.toNat) (v := .ref a) (by rw [List.getElem?_map, ha]; rfl)
        rw [Int.toNat_of_nonneg c0] at hat
        obtain ⟨bs, ap, sb, ea, ch⟩ := gz a (List.mem_of_getElem? ha)
        refine ⟨D, _, c, _, rfl, rfl, SqL.of (b6 _ _ Dp eD5), hat, ?_⟩
        refine hN _ _ ⟨(But.same s6).trans b6, pot6, a, bs, rfl, b6 _ _ ap (s6 _ _ (s4 _ _ ea)), sb, fun _ => ch⟩
end
end K49
namespace K49
open PySem PySem.Spec PyProof.Rows L2 Par Msk
open Rnk (Rk)
def Sht (C CB CF : Addr) : Shw := fun x t H => (DOwn C (Rtab C) x t H ∨ DOwn CB (Rbd CB) x t H) ∨ DOwn CF (Rs CF) x t H
/-- what an answer is: a new list of own objects, or something plain that is no list -/
def Ans (K : PySem.W.Frag) (C CB CF : Addr) (H0 : Hp) (v : V) (t : Str) (H : Hp) : Prop :=
  (∃ l vs ts, v = .ref l ∧ H0 l = none ∧ H l = some (.lst vs) ∧ vs.length ≤ 100 ∧ ShAll (Sht C CB CF) vs ts H ∧ t = listText ts ∧ (listText ts).length ≤ sizeLine) ∨
  (∃ d n, (∀ H' : Hp, (∀ z xs, H z = some (.tup xs) → H' z = some (.tup xs)) → Dx K H' v d ∧ TyX K H' v (.type n)) ∧ d.showable = true ∧ d.depth ≤ 40 ∧ d.shown.length ≤ sizeLine ∧ t = d.shown ∧ PySem.W.kitOne K (.type n) (.type "list") = some false)
/-- the text of the answer, way by way -/
def Tx (x : Wld) (w : Nat) (t : Str) : Prop :=
  (w = 0 → t = (PyData.tuple ((cellsI (chN x.n x.b2 (runB x.b2 x.ps))).map PyData.int)).shown) ∧
  (w = 1 → ∃ r : Nat, Rk (Ch x.n x.ps) r ∧ t = (PyData.int (r : Int)).shown) ∧
  (w = 2 → t = listText ((witB x.R x.n x.n).map boardT)) ∧
  (w = 3 → ∃ qs, Sh x.R qs.reverse ∧ t = listText (textsF qs)) ∧
  (w = 4 → ∃ b : Bool, (b = true ↔ WitP x.n x.ps (some [some x.b1])) ∧ t = (PyData.bool b).shown) ∧
  (5 ≤ w → (x.c = false → t = listText []) ∧ (x.c = true → ∃ qs, EndOf x.R (if w = 6 ∧ chN x.n x.b2 (runB x.b2 x.ps) ≠ 0 then x.b2 else x.b1) qs ∧ t = listText (textsF qs)))
theorem Tx.only {x : Wld} {w : Nat} {t t' : Str} (h : Tx x w t) (k : Tx x w t') : t = t' := by
  obtain ⟨h0, h1, h2, h3, h4, h5⟩ := h
  obtain ⟨k0, k1, k2, k3, k4, k5⟩ := k
  have c : w = 0 ∨ w = 1 ∨ w = 2 ∨ w = 3 ∨ w = 4 ∨ 5 ≤ w := by omega
  rcases c with c | c | c | c | c | c
  · rw [h0 c, k0 c]
  · obtain ⟨r, a, rfl⟩ := h1 c
    obtain ⟨r', a', rfl⟩ := k1 c
    rw [a.only a' (fun x hx => .of hx) fun x hx => .of hx]
  · rw [h2 c, k2 c]
  · obtain ⟨r, a, rfl⟩ := h3 c
    obtain ⟨r', a', rfl⟩ := k3 c
    rw [List.reverse_inj.mp (a.only a')]
  · obtain ⟨r, a, rfl⟩ := h4 c
    obtain ⟨r', a', rfl⟩ := k4 c
    rw [Bool.eq_iff_iff.mpr (a.trans a'.symm)]
  · obtain ⟨a, b⟩ := h5 c
    obtain ⟨a', b'⟩ := k5 c
    cases e : x.c with
    | false => rw [a e, a' e]
    | true =>
      obtain ⟨r, q, rfl⟩ := b e
      obtain ⟨r', q', rfl⟩ := b' e
      rw [q.only q']
theorem shows_bd {C CB CF : Addr} {H : Hp} : ∀ {as : List Addr} {bss : List (List Int)}, Bds CB H as bss → (∀ bs ∈ bss, OkB bs) → ShAll (Sht C CB CF) (as.map V.ref) (bss.map boardT) H
  | [], [], _, _ => ⟨rfl, fun i x t h _ => by simp at h⟩
  | f :: fs, p :: ps, h, ok => by
    obtain ⟨dx, t, e1, e2⟩ := id h.1
    exact shAll_cons (.inl (.inr ⟨f, dx, _, rfl, e1, p, h.1, ok p (List.mem_cons_self ..), rfl⟩)) (shows_bd h.2 fun bs hb => ok bs (List.mem_cons_of_mem _ hb))
  | [], _ :: _, h, _ => h.elim
  | _ :: _, [], h, _ => h.elim
theorem shows_fl {C CB CF : Addr} {H : Hp} : ∀ {fs : List Addr} {ps : List (List Int × List Int)}, Fls CF H fs ps → ShAll (Sht C CB CF) (fs.map V.ref) (textsF ps) H
  | [], [], _ => ⟨rfl, fun i x t h _ => by simp at h⟩
  | f :: fs, p :: ps, h => by
    obtain ⟨dx, x1, x2, e1, _⟩ := id h.1
    exact shAll_cons (.inr ⟨f, dx, _, rfl, e1, p.1, p.2, h.1, h.2.1, rfl⟩) (shows_fl h.2.2)
  | [], _ :: _, h => h.elim
  | _ :: _, [], h => h.elim
theorem fls_ok {CF : Addr} {H : Hp} : ∀ {fs : List Addr} {qs : List (List Int × List Int)}, Fls CF H fs qs → ∀ t ∈ qs, OkF t.1 t.2
  | [], [], _, _, h => nomatch h
  | _ :: _, _ :: _, h, y, hy => by
    rcases List.mem_cons.mp hy with rfl | hy
    · exact h.2.1
    · exact fls_ok h.2.2 y hy
  | [], _ :: _, h, _, _ => h.elim
  | _ :: _, [], h, _, _ => h.elim
theorem boardT_len {bs : List Int} (h : OkB bs) : (boardT bs).length ≤ 300 := by
  have h40 := h.2.2
  have ul := upF_len0 bs
  have b1 : (shownL (upF 0 bs)).length ≤ 200 := shownL_len (upF_cells h40) (by omega)
  have c1 : (Str.ofString "Board(").length = 6 := by decide +kernel
  have c2 : (Str.ofString ", up=").length = 5 := by decide +kernel
  have c3 : (Str.ofString ")").length = 1 := by decide +kernel
  have c4 := len3 bs.length h40
  show ((Str.ofString "Board(") ++ Str.ofString (toString ((bs.length : Nat) : Int)) ++ (Str.ofString ", up=") ++ shownL (upF 0 bs) ++ (Str.ofString ")")).length ≤ 300
  rw [app_len, app_len, app_len, app_len, c1, c2, c3]
  omega
theorem boards_len : ∀ {bss : List (List Int)}, (∀ bs ∈ bss, OkB bs) → piled (bss.map boardT) ≤ bss.length * 302
  | [], _ => Nat.zero_le _
  | p :: ps, h => by
    have ih := boards_len fun t ht => h t (List.mem_cons_of_mem _ ht)
    have := boardT_len (h p (List.mem_cons_self ..))
    show piled (boardT p :: ps.map boardT) ≤ _
    rw [piled_cons, List.length_cons]
    omega
section
variable {P : Program} {w : World} {K : PySem.W.Frag} {mg : Str → Option Value} {base : Heap}
def HasK1 (P : Program) (w : World) (K : PySem.W.Frag) (mg : Str → Option Value) (base : Heap) (x : Str) (k : Nat) (y : Str) (sp : Sp) : Prop :=
  ∃ f fd, FnOk P w K mg base CX0 k f fd [y] sp ∧ mg x = some (.ref f) ∧ PySem.W.keepIn K (.ref f) = true ∧ Binds K fd [y] [] ∧ KBn K fd [y] 0 [y] (fun us ws => us ++ ws) (fun vs zs => vs ++ zs)
def HasK2 (P : Program) (w : World) (K : PySem.W.Frag) (mg : Str → Option Value) (base : Heap) (x : Str) (k : Nat) (y z : Str) (sp : Sp) : Prop :=
  ∃ f fd, FnOk P w K mg base CX0 k f fd [y, z] sp ∧ mg x = some (.ref f) ∧ PySem.W.keepIn K (.ref f) = true ∧ Binds K fd [y, z] [] ∧ KBn K fd [y, z] 0 [z, y] (fun us ws => us ++ ws.reverse) (fun vs zs => vs ++ zs.reverse)
/-- _law_asked -/
def spAsk (K : PySem.W.Frag) (C CB CF : Addr) : Sp := fun vs H Q _ => ∃ (a : Addr) (x : Wld) (wy : Nat) (bn : Bool), vs = [.ref a, .int ((wy : Nat) : Int), .bl bn] ∧ Wd C CB H a x ∧ OkW x ∧ wy < 7 ∧ ∀ v t H', Same H H' → Ans K C CB CF H v t H' → Tx x wy t → Q v H'
abbrev nAsk : List Str := ["_law_world_here", "_law_way", "_law_by_name", "_law_grid", "_law_first", "_law_second", "_law_is_changed", "_law_bits_here"]
theorem scAsk : FnScope nAsk ["_law_world_here", "_law_way", "_law_by_name"] (defScope slAsked) := ⟨rfl, rfl, rfl, by decide +kernel, rfl, by decide +kernel, by decide +kernel⟩
theorem ok_ask {f C CB CF : Addr} {fd : FuncData} (F : Fun K "_law_asked" "_law_asked" slAsked f fd) (B : Bl mg) (DC : HasK2 P w K mg base "changes_of" 9 "table" "board" (spChanges C CB)) (DD : HasK1 P w K mg base "depth_of" 6 "table" (spDepth C)) (DX : HasK1 P w K mg base "witness_of" 10 "table" (spWit C CB))
    (DS : HasK1 P w K mg base "shortest_flips" 11 "table" (spShort C CF)) (DV : HasK2 P w K mg base "is_witness" 10 "table" "boards" (spIsWit K C CB)) (DE : HasK2 P w K mg base "shortest_ending_at" 12 "table" "board" (spEnd C CB CF)) : FnOk P w K mg base CX0 13 f fd ["_law_world_here", "_law_way", "_law_by_name"] (spAsk K C CB CF) := by
  obtain ⟨fC, fdC, GC, mC, kC, bC, kbC⟩ := DC
  obtain ⟨fD, fdD, GD, mD, kD, bD, kbD⟩ := DD
  obtain ⟨fX, fdX, GX, mX, kX, bX, kbX⟩ := DX
  obtain ⟨fS, fdS, GS, mS, kS, bS, kbS⟩ := DS
  obtain ⟨fV, fdV, GV, mV, kV, bV, kbV⟩ := DV
  obtain ⟨fE, fdE, GE, mE, kE, bE, kbE⟩ := DE
  refine F.ok scAsk (fun vs H Q E h => ?_) (fun cdv A outer s H vs Q E hr h => ?_)
  · obtain ⟨a, x, wy, bn, rfl, _⟩ := h
    rfl
  · obtain ⟨a, x, wy, bn, rfl, wd, okw, w7, out⟩ := h
    have hu := hr.units
    have r6 : Room 6 _ := hr.mono (by decide)
    have r9 : Room 9 _ := hr.mono (by decide)
    have r10 : Room 10 _ := hr.mono (by decide)
    have r11 : Room 11 _ := hr.mono (by decide)
    refine ⟨_, (pss_cons (ps_asg (pv 0) (pg_tup rfl (pgs_cons (pg_name (i := 3) scAsk.nd rfl (Or.inl rfl)) (pgs_cons (pg_name (i := 4) scAsk.nd rfl (Or.inl rfl)) (pgs_cons (pg_name (i := 5) scAsk.nd rfl (Or.inl rfl)) (pgs_cons (pg_name (i := 6) scAsk.nd rfl (Or.inl rfl)) pgs_nil))))))
      (pss_cons (ps_if (pt_cmpR op_eq (pv 1) pe_int (nomark _)) (pss_one (ps_ret (pe_ifExp (pt_val (pv 2)) (pe_callN0 (E := E0) (ks := ["board", "table"]) GC r9 (by rfl) mC kC kbC pass0 (pk_cons (pv 5) (pk_cons (pv 3) pk_nil))) (pe_call GC r9 (by rfl) mC kC bC .nil pass0 (pa_cons (pv 3) (pa_cons (pv 5) pa_nil)))))) pss_nil)
      (pss_cons (ps_if (pt_cmpR op_eq (pv 1) pe_int (nomark _)) (pss_one (ps_ret (pe_ifExp (pt_val (pv 2)) (pe_callN0 (E := E0) (ks := ["table"]) GD r6 (by rfl) mD kD kbD pass0 (pk_cons (pv 3) pk_nil)) (pe_call GD r6 (by rfl) mD kD bD .nil pass0 (pa_cons (pv 3) pa_nil))))) pss_nil)
      (pss_cons (ps_if (pt_cmpR op_eq (pv 1) pe_int (nomark _)) (pss_one (ps_ret (pe_ifExp (pt_val (pv 2)) (pe_callN0 (E := E0) (ks := ["table"]) GX r10 (by rfl) mX kX kbX pass0 (pk_cons (pv 3) pk_nil)) (pe_call GX r10 (by rfl) mX kX bX .nil pass0 (pa_cons (pv 3) pa_nil))))) pss_nil)
      (pss_cons (ps_if (pt_cmpR op_eq (pv 1) pe_int (nomark _)) (pss_one (ps_ret (pe_ifExp (pt_val (pv 2)) (pe_callN0 (E := E0) (ks := ["table"]) GS r11 (by rfl) mS kS kbS pass0 (pk_cons (pv 3) pk_nil)) (pe_call GS r11 (by rfl) mS kS bS .nil pass0 (pa_cons (pv 3) pa_nil))))) pss_nil)
      (pss_cons (ps_if (pt_cmpR op_eq (pv 1) pe_int (nomark _)) (pss_one (ps_ret (pe_ifExp (pt_val (pv 2)) (pe_callN0 (E := E0) (ks := ["boards", "table"]) GV r10 (by rfl) mV kV kbV pass0 (pk_cons (pe_lst (pa_cons (pv 4) pa_nil)) (pk_cons (pv 3) pk_nil))) (pe_call GV r10 (by rfl) mV kV bV .nil pass0 (pa_cons (pv 3) (pa_cons (pe_lst (pa_cons (pv 4) pa_nil)) pa_nil)))))) pss_nil)
      (pss_cons (ps_if (pt_not (pt_val (pv 6))) (pss_one (ps_ret (pe_lst pa_nil))) pss_nil)
      (pss_cons (ps_set (i := 7) scAsk.nd rfl (Or.inl rfl) (pe_ifExp (PW.pt (pw_and (pt_cmpR (op_neP hu) (pe_call GC r9 (by rfl) mC kC bC .nil pass0 (pa_cons (pv 3) (pa_cons (pv 5) pa_nil))) (pe_tup pa_nil) (nomark _)) (pw_and1 (pt_cmpR op_eq (pv 1) pe_int (nomark _))))) (pv 5) (pv 4)))
      (pss_one (ps_ret (pe_ifExp (pt_val (pv 2)) (pe_callN0 (E := E0) (ks := ["board", "table"]) GE hr (by rfl) mE kE kbE pass0 (pk_cons (pv 7) (pk_cons (pv 3) pk_nil))) (pe_call GE hr (by rfl) mE kE bE .nil pass0 (pa_cons (pv 3) (pa_cons (pv 7) pa_nil)))))))))))))), ?_⟩
    obtain ⟨g, f1, f2, ea, tb, bd1, bd2⟩ := wd
    obtain ⟨rep, fit, n1, n40, sb1, sb2, chc⟩ := okw
    have gR := rep_good rep fit n1 n40
    have lR := rep.len
    have kitT : PySem.W.kitOne K (.type "tuple") (.type "list") = some false := kit_ty (by decide +kernel)
    have kitI : PySem.W.kitOne K (.type "int") (.type "list") = some false := kit_ty (by decide +kernel)
    have kitB : PySem.W.kitOne K (.type "bool") (.type "list") = some false := kit_ty (by decide +kernel)
    have l2 : x.b2.length = x.R.length := by rw [sb2.2, lR]
    have isw : ∀ {k : Nat}, decide (V.int ((wy : Nat) : Int) = V.int ((k : Nat) : Int)) = true → wy = k := fun {k} h => by
      have h := of_decide_eq_true h
      injection h with h
      omega
    have nsw : ∀ {k : Nat}, ¬ decide (V.int ((wy : Nat) : Int) = V.int ((k : Nat) : Int)) = true → wy ≠ k := fun {k} h y => h (decide_eq_true (by rw [y]))
    refine ⟨_, rfl, a, _, rfl, SqT.of ea, rfl, _, _, rfl, _, _, rfl, _, _, rfl, _, _, rfl, rfl, ?_⟩
    refine ⟨_, rfl, rfl, _, rfl, ite2 (fun z => ?_) (fun z0 => ?_)⟩
    · have w0 := isw (k := 0) z
      have fin : ∀ q H', H q = none → Same H H' → H' q = some (.tup ((cellsI (chg x.R x.b2)).map V.int)) → Q (.ref q) H' := fun q H' hq s e => by
        rw [chg_run rep fit sb2] at e
        obtain ⟨c1, c2, c3, _⟩ := cellsN (chN_lt x.n x.b2 (runB x.b2 x.ps)) n40
        obtain ⟨sh, dep, len⟩ := shown_good (good_cellsT c3 c2)
        exact out _ _ H' s (.inr ⟨_, "tuple", fun H2 s2 => ⟨.dp (.tup (SqT.of (s2 _ _ e)) (dps_ints _)), .base (.tup (s2 _ _ e))⟩, sh, dep, len, rfl, kitT⟩) ⟨fun _ => rfl, fun y => by omega, fun y => by omega, fun y => by omega, fun y => by omega, fun y => by omega⟩
      refine ⟨_, rfl, _, rfl, ite2 (fun _ => ?_) (fun _ => ?_)⟩
      · exact ⟨_, rfl, _, rfl, rfl, rfl, g, f2, x.R, x.b2, rfl, tb, gR, bd2, sb2.1, l2, fin⟩
      · exact ⟨_, rfl, _, rfl, g, f2, x.R, x.b2, rfl, tb, gR, bd2, sb2.1, l2, fin⟩
    have y0 := nsw (k := 0) z0
    refine ⟨_, rfl, rfl, _, rfl, ite2 (fun z => ?_) (fun z1 => ?_)⟩
    · have w1 := isw (k := 1) z
      have fin : ∀ (r : Nat) H', Same H H' → Rk (Gp x.R.length x.R) r → Q (.int ((r : Nat) : Int)) H' := fun r H' s rk => by
        rw [lR] at rk
        have rk2 := dep_of rep n1 n40 rk
        have rn := dep_cells fit n1 rk2
        have sm : small (.int ((r : Nat) : Int)) := small_int (by omega)
        obtain ⟨sh, dep, len⟩ := shown_good ⟨sm.1, Nat.le_trans sm.2.1 (by decide), Nat.le_trans sm.2.2 (by decide)⟩
        exact out _ _ H' s (.inr ⟨_, "int", fun H2 s2 => ⟨.dp (.int _), .base (.int _)⟩, sh, dep, len, rfl, kitI⟩) ⟨fun y => by omega, fun _ => ⟨r, rk2, rfl⟩, fun y => by omega, fun y => by omega, fun y => by omega, fun y => by omega⟩
      refine ⟨_, rfl, _, rfl, ite2 (fun _ => ?_) (fun _ => ?_)⟩
      · exact ⟨_, rfl, rfl, rfl, g, x.R, rfl, tb, gR, fin⟩
      · exact ⟨_, rfl, g, x.R, rfl, tb, gR, fin⟩
    have y1 := nsw (k := 1) z1
    refine ⟨_, rfl, rfl, _, rfl, ite2 (fun z => ?_) (fun z2 => ?_)⟩
    · have w2 := isw (k := 2) z
      have fin : ∀ q (as : List Addr) H', H q = none → Same H H' → H' q = some (.lst (as.map V.ref)) → Bds CB H' as (witB x.R x.R.length x.R.length) → Q (.ref q) H' := fun q as H' hq s e bds => by
        rw [lR] at bds
        have okb : ∀ bs ∈ witB x.R x.n x.n, OkB bs := fun bs hb => by
          obtain ⟨j, _, rfl⟩ := wit_all _ bs hb
          exact (ej_sb n1 n40).1
        have wl := wit_len x.R x.n x.n
        have la := bds.len
        refine out _ _ H' s (.inl ⟨q, _, _, rfl, hq, e, by rw [List.length_map]; omega, shows_bd bds okb, rfl, ?_⟩) ⟨fun y => by omega, fun y => by omega, fun _ => rfl, fun y => by omega, fun y => by omega, fun y => by omega⟩
        have h1 := listText_le ((witB x.R x.n x.n).map boardT)
        have h2 := boards_len okb
        rw [sizeLine_eq]
        omega
      refine ⟨_, rfl, _, rfl, ite2 (fun _ => ?_) (fun _ => ?_)⟩
      · exact ⟨_, rfl, rfl, rfl, g, x.R, rfl, tb, gR, fin⟩
      · exact ⟨_, rfl, g, x.R, rfl, tb, gR, fin⟩
    have y2 := nsw (k := 2) z2
    refine ⟨_, rfl, rfl, _, rfl, ite2 (fun z => ?_) (fun z3 => ?_)⟩
    · have w3 := isw (k := 3) z
      have fin : ∀ q (fs : List Addr) (qs : List (List Int × List Int)) H', H q = none → Same H H' → H' q = some (.lst (fs.map V.ref)) → Fls CF H' fs qs → Sh x.R qs.reverse → Fit1 x.n qs → Rep x.R x.n qs → Rk (Ch x.n x.ps) qs.length → (∀ t ∈ qs, Bsy t) → qs.length ≤ 40 → Q (.ref q) H' := fun q fs qs H' hq s e fls sh _ _ _ _ few => by
        have lf := fls.len_
        exact out _ _ H' s (.inl ⟨q, _, _, rfl, hq, e, by rw [List.length_map]; omega, shows_fl fls, rfl, texts_len (fls_ok fls) (by omega)⟩) ⟨fun y => by omega, fun y => by omega, fun y => by omega, fun _ => ⟨qs, sh, rfl⟩, fun y => by omega, fun y => by omega⟩
      refine ⟨_, rfl, _, rfl, ite2 (fun _ => ?_) (fun _ => ?_)⟩
      · exact ⟨_, rfl, rfl, rfl, g, x.R, x.n, x.ps, rfl, tb, rep, fit, n1, n40, fin⟩
      · exact ⟨_, rfl, g, x.R, x.n, x.ps, rfl, tb, rep, fit, n1, n40, fin⟩
    have y3 := nsw (k := 3) z3
    refine ⟨_, rfl, rfl, _, rfl, ite2 (fun z => ?_) (fun z4 => ?_)⟩
    · have w4 := isw (k := 4) z
      have fin : ∀ H1, Same H H1 → ∀ (b : Bool) H', Same H1 H' → (b = true ↔ WitP x.n x.ps (some [some x.b1])) → Q (.bl b) H' := fun H1 s1 b H' s hb => by
        have sm : small (.bool b) := small_bool _
        obtain ⟨sh, dep, len⟩ := shown_good ⟨sm.1, Nat.le_trans sm.2.1 (by decide), Nat.le_trans sm.2.2 (by decide)⟩
        exact out _ _ H' (s1.trans s) (.inr ⟨_, "bool", fun H2 s2 => ⟨.dp (.bl _), .base (.bl _)⟩, sh, dep, len, rfl, kitB⟩) ⟨fun y => by omega, fun y => by omega, fun y => by omega, fun y => by omega, fun _ => ⟨b, hb, rfl⟩, fun y => by omega⟩
      have thg : ∀ (L : Addr) (hL : H L = none), Thg K CB (upd H L (.lst [V.ref f1])) (.ref L) (some [some x.b1]) := fun L hL => ⟨L, _, rfl, .inl (SqL.of upd_same), by show 1 ≤ 200; decide, ⟨f1, rfl, bd1.same (same_new hL), sb1.1⟩, True.intro⟩
      refine ⟨_, rfl, _, rfl, ite2 (fun _ => ?_) (fun _ => ?_)⟩
      · exact ⟨_, rfl, (by show 1 ≤ sizeLine; decide), fun L hL => ⟨_, rfl, rfl, rfl, g, x.R, x.n, x.ps, .ref L, some [some x.b1], rfl, tb.same (same_new hL), rep, fit, n1, n40, thg L hL, fin _ (same_new hL)⟩⟩
      · exact ⟨_, rfl, _, rfl, (by show 1 ≤ sizeLine; decide), fun L hL => ⟨g, x.R, x.n, x.ps, .ref L, some [some x.b1], rfl, tb.same (same_new hL), rep, fit, n1, n40, thg L hL, fin _ (same_new hL)⟩⟩
    have y4 := nsw (k := 4) z4
    cases hc : x.c with
    | false =>
      refine ⟨_, rfl, _, rfl, iteT ?_⟩
      refine ⟨(by show 0 ≤ sizeLine; decide), fun L hL => ?_⟩
      refine out (.ref L) (listText []) _ (same_new hL) (.inl ⟨L, [], [], rfl, hL, upd_same, Nat.zero_le _, ⟨rfl, fun i x t h _ => by simp at h⟩, rfl, by rw [sizeLine_eq]; decide⟩) ⟨fun y => by omega, fun y => by omega, fun y => by omega, fun y => by omega, fun y => by omega, fun _ => ⟨fun _ => rfl, fun y => by rw [hc] at y; cases y⟩⟩
    | true =>
      refine ⟨_, rfl, _, rfl, iteF ?_⟩
      have ch1 := chc hc
      unfold tNext
      dsimp only []
      refine seq_outS (fun σ' H' => Same H H' ∧ ∃ (f : Addr) (bs : List Int), σ' = [some (.ref a), some (.int ((wy : Nat) : Int)), some (.bl bn), some (.ref g), some (.ref f1), some (.ref f2), some (.bl true), some (.ref f)] ∧ Bd CB H' f bs ∧ Sb x.n bs ∧ chN x.n bs (runB bs x.ps) ≠ 0 ∧ bs = (if wy = 6 ∧ chN x.n x.b2 (runB x.b2 x.ps) ≠ 0 then x.b2 else x.b1)) ?_ ?_
      · rintro σ' H1 ⟨s1, f, bs, rfl, bd, sb, ch, ebs⟩
        have fin : ∀ q (fs : List Addr) (qs : List (List Int × List Int)) H', H1 q = none → Same H1 H' → H' q = some (.lst (fs.map V.ref)) → Fls CF H' fs qs → Ends_ x.R x.n x.ps bs qs → Q (.ref q) H' := fun q fs qs H' hq s e fls en => by
          have lf := fls.len_
          have few := en.few
          have eo := en.eo
          rw [ebs] at eo
          exact out _ _ H' (s1.trans s) (.inl ⟨q, _, _, rfl, s1.free hq, e, by rw [List.length_map]; omega, shows_fl fls, rfl, texts_len (fls_ok fls) (by omega)⟩) ⟨fun y => by omega, fun y => by omega, fun y => by omega, fun y => by omega, fun y => by omega, fun _ => ⟨fun y => (by rw [hc] at y; cases y), fun _ => ⟨qs, eo, rfl⟩⟩⟩
        refine ⟨_, rfl, _, rfl, ite2 (fun _ => ?_) (fun _ => ?_)⟩
        · exact ⟨_, rfl, _, rfl, rfl, rfl, g, f, x.R, x.n, x.ps, bs, rfl, tb.same s1, rep, fit, n1, n40, bd, sb.1, sb.2, ch, fin⟩
        · exact ⟨_, rfl, _, rfl, g, f, x.R, x.n, x.ps, bs, rfl, tb.same s1, rep, fit, n1, n40, bd, sb.1, sb.2, ch, fin⟩
      · intro N hN
        refine ⟨_, rfl, _, rfl, g, f2, x.R, x.b2, rfl, tb, gR, bd2, sb2.1, l2, fun q H1 hq s1 e1 => ?_⟩
        rw [chg_run rep fit sb2] at e1
        refine ⟨(by show 0 ≤ sizeLine; decide), fun t ht => ?_⟩
        have s2 := same_new (o := .tup []) ht
        have s02 := s1.trans s2
        have e12 := s2 _ _ e1
        have et : (upd H1 t (.tup [])) t = some (.tup []) := upd_same
        generalize upd H1 t (.tup []) = H2 at s02 e12 et ⊢
        clear s2
        obtain ⟨cs, hcs⟩ : ∃ cs, cellsI (chN x.n x.b2 (runB x.b2 x.ps)) = cs := ⟨_, rfl⟩
        have hz : cs = [] ↔ chN x.n x.b2 (runB x.b2 x.ps) = 0 := by
          rw [← hcs]
          constructor
          · intro h
            have := (cellsN (chN_lt x.n x.b2 (runB x.b2 x.ps)) n40).2.2.2
            rw [← this, h]
            rfl
          · intro h
            rw [h]
            rfl
        rw [hcs] at e12
        refine ⟨.tuple (cs.map PyData.int), .tuple [], .tup (SqT.of e12) (dps_ints _), .tup (SqT.of et) .nil, eqv_lints cs, rfl, (by rw [show min (PyData.tuple (cs.map PyData.int)).depth (PyData.tuple []).depth = min (PyData.list (cs.map PyData.int)).depth (PyData.list (([] : List Int).map PyData.int)).depth from rfl]; exact depth_ints2 _ _), ?_⟩
        rw [show PyData.eqv (.tuple (cs.map PyData.int)) (.tuple []) = decide (cs = []) from eqv_ints cs []]
        have six : ∀ (_ : chN x.n x.b2 (runB x.b2 x.ps) ≠ 0) (h6 : wy = 6), (if wy = 6 ∧ chN x.n x.b2 (runB x.b2 x.ps) ≠ 0 then x.b2 else x.b1) = x.b2 := fun h h6 => if_pos ⟨h6, h⟩
        by_cases z : cs = []
        · rw [decide_eq_true z]
          refine ⟨_, rfl, iteF ⟨_, rfl, hN _ _ ⟨s02, f1, x.b1, rfl, bd1.same s02, sb1, ch1, (if_neg fun y => y.2 (hz.mp z)).symm⟩⟩⟩
        · have nz := fun y => z (hz.mpr y)
          rw [decide_eq_false z]
          refine ⟨_, rfl, iteT ⟨_, rfl, rfl, _, rfl, ite2 (fun h6 => ?_) (fun h6 => ?_)⟩⟩
          · exact ⟨_, rfl, hN _ _ ⟨s02, f2, x.b2, rfl, bd2.same s02, sb2, nz, (if_pos ⟨isw (k := 6) h6, nz⟩).symm⟩⟩
          · exact ⟨_, rfl, hN _ _ ⟨s02, f1, x.b1, rfl, bd1.same s02, sb1, ch1, (if_neg fun y => nsw (k := 6) h6 y.1).symm⟩⟩
end
end K49
namespace K49
open PySem PySem.Spec PyProof.Rows L2 Par Msk
theorem mon_sht {C CB CF : Addr} : ∀ x t H H', Same H H' → Sht C CB CF x t H → Sht C CB CF x t H' := fun x t H H' s d => by
  rcases d with (⟨a, dx, fs, hx, e, ms, h1, h2, h3⟩ | ⟨a, dx, fs, hx, e, bs, h1, h2, h3⟩) | d
  · exact .inl (.inl ⟨a, dx, fs, hx, s _ _ e, ms, h1.same s, h2, h3⟩)
  · exact .inl (.inr ⟨a, dx, fs, hx, s _ _ e, bs, h1.same s, h2, h3⟩)
  · exact .inr (mon_s x t H H' s d)
theorem sh_or {X : Cx} {n : Nat} {D1 D2 : Shw} (h1 : ShG X n D1) (h2 : ShG X n D2) : ShG X n (fun x t H => D1 x t H ∨ D2 x t H) := by
  intro A g base pins s σ H x u t gs cl sb I rx d len
  rcases d with d | d
  · exact h1 A g base pins s σ H x u t gs cl sb I rx d len
  · exact h2 A g base pins s σ H x u t gs cl sb I rx d len
theorem sh_mono {X : Cx} {n m : Nat} {D : Shw} (h : ShG X n D) (le : n ≤ m) : ShG X m D := by
  intro A g base pins s σ H x u t gs cl sb I rx d len
  exact h A g base pins s σ H x u t gs cl ⟨sb.room.mono le, sb.fr⟩ I rx d len
theorem cr_or {X : Cx} {f : Value} {r1 r2 : List V → Hp → VK → Prop} (h1 : CallR X f r1) (h2 : CallR X f r2) : CallR X f (fun xs H Q => r1 xs H Q ∨ r2 xs H Q) := by
  intro pins s σ H xs us Q I r h
  rcases h with h | h
  · exact h1 pins s σ H xs us Q I r h
  · exact h2 pins s σ H xs us Q I r h
theorem Ans.same {K : PySem.W.Frag} {C CB CF : Addr} {H0 H H' : Hp} {v : V} {t : Str} (s : Same H H') (h : Ans K C CB CF H0 v t H) : Ans K C CB CF H0 v t H' := by
  rcases h with ⟨l, vs, ts, e, f, el, n, sh, et, len⟩ | ⟨d, n, dx, a1, a2, a3, a4, k⟩
  · exact .inl ⟨l, vs, ts, e, f, s _ _ el, n, ⟨sh.1, fun i x t h1 h2 => mon_sht _ _ _ _ s (sh.2 i x t h1 h2)⟩, et, len⟩
  · exact .inr ⟨d, n, fun H2 s2 => dx H2 fun z xs e => s2 z xs (s _ _ e), a1, a2, a3, a4, k⟩
def rRepr (K : PySem.W.Frag) : List V → Hp → VK → Prop := fun xs H Q => ∃ v d, xs = [v] ∧ Dx K H v d ∧ d.showable = true ∧ d.depth ≤ 40 ∧ d.shown.length ≤ sizeLine ∧ Q (.str d.shown) H
theorem putK_le (k : List L2.Key) (v : V) : ∀ kvs : List (List L2.Key × V), (putK kvs k v).length ≤ kvs.length + 1 := fun kvs => DSub.putK_len kvs k v
/-- repr of an answer -/
theorem show_ans {K : PySem.W.Frag} {C CB CF : Addr} {H0 H : Hp} {v : V} {t : Str} {Q : VK} (h : Ans K C CB CF H0 v t H) (out : ∀ H', Same H H' → Q (.str t) H') : rRepr K [v] H Q ∨ rReprG (Sht C CB CF) [v] H Q := by
  rcases h with ⟨l, vs, ts, rfl, f, el, n, sh, rfl, len⟩ | ⟨d, n, dx, a1, a2, a3, rfl, k⟩
  · exact .inr ⟨l, vs, ts, rfl, el, sh, len, out⟩
  · exact .inl ⟨v, d, rfl, (dx H fun _ _ e => e).1, a1, a2, a3, out H (Same.refl _)⟩
/-- the text of a world -/
def shT (x : Wld) : Str := listText [tabT x.R, boardT x.b1, boardT x.b2]
def key (i w : Nat) : List L2.Key := [.inl ((i : Nat) : Int), .inl ((w : Nat) : Int)]
/-- what is known: the texts of the answers, world by world and way by way -/
def KOk (xs : List Wld) (kvs : List (List L2.Key × V)) : Prop := ∀ (i w : Nat) v, valV kvs (key i w) = some v → ∃ x t, xs[i]? = some x ∧ v = .str t ∧ Tx x w t
/-- all but the pot, at p, and the dict, at d, stays -/
def K2 (p d : Addr) (H H' : Hp) : Prop := ∀ z o, z ≠ p → z ≠ d → H z = some o → H' z = some o
theorem K2.trans {p d : Addr} {H H' H'' : Hp} (h : K2 p d H H') (k : K2 p d H' H'') : K2 p d H H'' := fun z o n1 n2 e => k z o n1 n2 (h z o n1 n2 e)
theorem K2.but {p d : Addr} {H H' : Hp} (b : But p H H') : K2 p d H H' := fun z o n1 _ e => b z o n1 e
theorem K2.of {p d : Addr} {H H' : Hp} (b : Same H H') : K2 p d H H' := fun z o _ _ e => b z o e
theorem Wd.k2 {C CB p d : Addr} {H H' : Hp} (hp : PotAt H p) (hd : ∃ kvs, H d = some (.dT kvs)) (k : K2 p d H H') {a : Addr} {x : Wld} (h : Wd C CB H a x) : Wd C CB H' a x := by
  obtain ⟨g, f, s, e, ⟨dx, t, h1, h2⟩, ⟨dy, u, g1, g2⟩, ⟨dz, w, k1, k2⟩⟩ := h
  obtain ⟨_, _, ep, _⟩ := id hp
  obtain ⟨kvs, ed⟩ := hd
  have go : ∀ {z : Addr} {o : HO}, (∀ xs, o ≠ .lst xs) → (∀ ks, o ≠ .dT ks) → H z = some o → H' z = some o := fun {z o} n1 n2 e => k z o (fun y => by rw [y, ep] at e; exact n1 _ (Option.some.inj e).symm) (fun y => by rw [y, ed] at e; exact n2 _ (Option.some.inj e).symm) e
  have gi : ∀ {z : Addr} {o : HO}, (∀ xs, o ≠ .lst xs) → (∀ ks, o ≠ .dT ks) → H z = some o → H' z = some o := go
  exact ⟨g, f, s, go (fun _ y => nomatch y) (fun _ y => nomatch y) e, ⟨dx, t, go (fun _ y => nomatch y) (fun _ y => nomatch y) h1, go (fun _ y => nomatch y) (fun _ y => nomatch y) h2⟩, ⟨dy, u, go (fun _ y => nomatch y) (fun _ y => nomatch y) g1, go (fun _ y => nomatch y) (fun _ y => nomatch y) g2⟩, ⟨dz, w, go (fun _ y => nomatch y) (fun _ y => nomatch y) k1, go (fun _ y => nomatch y) (fun _ y => nomatch y) k2⟩⟩
section
variable {P : Program} {w : World} {K : PySem.W.Frag} {mg : Str → Option Value} {base : Heap}
theorem dps_strs {H : Hp} : ∀ xs : List Str, DpAll K H (xs.map V.str) (xs.map PyData.str)
  | [] => .nil
  | x :: xs => .cons (.str x) (dps_strs xs)
def HasRB (P : Program) (w : World) (K : PySem.W.Frag) (mg : Str → Option Value) (base : Heap) (C : Addr) : Prop :=
  ∃ f fd, FnH P w K mg base CX0 3 f fd ["self"] (spShow (Rbd C)) ∧ PySem.W.findIn K (.ref C) "__repr__" = some (some (.ref f)) ∧ PySem.W.isFn K (.ref f) = true ∧ Binds K fd ["self"] []
def HasRF (P : Program) (w : World) (K : PySem.W.Frag) (mg : Str → Option Value) (base : Heap) (C : Addr) : Prop :=
  ∃ f fd, FnH P w K mg base CX0 2 f fd ["self"] (spShow (Rs C)) ∧ PySem.W.findIn K (.ref C) "__repr__" = some (some (.ref f)) ∧ PySem.W.isFn K (.ref f) = true ∧ Binds K fd ["self"] []
/-- _law_shown -/
def spShown (C CB : Addr) : Sp := fun vs H Q _ => ∃ (a : Addr) (x : Wld), vs = [.ref a] ∧ Wd C CB H a x ∧ OkW x ∧ ∀ H', Same H H' → Q (.str (shT x)) H'
abbrev nShown : List Str := ["_law_world_here"]
theorem scShown : FnScope nShown ["_law_world_here"] (defScope slShown) := ⟨rfl, rfl, rfl, by decide +kernel, rfl, by decide +kernel, by decide +kernel⟩
theorem ok_shown {f C CB CF : Addr} {fd : FuncData} (F : Fun K "_law_shown" "_law_shown" slShown f fd) (B : Bl mg) (DY : HasRT P w K mg base C) (DU : HasRB P w K mg base CB) (DF : HasRF P w K mg base CF) : FnG P w K mg base CX0 6 f fd ["_law_world_here"] (spShown C CB) := by
  obtain ⟨fY, fdY, GY, cY, nY, bY⟩ := DY
  obtain ⟨fU, fdU, GU, cU, nU, bU⟩ := DU
  obtain ⟨fF, fdF, GF, cF, nF, bF⟩ := DF
  refine fnG_of F scShown (fun vs H Q E h => ?_) (fun cdv A outer s H vs Q E gs hr h => ?_)
  · obtain ⟨a, x, rfl, _⟩ := h
    rfl
  · obtain ⟨a, x, rfl, wd, okw, out⟩ := h
    refine ⟨_, (pss_one (ps_ret (pe_callB (cr_reprG mon_sht (sh_or (sh_or (sh_mono (shG_own (E := E0) GY cY nY bY pass0) (by decide)) (sh_mono (shG_own (E := E0) GU cU nU bU pass0) (by decide))) (sh_mono (m := 3) (shG_own (E := E0) GF cF nF bF pass0) (by decide))) gs hr) (by rfl) B.repr (by decide +kernel) (pa_cons (pe_lst (pa_cons (pe_ix ix_tup (pv 0) pe_int (fun _ _ => rfl)) (pa_cons (pe_ix ix_tup (pv 0) pe_int (fun _ _ => rfl)) (pa_cons (pe_ix ix_tup (pv 0) pe_int (fun _ _ => rfl)) pa_nil)))) pa_nil)))), ?_⟩
    obtain ⟨g, f1, f2, ea, tb, bd1, bd2⟩ := wd
    obtain ⟨rep, fit, n1, n40, sb1, sb2, chc⟩ := okw
    have gR := rep_good rep fit n1 n40
    refine ⟨_, rfl, a, _, 0, _, rfl, rfl, SqT.of ea, atI_nat (j := 0) rfl, ?_⟩
    refine ⟨_, rfl, a, _, 1, _, rfl, rfl, SqT.of ea, atI_nat (j := 1) rfl, ?_⟩
    refine ⟨_, rfl, a, _, 2, _, rfl, rfl, SqT.of ea, atI_nat (j := 2) rfl, ?_⟩
    refine ⟨(by show 3 ≤ sizeLine; decide), fun L hL => ?_⟩
    have s := same_new (o := .lst [V.ref g, V.ref f1, V.ref f2]) hL
    obtain ⟨dx, t, h1, h2⟩ := id (tb.same s)
    obtain ⟨dy, u, g1, g2⟩ := id (bd1.same s)
    obtain ⟨dz, w0, k1, k2⟩ := id (bd2.same s)
    refine ⟨L, _, [tabT x.R, boardT x.b1, boardT x.b2], rfl, upd_same, ?_, ?_, fun H' s' => out H' (s.trans s')⟩
    · refine shAll_cons (.inl (.inl ⟨g, dx, _, rfl, h1, x.R, tb.same s, gR, rfl⟩)) (shAll_cons (.inl (.inr ⟨f1, dy, _, rfl, g1, x.b1, bd1.same s, sb1.1, rfl⟩)) (shAll_cons (.inl (.inr ⟨f2, dz, _, rfl, k1, x.b2, bd2.same s, sb2.1, rfl⟩)) ⟨rfl, fun i x t h _ => by simp at h⟩))
    · have l0 := listText_le [tabT x.R, boardT x.b1, boardT x.b2]
      have l1 := boardT_len sb1.1
      have l2 := boardT_len sb2.1
      have l3 := tabT_len gR
      rw [piled_cons, piled_cons, piled_cons] at l0
      have : piled ([] : List Str) = 0 := rfl
      rw [sizeLine_eq]
      omega
def spLaw (K : PySem.W.Frag) : Sp := fun vs H Q _ => ∃ (a : Addr) (ns : List Int), vs = [.ref a] ∧ SqL K H a (ns.map V.int) ∧ ns.length ≤ 63 ∧ ∀ H', Q (.bl true) H'
abbrev nLaw : List Str := ["_law_script", "_law_k", "_law_pot_here", "_law_worlds", "_law_shown_here", "_law_known", "_law_turn", "_law_index", "_law_way", "_law_told", "_law_world_here"]
theorem scLaw : FnScope nLaw ["_law_script"] (defScope sLaw) := ⟨rfl, rfl, rfl, by decide +kernel, rfl, by decide +kernel, by decide +kernel⟩
theorem kit_list : PySem.W.kitOne K (.type "list") (.type "list") = some true := kit_ty (by decide +kernel)
theorem ok_law {f C CB CF : Addr} {fd : FuncData} (F : Fun K "law" "law" sLaw f fd) (B : Bl mg) (DP : Has P w K mg base "_law_pot" 2 ["_law_script", "_law_k"] (spPot K)) (DD : Has P w K mg base "_law_draw" 2 ["_law_pot_here", "_law_many"] spDraw) (DW : Has P w K mg base "_law_world" 11 ["_law_pot_here"] (spWorld C CB))
    (DH : HasG P w K mg base "_law_shown" 6 ["_law_world_here"] (spShown C CB)) (DK : Has P w K mg base "_law_asked" 13 ["_law_world_here", "_law_way", "_law_by_name"] (spAsk K C CB CF)) (DY : HasRT P w K mg base C) (DU : HasRB P w K mg base CB) (DF : HasRF P w K mg base CF) : FnG P w K mg base CX0 14 f fd ["_law_script"] (spLaw K) := by
  obtain ⟨fP, fdP, GP, mP, kP, bP⟩ := DP
  obtain ⟨fD, fdD, GD, mD, kD, bD⟩ := DD
  obtain ⟨fW, fdW, GW, mW, kW, bW⟩ := DW
  obtain ⟨fH, fdH, GH, mH, kH, bH⟩ := DH
  obtain ⟨fK, fdK, GK, mK, kK, bK⟩ := DK
  obtain ⟨fY, fdY, GY, cY, nY, bY⟩ := DY
  obtain ⟨fU, fdU, GU, cU, nU, bU⟩ := DU
  obtain ⟨fF, fdF, GF, cF, nF, bF⟩ := DF
  refine fnG_of F scLaw (fun vs H Q E h => ?_) (fun cdv A outer s H vs Q E gs hr h => ?_)
  · obtain ⟨a, ns, rfl, _⟩ := h
    rfl
  · obtain ⟨a, ns, rfl, hS, hlen, out⟩ := h
    have hu := hr.units
    have r2 : Room 2 _ := hr.mono (by decide)
    have r5 : Room 5 _ := hr.mono (by decide)
    have r6 : Room 6 _ := hr.mono (by decide)
    have r11 : Room 11 _ := hr.mono (by decide)
    refine ⟨_, (pss_cons (ps_for PassesOwn.never rfl (pi_range1 (by rfl) B.range (pa_cons (pe_callB (call_max2 rfl) (by rfl) B.max (by decide +kernel) (pa_cons pe_int (pa_cons (pe_callB (call_min2 rfl) (by rfl) B.min (by decide +kernel) (pa_cons pe_int (pa_cons (pe_callB call_len_seq (by rfl) B.len PySem.boot_len (pa_cons (pv 0) pa_nil)) pa_nil))) pa_nil))) pa_nil)) (pg_name (i := 1) scLaw.nd rfl (Or.inl rfl)) (pss_cons (ps_set (i := 2) scLaw.nd rfl (Or.inl rfl) (pe_call GP r2 (by rfl) mP kP bP .nil pass0 (pa_cons (pv 0) (pa_cons (pv 1) pa_nil))))
      (pss_cons (ps_set (i := 3) scLaw.nd rfl (Or.inl rfl) (pe_lst (pa_cons (pe_call GW r11 (by rfl) mW kW bW .nil pass0 (pa_cons (pv 2) pa_nil)) (pa_cons (pe_call GW r11 (by rfl) mW kW bW .nil pass0 (pa_cons (pv 2) pa_nil)) pa_nil))))
      (pss_cons (ps_setLc (i := 4) (own := [("_law_world_here", 10)]) (g := gName 10) (te := tCall (spShown C CB) [] E0 (tCons (tVar 10) tNil)) rfl scLaw.nd rfl rfl (sw_true rfl rfl rfl (by decide +kernel)) (pi_list (pv 3)) (blkOk_by (own := [("_law_world_here", 10)]) (N := nLaw) (sc := defScope sLaw) (by decide +kernel)) (fun _ _ _ _ _ => (pg_name (i := 10) scLaw.nd rfl (Or.inl rfl))) (fun _ _ _ _ _ => pts_nil) (fun _ _ _ _ _ => by exact (pe_callG GH gs r6 (by rfl) mH kH bH pass0 (pa_cons (pv 10) pa_nil))))
      (pss_cons (ps_set (i := 5) scLaw.nd rfl (Or.inl rfl) pe_dnewT)
      (pss_cons (ps_for PassesOwn.never rfl (pi_range1 (by rfl) B.range (pa_cons pe_int pa_nil)) (pg_name (i := 6) scLaw.nd rfl (Or.inl rfl)) (pss_cons (ps_par (by rfl) scLaw.nd (i := 7) (j := 8) rfl rfl (by decide) rfl rfl (pa_cons (pe_call GD r2 (by rfl) mD kD bD .nil pass0 (pa_cons (pv 2) (pa_cons pe_int pa_nil))) (pa_cons (pe_call GD r2 (by rfl) mD kD bD .nil pass0 (pa_cons (pv 2) (pa_cons pe_int pa_nil))) pa_nil)) (by rfl))
      (pss_cons (ps_set (i := 9) scLaw.nd rfl (Or.inl rfl) (pe_call GK hr (by rfl) mK kK bK .nil pass0 (pa_cons (pe_ix ix_list (pv 3) (pv 7) (fun _ _ => rfl)) (pa_cons (pv 8) (pa_cons (pe_cmpR op_eq (pe_call GD r2 (by rfl) mD kD bD .nil pass0 (pa_cons (pv 2) (pa_cons pe_int pa_nil))) pe_int (nomark _)) pa_nil)))))
      (pss_cons (ps_if (pt_cmpR op_ne (pe_callB (cr_or (r1 := rRepr K) (cr_repr gs hu) (cr_reprG mon_sht (sh_or (sh_or (sh_mono (shG_own (E := E0) GY cY nY bY pass0) (by decide)) (sh_mono (shG_own (E := E0) GU cU nU bU pass0) (by decide))) (sh_mono (m := 3) (shG_own (E := E0) GF cF nF bF pass0) (by decide))) gs r5)) (by rfl) B.repr (by decide +kernel) (pa_cons (pv 9) pa_nil)) (pe_dget2 (Nat.lt_of_le_of_lt (Nat.add_le_add_left (by decide) _) hu) (pv 5) (pe_tup (pa_cons (pv 7) (pa_cons (pv 8) pa_nil))) (pe_callB (cr_or (r1 := rRepr K) (cr_repr gs hu) (cr_reprG mon_sht (sh_or (sh_or (sh_mono (shG_own (E := E0) GY cY nY bY pass0) (by decide)) (sh_mono (shG_own (E := E0) GU cU nU bU pass0) (by decide))) (sh_mono (m := 3) (shG_own (E := E0) GF cF nF bF pass0) (by decide))) gs r5)) (by rfl) B.repr (by decide +kernel) (pa_cons (pv 9) pa_nil)) ⟨by rfl, by rfl, by rfl, by rfl⟩) (nomark _)) (pss_one (ps_ret pe_bl)) pss_nil)
      (pss_cons (ps_dput (Nat.lt_of_le_of_lt (Nat.add_le_add_left (by decide) _) hu) (pv 5) (pe_tup (pa_cons (pv 7) (pa_cons (pv 8) pa_nil))) (pe_callB (cr_or (r1 := rRepr K) (cr_repr gs hu) (cr_reprG mon_sht (sh_or (sh_or (sh_mono (shG_own (E := E0) GY cY nY bY pass0) (by decide)) (sh_mono (shG_own (E := E0) GU cU nU bU pass0) (by decide))) (sh_mono (m := 3) (shG_own (E := E0) GF cF nF bF pass0) (by decide))) gs r5)) (by rfl) B.repr (by decide +kernel) (pa_cons (pv 9) pa_nil)) (by rfl))
      (pss_one (ps_if (pt_val (pe_callB call_isi (by rfl) B.isinstance (by decide +kernel) (pa_cons (pv 9) (pa_cons (pe_bltn (v := .ty "list") (by rfl) B.list (by decide +kernel) rfl) pa_nil)))) (pss_cons (ps_expr (pe_bm PySem.F.plainAttrs_list PySem.F.slot_list_append PySem.F.type_list_append mt_append (pv 9) (pa_cons pe_non pa_nil)))
      (pss_one (ps_expr (pe_bm0 PySem.F.plainAttrs_list PySem.F.slot_list_reverse PySem.F.type_list_reverse mt_reverse (pv 9))))) pss_nil)))))))
      (pss_one (ps_if (pt_cmpR (op_neP hu) (pe_lc (own := [("_law_world_here", 10)]) (g := gName 10) (te := tCall (spShown C CB) [] E0 (tCons (tVar 10) tNil)) rfl scLaw.nd (pi_list (pv 3)) (blkOk_by (own := [("_law_world_here", 10)]) (N := nLaw) (sc := defScope sLaw) (by decide +kernel)) (fun _ _ _ _ _ => (pg_name (i := 10) scLaw.nd rfl (Or.inl rfl))) (fun _ _ _ _ _ => pts_nil) (fun _ _ _ _ _ => by exact (pe_callG GH gs r6 (by rfl) mH kH bH pass0 (pa_cons (pv 10) pa_nil)))) (pv 4) (nomark _)) (pss_one (ps_ret pe_bl)) pss_nil))))))))
      (pss_one (ps_ret pe_bl))), ?_⟩
    refine ⟨_, rfl, a, _, rfl, .inl hS, _, _, rfl, _, _, rfl, _, rfl, ?_, ?_, ?_⟩
    · rw [List.length_map]
      split <;> split <;> omega
    · rw [List.length_map]
      split <;> split <;> omega
    refine for_range (lo := 0) (fun i σ H' => Same H H' ∧ ∃ (v1 v2 v3 v4 v5 v6 v7 v8 v9 : Option V), σ = [some (.ref a), v1, v2, v3, v4, v5, v6, v7, v8, v9, none])
      ⟨Same.refl _, none, none, none, none, none, none, none, none, none, rfl⟩ ?_ ?_
    · rintro i σ H1 hi ⟨s1, v1, v2, v3, v4, v5, v6, v7, v8, v9, rfl⟩
      have hi8 : i < 6 := by
        rw [List.length_map] at hi
        revert hi
        split <;> split <;> omega
      refine ⟨_, rfl, _, rfl, a, ns, i, (by rw [Int.zero_add]; rfl), s1.seq hS, by omega, fun p H2 hp s2 pot2 => ?_⟩
      refine ⟨_, rfl, p, rfl, pot2, fun a1 x1 H3 ha1 b3 pot3 wd1 ok1 => ?_⟩
      refine ⟨_, rfl, p, rfl, pot3, fun a2 x2 H4 ha2 b4 pot4 wd2 ok2 => ?_⟩
      refine ⟨(by show 2 ≤ sizeLine; decide), fun Lw hLw => ?_⟩
      have s5 := same_new (o := .lst [V.ref a1, V.ref a2]) hLw
      have eLw : (upd H4 Lw (.lst [V.ref a1, V.ref a2])) Lw = some (.lst ([a1, a2].map V.ref)) := upd_same
      have wd14 := wd1.but pot3 b4
      have wd15 := wd14.same s5
      have wd25 := wd2.same s5
      have pot5 := pot4.same s5
      have Lwp := pot_ne pot4 hLw
      have b25 := (b3.trans b4).trans (But.same s5)
      have fLw : H4 Lw = none := hLw
      generalize upd H4 Lw (.lst [V.ref a1, V.ref a2]) = H5 at eLw wd15 wd25 pot5 b25 s5 ⊢
      refine ⟨_, rfl, Lw, rfl, ⟨_, SqL.of eLw⟩, fun Ls hLs => ?_⟩
      have wdAt : ∀ {H' : Hp} {j : Nat} {v : V}, Wd C CB H' a1 x1 → Wd C CB H' a2 x2 → ([a1, a2].map V.ref)[j]? = some v → ∃ aj xj, v = .ref aj ∧ [x1, x2][j]? = some xj ∧ Wd C CB H' aj xj ∧ OkW xj := fun {H' j v} w1 w2 h => by
        rcases j with _ | _ | j
        · exact ⟨a1, x1, (Option.some.inj h).symm, rfl, w1, ok1⟩
        · exact ⟨a2, x2, (Option.some.inj h).symm, rfl, w2, ok2⟩
        · cases h
      refine lc_list (K := K) (a := Lw) (xs := [a1, a2].map V.ref) (fun i H' => Same H5 H' ∧ H' Ls = some (.lst ((([x1, x2].map shT).take i).map V.str))) ⟨same_new hLs, upd_same⟩ (fun i H' _ h => SqL.of (h.1 _ _ eLw)) ?_ ?_
      · rintro j x H6 hx ⟨s6, hD6⟩
        obtain ⟨aj, xj, rfl, hxj, wj, okj⟩ := wdAt (wd15.same s6) (wd25.same s6) hx
        refine ⟨rfl, yesT ?_⟩
        refine ⟨_, rfl, aj, xj, rfl, wj, okj, fun H7 s7 => ?_⟩
        have j2 : j < 2 := (List.getElem?_eq_some_iff.mp hxj).1
        refine ⟨_, s7 _ _ hD6, ?_, ?_, ?_⟩
        · rw [List.length_map, List.length_take]
          exact small1000 (by omega)
        · intro z o e
          rw [upd_ne (ne_of_none e hLs)]
          exact s7 _ _ (s6 z o e)
        · rw [upd_same, List.take_succ, List.getElem?_map, hxj, List.map_append]
          rfl
      rintro H6 ⟨s6, eLs⟩
      have lss : ([x1, x2].map shT).take ([a1, a2].map V.ref).length = [x1, x2].map shT := rfl
      rw [lss] at eLs
      obtain ⟨tx, htx⟩ : ∃ tx, [x1, x2].map shT = tx := ⟨_, rfl⟩
      have ltx : tx.length = 2 := by rw [← htx]; rfl
      refine fun d hd => ?_
      have s7 := same_new (o := .dT []) hd
      have ed0 : (upd H6 d (.dT [])) d = some (.dT []) := upd_same
      have pot6 := pot5.same s6
      have dp := pot_ne pot6 hd
      have pot7 := pot6.same s7
      have s57 := s6.trans s7
      have eLw7 := s57 _ _ eLw
      have eLs7 := s7 _ _ eLs
      have Lwd : Lw ≠ d := ne_of_none (s6 _ _ eLw) hd
      have Lsd : Ls ≠ d := ne_of_none eLs hd
      have Lsp : Ls ≠ p := pot_ne pot5 hLs
      have wd17 := wd15.same s57
      have wd27 := wd25.same s57
      have b27 : But p H2 (upd H6 d (.dT [])) := b25.trans (But.same s57)
      generalize upd H6 d (.dT []) = H7 at ed0 pot7 eLw7 eLs7 wd17 wd27 b27 s7 s57 ⊢
      refine ⟨_, rfl, by decide, by decide, ?_⟩
      refine for_range (lo := 0) (n := 30) (fun i σ H' => K2 p d H7 H' ∧ PotAt H' p ∧ ∃ kvs, H' d = some (.dT kvs) ∧ kvs.length ≤ i ∧ KOk [x1, x2] kvs ∧ ∃ (v1 v6 v7 v8 v9 : Option V), σ = [some (.ref a), v1, some (.ref p), some (.ref Lw), some (.ref Ls), some (.ref d), v6, v7, v8, v9, none])
        ⟨fun z o _ _ e => e, pot7, [], ed0, Nat.le_refl 0, (fun i w v h => by cases h), _, _, _, _, _, rfl⟩ ?_ ?_
      · rintro j σ H8 hj ⟨k78, pot8, kvs, ed, lk, kok, v1, v6, v7, v8, v9, rfl⟩
        have nb : ∀ {H' : Hp} {q : Addr} {lo hi : Int}, lo ≤ hi → lo ≤ hi := fun h => h
        have wk : ∀ {H' : Hp}, K2 p d H7 H' → Wd C CB H' a1 x1 ∧ Wd C CB H' a2 x2 ∧ H' Lw = some (.lst ([a1, a2].map V.ref)) := fun {H'} k => ⟨wd17.k2 pot7 ⟨_, ed0⟩ k, wd27.k2 pot7 ⟨_, ed0⟩ k, k _ _ Lwp Lwd eLw7⟩
        refine ⟨_, rfl, p, 2, rfl, pot8, by decide, by decide, fun ix H9 i0 i2 b9 pot9 => ?_⟩
        refine ⟨_, rfl, p, 7, rfl, pot9, by decide, by decide, fun wy Ha w0 w7 ba pota => ⟨_, _, rfl, ?_⟩⟩
        obtain ⟨ii, rfl⟩ : ∃ n : Nat, ix = ((n : Nat) : Int) := ⟨ix.toNat, (Int.toNat_of_nonneg i0).symm⟩
        obtain ⟨ww, rfl⟩ : ∃ n : Nat, wy = ((n : Nat) : Int) := ⟨wy.toNat, (Int.toNat_of_nonneg w0).symm⟩
        have k8a : K2 p d H8 Ha := (K2.but b9).trans (K2.but ba)
        have k7a := k78.trans k8a
        obtain ⟨w1a, w2a, eLwa⟩ := wk k7a
        obtain ⟨v0, hv0⟩ : ∃ v0, ([a1, a2].map V.ref)[ii]? = some v0 := ⟨_, List.getElem?_eq_getElem (by show ii < 2; omega)⟩
        obtain ⟨aj, xj, rfl, hxj, wj, okj⟩ := wdAt w1a w2a hv0
        refine ⟨_, rfl, _, rfl, Lw, _, _, _, rfl, rfl, SqL.of eLwa, atI_nat hv0, ?_⟩
        refine ⟨_, rfl, _, rfl, p, 2, rfl, pota, by decide, by decide, fun c Hb c0 c1 bb potb => ⟨rfl, ?_⟩⟩
        have k8b := k8a.trans (K2.but bb)
        have k7b := k78.trans k8b
        have wjb : Wd C CB Hb aj xj := by
          obtain ⟨w1b, w2b, _⟩ := wk k7b
          obtain ⟨aj', xj', e1, e2, wj', _⟩ := wdAt w1b w2b hv0
          injection e1 with e1
          rw [hxj] at e2
          rw [e1, Option.some.inj e2]
          exact wj'
        refine ⟨aj, xj, ww, _, rfl, wjb, okj, by omega, fun v t Hc sc an tx_ => ?_⟩
        have s78c : K2 p d H7 Hc := k7b.trans (K2.of sc)
        have potc := potb.same sc
        have edc : Hc d = some (.dT kvs) := sc _ _ (bb _ _ (Ne.symm (Ne.symm dp)) (ba _ _ dp (b9 _ _ dp ed)))
        have gets : (valV kvs (key ii ww)).getD (.str t) = .str t := by
          cases hv : valV kvs (key ii ww) with
          | none => rfl
          | some y =>
            obtain ⟨x', t', hx', e, tx2⟩ := kok ii ww y hv
            rw [hxj] at hx'
            rw [← Option.some.inj hx'] at tx2
            show y = .str t
            rw [e, tx2.only tx_]
        refine ⟨_, rfl, show_ans an fun Hd sd => ?_⟩
        refine ⟨_, rfl, d, rfl, .inr ⟨kvs, Rd.of (sd _ _ edc)⟩, ?_⟩
        refine ⟨_, rfl, _, rfl, (by show 2 ≤ sizeLine; decide), fun kt hkt => ?_⟩
        have se := same_new (o := .tup [V.int ((ii : Nat) : Int), V.int ((ww : Nat) : Int)]) hkt
        have ekt : (upd Hd kt (.tup [V.int ((ii : Nat) : Int), V.int ((ww : Nat) : Int)])) kt = some (.tup ((key ii ww).map kV)) := upd_same
        generalize upd Hd kt (.tup [V.int ((ii : Nat) : Int), V.int ((ww : Nat) : Int)]) = He at se ekt ⊢
        have sce := sd.trans se
        refine ⟨_, rfl, show_ans (an.same sce) fun Hf sf => ?_⟩
        have scf := sce.trans sf
        refine ⟨_, DGet.t (k := key ii ww) (scf _ _ edc) (sf _ _ ekt), ?_⟩
        rw [gets]
        refine ⟨rfl, _, rfl, ?_⟩
        rw [decide_eq_true rfl]
        refine iteF ?_
        refine ⟨_, rfl, show_ans (an.same scf) fun Hg sg => ?_⟩
        refine ⟨_, rfl, _, rfl, _, rfl, (by show 2 ≤ sizeLine; decide), fun kt2 hkt2 => ?_⟩
        have sh_ := same_new (o := .tup [V.int ((ii : Nat) : Int), V.int ((ww : Nat) : Int)]) hkt2
        have ekt2 : (upd Hg kt2 (.tup [V.int ((ii : Nat) : Int), V.int ((ww : Nat) : Int)])) kt2 = some (.tup ((key ii ww).map kV)) := upd_same
        generalize upd Hg kt2 (.tup [V.int ((ii : Nat) : Int), V.int ((ww : Nat) : Int)]) = Hh at sh_ ekt2 ⊢
        have sch := (scf.trans sg).trans sh_
        have edh := sch _ _ edc
        refine ⟨d, _, rfl, DPut.t (k := key ii ww) edh ekt2 (by rw [sizeLine_eq]; omega), ?_⟩
        have anh := an.same sch
        have eput : (upd Hh d (.dT (putK kvs (key ii ww) (.str t)))) d = some (.dT (putK kvs (key ii ww) (.str t))) := upd_same
        have kput : K2 p d Hh (upd Hh d (.dT (putK kvs (key ii ww) (.str t)))) := fun z o _ n2 e => by rw [upd_ne n2]; exact e
        have nput : ∀ z o, z ≠ d → Hh z = some o → (upd Hh d (.dT (putK kvs (key ii ww) (.str t)))) z = some o := fun z o n e => by rw [upd_ne n]; exact e
        generalize upd Hh d (.dT (putK kvs (key ii ww) (.str t))) = Hi at eput kput nput ⊢
        have k7i : K2 p d H7 Hi := (s78c.trans (K2.of sch)).trans kput
        have poth := potc.same sch
        have poti : PotAt Hi p := by
          obtain ⟨y, z, e, r⟩ := poth
          exact ⟨y, z, nput _ _ (Ne.symm dp) e, r⟩
        have kok2 : KOk [x1, x2] (putK kvs (key ii ww) (.str t)) := fun i w v hv => by
          rw [valV_put] at hv
          by_cases y : key i w = key ii ww
          · rw [if_pos y] at hv
            have e : i = ii ∧ w = ww := by
              unfold key at y
              injection y with y1 y2
              injection y2 with y2 _
              injection y1 with y1
              injection y2 with y2
              omega
            obtain ⟨rfl, rfl⟩ := e
            exact ⟨xj, t, hxj, (Option.some.inj hv).symm, tx_⟩
          · rw [if_neg y] at hv
            exact kok i w v hv
        have lk2 : (putK kvs (key ii ww) (V.str t)).length ≤ j + 1 := Nat.le_trans (putK_le _ _ kvs) (by omega)
        have fin : ∀ Hz, (∀ z o, z ≠ d → Hb z = some o → Hi z = some o → Hz z = some o) → Hz d = Hi d → ∀ (v1 v6 v7 v8 v9 : Option V), (K2 p d H7 Hz ∧ PotAt Hz p ∧ ∃ kvs, Hz d = some (.dT kvs) ∧ kvs.length ≤ j + 1 ∧ KOk [x1, x2] kvs ∧ ∃ (u1 u6 u7 u8 u9 : Option V), [some (.ref a), v1, some (.ref p), some (.ref Lw), some (.ref Ls), some (.ref d), v6, v7, v8, v9, none] = [some (.ref a), u1, some (.ref p), some (.ref Lw), some (.ref Ls), some (.ref d), u6, u7, u8, u9, none]) := fun Hz kz dz v1 v6 v7 v8 v9 => by
          refine ⟨fun z o n1 n2 e => kz z o n2 (k7b z o n1 n2 e) (k7i z o n1 n2 e), ?_, _, by rw [dz]; exact eput, lk2, kok2, _, _, _, _, _, rfl⟩
          obtain ⟨y, z, e, r⟩ := potb
          exact ⟨y, z, kz _ _ (Ne.symm dp) e (nput _ _ (Ne.symm dp) (sch _ _ (sc _ _ e))), r⟩
        rcases anh with ⟨l, vs, ts, rfl, fl, el, nv, sh, et, len⟩ | ⟨dd, n, dx, a1_, a2_, a3_, a4_, kf⟩
        · have ld : l ≠ d := fun y => by rw [y, bb _ _ dp (ba _ _ dp (b9 _ _ dp ed))] at fl; cases fl
          have eli := nput _ _ ld el
          refine ⟨_, rfl, _, _, _, _, true, rfl, .ty "list", .base (.lst eli), kit_list, _, rfl, iteT ?_⟩
          refine ⟨_, rfl, .inl ⟨rfl, _, SqL.of eli⟩, l, _, _, rfl, rfl, eli, (by exact small1000 (by omega)), ?_⟩
          have e1 : (upd Hi l (.lst (vs ++ [V.non]))) l = some (.lst (vs ++ [V.non])) := upd_same
          refine ⟨_, rfl, .inl ⟨rfl, _, SqL.of e1⟩, l, _, rfl, rfl, e1, ?_⟩
          refine fin _ (fun z o nd eb ei => ?_) ?_ _ _ _ _ _
          · have zl : z ≠ l := ne_of_none eb fl
            rw [upd_ne zl, upd_ne zl]
            exact ei
          · rw [upd_ne (Ne.symm ld), upd_ne (Ne.symm ld)]
        · refine ⟨_, rfl, _, _, _, _, false, rfl, .ty "list", (dx Hi fun z xs e => nput _ _ (fun y => by rw [y, edh] at e; cases e) e).2, kf, _, rfl, iteF ?_⟩
          exact fin Hi (fun z o _ _ e => e) rfl _ _ _ _ _
      · rintro σ H8 ⟨k78, pot8, kvs, ed, lk, kok, v1, v6, v7, v8, v9, rfl⟩
        have w18 := wd17.k2 pot7 ⟨_, ed0⟩ k78
        have w28 := wd27.k2 pot7 ⟨_, ed0⟩ k78
        have eLw8 := k78 _ _ Lwp Lwd eLw7
        have eLs8 := k78 _ _ Lsp Lsd eLs7
        refine ⟨_, rfl, Lw, rfl, ⟨_, SqL.of eLw8⟩, fun D hD => ?_⟩
        refine lc_list (K := K) (a := Lw) (xs := [a1, a2].map V.ref) (fun i H' => Same H8 H' ∧ H' D = some (.lst ((([x1, x2].map shT).take i).map V.str))) ⟨same_new hD, upd_same⟩ (fun i H' _ h => SqL.of (h.1 _ _ eLw8)) ?_ ?_
        · rintro j x H9 hx ⟨s9, hD9⟩
          obtain ⟨aj, xj, rfl, hxj, wj, okj⟩ := wdAt (w18.same s9) (w28.same s9) hx
          refine ⟨rfl, yesT ?_⟩
          refine ⟨_, rfl, aj, xj, rfl, wj, okj, fun Ha sa => ?_⟩
          have j2 : j < 2 := (List.getElem?_eq_some_iff.mp hxj).1
          refine ⟨_, sa _ _ hD9, ?_, ?_, ?_⟩
          · rw [List.length_map, List.length_take]
            exact small1000 (by omega)
          · intro z o e
            rw [upd_ne (ne_of_none e hD)]
            exact sa _ _ (s9 z o e)
          · rw [upd_same, List.take_succ, List.getElem?_map, hxj, List.map_append]
            rfl
        rintro H9 ⟨s9, hD9⟩
        rw [lss, htx] at hD9
        have eLs9 := s9 _ _ eLs8
        rw [htx] at eLs9
        clear htx
        refine ⟨_, rfl, .list (tx.map PyData.str), .list (tx.map PyData.str), .lst (SqL.of hD9) (dps_strs _), .lst (SqL.of eLs9) (dps_strs _), plain_strs _, plain_strs _, depth_strs _ _, ?_⟩
        rw [show PyData.eqv (.list (tx.map PyData.str)) (.list (tx.map PyData.str)) = true from SeqAt.eqv_refl_plain _ (plain_strs _)]
        refine ⟨_, rfl, iteF ⟨?_, _, _, _, _, _, _, _, _, _, rfl⟩⟩
        intro z o e
        have zp : z ≠ p := ne_of_none (s1 _ _ e) hp
        have e2 := s2 _ _ (s1 _ _ e)
        have zd : z ≠ d := by
          have e6 : H6 z = some o := s6 _ _ (b25 z o zp e2)
          exact ne_of_none e6 hd
        exact s9 _ _ (k78 z o zp zd (b27 z o zp e2))
    · rintro σ H1 ⟨s1, v1, v2, v3, v4, v5, v6, v7, v8, v9, rfl⟩
      exact out _
end
end K49
namespace K49
open PySem PySem.Spec PyProof.Rows L2 Par
theorem kb_size {K : PySem.W.Frag} {x : Str} {st : Stmt} {f : Addr} {fd : FuncData} {y : Str} (F : FunD K x x (defArgs st) (defBody st) (defScope st) [] [("size", .int 40)] f fd)
    (h : ∀ (D : Addr) (doc pm : Value) (an : Option Addr) (cdv ct u v : Value), bindArgs (PySem.W.fnOf x x (defArgs st) (defBody st) (defScope st) .none (.ref D) doc pm an cdv ct) ⟨[u], [("size", v)]⟩ = pure [(y, u), ("size", v)]) :
    KBn K fd [y, "size"] 1 ["size"] (fun us ws => us ++ ws) (fun vs zs => vs ++ zs) := by
  obtain ⟨oc, od, dV, kV, doc, pm, an, cdv, ct, osl, rfl, lk, hcd, hD, hK⟩ := F.ex
  rcases hD with ⟨_, rfl⟩ | ⟨e, _⟩
  · rcases hK with e | ⟨D, rfl, hq⟩
    · cases e
    · refine ⟨fun s us ws X l1 l2 => ?_, fun r1 r2 => r1.append r2⟩
      match us, ws, l1, l2 with
      | [u], [v], _, _ => exact .of_eq (h D doc pm an cdv ct u v)
  · exact absurd rfl e
theorem kb_one {K : PySem.W.Frag} {x q : Str} {st : Stmt} {f : Addr} {fd : FuncData} {y : Str} (F : Fun K x q st f fd)
    (h : ∀ (kV doc pm : Value) (an : Option Addr) (cdv ct u v : Value), bindArgs (PySem.W.fnOf x q (defArgs st) (defBody st) (defScope st) .none kV doc pm an cdv ct) ⟨[u], [(y, v)]⟩ = pure ([("self", u), (y, v)] : List (Str × Value))) :
    KBn K fd ["self", y] 1 [y] (fun us ws => us ++ ws) (fun vs zs => vs ++ zs) := by
  obtain ⟨oc, od, kV, doc, pm, an, cdv, ct, osl, rfl, lk, hcd⟩ := F.ex
  refine ⟨fun s us ws X l1 l2 => ?_, fun r1 r2 => r1.append r2⟩
  match us, ws, l1, l2 with
  | [u], [v], _, _ => exact .of_eq (h kV doc pm an cdv ct u v)
theorem kb_ini {K : PySem.W.Frag} {f e : Addr} {fd : FuncData} {n : Nat} {ks : List Str} (F : FunD K "__init__" "Board.__init__" (defArgs mInit) (defBody mInit) (defScope mInit) [] [("up", .ref e)] f fd)
    (h : ∀ (D : Addr) (doc pm : Value) (an : Option Addr) (cdv ct : Value) (us ws : List Value), us.length = n → ws.length = ks.length →
      bindArgs (PySem.W.fnOf "__init__" "Board.__init__" (defArgs mInit) (defBody mInit) (defScope mInit) .none (.ref D) doc pm an cdv ct) ⟨us, ks.zip ws⟩ = pure ((["self", "size", "up"] : List Str).zip (us ++ ws))) :
    KBn K fd ["self", "size", "up"] n ks (fun us ws => us ++ ws) (fun vs zs => vs ++ zs) := by
  obtain ⟨oc, od, dV, kV, doc, pm, an, cdv, ct, osl, rfl, lk, hcd, hD, hK⟩ := F.ex
  rcases hD with ⟨_, rfl⟩ | ⟨e, _⟩
  · rcases hK with e | ⟨D, rfl, hq⟩
    · cases e
    · exact ⟨fun s us ws X l1 l2 => .of_eq (h D doc pm an cdv ct us ws l1 l2), fun r1 r2 => r1.append r2⟩
  · exact absurd rfl e
theorem kit_own {K : PySem.W.Frag} {D C : Addr} {b : Bool} (ne : D ≠ C) (hd : PySem.W.hasDictIn K C = true) (ty : PySem.W.typeIn K (.ref C) = some (.type "type")) (sub : PySem.W.subIn K (.ref D) (.ref C) = some b) :
    PySem.W.kitOne K (.ref D) (.ref C) = some b := by
  obtain ⟨cd, hc, _⟩ := PySem.W.any_some hd
  have e1 : (Value.ref D == Value.ref C) = false := beq_eq_false_iff_ne.mpr fun z => ne (Value.ref.inj z)
  have e2 : ((PySem.W.clsIn K C).isSome && PySem.W.typeIn K (.ref C) == some (.type "type")) = true := by
    rw [hc, ty]
    rfl
  show (if (Value.ref D == Value.ref C) = true then some true else if ((PySem.W.clsIn K C).isSome && PySem.W.typeIn K (.ref C) == some (.type "type")) = true then PySem.W.subIn K (.ref D) (.ref C) else none) = some b
  rw [if_neg (by rw [e1]; simp), if_pos e2]
  exact sub
theorem kit_blt {K : PySem.W.Frag} {D : Addr} {T : String} {b : Bool} (mt : PySem.W.kitMeta T = true) (sub : PySem.W.subIn K (.ref D) (.type T) = some b) : PySem.W.kitOne K (.ref D) (.type T) = some b := by
  have e1 : (Value.ref D == Value.type T) = false := beq_eq_false_iff_ne.mpr fun z => nomatch z
  show (if (Value.ref D == Value.type T) = true then some true else if PySem.W.kitMeta T = true then PySem.W.subIn K (.ref D) (.type T) else none) = some b
  rw [if_neg (by rw [e1]; simp), if_pos mt]
  exact sub
theorem rev_vals : ∀ {vs : List V} {us : List Value}, Vals vs us → Vals vs.reverse us.reverse
  | _, _, .nil => .nil
  | _, _, .cons r rs => by
    rw [List.reverse_cons, List.reverse_cons]
    exact (rev_vals rs).append (.cons r .nil)
theorem kb_back {K : PySem.W.Frag} {x : Str} {st : Stmt} {f : Addr} {fd : FuncData} {y z : Str} (F : Fun K x x st f fd)
    (h : ∀ (kV doc pm : Value) (an : Option Addr) (cdv ct u v : Value), bindArgs (PySem.W.fnOf x x (defArgs st) (defBody st) (defScope st) .none kV doc pm an cdv ct) ⟨[], [(z, v), (y, u)]⟩ = pure ([(y, u), (z, v)] : List (Str × Value))) :
    KBn K fd [y, z] 0 [z, y] (fun us ws => us ++ ws.reverse) (fun vs zs => vs ++ zs.reverse) := by
  obtain ⟨oc, od, kV, doc, pm, an, cdv, ct, osl, rfl, lk, hcd⟩ := F.ex
  refine ⟨fun s us ws X l1 l2 => ?_, fun r1 r2 => r1.append (rev_vals r2)⟩
  match us, ws, l1, l2 with
  | [], [v, u], _, _ => exact .of_eq (h kV doc pm an cdv ct u v)
theorem kb_zero {K : PySem.W.Frag} {x : Str} {st : Stmt} {f : Addr} {fd : FuncData} {y : Str} (F : Fun K x x st f fd)
    (h : ∀ (kV doc pm : Value) (an : Option Addr) (cdv ct u : Value), bindArgs (PySem.W.fnOf x x (defArgs st) (defBody st) (defScope st) .none kV doc pm an cdv ct) ⟨[], [(y, u)]⟩ = pure ([(y, u)] : List (Str × Value))) :
    KBn K fd [y] 0 [y] (fun us ws => us ++ ws) (fun vs zs => vs ++ zs) := by
  obtain ⟨oc, od, kV, doc, pm, an, cdv, ct, osl, rfl, lk, hcd⟩ := F.ex
  refine ⟨fun s us ws X l1 l2 => ?_, fun r1 r2 => r1.append r2⟩
  match us, ws, l1, l2 with
  | [], [u], _, _ => exact .of_eq (h kV doc pm an cdv ct u)
theorem kb_two {K : PySem.W.Frag} {x : Str} {st : Stmt} {f : Addr} {fd : FuncData} {y z : Str} (F : Fun K x x st f fd)
    (h : ∀ (kV doc pm : Value) (an : Option Addr) (cdv ct u v : Value), bindArgs (PySem.W.fnOf x x (defArgs st) (defBody st) (defScope st) .none kV doc pm an cdv ct) ⟨[], [(y, u), (z, v)]⟩ = pure ([(y, u), (z, v)] : List (Str × Value))) :
    KBn K fd [y, z] 0 [y, z] (fun us ws => us ++ ws) (fun vs zs => vs ++ zs) := by
  obtain ⟨oc, od, kV, doc, pm, an, cdv, ct, osl, rfl, lk, hcd⟩ := F.ex
  refine ⟨fun s us ws X l1 l2 => ?_, fun r1 r2 => r1.append r2⟩
  match us, ws, l1, l2 with
  | [], [u, v], _, _ => exact .of_eq (h kV doc pm an cdv ct u v)
theorem all_mk {l : PySem.W.OpenLaw} {w : World} {K : PySem.W.Frag} {h : Heap} {mg : Str → Option Value} {fa : Addr} (X : K.In h) (G : h.Ns mainGlobals mg) (hfa : mg "law" = some (.ref fa))
    {f10 : Addr} {oc10 kV10 dc10 pm10 cd10 ct10 : Value} {od10 an10 : Option Addr} {sl10 : Array (Option Value)}
    {f11 : Addr} {oc11 kV11 dc11 pm11 cd11 ct11 : Value} {od11 an11 : Option Addr} {sl11 : Array (Option Value)}
    {f14 : Addr} {oc14 kV14 dc14 pm14 cd14 ct14 : Value} {od14 an14 : Option Addr} {sl14 : Array (Option Value)}
    {f16 : Addr} {oc16 kV16 dc16 pm16 cd16 ct16 : Value} {od16 an16 : Option Addr} {sl16 : Array (Option Value)}
    {f19 : Addr} {oc19 kV19 dc19 pm19 cd19 ct19 : Value} {od19 an19 : Option Addr} {sl19 : Array (Option Value)}
    {f23 : Addr} {oc23 kV23 dc23 pm23 cd23 ct23 : Value} {od23 an23 : Option Addr} {sl23 : Array (Option Value)}
    {fm1 : Addr} {ocm1 kVm1 dcm1 pmm1 cdm1 ctm1 : Value} {odm1 anm1 : Option Addr} {slm1 : Array (Option Value)}
    {fm2 : Addr} {ocm2 kVm2 dcm2 pmm2 cdm2 ctm2 : Value} {odm2 anm2 : Option Addr} {slm2 : Array (Option Value)}
    {fm3 : Addr} {ocm3 kVm3 dcm3 pmm3 cdm3 ctm3 : Value} {odm3 anm3 : Option Addr} {slm3 : Array (Option Value)}
    {fm4 : Addr} {ocm4 kVm4 dcm4 pmm4 cdm4 ctm4 : Value} {odm4 anm4 : Option Addr} {slm4 : Array (Option Value)}
    {fm5 : Addr} {ocm5 kVm5 dcm5 pmm5 cdm5 ctm5 : Value} {odm5 anm5 : Option Addr} {slm5 : Array (Option Value)}
    {fm6 : Addr} {ocm6 kVm6 dcm6 pmm6 cdm6 ctm6 : Value} {odm6 anm6 : Option Addr} {slm6 : Array (Option Value)}
    {fm8 : Addr} {ocm8 kVm8 dcm8 pmm8 cdm8 ctm8 : Value} {odm8 anm8 : Option Addr} {slm8 : Array (Option Value)}
    {fm7 : Addr} {ocm7 kVm7 dcm7 pmm7 cdm7 ctm7 : Value} {odm7 anm7 : Option Addr} {slm7 : Array (Option Value)}
    {fm9 : Addr} {ocm9 kVm9 dcm9 pmm9 cdm9 ctm9 : Value} {odm9 anm9 : Option Addr} {slm9 : Array (Option Value)}
    {fma : Addr} {ocma kVma dcma pmma cdma ctma : Value} {odma anma : Option Addr} {slma : Array (Option Value)}
    {fmb : Addr} {ocmb kVmb dcmb pmmb cdmb ctmb : Value} {odmb anmb : Option Addr} {slmb : Array (Option Value)}
    {fmc : Addr} {ocmc kVmc dcmc pmmc cdmc ctmc : Value} {odmc anmc : Option Addr} {slmc : Array (Option Value)}
    {f18 : Addr} {oc18 kV18 dc18 pm18 cd18 ct18 : Value} {od18 an18 : Option Addr} {sl18 : Array (Option Value)}
    {f15 D15 : Addr} {t15 : Tok} {oc15 dc15 pm15 cd15 ct15 : Value} {od15 an15 : Option Addr} {sl15 : Array (Option Value)}
    {f17 D17 : Addr} {t17 : Tok} {oc17 dc17 pm17 cd17 ct17 : Value} {od17 an17 : Option Addr} {sl17 : Array (Option Value)}
    {C : Addr}
    {fI DI e : Addr} {ocI dcI pmI cdI ctI : Value} {odI anI : Option Addr} {slI : Array (Option Value)} {ode : Option Addr} {ne : Nat} {sle : Array (Option Value)}
    {fS : Addr} {ocS kVS dcS pmS cdS ctS : Value} {odS anS : Option Addr} {slS : Array (Option Value)}
    {fU : Addr} {ocU kVU dcU pmU cdU ctU : Value} {odU anU : Option Addr} {slU : Array (Option Value)}
    {fY : Addr} {ocY kVY dcY pmY cdY ctY : Value} {odY anY : Option Addr} {slY : Array (Option Value)}
    {V : Addr}
    {fJ : Addr} {ocJ kVJ dcJ pmJ cdJ ctJ : Value} {odJ anJ : Option Addr} {slJ : Array (Option Value)}
    {fg1 : Addr} {ocg1 kVg1 dcg1 pmg1 cdg1 ctg1 : Value} {odg1 ang1 : Option Addr} {slg1 : Array (Option Value)}
    {fg2 : Addr} {ocg2 kVg2 dcg2 pmg2 cdg2 ctg2 : Value} {odg2 ang2 : Option Addr} {slg2 : Array (Option Value)}
    {fg3 : Addr} {ocg3 kVg3 dcg3 pmg3 cdg3 ctg3 : Value} {odg3 ang3 : Option Addr} {slg3 : Array (Option Value)}
    {Tt : Addr}
    {fti : Addr} {octi kVti dcti pmti cdti ctti : Value} {odti anti : Option Addr} {slti : Array (Option Value)}
    {ftq : Addr} {octq kVtq dctq pmtq cdtq cttq : Value} {odtq antq : Option Addr} {sltq : Array (Option Value)}
    {NqTt : Addr} {nmqTt qnqTt : Str} {bsqTt : List Value} {hdqTt : Bool} {snqTt : List Str} {subqTt : List Value} {abqTt : Bool} {colqTt : Option Bool} {ddqTt : Option Addr} {q0Tt q1Tt q2Tt q3Tt q5Tt : Option Value} {niqTt : String}
    {oNTt : Value} {dNTt : Option Addr} {esNTt : Array DictEntry} {nNTt : Nat} {slNTt : Array (Option Value)}
    {ft1 : Addr} {oct1 kVt1 dct1 pmt1 cdt1 ctt1 : Value} {odt1 ant1 : Option Addr} {slt1 : Array (Option Value)}
    {ft2 : Addr} {oct2 kVt2 dct2 pmt2 cdt2 ctt2 : Value} {odt2 ant2 : Option Addr} {slt2 : Array (Option Value)}
    {ft5 : Addr} {oct5 kVt5 dct5 pmt5 cdt5 ctt5 : Value} {odt5 ant5 : Option Addr} {slt5 : Array (Option Value)}
    {ft3 : Addr} {oct3 kVt3 dct3 pmt3 cdt3 ctt3 : Value} {odt3 ant3 : Option Addr} {slt3 : Array (Option Value)}
    {ft6 : Addr} {oct6 kVt6 dct6 pmt6 cdt6 ctt6 : Value} {odt6 ant6 : Option Addr} {slt6 : Array (Option Value)}
    {ft7 : Addr} {oct7 kVt7 dct7 pmt7 cdt7 ctt7 : Value} {odt7 ant7 : Option Addr} {slt7 : Array (Option Value)}
    {W NnW : Addr} {nmW qnW : Str} {bsW : List Value} {snW : List Str} {subW : List Value} {abW : Bool} {colW : Option Bool} {ddW : Option Addr} {m0W m1W m2W m3W m5W : Option Value}
    {w0W : Addr}
    {fN : Addr} {ocN kVN dcN pmN cdN ctN : Value} {odN anN : Option Addr} {slN : Array (Option Value)}
    {tM : Tok}
    {fgi : Addr} {ocgi kVgi dcgi pmgi cdgi ctgi : Value} {odgi angi : Option Addr} {slgi : Array (Option Value)}
    {fid : Addr} {ocid kVid dcid pmid cdid ctid : Value} {odid anid : Option Addr} {slid : Array (Option Value)}
    {fts : Addr} {octs kVts dcts pmts cdts ctts : Value} {odts ants : Option Addr} {slts : Array (Option Value)}
    {fty : Addr} {octy kVty dcty pmty cdty ctty : Value} {odty anty : Option Addr} {slty : Array (Option Value)}
    {fbu : Addr} {ocbu kVbu dcbu pmbu cdbu ctbu : Value} {odbu anbu : Option Addr} {slbu : Array (Option Value)}
    {ffr : Addr} {ocfr kVfr dcfr pmfr cdfr ctfr : Value} {odfr anfr : Option Addr} {slfr : Array (Option Value)}
    {fgp : Addr} {ocgp kVgp dcgp pmgp cdgp ctgp : Value} {odgp angp : Option Addr} {slgp : Array (Option Value)}
    {fdp : Addr} {ocdp kVdp dcdp pmdp cddp ctdp : Value} {oddp andp : Option Addr} {sldp : Array (Option Value)}
    {fcg : Addr} {occg kVcg dccg pmcg cdcg ctcg : Value} {odcg ancg : Option Addr} {slcg : Array (Option Value)}
    {fai : Addr} {ocai kVai dcai pmai cdai ctai : Value} {odai anai : Option Addr} {slai : Array (Option Value)}
    {fbo : Addr} {ocbo kVbo dcbo pmbo cdbo ctbo : Value} {odbo anbo : Option Addr} {slbo : Array (Option Value)}
    {fwt : Addr} {ocwt kVwt dcwt pmwt cdwt ctwt : Value} {odwt anwt : Option Addr} {slwt : Array (Option Value)}
    {fiw : Addr} {ociw kViw dciw pmiw cdiw ctiw : Value} {odiw aniw : Option Addr} {sliw : Array (Option Value)}
    {frv : Addr} {ocrv kVrv dcrv pmrv cdrv ctrv : Value} {odrv anrv : Option Addr} {slrv : Array (Option Value)}
    {fod : Addr} {ocod kVod dcod pmod cdod ctod : Value} {odod anod : Option Addr} {slod : Array (Option Value)}
    {fcb : Addr} {occb kVcb dccb pmcb cdcb ctcb : Value} {odcb ancb : Option Addr} {slcb : Array (Option Value)}
    {flf : Addr} {oclf kVlf dclf pmlf cdlf ctlf : Value} {odlf anlf : Option Addr} {sllf : Array (Option Value)}
    {fsh : Addr} {ocsh kVsh dcsh pmsh cdsh ctsh : Value} {odsh ansh : Option Addr} {slsh : Array (Option Value)}
    {fen : Addr} {ocen kVen dcen pmen cden cten : Value} {oden anen : Option Addr} {slen : Array (Option Value)}
    {f31 : Addr} {oc31 kV31 dc31 pm31 cd31 ct31 : Value} {od31 an31 : Option Addr} {sl31 : Array (Option Value)}
    {f32 : Addr} {oc32 kV32 dc32 pm32 cd32 ct32 : Value} {od32 an32 : Option Addr} {sl32 : Array (Option Value)}
    {f33 : Addr} {oc33 kV33 dc33 pm33 cd33 ct33 : Value} {od33 an33 : Option Addr} {sl33 : Array (Option Value)}
    {f34 : Addr} {oc34 kV34 dc34 pm34 cd34 ct34 : Value} {od34 an34 : Option Addr} {sl34 : Array (Option Value)}
    {f35 : Addr} {oc35 kV35 dc35 pm35 cd35 ct35 : Value} {od35 an35 : Option Addr} {sl35 : Array (Option Value)}
    {f36 : Addr} {oc36 kV36 dc36 pm36 cd36 ct36 : Value} {od36 an36 : Option Addr} {sl36 : Array (Option Value)}
    {f37 : Addr} {oc37 kV37 dc37 pm37 cd37 ct37 : Value} {od37 an37 : Option Addr} {sl37 : Array (Option Value)}
    {f38 : Addr} {oc38 kV38 dc38 pm38 cd38 ct38 : Value} {od38 an38 : Option Addr} {sl38 : Array (Option Value)}
    {f39 : Addr} {oc39 kV39 dc39 pm39 cd39 ct39 : Value} {od39 an39 : Option Addr} {sl39 : Array (Option Value)}
    {f40 : Addr} {oc40 kV40 dc40 pm40 cd40 ct40 : Value} {od40 an40 : Option Addr} {sl40 : Array (Option Value)}
    {f43 : Addr} {oc43 kV43 dc43 pm43 cd43 ct43 : Value} {od43 an43 : Option Addr} {sl43 : Array (Option Value)}
    {fup : Addr} {ocup kVup dcup pmup cdup ctup : Value} {odup anup : Option Addr} {slup : Array (Option Value)}
    {fmd : Addr} {ocmd kVmd dcmd pmmd cdmd ctmd : Value} {odmd anmd : Option Addr} {slmd : Array (Option Value)}
    {fch : Addr} {occh kVch dcch pmch cdch ctch : Value} {odch anch : Option Addr} {slch : Array (Option Value)}
    {ftb : Addr} {octb kVtb dctb pmtb cdtb cttb : Value} {odtb antb : Option Addr} {sltb : Array (Option Value)}
    {fbb : Addr} {ocbb kVbb dcbb pmbb cdbb ctbb : Value} {odbb anbb : Option Addr} {slbb : Array (Option Value)}
    {fwo : Addr} {ocwo kVwo dcwo pmwo cdwo ctwo : Value} {odwo anwo : Option Addr} {slwo : Array (Option Value)}
    {fas : Addr} {ocas kVas dcas pmas cdas ctas : Value} {odas anas : Option Addr} {slas : Array (Option Value)}
    {fsw : Addr} {ocsw kVsw dcsw pmsw cdsw ctsw : Value} {odsw answ : Option Addr} {slsw : Array (Option Value)}
    {f47 : Addr} {oc47 kV47 dc47 pm47 cd47 ct47 : Value} {od47 an47 : Option Addr} {sl47 : Array (Option Value)}
    (a10 : PySem.W.nsIn K mainGlobals "is_integer" = some (some (.ref f10)))
    (l10 : K.lookup f10 = some ⟨oc10, od10, .func (PySem.W.fnOf "is_integer" "is_integer" (defArgs sInteger) (defBody sInteger) (defScope sInteger) .none kV10 dc10 pm10 an10 cd10 ct10), sl10⟩)
    (c10 : PySem.W.codeIn K cd10 "is_integer" = true)
    (k10 : PySem.W.keepIn K (.ref f10) = true)
    (a11 : PySem.W.nsIn K mainGlobals "is_integer_between" = some (some (.ref f11)))
    (l11 : K.lookup f11 = some ⟨oc11, od11, .func (PySem.W.fnOf "is_integer_between" "is_integer_between" (defArgs sBetween) (defBody sBetween) (defScope sBetween) .none kV11 dc11 pm11 an11 cd11 ct11), sl11⟩)
    (c11 : PySem.W.codeIn K cd11 "is_integer_between" = true)
    (k11 : PySem.W.keepIn K (.ref f11) = true)
    (a14 : PySem.W.nsIn K mainGlobals "is_size" = some (some (.ref f14)))
    (l14 : K.lookup f14 = some ⟨oc14, od14, .func (PySem.W.fnOf "is_size" "is_size" (defArgs sIsSize) (defBody sIsSize) (defScope sIsSize) .none kV14 dc14 pm14 an14 cd14 ct14), sl14⟩)
    (c14 : PySem.W.codeIn K cd14 "is_size" = true)
    (k14 : PySem.W.keepIn K (.ref f14) = true)
    (a16 : PySem.W.nsIn K mainGlobals "are_cells" = some (some (.ref f16)))
    (l16 : K.lookup f16 = some ⟨oc16, od16, .func (PySem.W.fnOf "are_cells" "are_cells" (defArgs sAre) (defBody sAre) (defScope sAre) .none kV16 dc16 pm16 an16 cd16 ct16), sl16⟩)
    (c16 : PySem.W.codeIn K cd16 "are_cells" = true)
    (k16 : PySem.W.keepIn K (.ref f16) = true)
    (a19 : PySem.W.nsIn K mainGlobals "share_odd" = some (some (.ref f19)))
    (l19 : K.lookup f19 = some ⟨oc19, od19, .func (PySem.W.fnOf "share_odd" "share_odd" (defArgs sShare) (defBody sShare) (defScope sShare) .none kV19 dc19 pm19 an19 cd19 ct19), sl19⟩)
    (c19 : PySem.W.codeIn K cd19 "share_odd" = true)
    (k19 : PySem.W.keepIn K (.ref f19) = true)
    (a23 : PySem.W.nsIn K mainGlobals "check_fit" = some (some (.ref f23)))
    (l23 : K.lookup f23 = some ⟨oc23, od23, .func (PySem.W.fnOf "check_fit" "check_fit" (defArgs sFit) (defBody sFit) (defScope sFit) .none kV23 dc23 pm23 an23 cd23 ct23), sl23⟩)
    (c23 : PySem.W.codeIn K cd23 "check_fit" = true)
    (k23 : PySem.W.keepIn K (.ref f23) = true)
    (am1 : PySem.W.nsIn K mainGlobals "mask_of" = some (some (.ref fm1)))
    (lm1 : K.lookup fm1 = some ⟨ocm1, odm1, .func (PySem.W.fnOf "mask_of" "mask_of" (defArgs sMaskOf) (defBody sMaskOf) (defScope sMaskOf) .none kVm1 dcm1 pmm1 anm1 cdm1 ctm1), slm1⟩)
    (cm1 : PySem.W.codeIn K cdm1 "mask_of" = true)
    (km1 : PySem.W.keepIn K (.ref fm1) = true)
    (am2 : PySem.W.nsIn K mainGlobals "cells_of" = some (some (.ref fm2)))
    (lm2 : K.lookup fm2 = some ⟨ocm2, odm2, .func (PySem.W.fnOf "cells_of" "cells_of" (defArgs sCellsOf) (defBody sCellsOf) (defScope sCellsOf) .none kVm2 dcm2 pmm2 anm2 cdm2 ctm2), slm2⟩)
    (cm2 : PySem.W.codeIn K cdm2 "cells_of" = true)
    (km2 : PySem.W.keepIn K (.ref fm2) = true)
    (am3 : PySem.W.nsIn K mainGlobals "pivots_of" = some (some (.ref fm3)))
    (lm3 : K.lookup fm3 = some ⟨ocm3, odm3, .func (PySem.W.fnOf "pivots_of" "pivots_of" (defArgs sPivots) (defBody sPivots) (defScope sPivots) .none kVm3 dcm3 pmm3 anm3 cdm3 ctm3), slm3⟩)
    (cm3 : PySem.W.codeIn K cdm3 "pivots_of" = true)
    (km3 : PySem.W.keepIn K (.ref fm3) = true)
    (am4 : PySem.W.nsIn K mainGlobals "reduced" = some (some (.ref fm4)))
    (lm4 : K.lookup fm4 = some ⟨ocm4, odm4, .func (PySem.W.fnOf "reduced" "reduced" (defArgs sReduced) (defBody sReduced) (defScope sReduced) .none kVm4 dcm4 pmm4 anm4 cdm4 ctm4), slm4⟩)
    (cm4 : PySem.W.codeIn K cdm4 "reduced" = true)
    (km4 : PySem.W.keepIn K (.ref fm4) = true)
    (am5 : PySem.W.nsIn K mainGlobals "rank_of" = some (some (.ref fm5)))
    (lm5 : K.lookup fm5 = some ⟨ocm5, odm5, .func (PySem.W.fnOf "rank_of" "rank_of" (defArgs sRank) (defBody sRank) (defScope sRank) .none kVm5 dcm5 pmm5 anm5 cdm5 ctm5), slm5⟩)
    (cm5 : PySem.W.codeIn K cdm5 "rank_of" = true)
    (km5 : PySem.W.keepIn K (.ref fm5) = true)
    (am6 : PySem.W.nsIn K mainGlobals "are_rows" = some (some (.ref fm6)))
    (lm6 : K.lookup fm6 = some ⟨ocm6, odm6, .func (PySem.W.fnOf "are_rows" "are_rows" (defArgs sRows) (defBody sRows) (defScope sRows) .none kVm6 dcm6 pmm6 anm6 cdm6 ctm6), slm6⟩)
    (cm6 : PySem.W.codeIn K cdm6 "are_rows" = true)
    (km6 : PySem.W.keepIn K (.ref fm6) = true)
    (am8 : PySem.W.nsIn K mainGlobals "single_masks" = some (some (.ref fm8)))
    (lm8 : K.lookup fm8 = some ⟨ocm8, odm8, .func (PySem.W.fnOf "single_masks" "single_masks" (defArgs sSingle) (defBody sSingle) (defScope sSingle) .none kVm8 dcm8 pmm8 anm8 cdm8 ctm8), slm8⟩)
    (cm8 : PySem.W.codeIn K cdm8 "single_masks" = true)
    (km8 : PySem.W.keepIn K (.ref fm8) = true)
    (am7 : PySem.W.nsIn K mainGlobals "added_masks" = some (some (.ref fm7)))
    (lm7 : K.lookup fm7 = some ⟨ocm7, odm7, .func (PySem.W.fnOf "added_masks" "added_masks" (defArgs sAddedM) (defBody sAddedM) (defScope sAddedM) .none kVm7 dcm7 pmm7 anm7 cdm7 ctm7), slm7⟩)
    (cm7 : PySem.W.codeIn K cdm7 "added_masks" = true)
    (km7 : PySem.W.keepIn K (.ref fm7) = true)
    (am9 : PySem.W.nsIn K mainGlobals "table_with" = some (some (.ref fm9)))
    (lm9 : K.lookup fm9 = some ⟨ocm9, odm9, .func (PySem.W.fnOf "table_with" "table_with" (defArgs sTabWith) (defBody sTabWith) (defScope sTabWith) .none kVm9 dcm9 pmm9 anm9 cdm9 ctm9), slm9⟩)
    (cm9 : PySem.W.codeIn K cdm9 "table_with" = true)
    (km9 : PySem.W.keepIn K (.ref fm9) = true)
    (ama : PySem.W.nsIn K mainGlobals "table_of" = some (some (.ref fma)))
    (lma : K.lookup fma = some ⟨ocma, odma, .func (PySem.W.fnOf "table_of" "table_of" (defArgs sTabOf) (defBody sTabOf) (defScope sTabOf) .none kVma dcma pmma anma cdma ctma), slma⟩)
    (cma : PySem.W.codeIn K cdma "table_of" = true)
    (kma : PySem.W.keepIn K (.ref fma) = true)
    (amb : PySem.W.nsIn K mainGlobals "masks_after" = some (some (.ref fmb)))
    (lmb : K.lookup fmb = some ⟨ocmb, odmb, .func (PySem.W.fnOf "masks_after" "masks_after" (defArgs sAfterM) (defBody sAfterM) (defScope sAfterM) .none kVmb dcmb pmmb anmb cdmb ctmb), slmb⟩)
    (cmb : PySem.W.codeIn K cdmb "masks_after" = true)
    (kmb : PySem.W.keepIn K (.ref fmb) = true)
    (amc : PySem.W.nsIn K mainGlobals "composed_masks" = some (some (.ref fmc)))
    (lmc : K.lookup fmc = some ⟨ocmc, odmc, .func (PySem.W.fnOf "composed_masks" "composed_masks" (defArgs sComp) (defBody sComp) (defScope sComp) .none kVmc dcmc pmmc anmc cdmc ctmc), slmc⟩)
    (cmc : PySem.W.codeIn K cdmc "composed_masks" = true)
    (kmc : PySem.W.keepIn K (.ref fmc) = true)
    (a18 : PySem.W.nsIn K mainGlobals "added_cells" = some (some (.ref f18)))
    (l18 : K.lookup f18 = some ⟨oc18, od18, .func (PySem.W.fnOf "added_cells" "added_cells" (defArgs sAdded) (defBody sAdded) (defScope sAdded) .none kV18 dc18 pm18 an18 cd18 ct18), sl18⟩)
    (c18 : PySem.W.codeIn K cd18 "added_cells" = true)
    (k18 : PySem.W.keepIn K (.ref f18) = true)
    (a15 : PySem.W.nsIn K mainGlobals "is_cell" = some (some (.ref f15)))
    (l15 : K.lookup f15 = some ⟨oc15, od15, .func (PySem.W.fnOf "is_cell" "is_cell" (defArgs sIsCell) (defBody sIsCell) (defScope sIsCell) .none (.ref D15) dc15 pm15 an15 cd15 ct15), sl15⟩)
    (d15 : PySem.W.nsIn K D15 "size" = some (some (.int 40 t15)))
    (c15 : PySem.W.codeIn K cd15 "is_cell" = true)
    (k15 : PySem.W.keepIn K (.ref f15) = true)
    (a17 : PySem.W.nsIn K mainGlobals "cell_tuple" = some (some (.ref f17)))
    (l17 : K.lookup f17 = some ⟨oc17, od17, .func (PySem.W.fnOf "cell_tuple" "cell_tuple" (defArgs sCells) (defBody sCells) (defScope sCells) .none (.ref D17) dc17 pm17 an17 cd17 ct17), sl17⟩)
    (d17 : PySem.W.nsIn K D17 "size" = some (some (.int 40 t17)))
    (c17 : PySem.W.codeIn K cd17 "cell_tuple" = true)
    (k17 : PySem.W.keepIn K (.ref f17) = true)
    (aC : PySem.W.nsIn K mainGlobals "Board" = some (some (.ref C)))
    (pgC : PySem.W.plainGet K C Str.empty = true)
    (hdC : PySem.W.hasDictIn K C = true)
    (poC : PySem.W.plainOver K C = true)
    (saC : PySem.W.findIn K (.ref C) "__setattr__" = some (some (.builtin "object.__setattr__")))
    (mkC : PySem.W.makesIn K C = true)
    (kcC : PySem.W.keepIn K (.ref C) = true)
    (nf0C : PySem.W.findIn K (.ref C) "states" = some none)
    (jaC : PySem.W.findIn K (.ref C) "__class__" = some (some (.builtin "object.__class__")))
    (jnC : PySem.W.specialIn K (.builtin "object.__class__") "__get__" = some (some (.builtin "getset_descriptor.__get__")))
    (jtC : PySem.W.takesIn K (.builtin "object.__class__") = some true)
    (jmC : PySem.W.mroIn K C (.type "object") = some true)
    (iI : PySem.W.findIn K (.ref C) "__init__" = some (some (.ref fI)))
    (nI : PySem.W.isFn K (.ref fI) = true)
    (lI : K.lookup fI = some ⟨ocI, odI, .func (PySem.W.fnOf "__init__" "Board.__init__" (defArgs mInit) (defBody mInit) (defScope mInit) .none (.ref DI) dcI pmI anI cdI ctI), slI⟩)
    (dI : PySem.W.nsIn K DI "up" = some (some (.ref e)))
    (le : K.lookup e = some ⟨.type "tuple", ode, .seq #[] ne, sle⟩)
    (cI : PySem.W.codeIn K cdI "Board.__init__" = true)
    (kI : PySem.W.keepIn K (.ref fI) = true)
    (aS : PySem.W.findIn K (.ref C) "size" = some (some (.ref fS)))
    (nS : PySem.W.isFn K (.ref fS) = true)
    (lS : K.lookup fS = some ⟨ocS, odS, .func (PySem.W.fnOf "size" "Board.size" (defArgs mSize) (defBody mSize) (defScope mSize) .none kVS dcS pmS anS cdS ctS), slS⟩)
    (cS : PySem.W.codeIn K cdS "Board.size" = true)
    (kS : PySem.W.keepIn K (.ref fS) = true)
    (aU : PySem.W.findIn K (.ref C) "up" = some (some (.ref fU)))
    (nU : PySem.W.isFn K (.ref fU) = true)
    (lU : K.lookup fU = some ⟨ocU, odU, .func (PySem.W.fnOf "up" "Board.up" (defArgs mUps) (defBody mUps) (defScope mUps) .none kVU dcU pmU anU cdU ctU), slU⟩)
    (cU : PySem.W.codeIn K cdU "Board.up" = true)
    (kU : PySem.W.keepIn K (.ref fU) = true)
    (aY : PySem.W.findIn K (.ref C) "parity" = some (some (.ref fY)))
    (nY : PySem.W.isFn K (.ref fY) = true)
    (lY : K.lookup fY = some ⟨ocY, odY, .func (PySem.W.fnOf "parity" "Board.parity" (defArgs mPar) (defBody mPar) (defScope mPar) .none kVY dcY pmY anY cdY ctY), slY⟩)
    (cY : PySem.W.codeIn K cdY "Board.parity" = true)
    (kY : PySem.W.keepIn K (.ref fY) = true)
    (aV : PySem.W.nsIn K mainGlobals "Flip" = some (some (.ref V)))
    (pgV : PySem.W.plainGet K V Str.empty = true)
    (hdV : PySem.W.hasDictIn K V = true)
    (poV : PySem.W.plainOver K V = true)
    (saV : PySem.W.findIn K (.ref V) "__setattr__" = some (some (.builtin "object.__setattr__")))
    (mkV : PySem.W.makesIn K V = true)
    (kcV : PySem.W.keepIn K (.ref V) = true)
    (nf0V : PySem.W.findIn K (.ref V) "tested_cells" = some none)
    (nf1V : PySem.W.findIn K (.ref V) "toggled_cells" = some none)
    (aJ : PySem.W.findIn K (.ref V) "__init__" = some (some (.ref fJ)))
    (nJ : PySem.W.isFn K (.ref fJ) = true)
    (lJ : K.lookup fJ = some ⟨ocJ, odJ, .func (PySem.W.fnOf "__init__" "Flip.__init__" (defArgs gInit) (defBody gInit) (defScope gInit) .none kVJ dcJ pmJ anJ cdJ ctJ), slJ⟩)
    (cJ : PySem.W.codeIn K cdJ "Flip.__init__" = true)
    (kJ : PySem.W.keepIn K (.ref fJ) = true)
    (ag1 : PySem.W.findIn K (.ref V) "tested" = some (some (.ref fg1)))
    (ng1 : PySem.W.isFn K (.ref fg1) = true)
    (lg1 : K.lookup fg1 = some ⟨ocg1, odg1, .func (PySem.W.fnOf "tested" "Flip.tested" (defArgs gTested) (defBody gTested) (defScope gTested) .none kVg1 dcg1 pmg1 ang1 cdg1 ctg1), slg1⟩)
    (cg1 : PySem.W.codeIn K cdg1 "Flip.tested" = true)
    (kg1 : PySem.W.keepIn K (.ref fg1) = true)
    (ag2 : PySem.W.findIn K (.ref V) "toggled" = some (some (.ref fg2)))
    (ng2 : PySem.W.isFn K (.ref fg2) = true)
    (lg2 : K.lookup fg2 = some ⟨ocg2, odg2, .func (PySem.W.fnOf "toggled" "Flip.toggled" (defArgs gToggled) (defBody gToggled) (defScope gToggled) .none kVg2 dcg2 pmg2 ang2 cdg2 ctg2), slg2⟩)
    (cg2 : PySem.W.codeIn K cdg2 "Flip.toggled" = true)
    (kg2 : PySem.W.keepIn K (.ref fg2) = true)
    (ag3 : PySem.W.findIn K (.ref V) "width" = some (some (.ref fg3)))
    (ng3 : PySem.W.isFn K (.ref fg3) = true)
    (lg3 : K.lookup fg3 = some ⟨ocg3, odg3, .func (PySem.W.fnOf "width" "Flip.width" (defArgs gWidth) (defBody gWidth) (defScope gWidth) .none kVg3 dcg3 pmg3 ang3 cdg3 ctg3), slg3⟩)
    (cg3 : PySem.W.codeIn K cdg3 "Flip.width" = true)
    (kg3 : PySem.W.keepIn K (.ref fg3) = true)
    (aTt : PySem.W.nsIn K mainGlobals "Table" = some (some (.ref Tt)))
    (pgTt : PySem.W.plainGet K Tt Str.empty = true)
    (hdTt : PySem.W.hasDictIn K Tt = true)
    (poTt : PySem.W.plainOver K Tt = true)
    (saTt : PySem.W.findIn K (.ref Tt) "__setattr__" = some (some (.builtin "object.__setattr__")))
    (mkTt : PySem.W.makesIn K Tt = true)
    (kcTt : PySem.W.keepIn K (.ref Tt) = true)
    (nf0Tt : PySem.W.findIn K (.ref Tt) "masks" = some none)
    (jaTt : PySem.W.findIn K (.ref Tt) "__class__" = some (some (.builtin "object.__class__")))
    (jnTt : PySem.W.specialIn K (.builtin "object.__class__") "__get__" = some (some (.builtin "getset_descriptor.__get__")))
    (jtTt : PySem.W.takesIn K (.builtin "object.__class__") = some true)
    (jmTt : PySem.W.mroIn K Tt (.type "object") = some true)
    (ati : PySem.W.findIn K (.ref Tt) "__init__" = some (some (.ref fti)))
    (nti : PySem.W.isFn K (.ref fti) = true)
    (lti : K.lookup fti = some ⟨octi, odti, .func (PySem.W.fnOf "__init__" "Table.__init__" (defArgs hInit) (defBody hInit) (defScope hInit) .none kVti dcti pmti anti cdti ctti), slti⟩)
    (cti : PySem.W.codeIn K cdti "Table.__init__" = true)
    (kti : PySem.W.keepIn K (.ref fti) = true)
    (atq : PySem.W.findIn K (.ref Tt) "__eq__" = some (some (.ref ftq)))
    (ntq : PySem.W.isFn K (.ref ftq) = true)
    (ltq : K.lookup ftq = some ⟨octq, odtq, .func (PySem.W.fnOf "__eq__" "Table.__eq__" (defArgs hEq) (defBody hEq) (defScope hEq) .none kVtq dctq pmtq antq cdtq cttq), sltq⟩)
    (ctq : PySem.W.codeIn K cdtq "Table.__eq__" = true)
    (ktq : PySem.W.keepIn K (.ref ftq) = true)
    (xqTt : K.lookup Tt = some (excClassObj nmqTt qnqTt Tt NqTt bsqTt [.type "object"] hdqTt snqTt subqTt abqTt colqTt ddqTt q0Tt q1Tt q2Tt q3Tt q5Tt niqTt))
    (lNTt : K.lookup NqTt = some ⟨oNTt, dNTt, .dict esNTt nNTt, slNTt⟩)
    (nkTt : (esNTt.all fun e => match e.key with | .str _ _ => true | _ => false) = true)
    (neqTt : PySem.W.nsIn K NqTt "__eq__" = some (some (.ref ftq)))
    (nneTt : PySem.W.nsIn K NqTt "__ne__" = some none)
    (at1 : PySem.W.findIn K (.ref Tt) "__len__" = some (some (.ref ft1)))
    (nt1 : PySem.W.isFn K (.ref ft1) = true)
    (lt1 : K.lookup ft1 = some ⟨oct1, odt1, .func (PySem.W.fnOf "__len__" "Table.__len__" (defArgs hLen) (defBody hLen) (defScope hLen) .none kVt1 dct1 pmt1 ant1 cdt1 ctt1), slt1⟩)
    (ct1 : PySem.W.codeIn K cdt1 "Table.__len__" = true)
    (kt1 : PySem.W.keepIn K (.ref ft1) = true)
    (at2 : PySem.W.findIn K (.ref Tt) "size" = some (some (.ref ft2)))
    (nt2 : PySem.W.isFn K (.ref ft2) = true)
    (lt2 : K.lookup ft2 = some ⟨oct2, odt2, .func (PySem.W.fnOf "size" "Table.size" (defArgs hSize) (defBody hSize) (defScope hSize) .none kVt2 dct2 pmt2 ant2 cdt2 ctt2), slt2⟩)
    (ct2 : PySem.W.codeIn K cdt2 "Table.size" = true)
    (kt2 : PySem.W.keepIn K (.ref ft2) = true)
    (at5 : PySem.W.findIn K (.ref Tt) "check_size" = some (some (.ref ft5)))
    (nt5 : PySem.W.isFn K (.ref ft5) = true)
    (lt5 : K.lookup ft5 = some ⟨oct5, odt5, .func (PySem.W.fnOf "check_size" "Table.check_size" (defArgs hCheck) (defBody hCheck) (defScope hCheck) .none kVt5 dct5 pmt5 ant5 cdt5 ctt5), slt5⟩)
    (ct5 : PySem.W.codeIn K cdt5 "Table.check_size" = true)
    (kt5 : PySem.W.keepIn K (.ref ft5) = true)
    (at3 : PySem.W.findIn K (.ref Tt) "row" = some (some (.ref ft3)))
    (nt3 : PySem.W.isFn K (.ref ft3) = true)
    (lt3 : K.lookup ft3 = some ⟨oct3, odt3, .func (PySem.W.fnOf "row" "Table.row" (defArgs hRow) (defBody hRow) (defScope hRow) .none kVt3 dct3 pmt3 ant3 cdt3 ctt3), slt3⟩)
    (ct3 : PySem.W.codeIn K cdt3 "Table.row" = true)
    (kt3 : PySem.W.keepIn K (.ref ft3) = true)
    (at6 : PySem.W.findIn K (.ref Tt) "then" = some (some (.ref ft6)))
    (nt6 : PySem.W.isFn K (.ref ft6) = true)
    (lt6 : K.lookup ft6 = some ⟨oct6, odt6, .func (PySem.W.fnOf "then" "Table.then" (defArgs hThen) (defBody hThen) (defScope hThen) .none kVt6 dct6 pmt6 ant6 cdt6 ctt6), slt6⟩)
    (ct6 : PySem.W.codeIn K cdt6 "Table.then" = true)
    (kt6 : PySem.W.keepIn K (.ref ft6) = true)
    (at7 : PySem.W.findIn K (.ref Tt) "inverse" = some (some (.ref ft7)))
    (nt7 : PySem.W.isFn K (.ref ft7) = true)
    (lt7 : K.lookup ft7 = some ⟨oct7, odt7, .func (PySem.W.fnOf "inverse" "Table.inverse" (defArgs hInv) (defBody hInv) (defScope hInv) .none kVt7 dct7 pmt7 ant7 cdt7 ctt7), slt7⟩)
    (ct7 : PySem.W.codeIn K cdt7 "Table.inverse" = true)
    (kt7 : PySem.W.keepIn K (.ref ft7) = true)
    (aW : PySem.W.nsIn K mainGlobals "TooWide" = some (some (.ref W)))
    (xW : K.lookup W = some (excClassObj nmW qnW W NnW bsW (([w0W] : List Addr).map Value.ref ++ [.type "ArithmeticError", .type "Exception", .type "BaseException", .type "object"]) true snW subW abW colW ddW m0W m1W m2W m3W m5W "ArithmeticError.__new__"))
    (saW : PySem.W.findIn K (.ref W) "__setattr__" = some (some (.builtin "object.__setattr__")))
    (exW : PySem.W.subIn K (.ref W) (.type "BaseException") = some true)
    (tyW : PySem.W.typeIn K (.ref W) = some (.type "type"))
    (kpW : PySem.W.keepIn K (.ref W) = true)
    (nf0W : PySem.W.findIn K (.ref W) "needed" = some none)
    (iN : PySem.W.findIn K (.ref W) "__init__" = some (some (.ref fN)))
    (tN : PySem.W.typeIn K (.ref fN) = some (.type "function"))
    (lN : K.lookup fN = some ⟨ocN, odN, .func (PySem.W.fnOf "__init__" "TooWide.__init__" (defArgs sWIni) (defBody sWIni) (defScope sWIni) .none kVN dcN pmN anN cdN ctN), slN⟩)
    (cN : PySem.W.codeIn K cdN "TooWide.__init__" = true)
    (kN : PySem.W.keepIn K (.ref fN) = true)
    (c_M : PySem.W.nsIn K mainGlobals "MOST_CELLS" = some (some (.int 40 tM)))
    (tcC : PySem.W.typeIn K (.ref C) = some (.type "type"))
    (agi : PySem.W.findIn K (.ref Tt) "image" = some (some (.ref fgi)))
    (ngi : PySem.W.isFn K (.ref fgi) = true)
    (lgi : K.lookup fgi = some ⟨ocgi, odgi, .func (PySem.W.fnOf "image" "Table.image" (defArgs hImage) (defBody hImage) (defScope hImage) .none kVgi dcgi pmgi angi cdgi ctgi), slgi⟩)
    (cgi : PySem.W.codeIn K cdgi "Table.image" = true)
    (kgi : PySem.W.keepIn K (.ref fgi) = true)
    (aid : PySem.W.findIn K (.ref Tt) "is_identity" = some (some (.ref fid)))
    (nid : PySem.W.isFn K (.ref fid) = true)
    (lid : K.lookup fid = some ⟨ocid, odid, .func (PySem.W.fnOf "is_identity" "Table.is_identity" (defArgs hIsId) (defBody hIsId) (defScope hIsId) .none kVid dcid pmid anid cdid ctid), slid⟩)
    (cid : PySem.W.codeIn K cdid "Table.is_identity" = true)
    (kid : PySem.W.keepIn K (.ref fid) = true)
    (ats : PySem.W.findIn K (.ref Tt) "source" = some (some (.ref fts)))
    (nts : PySem.W.isFn K (.ref fts) = true)
    (lts : K.lookup fts = some ⟨octs, odts, .func (PySem.W.fnOf "source" "Table.source" (defArgs hSource) (defBody hSource) (defScope hSource) .none kVts dcts pmts ants cdts ctts), slts⟩)
    (cts : PySem.W.codeIn K cdts "Table.source" = true)
    (kts : PySem.W.keepIn K (.ref fts) = true)
    (aty : PySem.W.findIn K (.ref Tt) "__repr__" = some (some (.ref fty)))
    (nty : PySem.W.isFn K (.ref fty) = true)
    (lty : K.lookup fty = some ⟨octy, odty, .func (PySem.W.fnOf "__repr__" "Table.__repr__" (defArgs hRepr) (defBody hRepr) (defScope hRepr) .none kVty dcty pmty anty cdty ctty), slty⟩)
    (cty : PySem.W.codeIn K cdty "Table.__repr__" = true)
    (kty : PySem.W.keepIn K (.ref fty) = true)
    (abu : PySem.W.findIn K (.ref C) "__repr__" = some (some (.ref fbu)))
    (nbu : PySem.W.isFn K (.ref fbu) = true)
    (lbu : K.lookup fbu = some ⟨ocbu, odbu, .func (PySem.W.fnOf "__repr__" "Board.__repr__" (defArgs mRepr) (defBody mRepr) (defScope mRepr) .none kVbu dcbu pmbu anbu cdbu ctbu), slbu⟩)
    (cbu : PySem.W.codeIn K cdbu "Board.__repr__" = true)
    (kbu : PySem.W.keepIn K (.ref fbu) = true)
    (afr : PySem.W.findIn K (.ref V) "__repr__" = some (some (.ref ffr)))
    (nfr : PySem.W.isFn K (.ref ffr) = true)
    (lfr : K.lookup ffr = some ⟨ocfr, odfr, .func (PySem.W.fnOf "__repr__" "Flip.__repr__" (defArgs gRepr) (defBody gRepr) (defScope gRepr) .none kVfr dcfr pmfr anfr cdfr ctfr), slfr⟩)
    (cfr : PySem.W.codeIn K cdfr "Flip.__repr__" = true)
    (kfr : PySem.W.keepIn K (.ref ffr) = true)
    (agp : PySem.W.nsIn K mainGlobals "gaps_of" = some (some (.ref fgp)))
    (lgp : K.lookup fgp = some ⟨ocgp, odgp, .func (PySem.W.fnOf "gaps_of" "gaps_of" (defArgs sGaps) (defBody sGaps) (defScope sGaps) .none kVgp dcgp pmgp angp cdgp ctgp), slgp⟩)
    (cgp : PySem.W.codeIn K cdgp "gaps_of" = true)
    (kgp : PySem.W.keepIn K (.ref fgp) = true)
    (adp : PySem.W.nsIn K mainGlobals "depth_of" = some (some (.ref fdp)))
    (ldp : K.lookup fdp = some ⟨ocdp, oddp, .func (PySem.W.fnOf "depth_of" "depth_of" (defArgs sDepth) (defBody sDepth) (defScope sDepth) .none kVdp dcdp pmdp andp cddp ctdp), sldp⟩)
    (cdp : PySem.W.codeIn K cddp "depth_of" = true)
    (kdp : PySem.W.keepIn K (.ref fdp) = true)
    (acg : PySem.W.nsIn K mainGlobals "changes_of" = some (some (.ref fcg)))
    (lcg : K.lookup fcg = some ⟨occg, odcg, .func (PySem.W.fnOf "changes_of" "changes_of" (defArgs sChanges) (defBody sChanges) (defScope sChanges) .none kVcg dccg pmcg ancg cdcg ctcg), slcg⟩)
    (ccg : PySem.W.codeIn K cdcg "changes_of" = true)
    (kcg : PySem.W.keepIn K (.ref fcg) = true)
    (aai : PySem.W.nsIn K mainGlobals "are_independent" = some (some (.ref fai)))
    (lai : K.lookup fai = some ⟨ocai, odai, .func (PySem.W.fnOf "are_independent" "are_independent" (defArgs sIndep) (defBody sIndep) (defScope sIndep) .none kVai dcai pmai anai cdai ctai), slai⟩)
    (cai : PySem.W.codeIn K cdai "are_independent" = true)
    (kai : PySem.W.keepIn K (.ref fai) = true)
    (abo : PySem.W.nsIn K mainGlobals "is_board_of" = some (some (.ref fbo)))
    (lbo : K.lookup fbo = some ⟨ocbo, odbo, .func (PySem.W.fnOf "is_board_of" "is_board_of" (defArgs sBoardOf) (defBody sBoardOf) (defScope sBoardOf) .none kVbo dcbo pmbo anbo cdbo ctbo), slbo⟩)
    (cbo : PySem.W.codeIn K cdbo "is_board_of" = true)
    (kbo : PySem.W.keepIn K (.ref fbo) = true)
    (awt : PySem.W.nsIn K mainGlobals "witness_of" = some (some (.ref fwt)))
    (lwt : K.lookup fwt = some ⟨ocwt, odwt, .func (PySem.W.fnOf "witness_of" "witness_of" (defArgs sWitness) (defBody sWitness) (defScope sWitness) .none kVwt dcwt pmwt anwt cdwt ctwt), slwt⟩)
    (cwt : PySem.W.codeIn K cdwt "witness_of" = true)
    (kwt : PySem.W.keepIn K (.ref fwt) = true)
    (aiw : PySem.W.nsIn K mainGlobals "is_witness" = some (some (.ref fiw)))
    (liw : K.lookup fiw = some ⟨ociw, odiw, .func (PySem.W.fnOf "is_witness" "is_witness" (defArgs sIsWit) (defBody sIsWit) (defScope sIsWit) .none kViw dciw pmiw aniw cdiw ctiw), sliw⟩)
    (ciw : PySem.W.codeIn K cdiw "is_witness" = true)
    (kiw : PySem.W.keepIn K (.ref fiw) = true)
    (arv : PySem.W.nsIn K mainGlobals "reversed_flips" = some (some (.ref frv)))
    (lrv : K.lookup frv = some ⟨ocrv, odrv, .func (PySem.W.fnOf "reversed_flips" "reversed_flips" (defArgs sRevF) (defBody sRevF) (defScope sRevF) .none kVrv dcrv pmrv anrv cdrv ctrv), slrv⟩)
    (crv : PySem.W.codeIn K cdrv "reversed_flips" = true)
    (krv : PySem.W.keepIn K (.ref frv) = true)
    (aod : PySem.W.nsIn K mainGlobals "cells_odd_in_both" = some (some (.ref fod)))
    (lod : K.lookup fod = some ⟨ocod, odod, .func (PySem.W.fnOf "cells_odd_in_both" "cells_odd_in_both" (defArgs sOdd) (defBody sOdd) (defScope sOdd) .none kVod dcod pmod anod cdod ctod), slod⟩)
    (cod : PySem.W.codeIn K cdod "cells_odd_in_both" = true)
    (kod : PySem.W.keepIn K (.ref fod) = true)
    (acb : PySem.W.nsIn K mainGlobals "changed_board" = some (some (.ref fcb)))
    (lcb : K.lookup fcb = some ⟨occb, odcb, .func (PySem.W.fnOf "changed_board" "changed_board" (defArgs sCBoard) (defBody sCBoard) (defScope sCBoard) .none kVcb dccb pmcb ancb cdcb ctcb), slcb⟩)
    (ccb : PySem.W.codeIn K cdcb "changed_board" = true)
    (kcb : PySem.W.keepIn K (.ref fcb) = true)
    (alf : PySem.W.nsIn K mainGlobals "last_flip" = some (some (.ref flf)))
    (llf : K.lookup flf = some ⟨oclf, odlf, .func (PySem.W.fnOf "last_flip" "last_flip" (defArgs sLast) (defBody sLast) (defScope sLast) .none kVlf dclf pmlf anlf cdlf ctlf), sllf⟩)
    (clf : PySem.W.codeIn K cdlf "last_flip" = true)
    (klf : PySem.W.keepIn K (.ref flf) = true)
    (ash : PySem.W.nsIn K mainGlobals "shortest_flips" = some (some (.ref fsh)))
    (lsh : K.lookup fsh = some ⟨ocsh, odsh, .func (PySem.W.fnOf "shortest_flips" "shortest_flips" (defArgs sShort) (defBody sShort) (defScope sShort) .none kVsh dcsh pmsh ansh cdsh ctsh), slsh⟩)
    (csh : PySem.W.codeIn K cdsh "shortest_flips" = true)
    (ksh : PySem.W.keepIn K (.ref fsh) = true)
    (aen : PySem.W.nsIn K mainGlobals "shortest_ending_at" = some (some (.ref fen)))
    (len : K.lookup fen = some ⟨ocen, oden, .func (PySem.W.fnOf "shortest_ending_at" "shortest_ending_at" (defArgs sEnd) (defBody sEnd) (defScope sEnd) .none kVen dcen pmen anen cden cten), slen⟩)
    (cen : PySem.W.codeIn K cden "shortest_ending_at" = true)
    (ken : PySem.W.keepIn K (.ref fen) = true)
    (a31 : PySem.W.nsIn K mainGlobals "_law_pot" = some (some (.ref f31)))
    (l31 : K.lookup f31 = some ⟨oc31, od31, .func (PySem.W.fnOf "_law_pot" "_law_pot" (defArgs sPot) (defBody sPot) (defScope sPot) .none kV31 dc31 pm31 an31 cd31 ct31), sl31⟩)
    (c31 : PySem.W.codeIn K cd31 "_law_pot" = true)
    (k31 : PySem.W.keepIn K (.ref f31) = true)
    (a32 : PySem.W.nsIn K mainGlobals "_law_draw" = some (some (.ref f32)))
    (l32 : K.lookup f32 = some ⟨oc32, od32, .func (PySem.W.fnOf "_law_draw" "_law_draw" (defArgs sDraw) (defBody sDraw) (defScope sDraw) .none kV32 dc32 pm32 an32 cd32 ct32), sl32⟩)
    (c32 : PySem.W.codeIn K cd32 "_law_draw" = true)
    (k32 : PySem.W.keepIn K (.ref f32) = true)
    (a33 : PySem.W.nsIn K mainGlobals "_law_width" = some (some (.ref f33)))
    (l33 : K.lookup f33 = some ⟨oc33, od33, .func (PySem.W.fnOf "_law_width" "_law_width" (defArgs sWidth) (defBody sWidth) (defScope sWidth) .none kV33 dc33 pm33 an33 cd33 ct33), sl33⟩)
    (c33 : PySem.W.codeIn K cd33 "_law_width" = true)
    (k33 : PySem.W.keepIn K (.ref f33) = true)
    (a34 : PySem.W.nsIn K mainGlobals "_law_spots" = some (some (.ref f34)))
    (l34 : K.lookup f34 = some ⟨oc34, od34, .func (PySem.W.fnOf "_law_spots" "_law_spots" (defArgs sSpots) (defBody sSpots) (defScope sSpots) .none kV34 dc34 pm34 an34 cd34 ct34), sl34⟩)
    (c34 : PySem.W.codeIn K cd34 "_law_spots" = true)
    (k34 : PySem.W.keepIn K (.ref f34) = true)
    (a35 : PySem.W.nsIn K mainGlobals "_law_pair" = some (some (.ref f35)))
    (l35 : K.lookup f35 = some ⟨oc35, od35, .func (PySem.W.fnOf "_law_pair" "_law_pair" (defArgs sPair) (defBody sPair) (defScope sPair) .none kV35 dc35 pm35 an35 cd35 ct35), sl35⟩)
    (c35 : PySem.W.codeIn K cd35 "_law_pair" = true)
    (k35 : PySem.W.keepIn K (.ref f35) = true)
    (a36 : PySem.W.nsIn K mainGlobals "_law_pairs" = some (some (.ref f36)))
    (l36 : K.lookup f36 = some ⟨oc36, od36, .func (PySem.W.fnOf "_law_pairs" "_law_pairs" (defArgs slPairs) (defBody slPairs) (defScope slPairs) .none kV36 dc36 pm36 an36 cd36 ct36), sl36⟩)
    (c36 : PySem.W.codeIn K cd36 "_law_pairs" = true)
    (k36 : PySem.W.keepIn K (.ref f36) = true)
    (a37 : PySem.W.nsIn K mainGlobals "_law_bits" = some (some (.ref f37)))
    (l37 : K.lookup f37 = some ⟨oc37, od37, .func (PySem.W.fnOf "_law_bits" "_law_bits" (defArgs sBits) (defBody sBits) (defScope sBits) .none kV37 dc37 pm37 an37 cd37 ct37), sl37⟩)
    (c37 : PySem.W.codeIn K cd37 "_law_bits" = true)
    (k37 : PySem.W.keepIn K (.ref f37) = true)
    (a38 : PySem.W.nsIn K mainGlobals "_law_parity" = some (some (.ref f38)))
    (l38 : K.lookup f38 = some ⟨oc38, od38, .func (PySem.W.fnOf "_law_parity" "_law_parity" (defArgs sParity) (defBody sParity) (defScope sParity) .none kV38 dc38 pm38 an38 cd38 ct38), sl38⟩)
    (c38 : PySem.W.codeIn K cd38 "_law_parity" = true)
    (k38 : PySem.W.keepIn K (.ref f38) = true)
    (a39 : PySem.W.nsIn K mainGlobals "_law_after" = some (some (.ref f39)))
    (l39 : K.lookup f39 = some ⟨oc39, od39, .func (PySem.W.fnOf "_law_after" "_law_after" (defArgs sAfter) (defBody sAfter) (defScope sAfter) .none kV39 dc39 pm39 an39 cd39 ct39), sl39⟩)
    (c39 : PySem.W.codeIn K cd39 "_law_after" = true)
    (k39 : PySem.W.keepIn K (.ref f39) = true)
    (a40 : PySem.W.nsIn K mainGlobals "_law_after_all" = some (some (.ref f40)))
    (l40 : K.lookup f40 = some ⟨oc40, od40, .func (PySem.W.fnOf "_law_after_all" "_law_after_all" (defArgs slAfterAll) (defBody slAfterAll) (defScope slAfterAll) .none kV40 dc40 pm40 an40 cd40 ct40), sl40⟩)
    (c40 : PySem.W.codeIn K cd40 "_law_after_all" = true)
    (k40 : PySem.W.keepIn K (.ref f40) = true)
    (a43 : PySem.W.nsIn K mainGlobals "_law_flip_of" = some (some (.ref f43)))
    (l43 : K.lookup f43 = some ⟨oc43, od43, .func (PySem.W.fnOf "_law_flip_of" "_law_flip_of" (defArgs sFlipOf) (defBody sFlipOf) (defScope sFlipOf) .none kV43 dc43 pm43 an43 cd43 ct43), sl43⟩)
    (c43 : PySem.W.codeIn K cd43 "_law_flip_of" = true)
    (k43 : PySem.W.keepIn K (.ref f43) = true)
    (aup : PySem.W.nsIn K mainGlobals "_law_up" = some (some (.ref fup)))
    (lup : K.lookup fup = some ⟨ocup, odup, .func (PySem.W.fnOf "_law_up" "_law_up" (defArgs sUp) (defBody sUp) (defScope sUp) .none kVup dcup pmup anup cdup ctup), slup⟩)
    (cup : PySem.W.codeIn K cdup "_law_up" = true)
    (kup : PySem.W.keepIn K (.ref fup) = true)
    (amd : PySem.W.nsIn K mainGlobals "_law_made" = some (some (.ref fmd)))
    (lmd : K.lookup fmd = some ⟨ocmd, odmd, .func (PySem.W.fnOf "_law_made" "_law_made" (defArgs sMade) (defBody sMade) (defScope sMade) .none kVmd dcmd pmmd anmd cdmd ctmd), slmd⟩)
    (cmd : PySem.W.codeIn K cdmd "_law_made" = true)
    (kmd : PySem.W.keepIn K (.ref fmd) = true)
    (ach : PySem.W.nsIn K mainGlobals "_law_changed" = some (some (.ref fch)))
    (lch : K.lookup fch = some ⟨occh, odch, .func (PySem.W.fnOf "_law_changed" "_law_changed" (defArgs slChanged) (defBody slChanged) (defScope slChanged) .none kVch dcch pmch anch cdch ctch), slch⟩)
    (cch : PySem.W.codeIn K cdch "_law_changed" = true)
    (kch : PySem.W.keepIn K (.ref fch) = true)
    (atb : PySem.W.nsIn K mainGlobals "_law_table" = some (some (.ref ftb)))
    (ltb : K.lookup ftb = some ⟨octb, odtb, .func (PySem.W.fnOf "_law_table" "_law_table" (defArgs slTable) (defBody slTable) (defScope slTable) .none kVtb dctb pmtb antb cdtb cttb), sltb⟩)
    (ctb : PySem.W.codeIn K cdtb "_law_table" = true)
    (ktb : PySem.W.keepIn K (.ref ftb) = true)
    (abb : PySem.W.nsIn K mainGlobals "_law_basic_bits" = some (some (.ref fbb)))
    (lbb : K.lookup fbb = some ⟨ocbb, odbb, .func (PySem.W.fnOf "_law_basic_bits" "_law_basic_bits" (defArgs slBasicBits) (defBody slBasicBits) (defScope slBasicBits) .none kVbb dcbb pmbb anbb cdbb ctbb), slbb⟩)
    (cbb : PySem.W.codeIn K cdbb "_law_basic_bits" = true)
    (kbb : PySem.W.keepIn K (.ref fbb) = true)
    (awo : PySem.W.nsIn K mainGlobals "_law_world" = some (some (.ref fwo)))
    (lwo : K.lookup fwo = some ⟨ocwo, odwo, .func (PySem.W.fnOf "_law_world" "_law_world" (defArgs slWorld) (defBody slWorld) (defScope slWorld) .none kVwo dcwo pmwo anwo cdwo ctwo), slwo⟩)
    (cwo : PySem.W.codeIn K cdwo "_law_world" = true)
    (kwo : PySem.W.keepIn K (.ref fwo) = true)
    (aas : PySem.W.nsIn K mainGlobals "_law_asked" = some (some (.ref fas)))
    (las : K.lookup fas = some ⟨ocas, odas, .func (PySem.W.fnOf "_law_asked" "_law_asked" (defArgs slAsked) (defBody slAsked) (defScope slAsked) .none kVas dcas pmas anas cdas ctas), slas⟩)
    (cas : PySem.W.codeIn K cdas "_law_asked" = true)
    (kas : PySem.W.keepIn K (.ref fas) = true)
    (asw : PySem.W.nsIn K mainGlobals "_law_shown" = some (some (.ref fsw)))
    (lsw : K.lookup fsw = some ⟨ocsw, odsw, .func (PySem.W.fnOf "_law_shown" "_law_shown" (defArgs slShown) (defBody slShown) (defScope slShown) .none kVsw dcsw pmsw answ cdsw ctsw), slsw⟩)
    (csw : PySem.W.codeIn K cdsw "_law_shown" = true)
    (ksw : PySem.W.keepIn K (.ref fsw) = true)
    (a47 : PySem.W.nsIn K mainGlobals "law" = some (some (.ref f47)))
    (l47 : K.lookup f47 = some ⟨oc47, od47, .func (PySem.W.fnOf "law" "law" (defArgs sLaw) (defBody sLaw) (defScope sLaw) .none kV47 dc47 pm47 an47 cd47 ct47), sl47⟩)
    (c47 : PySem.W.codeIn K cd47 "law" = true)
    (k47 : PySem.W.keepIn K (.ref f47) = true)
    (z_len : PySem.W.nsIn K mainGlobals "len" = some none)
    (z_abs : PySem.W.nsIn K mainGlobals "abs" = some none)
    (z_max : PySem.W.nsIn K mainGlobals "max" = some none)
    (z_min : PySem.W.nsIn K mainGlobals "min" = some none)
    (z_divmod : PySem.W.nsIn K mainGlobals "divmod" = some none)
    (z_list : PySem.W.nsIn K mainGlobals "list" = some none)
    (z_tuple : PySem.W.nsIn K mainGlobals "tuple" = some none)
    (z_range : PySem.W.nsIn K mainGlobals "range" = some none)
    (z_isinstance : PySem.W.nsIn K mainGlobals "isinstance" = some none)
    (z_bool : PySem.W.nsIn K mainGlobals "bool" = some none)
    (z_int : PySem.W.nsIn K mainGlobals "int" = some none)
    (z_sorted : PySem.W.nsIn K mainGlobals "sorted" = some none)
    (z_set : PySem.W.nsIn K mainGlobals "set" = some none)
    (z_all : PySem.W.nsIn K mainGlobals "all" = some none)
    (z_enumerate : PySem.W.nsIn K mainGlobals "enumerate" = some none)
    (z_repr : PySem.W.nsIn K mainGlobals "repr" = some none)
    (z_sum : PySem.W.nsIn K mainGlobals "sum" = some none)
    (z_reversed : PySem.W.nsIn K mainGlobals "reversed" = some none) :
    ∃ fd : FuncData, (∀ (s : Shared) (v : Value), BindsTo s fd ⟨[v], []⟩ [("_law_script", v)]) ∧ ∀ base : Heap, K.In base → base.Ns mainGlobals mg → FnG l.prog w K mg base CX0 14 fa fd ["_law_script"] (spLaw K) := by
  have e0 := hfa.symm.trans (PySem.W.mg_of X G a47)
  cases e0
  have B : Bl mg := ⟨PySem.W.mg_none_of X G z_len, PySem.W.mg_none_of X G z_abs, PySem.W.mg_none_of X G z_max, PySem.W.mg_none_of X G z_min, PySem.W.mg_none_of X G z_divmod, PySem.W.mg_none_of X G z_list, PySem.W.mg_none_of X G z_tuple, PySem.W.mg_none_of X G z_range, PySem.W.mg_none_of X G z_isinstance, PySem.W.mg_none_of X G z_bool, PySem.W.mg_none_of X G z_int, PySem.W.mg_none_of X G z_sorted, PySem.W.mg_none_of X G z_set, PySem.W.mg_none_of X G z_all, PySem.W.mg_none_of X G z_enumerate, PySem.W.mg_none_of X G z_repr, PySem.W.mg_none_of X G z_sum⟩
  have F10 := fun_mk (st := sInteger) l10 c10 k10
  have b10 := F10.binds (ps := ["thing"]) fun _ _ _ _ _ _ us hl => match us, hl with | [_], _ => rfl
  have m10 := PySem.W.mg_of X G a10
  have F11 := fun_mk (st := sBetween) l11 c11 k11
  have b11 := F11.binds (ps := ["thing", "low", "high"]) fun _ _ _ _ _ _ us hl => match us, hl with | [_, _, _], _ => rfl
  have m11 := PySem.W.mg_of X G a11
  have F14 := fun_mk (st := sIsSize) l14 c14 k14
  have b14 := F14.binds (ps := ["thing"]) fun _ _ _ _ _ _ us hl => match us, hl with | [_], _ => rfl
  have m14 := PySem.W.mg_of X G a14
  have F16 := fun_mk (st := sAre) l16 c16 k16
  have b16 := F16.binds (ps := ["things", "size"]) fun _ _ _ _ _ _ us hl => match us, hl with | [_, _], _ => rfl
  have m16 := PySem.W.mg_of X G a16
  have F19 := fun_mk (st := sShare) l19 c19 k19
  have b19 := F19.binds (ps := ["one", "other"]) fun _ _ _ _ _ _ us hl => match us, hl with | [_, _], _ => rfl
  have m19 := PySem.W.mg_of X G a19
  have F23 := fun_mk (st := sFit) l23 c23 k23
  have b23 := F23.binds (ps := ["flip", "size"]) fun _ _ _ _ _ _ us hl => match us, hl with | [_, _], _ => rfl
  have m23 := PySem.W.mg_of X G a23
  have Fm1 := fun_mk (st := sMaskOf) lm1 cm1 km1
  have bm1 := Fm1.binds (ps := ["cells"]) fun _ _ _ _ _ _ us hl => match us, hl with | [_], _ => rfl
  have mm1 := PySem.W.mg_of X G am1
  have Fm2 := fun_mk (st := sCellsOf) lm2 cm2 km2
  have bm2 := Fm2.binds (ps := ["mask"]) fun _ _ _ _ _ _ us hl => match us, hl with | [_], _ => rfl
  have mm2 := PySem.W.mg_of X G am2
  have Fm3 := fun_mk (st := sPivots) lm3 cm3 km3
  have bm3 := Fm3.binds (ps := ["masks"]) fun _ _ _ _ _ _ us hl => match us, hl with | [_], _ => rfl
  have mm3 := PySem.W.mg_of X G am3
  have Fm4 := fun_mk (st := sReduced) lm4 cm4 km4
  have bm4 := Fm4.binds (ps := ["pivots", "mask"]) fun _ _ _ _ _ _ us hl => match us, hl with | [_, _], _ => rfl
  have mm4 := PySem.W.mg_of X G am4
  have Fm5 := fun_mk (st := sRank) lm5 cm5 km5
  have bm5 := Fm5.binds (ps := ["masks"]) fun _ _ _ _ _ _ us hl => match us, hl with | [_], _ => rfl
  have mm5 := PySem.W.mg_of X G am5
  have Fm6 := fun_mk (st := sRows) lm6 cm6 km6
  have bm6 := Fm6.binds (ps := ["things"]) fun _ _ _ _ _ _ us hl => match us, hl with | [_], _ => rfl
  have mm6 := PySem.W.mg_of X G am6
  have Fm8 := fun_mk (st := sSingle) lm8 cm8 km8
  have bm8 := Fm8.binds (ps := ["size"]) fun _ _ _ _ _ _ us hl => match us, hl with | [_], _ => rfl
  have mm8 := PySem.W.mg_of X G am8
  have Fm7 := fun_mk (st := sAddedM) lm7 cm7 km7
  have bm7 := Fm7.binds (ps := ["masks", "cells"]) fun _ _ _ _ _ _ us hl => match us, hl with | [_, _], _ => rfl
  have mm7 := PySem.W.mg_of X G am7
  have Fm9 := fun_mk (st := sTabWith) lm9 cm9 km9
  have bm9 := Fm9.binds (ps := ["masks"]) fun _ _ _ _ _ _ us hl => match us, hl with | [_], _ => rfl
  have mm9 := PySem.W.mg_of X G am9
  have Fma := fun_mk (st := sTabOf) lma cma kma
  have bma := Fma.binds (ps := ["size", "flips"]) fun _ _ _ _ _ _ us hl => match us, hl with | [_, _], _ => rfl
  have mma := PySem.W.mg_of X G ama
  have Fmb := fun_mk (st := sAfterM) lmb cmb kmb
  have bmb := Fmb.binds (ps := ["masks", "flip"]) fun _ _ _ _ _ _ us hl => match us, hl with | [_, _], _ => rfl
  have mmb := PySem.W.mg_of X G amb
  have Fmc := fun_mk (st := sComp) lmc cmc kmc
  have bmc := Fmc.binds (ps := ["masks", "later"]) fun _ _ _ _ _ _ us hl => match us, hl with | [_, _], _ => rfl
  have mmc := PySem.W.mg_of X G amc
  have F18 := fun_mk (st := sAdded) l18 c18 k18
  have b18 := F18.binds (ps := ["one", "other"]) fun _ _ _ _ _ _ us hl => match us, hl with | [_, _], _ => rfl
  have m18 := PySem.W.mg_of X G a18
  have F15 : FunD K "is_cell" "is_cell" (defArgs sIsCell) (defBody sIsCell) (defScope sIsCell) [] [("size", .int 40)] f15 _ := ⟨⟨oc15, od15, .none, .ref D15, dc15, pm15, an15, cd15, ct15, sl15, rfl, l15, c15, .inl ⟨rfl, rfl⟩, .inr ⟨D15, rfl, fun q hq => by
    rw [List.mem_singleton.mp hq]
    exact ⟨_, d15, _, rfl⟩⟩⟩, k15⟩
  have m15 := PySem.W.mg_of X G a15
  have kb15 := kb_size (st := sIsCell) (y := "thing") F15 (fun _ _ _ _ _ _ _ _ => rfl)
  have F17 : FunD K "cell_tuple" "cell_tuple" (defArgs sCells) (defBody sCells) (defScope sCells) [] [("size", .int 40)] f17 _ := ⟨⟨oc17, od17, .none, .ref D17, dc17, pm17, an17, cd17, ct17, sl17, rfl, l17, c17, .inl ⟨rfl, rfl⟩, .inr ⟨D17, rfl, fun q hq => by
    rw [List.mem_singleton.mp hq]
    exact ⟨_, d17, _, rfl⟩⟩⟩, k17⟩
  have m17 := PySem.W.mg_of X G a17
  have kb17 := kb_size (st := sCells) (y := "things") F17 (fun _ _ _ _ _ _ _ _ => rfl)
  obtain ⟨ds17, hd17, bd17⟩ := F17.binds0 (ps := ["things", "size"]) 1 (by simp) rfl (fun D doc pm an cdv ct us ks h1 h2 => match us, ks, h1, h2 with | [_], [_], _, _ => ⟨_, _, _, _, _, _, rfl, rfl, rfl⟩)
  have FI : FunD K "__init__" "Board.__init__" (defArgs mInit) (defBody mInit) (defScope mInit) [] [("up", .ref e)] fI _ := ⟨⟨ocI, odI, .none, .ref DI, dcI, pmI, anI, cdI, ctI, slI, rfl, lI, cI, .inl ⟨rfl, rfl⟩, .inr ⟨DI, rfl, fun q hq => by
    rw [List.mem_singleton.mp hq]
    exact ⟨_, dI, rfl⟩⟩⟩, kI⟩
  have kbI2 := kb_ini (n := 2) (ks := ["up"]) FI (fun D doc pm an cdv ct us ws h1 h2 => match us, ws, h1, h2 with | [_, _], [_], _, _ => rfl)
  have kbI1 := kb_ini (n := 1) (ks := ["size", "up"]) FI (fun D doc pm an cdv ct us ws h1 h2 => match us, ws, h1, h2 with | [_], [_, _], _, _ => rfl)
  obtain ⟨dsI, hdI, bI⟩ := FI.binds0 (ps := ["self", "size", "up"]) 2 (by simp) rfl (fun D doc pm an cdv ct us ks h1 h2 => match us, ks, h1, h2 with | [_, _], [_], _, _ => ⟨_, _, _, _, _, _, rfl, rfl, rfl⟩)
  have mkI : Mk K C fI := ⟨mkC, iI, nI, kcC⟩
  have FS := fun_mk (st := mSize) lS cS kS
  have bS := FS.binds (ps := ["self"]) fun _ _ _ _ _ _ us hl => match us, hl with | [_], _ => rfl
  have mS : Meth K C "size" fS := ⟨aS, nS, kS⟩
  have FU := fun_mk (st := mUps) lU cU kU
  have bU := FU.binds (ps := ["self"]) fun _ _ _ _ _ _ us hl => match us, hl with | [_], _ => rfl
  have mU : Meth K C "up" fU := ⟨aU, nU, kU⟩
  have FY := fun_mk (st := mPar) lY cY kY
  have bY := FY.binds (ps := ["self", "cells"]) fun _ _ _ _ _ _ us hl => match us, hl with | [_, _], _ => rfl
  have mY : Meth K C "parity" fY := ⟨aY, nY, kY⟩
  have T : BC K mg C := ⟨⟨pgC, hdC, poC, saC⟩, nf0C, PySem.W.mg_of X G aC⟩
  have TI : IsC K C := ⟨jaC, jnC, jtC, jmC⟩
  have FJ := fun_mk (st := gInit) lJ cJ kJ
  have bJ := FJ.binds (ps := ["self", "tested", "toggled"]) fun _ _ _ _ _ _ us hl => match us, hl with | [_, _, _], _ => rfl
  have Fg1 := fun_mk (st := gTested) lg1 cg1 kg1
  have bg1 := Fg1.binds (ps := ["self"]) fun _ _ _ _ _ _ us hl => match us, hl with | [_], _ => rfl
  have mg1 : Meth K V "tested" fg1 := ⟨ag1, ng1, kg1⟩
  have Fg2 := fun_mk (st := gToggled) lg2 cg2 kg2
  have bg2 := Fg2.binds (ps := ["self"]) fun _ _ _ _ _ _ us hl => match us, hl with | [_], _ => rfl
  have mg2 : Meth K V "toggled" fg2 := ⟨ag2, ng2, kg2⟩
  have Fg3 := fun_mk (st := gWidth) lg3 cg3 kg3
  have bg3 := Fg3.binds (ps := ["self"]) fun _ _ _ _ _ _ us hl => match us, hl with | [_], _ => rfl
  have mg3 : Meth K V "width" fg3 := ⟨ag3, ng3, kg3⟩
  have Fti := fun_mk (st := hInit) lti cti kti
  have bti := Fti.binds (ps := ["self", "rows"]) fun _ _ _ _ _ _ us hl => match us, hl with | [_, _], _ => rfl
  have Ftq := fun_mk (st := hEq) ltq ctq ktq
  have btq := Ftq.binds (ps := ["self", "other"]) fun _ _ _ _ _ _ us hl => match us, hl with | [_, _], _ => rfl
  have mtq : Meth K Tt "__eq__" ftq := ⟨atq, ntq, ktq⟩
  have nokTt : PySem.W.nsOkIn K NqTt = true := by
    unfold PySem.W.nsOkIn
    rw [lNTt]
    exact nkTt
  have EQTt : EqC K Tt ftq := ⟨⟨nmqTt, qnqTt, NqTt, bsqTt, hdqTt, snqTt, subqTt, abqTt, colqTt, ddqTt, q0Tt, q1Tt, q2Tt, q3Tt, q5Tt, niqTt, xqTt, nokTt, neqTt, nneTt⟩, atq, ntq⟩
  have Ft1 := fun_mk (st := hLen) lt1 ct1 kt1
  have bt1 := Ft1.binds (ps := ["self"]) fun _ _ _ _ _ _ us hl => match us, hl with | [_], _ => rfl
  have mt1 : Meth K Tt "__len__" ft1 := ⟨at1, nt1, kt1⟩
  have Ft2 := fun_mk (st := hSize) lt2 ct2 kt2
  have bt2 := Ft2.binds (ps := ["self"]) fun _ _ _ _ _ _ us hl => match us, hl with | [_], _ => rfl
  have mt2 : Meth K Tt "size" ft2 := ⟨at2, nt2, kt2⟩
  have Ft5 := fun_mk (st := hCheck) lt5 ct5 kt5
  have bt5 := Ft5.binds (ps := ["self", "size"]) fun _ _ _ _ _ _ us hl => match us, hl with | [_, _], _ => rfl
  have mt5 : Meth K Tt "check_size" ft5 := ⟨at5, nt5, kt5⟩
  have Ft3 := fun_mk (st := hRow) lt3 ct3 kt3
  have bt3 := Ft3.binds (ps := ["self", "cell"]) fun _ _ _ _ _ _ us hl => match us, hl with | [_, _], _ => rfl
  have mt3 : Meth K Tt "row" ft3 := ⟨at3, nt3, kt3⟩
  have Ft6 := fun_mk (st := hThen) lt6 ct6 kt6
  have bt6 := Ft6.binds (ps := ["self", "later"]) fun _ _ _ _ _ _ us hl => match us, hl with | [_, _], _ => rfl
  have mt6 : Meth K Tt "then" ft6 := ⟨at6, nt6, kt6⟩
  have Ft7 := fun_mk (st := hInv) lt7 ct7 kt7
  have bt7 := Ft7.binds (ps := ["self"]) fun _ _ _ _ _ _ us hl => match us, hl with | [_], _ => rfl
  have mt7 : Meth K Tt "inverse" ft7 := ⟨at7, nt7, kt7⟩
  have EW : ErrC K W := ⟨⟨_, _, nmW, qnW, NnW, bsW, _, snW, subW, abW, colW, ddW, m0W, m1W, m2W, m3W, m5W, bas_arith, xW, [w0W], rfl⟩, saW, exW, tyW, kpW⟩
  have gW := PySem.W.mg_of X G aW
  have FN := fun_mk (st := sWIni) lN cN kN
  have bN := FN.binds (ps := ["self", "needed"]) fun _ _ _ _ _ _ us hl => match us, hl with | [_, _], _ => rfl
  have g_M := PySem.W.mg_of X G c_M
  have TF : FC K mg V := ⟨⟨pgV, hdV, poV, saV⟩, nf0V, nf1V, PySem.W.mg_of X G aV⟩
  have TW : WC K mg W := ⟨gW, EW, nf0W⟩
  have TT : TC K mg Tt := ⟨⟨pgTt, hdTt, poTt, saTt⟩, nf0Tt, PySem.W.mg_of X G aTt⟩
  have TTI : IsC K Tt := ⟨jaTt, jnTt, jtTt, jmTt⟩
  have Fgi := fun_mk (st := hImage) lgi cgi kgi
  have bgi := Fgi.binds (ps := ["self", "board"]) fun _ _ _ _ _ _ us hl => match us, hl with | [_, _], _ => rfl
  have mgi : Meth K Tt "image" fgi := ⟨agi, ngi, kgi⟩
  have Fid := fun_mk (st := hIsId) lid cid kid
  have bid := Fid.binds (ps := ["self"]) fun _ _ _ _ _ _ us hl => match us, hl with | [_], _ => rfl
  have mid : Meth K Tt "is_identity" fid := ⟨aid, nid, kid⟩
  have Fts := fun_mk (st := hSource) lts cts kts
  have bts := Fts.binds (ps := ["self", "cells"]) fun _ _ _ _ _ _ us hl => match us, hl with | [_, _], _ => rfl
  have mts : Meth K Tt "source" fts := ⟨ats, nts, kts⟩
  have Fty := fun_mk (st := hRepr) lty cty kty
  have bty := Fty.binds (ps := ["self"]) fun _ _ _ _ _ _ us hl => match us, hl with | [_], _ => rfl
  have mty : Meth K Tt "__repr__" fty := ⟨aty, nty, kty⟩
  have Fbu := fun_mk (st := mRepr) lbu cbu kbu
  have bbu := Fbu.binds (ps := ["self"]) fun _ _ _ _ _ _ us hl => match us, hl with | [_], _ => rfl
  have mbu : Meth K C "__repr__" fbu := ⟨abu, nbu, kbu⟩
  have Ffr := fun_mk (st := gRepr) lfr cfr kfr
  have bfr := Ffr.binds (ps := ["self"]) fun _ _ _ _ _ _ us hl => match us, hl with | [_], _ => rfl
  have mfr : Meth K V "__repr__" ffr := ⟨afr, nfr, kfr⟩
  have Fgp := fun_mk (st := sGaps) lgp cgp kgp
  have bgp := Fgp.binds (ps := ["table"]) fun _ _ _ _ _ _ us hl => match us, hl with | [_], _ => rfl
  have mgp := PySem.W.mg_of X G agp
  have Fdp := fun_mk (st := sDepth) ldp cdp kdp
  have bdp := Fdp.binds (ps := ["table"]) fun _ _ _ _ _ _ us hl => match us, hl with | [_], _ => rfl
  have mdp := PySem.W.mg_of X G adp
  have Fcg := fun_mk (st := sChanges) lcg ccg kcg
  have bcg := Fcg.binds (ps := ["table", "board"]) fun _ _ _ _ _ _ us hl => match us, hl with | [_, _], _ => rfl
  have mcg := PySem.W.mg_of X G acg
  have Fai := fun_mk (st := sIndep) lai cai kai
  have bai := Fai.binds (ps := ["items"]) fun _ _ _ _ _ _ us hl => match us, hl with | [_], _ => rfl
  have mai := PySem.W.mg_of X G aai
  have Fbo := fun_mk (st := sBoardOf) lbo cbo kbo
  have bbo := Fbo.binds (ps := ["thing", "size"]) fun _ _ _ _ _ _ us hl => match us, hl with | [_, _], _ => rfl
  have mbo := PySem.W.mg_of X G abo
  have Fwt := fun_mk (st := sWitness) lwt cwt kwt
  have bwt := Fwt.binds (ps := ["table"]) fun _ _ _ _ _ _ us hl => match us, hl with | [_], _ => rfl
  have mwt := PySem.W.mg_of X G awt
  have Fiw := fun_mk (st := sIsWit) liw ciw kiw
  have biw := Fiw.binds (ps := ["table", "boards"]) fun _ _ _ _ _ _ us hl => match us, hl with | [_, _], _ => rfl
  have miw := PySem.W.mg_of X G aiw
  have Frv := fun_mk (st := sRevF) lrv crv krv
  have brv := Frv.binds (ps := ["flips"]) fun _ _ _ _ _ _ us hl => match us, hl with | [_], _ => rfl
  have mrv := PySem.W.mg_of X G arv
  have Fod := fun_mk (st := sOdd) lod cod kod
  have bod := Fod.binds (ps := ["one", "other"]) fun _ _ _ _ _ _ us hl => match us, hl with | [_, _], _ => rfl
  have mod := PySem.W.mg_of X G aod
  have Fcb := fun_mk (st := sCBoard) lcb ccb kcb
  have bcb := Fcb.binds (ps := ["table"]) fun _ _ _ _ _ _ us hl => match us, hl with | [_], _ => rfl
  have mcb := PySem.W.mg_of X G acb
  have Flf := fun_mk (st := sLast) llf clf klf
  have blf := Flf.binds (ps := ["table", "board"]) fun _ _ _ _ _ _ us hl => match us, hl with | [_, _], _ => rfl
  have mlf := PySem.W.mg_of X G alf
  have Fsh := fun_mk (st := sShort) lsh csh ksh
  have bsh := Fsh.binds (ps := ["table"]) fun _ _ _ _ _ _ us hl => match us, hl with | [_], _ => rfl
  have msh := PySem.W.mg_of X G ash
  have Fen := fun_mk (st := sEnd) len cen ken
  have ben := Fen.binds (ps := ["table", "board"]) fun _ _ _ _ _ _ us hl => match us, hl with | [_, _], _ => rfl
  have men := PySem.W.mg_of X G aen
  have kbdp := kb_zero (st := sDepth) (y := "table") Fdp (fun _ _ _ _ _ _ _ => rfl)
  have kbwt := kb_zero (st := sWitness) (y := "table") Fwt (fun _ _ _ _ _ _ _ => rfl)
  have kbsh := kb_zero (st := sShort) (y := "table") Fsh (fun _ _ _ _ _ _ _ => rfl)
  have kbcg := kb_back (st := sChanges) (y := "table") (z := "board") Fcg (fun _ _ _ _ _ _ _ _ => rfl)
  have kbiw := kb_back (st := sIsWit) (y := "table") (z := "boards") Fiw (fun _ _ _ _ _ _ _ _ => rfl)
  have kben := kb_back (st := sEnd) (y := "table") (z := "board") Fen (fun _ _ _ _ _ _ _ _ => rfl)
  have F31 := fun_mk (st := sPot) l31 c31 k31
  have b31 := F31.binds (ps := ["_law_script", "_law_k"]) fun _ _ _ _ _ _ us hl => match us, hl with | [_, _], _ => rfl
  have m31 := PySem.W.mg_of X G a31
  have F32 := fun_mk (st := sDraw) l32 c32 k32
  have b32 := F32.binds (ps := ["_law_pot_here", "_law_many"]) fun _ _ _ _ _ _ us hl => match us, hl with | [_, _], _ => rfl
  have m32 := PySem.W.mg_of X G a32
  have F33 := fun_mk (st := sWidth) l33 c33 k33
  have b33 := F33.binds (ps := ["_law_pot_here", "_law_most"]) fun _ _ _ _ _ _ us hl => match us, hl with | [_, _], _ => rfl
  have m33 := PySem.W.mg_of X G a33
  have F34 := fun_mk (st := sSpots) l34 c34 k34
  have b34 := F34.binds (ps := ["_law_pot_here", "_law_least", "_law_width_here"]) fun _ _ _ _ _ _ us hl => match us, hl with | [_, _, _], _ => rfl
  have m34 := PySem.W.mg_of X G a34
  have F35 := fun_mk (st := sPair) l35 c35 k35
  have b35 := F35.binds (ps := ["_law_pot_here", "_law_width_here"]) fun _ _ _ _ _ _ us hl => match us, hl with | [_, _], _ => rfl
  have m35 := PySem.W.mg_of X G a35
  have F36 := fun_mk (st := slPairs) l36 c36 k36
  have b36 := F36.binds (ps := ["_law_pot_here", "_law_width_here", "_law_most"]) fun _ _ _ _ _ _ us hl => match us, hl with | [_, _, _], _ => rfl
  have m36 := PySem.W.mg_of X G a36
  have F37 := fun_mk (st := sBits) l37 c37 k37
  have b37 := F37.binds (ps := ["_law_pot_here", "_law_width_here"]) fun _ _ _ _ _ _ us hl => match us, hl with | [_, _], _ => rfl
  have m37 := PySem.W.mg_of X G a37
  have F38 := fun_mk (st := sParity) l38 c38 k38
  have b38 := F38.binds (ps := ["_law_bits_here", "_law_spots_here"]) fun _ _ _ _ _ _ us hl => match us, hl with | [_, _], _ => rfl
  have m38 := PySem.W.mg_of X G a38
  have F39 := fun_mk (st := sAfter) l39 c39 k39
  have b39 := F39.binds (ps := ["_law_bits_here", "_law_pair_here"]) fun _ _ _ _ _ _ us hl => match us, hl with | [_, _], _ => rfl
  have m39 := PySem.W.mg_of X G a39
  have F40 := fun_mk (st := slAfterAll) l40 c40 k40
  have b40 := F40.binds (ps := ["_law_bits_here", "_law_pairs_here"]) fun _ _ _ _ _ _ us hl => match us, hl with | [_, _], _ => rfl
  have m40 := PySem.W.mg_of X G a40
  have F43 := fun_mk (st := sFlipOf) l43 c43 k43
  have b43 := F43.binds (ps := ["_law_pair_here"]) fun _ _ _ _ _ _ us hl => match us, hl with | [_], _ => rfl
  have m43 := PySem.W.mg_of X G a43
  have Fup := fun_mk (st := sUp) lup cup kup
  have bup := Fup.binds (ps := ["_law_bits_here"]) fun _ _ _ _ _ _ us hl => match us, hl with | [_], _ => rfl
  have mup := PySem.W.mg_of X G aup
  have Fmd := fun_mk (st := sMade) lmd cmd kmd
  have bmd := Fmd.binds (ps := ["_law_bits_here"]) fun _ _ _ _ _ _ us hl => match us, hl with | [_], _ => rfl
  have mmd := PySem.W.mg_of X G amd
  have Fch := fun_mk (st := slChanged) lch cch kch
  have bch := Fch.binds (ps := ["_law_pairs_here", "_law_bits_here"]) fun _ _ _ _ _ _ us hl => match us, hl with | [_, _], _ => rfl
  have mch := PySem.W.mg_of X G ach
  have Ftb := fun_mk (st := slTable) ltb ctb ktb
  have btb := Ftb.binds (ps := ["_law_pairs_here", "_law_width_here"]) fun _ _ _ _ _ _ us hl => match us, hl with | [_, _], _ => rfl
  have mtb := PySem.W.mg_of X G atb
  have Fbb := fun_mk (st := slBasicBits) lbb cbb kbb
  have bbb := Fbb.binds (ps := ["_law_width_here"]) fun _ _ _ _ _ _ us hl => match us, hl with | [_], _ => rfl
  have mbb := PySem.W.mg_of X G abb
  have Fwo := fun_mk (st := slWorld) lwo cwo kwo
  have bwo := Fwo.binds (ps := ["_law_pot_here"]) fun _ _ _ _ _ _ us hl => match us, hl with | [_], _ => rfl
  have mwo := PySem.W.mg_of X G awo
  have Fas := fun_mk (st := slAsked) las cas kas
  have bas := Fas.binds (ps := ["_law_world_here", "_law_way", "_law_by_name"]) fun _ _ _ _ _ _ us hl => match us, hl with | [_, _, _], _ => rfl
  have mas := PySem.W.mg_of X G aas
  have Fsw := fun_mk (st := slShown) lsw csw ksw
  have bsw := Fsw.binds (ps := ["_law_world_here"]) fun _ _ _ _ _ _ us hl => match us, hl with | [_], _ => rfl
  have msw := PySem.W.mg_of X G asw
  have F47 := fun_mk (st := sLaw) l47 c47 k47
  have b47 := F47.binds (ps := ["_law_script"]) fun _ _ _ _ _ _ us hl => match us, hl with | [_], _ => rfl
  have m47 := PySem.W.mg_of X G a47
  refine ⟨PySem.W.fnOf "law" "law" (defArgs sLaw) (defBody sLaw) (defScope sLaw) .none kV47 dc47 pm47 an47 cd47 ct47, fun s v => .of_eq rfl, fun base _ _ => ?_⟩
  have HNi : Has l.prog w K mg base "is_integer" 1 ["thing"] spInteger := ⟨f10, _, ok_integer F10 B, m10, k10, b10⟩
  have HB : Has l.prog w K mg base "is_integer_between" 2 ["thing", "low", "high"] spBetween := ⟨f11, _, ok_between F11 B HNi, m11, k11, b11⟩
  have HZ : Has l.prog w K mg base "is_size" 3 ["thing"] spIsSize := ⟨f14, _, ok_issize F14 ⟨_, g_M⟩ HB, m14, k14, b14⟩
  have HC : HasN l.prog w K mg base "is_cell" 3 "thing" spIsCell := ⟨f15, _, ok_iscell F15 HB, m15, k15, kb15⟩
  have HAr : Has l.prog w K mg base "are_cells" 4 ["things", "size"] (spAre K) := ⟨f16, _, ok_are F16 B HC, m16, k16, b16⟩
  have HE : HasN l.prog w K mg base "cell_tuple" 5 "things" (spCells K) := ⟨f17, _, ok_cells F17 B HAr, m17, k17, kb17⟩
  have HED : HasD l.prog w K mg base "cell_tuple" 5 "things" (spCells K) := ⟨f17, _, ds17, ok_cells F17 B HAr, m17, k17, hd17, bd17⟩
  have HA : Has l.prog w K mg base "added_cells" 2 ["one", "other"] (spAdded K) := ⟨f18, _, ok_added F18 B, m18, k18, b18⟩
  have HO : Has l.prog w K mg base "share_odd" 2 ["one", "other"] (spShare K) := ⟨f19, _, ok_share F19 B, m19, k19, b19⟩
  have MS : HasM l.prog w K mg base C "size" 2 ["self"] (spSize C) := ⟨fS, _, ok_size FS B T, mS, bS⟩
  have MU : HasM l.prog w K mg base C "up" 2 ["self"] (spUps C) := ⟨fU, _, ok_ups FU B T, mU, bU⟩
  have MY : HasM l.prog w K mg base C "parity" 6 ["self", "cells"] (spPar K C) := ⟨fY, _, ok_par FY B T MS HE, mY, bY⟩
  have HI : HasIni l.prog w K mg base C := ⟨fI, _, ok_init FI B T HZ HE, mkI, kbI2, kbI1, e, dsI, fun H => .inr ⟨_, #[], _, le, rfl, rfl, Nat.zero_le _, .nil⟩, hdI, bI⟩
  have HJ : HasFI l.prog w K mg base V := ⟨fJ, _, ok_finit FJ B TF HED HO, ⟨mkV, aJ, nJ, kcV⟩, bJ⟩
  have N1 : HasM l.prog w K mg base V "tested" 2 ["self"] (spTested V) := ⟨fg1, _, ok_tested Fg1 TF, mg1, bg1⟩
  have N2 : HasM l.prog w K mg base V "toggled" 2 ["self"] (spToggled V) := ⟨fg2, _, ok_toggled Fg2 TF, mg2, bg2⟩
  have N3 : HasM l.prog w K mg base V "width" 2 ["self"] (spFWidth V) := ⟨fg3, _, ok_fwidth Fg3 B TF, mg3, bg3⟩
  have HW0 : HasW l.prog w K mg base W := ⟨fN, _, ok_wini FN TW, iN, tN, bN⟩
  have HF : HasFit l.prog w K mg base V W := ⟨f23, _, ok_fit F23 TF TW N3 HW0, m23, k23, b23⟩
  have Hm1 : Has l.prog w K mg base "mask_of" 2 ["cells"] (spMaskOf K) := ⟨fm1, _, ok_maskOf Fm1 B, mm1, km1, bm1⟩
  have Hm2 : Has l.prog w K mg base "cells_of" 2 ["mask"] spCellsOf := ⟨fm2, _, ok_cellsOf Fm2 B, mm2, km2, bm2⟩
  have Hm4 : Has l.prog w K mg base "reduced" 2 ["pivots", "mask"] spReduced := ⟨fm4, _, ok_reduced Fm4, mm4, km4, bm4⟩
  have Hm3 : Has l.prog w K mg base "pivots_of" 3 ["masks"] (spPivots K) := ⟨fm3, _, ok_pivots Fm3 B Hm4, mm3, km3, bm3⟩
  have Hm5 : Has l.prog w K mg base "rank_of" 4 ["masks"] (spRank K) := ⟨fm5, _, ok_rank Fm5 B Hm3, mm5, km5, bm5⟩
  have Hm6 : Has l.prog w K mg base "are_rows" 5 ["things"] (spRows K) := ⟨fm6, _, ok_rows Fm6 B ⟨_, g_M⟩ HAr, mm6, km6, bm6⟩
  have Hm7 : Has l.prog w K mg base "added_masks" 2 ["masks", "cells"] (spAddedM K) := ⟨fm7, _, ok_addedM Fm7, mm7, km7, bm7⟩
  have Hm8 : Has l.prog w K mg base "single_masks" 2 ["size"] spSingle := ⟨fm8, _, ok_single Fm8 B, mm8, km8, bm8⟩
  have Hmb : Has l.prog w K mg base "masks_after" 3 ["masks", "flip"] (spAfterM K V) := ⟨fmb, _, ok_afterM Fmb B TF N1 N2 Hm7, mmb, kmb, bmb⟩
  have HTI : HasTI l.prog w K mg base Tt := ⟨fti, _, ok_tinit Fti B TT Hm6 Hm1 Hm5, ⟨mkTt, ati, nti, kcTt⟩, bti⟩
  have Hm9 : Has l.prog w K mg base "table_with" 8 ["masks"] (spTabWith K Tt) := ⟨fm9, _, ok_tabWith Fm9 TT Hm2 HTI, mm9, km9, bm9⟩
  have HTab : Has l.prog w K mg base "table_of" 9 ["size", "flips"] (spTabOf K Tt V) := ⟨fma, _, ok_tabOf Fma HZ Hm8 HF Hmb Hm9, mma, kma, bma⟩
  have Hmc : Has l.prog w K mg base "composed_masks" 3 ["masks", "later"] (spComp K) := ⟨fmc, _, ok_comp Fmc B Hm7 Hm2, mmc, kmc, bmc⟩
  have T2 : HasM l.prog w K mg base Tt "size" 2 ["self"] (spTSize Tt) := ⟨ft2, _, ok_TSize Ft2 B TT, mt2, bt2⟩
  have T1 : HasM l.prog w K mg base Tt "__len__" 2 ["self"] (spTSize Tt) := ⟨ft1, _, ok_TLen Ft1 B TT, mt1, bt1⟩
  have T3 : HasM l.prog w K mg base Tt "row" 4 ["self", "cell"] (spRow Tt) := ⟨ft3, _, ok_row Ft3 TT T2 HC Hm2, mt3, bt3⟩
  have T5 : HasM l.prog w K mg base Tt "check_size" 3 ["self", "size"] (spCheck Tt) := ⟨ft5, _, ok_check Ft5 TT T2, mt5, bt5⟩
  have T6 : HasM l.prog w K mg base Tt "then" 9 ["self", "later"] (spThen Tt) := ⟨ft6, _, ok_then Ft6 TT T5 T2 Hmc Hm9, mt6, bt6⟩
  have T7 : HasM l.prog w K mg base Tt "inverse" 8 ["self"] (spInv Tt) := ⟨ft7, _, ok_inv Ft7 B TT Hm3 T2 Hm4 Hm2 HTI, mt7, bt7⟩
  have TE : HasTE l.prog w K mg base Tt := ⟨ftq, _, ok_teq Ftq B TT TTI, EQTt, btq⟩
  have HP : Has l.prog w K mg base "_law_pot" 2 ["_law_script", "_law_k"] (spPot K) := ⟨f31, _, ok_pot F31 B, m31, k31, b31⟩
  have HD : Has l.prog w K mg base "_law_draw" 2 ["_law_pot_here", "_law_many"] spDraw := ⟨f32, _, ok_draw F32 B, m32, k32, b32⟩
  have HWd : Has l.prog w K mg base "_law_width" 3 ["_law_pot_here", "_law_most"] spWidth := ⟨f33, _, ok_width F33 B HD, m33, k33, b33⟩
  have HS : Has l.prog w K mg base "_law_spots" 3 ["_law_pot_here", "_law_least", "_law_width_here"] spSpots := ⟨f34, _, ok_spots F34 B HD, m34, k34, b34⟩
  have HPr : Has l.prog w K mg base "_law_pair" 4 ["_law_pot_here", "_law_width_here"] spPairL := ⟨f35, _, ok_pair F35 B HD HS, m35, k35, b35⟩
  have HPs : Has l.prog w K mg base "_law_pairs" 5 ["_law_pot_here", "_law_width_here", "_law_most"] spPairs := ⟨f36, _, ok_pairs F36 B HD HPr, m36, k36, b36⟩
  have HT : Has l.prog w K mg base "_law_bits" 3 ["_law_pot_here", "_law_width_here"] spBits := ⟨f37, _, ok_bits F37 B HD, m37, k37, b37⟩
  have HYp : Has l.prog w K mg base "_law_parity" 2 ["_law_bits_here", "_law_spots_here"] (spParity K) := ⟨f38, _, ok_parity F38 B, m38, k38, b38⟩
  have HAf : Has l.prog w K mg base "_law_after" 3 ["_law_bits_here", "_law_pair_here"] (spAfter K) := ⟨f39, _, ok_after F39 B HYp, m39, k39, b39⟩
  have HAa : Has l.prog w K mg base "_law_after_all" 4 ["_law_bits_here", "_law_pairs_here"] (spAfterAll K) := ⟨f40, _, ok_afterAll F40 B HAf, m40, k40, b40⟩
  have HFo : Has l.prog w K mg base "_law_flip_of" 8 ["_law_pair_here"] (spFlipS K V) := ⟨f43, _, ok_flipS F43 B TF HJ, m43, k43, b43⟩
  have TIm : HasM l.prog w K mg base Tt "image" 8 ["self", "board"] (spImage Tt C) := ⟨fgi, _, ok_image Fgi B TT T T5 T2 T3 MS MY HI, mgi, bgi⟩
  have TId : HasM l.prog w K mg base Tt "is_identity" 3 ["self"] (spIsId Tt) := ⟨fid, _, ok_isId Fid TT T2 Hm8, mid, bid⟩
  have TS : HasM l.prog w K mg base Tt "source" 6 ["self", "cells"] (spSource K Tt) := ⟨fts, _, ok_source Fts TT T2 HE Hm7 Hm2, mts, bts⟩
  have HRT : HasRT l.prog w K mg base Tt := ⟨fty, _, ok_reprT Fty B TT Hm2, aty, nty, bty⟩
  have HRB : HasRB l.prog w K mg base C := ⟨fbu, _, ok_reprB Fbu B T MU, abu, nbu, bbu⟩
  have HRF : HasRF l.prog w K mg base V := ⟨ffr, _, ok_reprH Ffr B TF, afr, nfr, bfr⟩
  have HpG : Has l.prog w K mg base "pivots_of" 3 ["masks"] (spPivG K) := ⟨fm3, _, ok_pivG Fm3 B Hm4, mm3, km3, bm3⟩
  have HrG : Has l.prog w K mg base "rank_of" 4 ["masks"] (spRankG K) := ⟨fm5, _, ok_rankG Fm5 B HpG, mm5, km5, bm5⟩
  have HGp : Has l.prog w K mg base "gaps_of" 5 ["table"] (spGaps Tt) := ⟨fgp, _, ok_gaps Fgp B TT T2 T3 HA, mgp, kgp, bgp⟩
  have HDe1 : HasK1 l.prog w K mg base "depth_of" 6 "table" (spDepth Tt) := ⟨fdp, _, ok_depth Fdp B HGp Hm1 HrG, mdp, kdp, bdp, kbdp⟩
  have HDe : Has l.prog w K mg base "depth_of" 6 ["table"] (spDepth Tt) := ⟨fdp, _, ok_depth Fdp B HGp Hm1 HrG, mdp, kdp, bdp⟩
  have HCg : Has l.prog w K mg base "changes_of" 9 ["table", "board"] (spChanges Tt C) := ⟨fcg, _, ok_changes Fcg TT T TIm MU HA, mcg, kcg, bcg⟩
  have HCg2 : HasK2 l.prog w K mg base "changes_of" 9 "table" "board" (spChanges Tt C) := ⟨fcg, _, ok_changes Fcg TT T TIm MU HA, mcg, kcg, bcg, kbcg⟩
  have HAi : Has l.prog w K mg base "are_independent" 6 ["items"] (spIndep K) := ⟨fai, _, ok_indep Fai B HED Hm1 HrG, mai, kai, bai⟩
  have HBo : Has l.prog w K mg base "is_board_of" 3 ["thing", "size"] (spBoardOf C) := ⟨fbo, _, ok_boardOf Fbo B T TI tcC MS, mbo, kbo, bbo⟩
  have HWt : HasK1 l.prog w K mg base "witness_of" 10 "table" (spWit Tt C) := ⟨fwt, _, ok_wit Fwt B TT T T2 HI HCg Hm1 HpG Hm4, mwt, kwt, bwt, kbwt⟩
  have HIw : HasK2 l.prog w K mg base "is_witness" 10 "table" "boards" (spIsWit K Tt C) := ⟨fiw, _, ok_isWit Fiw B TT HDe HBo T2 HCg HAi, miw, kiw, biw, kbiw⟩
  have HRv : Has l.prog w K mg base "reversed_flips" 2 ["flips"] (spRev K) := ⟨frv, _, ok_rev Frv B (PySem.W.mg_none_of X G z_reversed), mrv, krv, brv⟩
  have HOd : Has l.prog w K mg base "cells_odd_in_both" 2 ["one", "other"] spOdd := ⟨fod, _, ok_odd Fod B, mod, kod, bod⟩
  have HCb : Has l.prog w K mg base "changed_board" 8 ["table"] (spCB Tt C) := ⟨fcb, _, ok_cb Fcb B TT T HGp T2 HI, mcb, kcb, bcb⟩
  have HLf : Has l.prog w K mg base "last_flip" 10 ["table", "board"] (spLast K Tt C V) := ⟨flf, _, ok_last Flf B TT TF HCg T7 HOd TS HA HJ, mlf, klf, blf⟩
  have HSh : Has l.prog w K mg base "shortest_flips" 11 ["table"] (spShort Tt V) := ⟨fsh, _, ok_short Fsh TT TId HCb HLf T6 HTab T2 HRv, msh, ksh, bsh⟩
  have HSh1 : HasK1 l.prog w K mg base "shortest_flips" 11 "table" (spShort Tt V) := ⟨fsh, _, ok_short Fsh TT TId HCb HLf T6 HTab T2 HRv, msh, ksh, bsh, kbsh⟩
  have HEn : HasK2 l.prog w K mg base "shortest_ending_at" 12 "table" "board" (spEnd Tt C V) := ⟨fen, _, ok_end Fen TT HCg HLf HSh T6 HTab T2, men, ken, ben, kben⟩
  have HUp : Has l.prog w K mg base "_law_up" 2 ["_law_bits_here"] (spUpL K) := ⟨fup, _, ok_upL Fup B, mup, kup, bup⟩
  have HMd : Has l.prog w K mg base "_law_made" 8 ["_law_bits_here"] (spMade C) := ⟨fmd, _, ok_made Fmd B T HUp HI, mmd, kmd, bmd⟩
  have HCh : Has l.prog w K mg base "_law_changed" 5 ["_law_pairs_here", "_law_bits_here"] (spChanged K) := ⟨fch, _, ok_changed Fch B HAa, mch, kch, bch⟩
  have HTb : Has l.prog w K mg base "_law_table" 10 ["_law_pairs_here", "_law_width_here"] (spTable K Tt) := ⟨ftb, _, ok_table Ftb HTab HFo, mtb, ktb, btb⟩
  have HBb : Has l.prog w K mg base "_law_basic_bits" 3 ["_law_width_here"] spBasic := ⟨fbb, _, ok_basic Fbb B, mbb, kbb, bbb⟩
  have HWo : Has l.prog w K mg base "_law_world" 11 ["_law_pot_here"] (spWorld Tt C) := ⟨fwo, _, ok_world Fwo B HWd HPs HBb HCh HD HT HTb HMd, mwo, kwo, bwo⟩
  have HAs : Has l.prog w K mg base "_law_asked" 13 ["_law_world_here", "_law_way", "_law_by_name"] (spAsk K Tt C V) := ⟨fas, _, ok_ask Fas B HCg2 HDe1 HWt HSh1 HIw HEn, mas, kas, bas⟩
  have HSw : HasG l.prog w K mg base "_law_shown" 6 ["_law_world_here"] (spShown Tt C) := ⟨fsw, _, ok_shown Fsw B HRT HRB HRF, msw, ksw, bsw⟩
  exact ok_law F47 B HP HD HWo HSw HAs HRT HRB HRF
end K49
open PySem PySem.W PyProof.Rows
set_option maxRecDepth 100000 in
set_option maxHeartbeats 0 in
theorem PySem.Challenge.cw_paritycells_k49_depths_by_turns_holds : PySem.Challenge.rw_paritycells_k49_depths_by_turns.Holds := by
  w_on; o_law; k_head; (case hw => w_witness2)
  k_fill
  refine Par.walkG (l := PySem.Challenge.rw_paritycells_k49_depths_by_turns) (k := 14) (x := "_law_script") (sp := K49.spLaw) rfl (by decide) rfl ⟨rfl, by decide, by decide⟩ (fun w h Y => PySem.W.kIn_of Y) ?F (fun K H a ns hl _ hS => ⟨a, ns, rfl, hS, hl, fun _ => rfl⟩)
  case F =>
    intro w mg fa h KX G hmg
    refine' K49.all_mk KX G hmg ?q_a10 ?q_l10 ?q_c10 ?q_k10 ?q_a11 ?q_l11 ?q_c11 ?q_k11 ?q_a14 ?q_l14 ?q_c14 ?q_k14 ?q_a16 ?q_l16 ?q_c16 ?q_k16 ?q_a19 ?q_l19 ?q_c19 ?q_k19 ?q_a23 ?q_l23 ?q_c23 ?q_k23 ?q_am1 ?q_lm1 ?q_cm1 ?q_km1 ?q_am2 ?q_lm2 ?q_cm2 ?q_km2 ?q_am3 ?q_lm3 ?q_cm3 ?q_km3 ?q_am4 ?q_lm4 ?q_cm4 ?q_km4 ?q_am5 ?q_lm5 ?q_cm5 ?q_km5 ?q_am6 ?q_lm6 ?q_cm6 ?q_km6 ?q_am8 ?q_lm8 ?q_cm8 ?q_km8 ?q_am7 ?q_lm7 ?q_cm7 ?q_km7 ?q_am9 ?q_lm9 ?q_cm9 ?q_km9 ?q_ama ?q_lma ?q_cma ?q_kma ?q_amb ?q_lmb ?q_cmb ?q_kmb ?q_amc ?q_lmc ?q_cmc ?q_kmc ?q_a18 ?q_l18 ?q_c18 ?q_k18 ?q_a15 ?q_l15 ?q_d15 ?q_c15 ?q_k15 ?q_a17 ?q_l17 ?q_d17 ?q_c17 ?q_k17 ?q_aC ?q_pgC ?q_hdC ?q_poC ?q_saC ?q_mkC ?q_kcC ?q_nf0C ?q_jaC ?q_jnC ?q_jtC ?q_jmC ?q_iI ?q_nI ?q_lI ?q_dI ?q_le ?q_cI ?q_kI ?q_aS ?q_nS ?q_lS ?q_cS ?q_kS ?q_aU ?q_nU ?q_lU ?q_cU ?q_kU ?q_aY ?q_nY ?q_lY ?q_cY ?q_kY ?q_aV ?q_pgV ?q_hdV ?q_poV ?q_saV ?q_mkV ?q_kcV ?q_nf0V ?q_nf1V ?q_aJ ?q_nJ ?q_lJ ?q_cJ ?q_kJ ?q_ag1 ?q_ng1 ?q_lg1 ?q_cg1 ?q_kg1 ?q_ag2 ?q_ng2 ?q_lg2 ?q_cg2 ?q_kg2 ?q_ag3 ?q_ng3 ?q_lg3 ?q_cg3 ?q_kg3 ?q_aTt ?q_pgTt ?q_hdTt ?q_poTt ?q_saTt ?q_mkTt ?q_kcTt ?q_nf0Tt ?q_jaTt ?q_jnTt ?q_jtTt ?q_jmTt ?q_ati ?q_nti ?q_lti ?q_cti ?q_kti ?q_atq ?q_ntq ?q_ltq ?q_ctq ?q_ktq ?q_xqTt ?q_lNTt ?q_nkTt ?q_neqTt ?q_nneTt ?q_at1 ?q_nt1 ?q_lt1 ?q_ct1 ?q_kt1 ?q_at2 ?q_nt2 ?q_lt2 ?q_ct2 ?q_kt2 ?q_at5 ?q_nt5 ?q_lt5 ?q_ct5 ?q_kt5 ?q_at3 ?q_nt3 ?q_lt3 ?q_ct3 ?q_kt3 ?q_at6 ?q_nt6 ?q_lt6 ?q_ct6 ?q_kt6 ?q_at7 ?q_nt7 ?q_lt7 ?q_ct7 ?q_kt7 ?q_aW ?q_xW ?q_saW ?q_exW ?q_tyW ?q_kpW ?q_nf0W ?q_iN ?q_tN ?q_lN ?q_cN ?q_kN ?q_c_M ?q_tcC ?q_agi ?q_ngi ?q_lgi ?q_cgi ?q_kgi ?q_aid ?q_nid ?q_lid ?q_cid ?q_kid ?q_ats ?q_nts ?q_lts ?q_cts ?q_kts ?q_aty ?q_nty ?q_lty ?q_cty ?q_kty ?q_abu ?q_nbu ?q_lbu ?q_cbu ?q_kbu ?q_afr ?q_nfr ?q_lfr ?q_cfr ?q_kfr ?q_agp ?q_lgp ?q_cgp ?q_kgp ?q_adp ?q_ldp ?q_cdp ?q_kdp ?q_acg ?q_lcg ?q_ccg ?q_kcg ?q_aai ?q_lai ?q_cai ?q_kai ?q_abo ?q_lbo ?q_cbo ?q_kbo ?q_awt ?q_lwt ?q_cwt ?q_kwt ?q_aiw ?q_liw ?q_ciw ?q_kiw ?q_arv ?q_lrv ?q_crv ?q_krv ?q_aod ?q_lod ?q_cod ?q_kod ?q_acb ?q_lcb ?q_ccb ?q_kcb ?q_alf ?q_llf ?q_clf ?q_klf ?q_ash ?q_lsh ?q_csh ?q_ksh ?q_aen ?q_len ?q_cen ?q_ken ?q_a31 ?q_l31 ?q_c31 ?q_k31 ?q_a32 ?q_l32 ?q_c32 ?q_k32 ?q_a33 ?q_l33 ?q_c33 ?q_k33 ?q_a34 ?q_l34 ?q_c34 ?q_k34 ?q_a35 ?q_l35 ?q_c35 ?q_k35 ?q_a36 ?q_l36 ?q_c36 ?q_k36 ?q_a37 ?q_l37 ?q_c37 ?q_k37 ?q_a38 ?q_l38 ?q_c38 ?q_k38 ?q_a39 ?q_l39 ?q_c39 ?q_k39 ?q_a40 ?q_l40 ?q_c40 ?q_k40 ?q_a43 ?q_l43 ?q_c43 ?q_k43 ?q_aup ?q_lup ?q_cup ?q_kup ?q_amd ?q_lmd ?q_cmd ?q_kmd ?q_ach ?q_lch ?q_cch ?q_kch ?q_atb ?q_ltb ?q_ctb ?q_ktb ?q_abb ?q_lbb ?q_cbb ?q_kbb ?q_awo ?q_lwo ?q_cwo ?q_kwo ?q_aas ?q_las ?q_cas ?q_kas ?q_asw ?q_lsw ?q_csw ?q_ksw ?q_a47 ?q_l47 ?q_c47 ?q_k47 ?q_z_len ?q_z_abs ?q_z_max ?q_z_min ?q_z_divmod ?q_z_list ?q_z_tuple ?q_z_range ?q_z_isinstance ?q_z_bool ?q_z_int ?q_z_sorted ?q_z_set ?q_z_all ?q_z_enumerate ?q_z_repr ?q_z_sum ?q_z_reversed
    (case q_a10 => k_is)
    (case q_l10 => k_is)
    (case q_c10 => k_is)
    (case q_k10 => k_is)
    (case q_a11 => k_is)
    (case q_l11 => k_is)
    (case q_c11 => k_is)
    (case q_k11 => k_is)
    (case q_a14 => k_is)
    (case q_l14 => k_is)
    (case q_c14 => k_is)
    (case q_k14 => k_is)
    (case q_a16 => k_is)
    (case q_l16 => k_is)
    (case q_c16 => k_is)
    (case q_k16 => k_is)
    (case q_a19 => k_is)
    (case q_l19 => k_is)
    (case q_c19 => k_is)
    (case q_k19 => k_is)
    (case q_a23 => k_is)
    (case q_l23 => k_is)
    (case q_c23 => k_is)
    (case q_k23 => k_is)
    (case q_am1 => k_is)
    (case q_lm1 => k_is)
    (case q_cm1 => k_is)
    (case q_km1 => k_is)
    (case q_am2 => k_is)
    (case q_lm2 => k_is)
    (case q_cm2 => k_is)
    (case q_km2 => k_is)
    (case q_am3 => k_is)
    (case q_lm3 => k_is)
    (case q_cm3 => k_is)
    (case q_km3 => k_is)
    (case q_am4 => k_is)
    (case q_lm4 => k_is)
    (case q_cm4 => k_is)
    (case q_km4 => k_is)
    (case q_am5 => k_is)
    (case q_lm5 => k_is)
    (case q_cm5 => k_is)
    (case q_km5 => k_is)
    (case q_am6 => k_is)
    (case q_lm6 => k_is)
    (case q_cm6 => k_is)
    (case q_km6 => k_is)
    (case q_am8 => k_is)
    (case q_lm8 => k_is)
    (case q_cm8 => k_is)
    (case q_km8 => k_is)
    (case q_am7 => k_is)
    (case q_lm7 => k_is)
    (case q_cm7 => k_is)
    (case q_km7 => k_is)
    (case q_am9 => k_is)
    (case q_lm9 => k_is)
    (case q_cm9 => k_is)
    (case q_km9 => k_is)
    (case q_ama => k_is)
    (case q_lma => k_is)
    (case q_cma => k_is)
    (case q_kma => k_is)
    (case q_amb => k_is)
    (case q_lmb => k_is)
    (case q_cmb => k_is)
    (case q_kmb => k_is)
    (case q_amc => k_is)
    (case q_lmc => k_is)
    (case q_cmc => k_is)
    (case q_kmc => k_is)
    (case q_a18 => k_is)
    (case q_l18 => k_is)
    (case q_c18 => k_is)
    (case q_k18 => k_is)
    (case q_a15 => k_is)
    (case q_l15 => k_is)
    (case q_d15 => k_is)
    (case q_c15 => k_is)
    (case q_k15 => k_is)
    (case q_a17 => k_is)
    (case q_l17 => k_is)
    (case q_d17 => k_is)
    (case q_c17 => k_is)
    (case q_k17 => k_is)
    (case q_aC => k_is)
    (case q_pgC => k_is)
    (case q_hdC => k_is)
    (case q_poC => k_is)
    (case q_saC => k_is)
    (case q_mkC => k_is)
    (case q_kcC => k_is)
    (case q_nf0C => k_is)
    (case q_jaC => k_is)
    (case q_jnC => k_is)
    (case q_jtC => k_is)
    (case q_jmC => k_is)
    (case q_iI => k_is)
    (case q_nI => k_is)
    (case q_lI => k_is)
    (case q_dI => k_is)
    (case q_le => k_is)
    (case q_cI => k_is)
    (case q_kI => k_is)
    (case q_aS => k_is)
    (case q_nS => k_is)
    (case q_lS => k_is)
    (case q_cS => k_is)
    (case q_kS => k_is)
    (case q_aU => k_is)
    (case q_nU => k_is)
    (case q_lU => k_is)
    (case q_cU => k_is)
    (case q_kU => k_is)
    (case q_aY => k_is)
    (case q_nY => k_is)
    (case q_lY => k_is)
    (case q_cY => k_is)
    (case q_kY => k_is)
    (case q_aV => k_is)
    (case q_pgV => k_is)
    (case q_hdV => k_is)
    (case q_poV => k_is)
    (case q_saV => k_is)
    (case q_mkV => k_is)
    (case q_kcV => k_is)
    (case q_nf0V => k_is)
    (case q_nf1V => k_is)
    (case q_aJ => k_is)
    (case q_nJ => k_is)
    (case q_lJ => k_is)
    (case q_cJ => k_is)
    (case q_kJ => k_is)
    (case q_ag1 => k_is)
    (case q_ng1 => k_is)
    (case q_lg1 => k_is)
    (case q_cg1 => k_is)
    (case q_kg1 => k_is)
    (case q_ag2 => k_is)
    (case q_ng2 => k_is)
    (case q_lg2 => k_is)
    (case q_cg2 => k_is)
    (case q_kg2 => k_is)
    (case q_ag3 => k_is)
    (case q_ng3 => k_is)
    (case q_lg3 => k_is)
    (case q_cg3 => k_is)
    (case q_kg3 => k_is)
    (case q_aTt => k_is)
    (case q_pgTt => k_is)
    (case q_hdTt => k_is)
    (case q_poTt => k_is)
    (case q_saTt => k_is)
    (case q_mkTt => k_is)
    (case q_kcTt => k_is)
    (case q_nf0Tt => k_is)
    (case q_jaTt => k_is)
    (case q_jnTt => k_is)
    (case q_jtTt => k_is)
    (case q_jmTt => k_is)
    (case q_ati => k_is)
    (case q_nti => k_is)
    (case q_lti => k_is)
    (case q_cti => k_is)
    (case q_kti => k_is)
    (case q_atq => k_is)
    (case q_ntq => k_is)
    (case q_ltq => k_is)
    (case q_ctq => k_is)
    (case q_ktq => k_is)
    (case q_xqTt => k_is)
    (case q_lNTt => k_is)
    (case q_nkTt => first | rfl | decide +kernel | simp)
    (case q_neqTt => k_is)
    (case q_nneTt => k_is)
    (case q_at1 => k_is)
    (case q_nt1 => k_is)
    (case q_lt1 => k_is)
    (case q_ct1 => k_is)
    (case q_kt1 => k_is)
    (case q_at2 => k_is)
    (case q_nt2 => k_is)
    (case q_lt2 => k_is)
    (case q_ct2 => k_is)
    (case q_kt2 => k_is)
    (case q_at5 => k_is)
    (case q_nt5 => k_is)
    (case q_lt5 => k_is)
    (case q_ct5 => k_is)
    (case q_kt5 => k_is)
    (case q_at3 => k_is)
    (case q_nt3 => k_is)
    (case q_lt3 => k_is)
    (case q_ct3 => k_is)
    (case q_kt3 => k_is)
    (case q_at6 => k_is)
    (case q_nt6 => k_is)
    (case q_lt6 => k_is)
    (case q_ct6 => k_is)
    (case q_kt6 => k_is)
    (case q_at7 => k_is)
    (case q_nt7 => k_is)
    (case q_lt7 => k_is)
    (case q_ct7 => k_is)
    (case q_kt7 => k_is)
    (case q_aW => k_is)
    (case q_xW => k_is)
    (case q_saW => k_is)
    (case q_exW => k_is)
    (case q_tyW => k_is)
    (case q_kpW => k_is)
    (case q_nf0W => k_is)
    (case q_iN => k_is)
    (case q_tN => k_is)
    (case q_lN => k_is)
    (case q_cN => k_is)
    (case q_kN => k_is)
    (case q_c_M => k_is)
    (case q_tcC => k_is)
    (case q_agi => k_is)
    (case q_ngi => k_is)
    (case q_lgi => k_is)
    (case q_cgi => k_is)
    (case q_kgi => k_is)
    (case q_aid => k_is)
    (case q_nid => k_is)
    (case q_lid => k_is)
    (case q_cid => k_is)
    (case q_kid => k_is)
    (case q_ats => k_is)
    (case q_nts => k_is)
    (case q_lts => k_is)
    (case q_cts => k_is)
    (case q_kts => k_is)
    (case q_aty => k_is)
    (case q_nty => k_is)
    (case q_lty => k_is)
    (case q_cty => k_is)
    (case q_kty => k_is)
    (case q_abu => k_is)
    (case q_nbu => k_is)
    (case q_lbu => k_is)
    (case q_cbu => k_is)
    (case q_kbu => k_is)
    (case q_afr => k_is)
    (case q_nfr => k_is)
    (case q_lfr => k_is)
    (case q_cfr => k_is)
    (case q_kfr => k_is)
    (case q_agp => k_is)
    (case q_lgp => k_is)
    (case q_cgp => k_is)
    (case q_kgp => k_is)
    (case q_adp => k_is)
    (case q_ldp => k_is)
    (case q_cdp => k_is)
    (case q_kdp => k_is)
    (case q_acg => k_is)
    (case q_lcg => k_is)
    (case q_ccg => k_is)
    (case q_kcg => k_is)
    (case q_aai => k_is)
    (case q_lai => k_is)
    (case q_cai => k_is)
    (case q_kai => k_is)
    (case q_abo => k_is)
    (case q_lbo => k_is)
    (case q_cbo => k_is)
    (case q_kbo => k_is)
    (case q_awt => k_is)
    (case q_lwt => k_is)
    (case q_cwt => k_is)
    (case q_kwt => k_is)
    (case q_aiw => k_is)
    (case q_liw => k_is)
    (case q_ciw => k_is)
    (case q_kiw => k_is)
    (case q_arv => k_is)
    (case q_lrv => k_is)
    (case q_crv => k_is)
    (case q_krv => k_is)
    (case q_aod => k_is)
    (case q_lod => k_is)
    (case q_cod => k_is)
    (case q_kod => k_is)
    (case q_acb => k_is)
    (case q_lcb => k_is)
    (case q_ccb => k_is)
    (case q_kcb => k_is)
    (case q_alf => k_is)
    (case q_llf => k_is)
    (case q_clf => k_is)
    (case q_klf => k_is)
    (case q_ash => k_is)
    (case q_lsh => k_is)
    (case q_csh => k_is)
    (case q_ksh => k_is)
    (case q_aen => k_is)
    (case q_len => k_is)
    (case q_cen => k_is)
    (case q_ken => k_is)
    (case q_a31 => k_is)
    (case q_l31 => k_is)
    (case q_c31 => k_is)
    (case q_k31 => k_is)
    (case q_a32 => k_is)
    (case q_l32 => k_is)
    (case q_c32 => k_is)
    (case q_k32 => k_is)
    (case q_a33 => k_is)
    (case q_l33 => k_is)
    (case q_c33 => k_is)
    (case q_k33 => k_is)
    (case q_a34 => k_is)
    (case q_l34 => k_is)
    (case q_c34 => k_is)
    (case q_k34 => k_is)
    (case q_a35 => k_is)
    (case q_l35 => k_is)
    (case q_c35 => k_is)
    (case q_k35 => k_is)
    (case q_a36 => k_is)
    (case q_l36 => k_is)
    (case q_c36 => k_is)
    (case q_k36 => k_is)
    (case q_a37 => k_is)
    (case q_l37 => k_is)
    (case q_c37 => k_is)
    (case q_k37 => k_is)
    (case q_a38 => k_is)
    (case q_l38 => k_is)
    (case q_c38 => k_is)
    (case q_k38 => k_is)
    (case q_a39 => k_is)
    (case q_l39 => k_is)
    (case q_c39 => k_is)
    (case q_k39 => k_is)
    (case q_a40 => k_is)
    (case q_l40 => k_is)
    (case q_c40 => k_is)
    (case q_k40 => k_is)
    (case q_a43 => k_is)
    (case q_l43 => k_is)
    (case q_c43 => k_is)
    (case q_k43 => k_is)
    (case q_aup => k_is)
    (case q_lup => k_is)
    (case q_cup => k_is)
    (case q_kup => k_is)
    (case q_amd => k_is)
    (case q_lmd => k_is)
    (case q_cmd => k_is)
    (case q_kmd => k_is)
    (case q_ach => k_is)
    (case q_lch => k_is)
    (case q_cch => k_is)
    (case q_kch => k_is)
    (case q_atb => k_is)
    (case q_ltb => k_is)
    (case q_ctb => k_is)
    (case q_ktb => k_is)
    (case q_abb => k_is)
    (case q_lbb => k_is)
    (case q_cbb => k_is)
    (case q_kbb => k_is)
    (case q_awo => k_is)
    (case q_lwo => k_is)
    (case q_cwo => k_is)
    (case q_kwo => k_is)
    (case q_aas => k_is)
    (case q_las => k_is)
    (case q_cas => k_is)
    (case q_kas => k_is)
    (case q_asw => k_is)
    (case q_lsw => k_is)
    (case q_csw => k_is)
    (case q_ksw => k_is)
    (case q_a47 => k_is)
    (case q_l47 => k_is)
    (case q_c47 => k_is)
    (case q_k47 => k_is)
    (case q_z_len => k_is)
    (case q_z_abs => k_is)
    (case q_z_max => k_is)
    (case q_z_min => k_is)
    (case q_z_divmod => k_is)
    (case q_z_list => k_is)
    (case q_z_tuple => k_is)
    (case q_z_range => k_is)
    (case q_z_isinstance => k_is)
    (case q_z_bool => k_is)
    (case q_z_int => k_is)
    (case q_z_sorted => k_is)
    (case q_z_set => k_is)
    (case q_z_all => k_is)
    (case q_z_enumerate => k_is)
    (case q_z_repr => k_is)
    (case q_z_sum => k_is)
    (case q_z_reversed => k_is)
