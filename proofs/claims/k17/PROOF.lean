import PyProof.Rows.All
import Wide.All
import OpenK.AllK
import Wide.FinOn
import HandS.ForMost
import HandS.ForExc
import HandS.ExcInit
import HandS.ExcIs
import HandS.ExcField
import HandS.IsInst
import HandS.Defaults
import HandS.SortInts
import HandS.SetFor
import HandS.More
import HandS.Conv
import HandS.WideBits
import HandS.TupAny
import HandS.SuiteRaise
import HandS.TryMany
import HandS.Strs
import KE.GoesMore
import HandS.Walk
import HandS.MakeKw
import HandS.MakeKwOnly
import HandS.SortKw
import KE.KExcIs
import HandS.CallSlots
import KE.KExcInit
import PyProof.ReprReads
import HandS.OwnEq
import PyProof.InstNe
import HandS.FStr
import KE.KCallOwn
import PyProof.ReprRoads
import HandS.Style
import HandS.Lambda
import HandS.EndTab
import PySem.Challenge.RW_paritycells_k17_three_simple_flips
set_option Elab.async false
set_option linter.all false
set_option maxRecDepth 100000
set_option maxHeartbeats 4000000
namespace Par
open PySem PySem.Spec PyProof.Rows L2

/-! A def's promise where nothing is being shown by repr around it: the guards are known to be none. -/
structure FnG (P : Program) (w : World) (K : PySem.W.Frag) (mg : Str → Option Value) (base : Heap) (CX : CXT) (k : Nat)
    (f : Addr) (fd : FuncData) (ps : List Str) (sp : Sp) : Prop where
  arity : ∀ vs H Q E, sp vs H Q E → vs.length = ps.length
  go : ∀ (A : Around) (outer : List Env) (s : Shared) (H : Hp) (args : Args) (us : List Value) (vs : List V) (Q : VK) (E : XK),
    A.guards = some [] → Room k A → Env0 P w K mg base A outer s H → BindsTo s fd args (ps.zip us) → Vals vs us →
    sp vs H Q E → codeAny (model P w) A (.call (.ref f) args) (CR CX outer P w H s Q E) s

section
variable {P : Program} {w : World} {K : PySem.W.Frag} {mg : Str → Option Value} {base : Heap}

theorem fnG_of {k : Nat} {x qual : Str} {st : Stmt} {f : Addr} {fd : FuncData} {N ps : List Str} {sp : Sp}
    (F : Fun K x qual st f fd) (S : FnScope N ps (defScope st))
    (arity : ∀ vs H Q E, sp vs H Q E → vs.length = ps.length)
    (body : ∀ (cdv : Value) (A : Around) (outer : List Env) (s : Shared) (H : Hp) (vs : List V) (Q : VK) (E : XK),
      A.guards = some [] → Room k (A.deeper (envOfC qual (defScope st) s.heap.objs.size f cdv)) → sp vs H Q E →
      ∃ t, PSs (cxOf CX0 P w K mg base N qual (defScope st) f cdv A outer s H E).nox (defBody st) t ∧
        t { nx := fun _ H' => Q .non H', rt := Q } (start N vs) H) :
    FnG P w K mg base CX0 (k + 1) f fd ps sp := by
  obtain ⟨oc, od, kV, doc, pm, an, cdv, ct, osl, efd, lk, hcd⟩ := F.ex
  subst efd
  constructor
  · exact arity
  intro A outer s H args us vs Q E gs room e0 bound rel hsp
  have lens := arity _ _ _ _ hsp
  have kin : K.In s.heap := e0.mod.kin.keeps (fun b o z => (e0.bs b o z).1)
  have nolim : s.heap.NoLimit := e0.mod.nolimit.keeps (fun b o z => (e0.bs b o z).1)
  have kinds : ∀ y ∈ ps.zip us, (defScope st).names.lookup y.1 = some .local ∨ ((defScope st).names.lookup y.1 = some .cell ∧
      ((cellsFrom (s.heap.objs.size + 1) (defScope st).names []).lookup y.1).isSome = true) := by
    rintro ⟨n, v⟩ hy
    cases S.par n (List.of_mem_zip hy).1 with
    | inl q => exact Or.inl q
    | inr q => exact Or.inr ⟨q, PySem.W.cellsFrom_some _ _ _ (Or.inl q)⟩
  refine codeAny_call_function room.depth (kin _ _ lk) rfl S.co S.gen rfl (PySem.W.codeRec_of kin hcd) (bound _ _ _ _ ?_)
  refine wpAny_newFunctionEnv_cells S.kind kinds ?_
  intro env he s1 x1
  subst he
  refine ⟨nolim.keeps x1.toInCall.keep, codeAny_func ?_⟩
  obtain ⟨t, ht, hq⟩ := body cdv A outer s H vs Q E gs (room.deeper _) hsp
  have I := inv_start (CX := CX0) (E := E) (w := w) S room.hd e0 lens rel x1
  refine wpAny_mono (ht.nox.run [] s1 (start N vs) H _ I hq) ?_ (fun e s' hs => hs)
  intro fl s' hs
  cases fl with
  | ret u =>
    obtain ⟨v, σ1, H1, J, rv, q⟩ := hs
    exact ⟨v, H1, J.os, J.bare, J.base, J.hok, rv, q⟩
  | next =>
    obtain ⟨σ1, H1, J, q⟩ := hs
    exact ⟨V.non, H1, J.os, J.bare, J.base, J.hok, rfl, q⟩
  | brk => exact (let ⟨_, _, _, q⟩ := hs; False.elim q)
  | cont => exact (let ⟨_, _, _, q⟩ := hs; False.elim q)
end

section
variable {X : Cx} {CX : CXT} {k : Nat} {f : Addr} {fd : FuncData} {ps : List Str} {sp : Sp} {x : Str} {p pos : Pos} {e : Expr} {es : List Expr} {t : TA} {E : XK}

/-- f(e, ..) of such a def, called where the guards are none -/
theorem pe_callG (F : FnG X.prog X.w X.K X.mg X.base CX k f fd ps sp) (gs : X.A.guards = some []) (hr : Room k X.A) (hg : Gl X x)
    (hm : X.mg x = some (.ref f)) (hk : PySem.W.keepIn X.K (.ref f) = true) (hb : Binds X.K fd ps []) (hx : Passes CX X E) (ha : PA X (e :: es) t)
    (hdb : (x == ("__debug__" : Str)) = false := by decide)
    (he : starEach (e :: es) X.env = (false, eval e X.env) :: starEach es X.env := by rfl)
    (hpl : (backTo pos (starEach es X.env)).any (·.1) = false := by rfl) :
    PE X (.Call (.Name x p) (e :: es) [] pos) (tCall sp [] E t) := by
  constructor
  intro pins s σ H Q I h
  refine wpAny_Call_Name_kw (ld_glob I hg hm ?_ hdb)
  refine PySem.W.callWith_K (h₀ := X.base) I.ok.mod.kin hk (thn (ha.run pos pins s σ H _ I h) ?_) he hpl
  rintro us s1 ⟨vs, H1, I1, r, q⟩
  refine ⟨I1.kIn, ?_⟩
  rw [List.append_nil] at q
  have hl : (us ++ []).length = ps.length := by
    rw [List.append_nil, ← r.length]
    exact F.arity _ _ _ _ q
  have hbi := hb s1 us I1.kIn hl
  rw [List.append_nil] at hbi
  refine wpAny_call (codeAny_mono (F.go X.A X.stack s1 H1 ⟨us, []⟩ us vs Q E gs hr I1.env0 hbi r q) ?_)
  intro res s' hq
  cases res with
  | error er => exact hx pins σ H1 s1 er s' I1 hq
  | ok fl =>
    cases fl with
    | ret u => exact I1.after hq
    | next => exact False.elim hq
    | brk => exact False.elim hq
    | cont => exact False.elim hq
end

/-- the law's end over such a promise -/
theorem law_callG {P : Program} {w : World} {K : PySem.W.Frag} {mg mb : Str → Option Value} {k : Nat} {fa a : Addr} {fd : FuncData} {x : Str} {sp : Sp}
    {s1 : Shared} {vs : List Value} {ns : List Int}
    (KX : K.In s1.heap) (hns : s1.heap.Ns mainGlobals mg) (hb : s1.heap.Ns builtinsNs mb)
    (hbb : ∀ x : Str, x ≠ "__name__" → mb x = bootBuiltins x) (hlim : s1.heap.NoLimit) (hg : s1.gens = #[])
    (ha : s1.heap.get? a = some { cls := .type "list", data := .seq vs.toArray }) (hi : IntsAre vs ns) (hl : ns.length ≤ sizeLine) (hr : Room k callerA)
    (F : ∀ base : Heap, K.In base → base.Ns mainGlobals mg → FnG P w K mg base CX0 k fa fd [x] sp)
    (hbind : ∀ (s : Shared) (u : Value), BindsTo s fd ⟨[u], []⟩ [(x, u)])
    (hsp : ∀ H : Hp, Only H → SqL K H a (ns.map V.int) → sp [.ref a] H (fun v _ => v = .bl true) fun _ _ _ => False) :
    codeAny (model P w) callerA (.call (.ref fa) ⟨[.ref a], []⟩)
      (fun r s' => r = .ok (.ret (.bool true)) ∧ OldK s1.heap s'.heap ∧ s'.os = s1.os ∧ AllBare s'.gens) s1 := by
  have rv := vals_ints hi
  have lenV := hi.length
  have core : ∀ H : Hp, Only H → SqL K H a (ns.map V.int) → HOk P w H s1.heap → (∀ b, H b ≠ none → b = a) →
      (H a ≠ none → K.lookup a = none) → codeAny (model P w) callerA (.call (.ref fa) ⟨[.ref a], []⟩)
      (fun r s' => r = .ok (.ret (.bool true)) ∧ OldK s1.heap s'.heap ∧ s'.os = s1.os ∧ AllBare s'.gens) s1 := by
    intro H only sq ok only_a out_a
    have un_dict : ∀ {b : Addr} {o : Obj} {es : Array DictEntry} {ep : Nat}, s1.heap.get? b = some o → o.data = .dict es ep → H b = none := by
      intro b o es ep e d
      cases q : H b with
      | none => rfl
      | some u =>
        have e' : b = a := only_a b (by rw [q]; simp)
        rw [e', ha] at e
        cases e
        exact nomatch d
    have ns_of : ∀ {b : Addr} {m : Str → Option Value}, s1.heap.Ns b m → (hidT s1.heap H).Ns b m := by
      rintro b m ⟨o, es, ep, e, d, r⟩
      exact ⟨o, es, ep, hidT_get e (un_dict e d), d, r⟩
    have kin : K.In (hidT s1.heap H) := by
      intro b o e
      refine hidT_get (KX b o e) ?_
      cases q : H b with
      | none => rfl
      | some u =>
        have e' : b = a := only_a b (by rw [q]; simp)
        rw [e'] at q e
        rw [out_a (by rw [q]; simp)] at e
        cases e
    have md : Mod K mg (hidT s1.heap H) := by
      obtain ⟨mc, h1, h2⟩ := hlim
      exact ⟨kin, ns_of hns, ⟨mb, ns_of hb, hbb⟩, ⟨mc, ns_of h1, h2⟩⟩
    have e0 : Env0 P w K mg (hidT s1.heap H) callerA [] s1 H := by
      refine ⟨rfl, md, fun b o e => of_hidT e, Nat.le_of_eq (hidT_size _ _), trivial, ?_, ok, .of_eq hg⟩
      intro b z
      exact absurd (show b ∈ ([] : List Addr) from z) (by simp)
    refine codeAny_mono ((F _ kin (ns_of hns)).go callerA [] s1 H ⟨[.ref a], []⟩ [.ref a] [.ref a] _ _ rfl hr e0
      (hbind s1 (.ref a)) (.cons rfl .nil) (hsp H only sq)) ?_
    intro r s' h
    cases r with
    | error e => exact False.elim h
    | ok fl =>
      cases fl with
      | next => exact False.elim h
      | brk => exact False.elim h
      | cont => exact False.elim h
      | ret u =>
        obtain ⟨v, H1, os, bare, un, ok1, rel, q⟩ := h
        have q' : v = .bl true := q
        subst q'
        obtain rfl : u = Value.bool true := rel
        refine ⟨rfl, OldK.of_keep ?_, os, bare⟩
        intro b o e
        cases q : H b with
        | none => exact un.keep b o e q (fun z => absurd (show b ∈ ([] : List Addr) from z) (by simp)) (by simp)
        | some u =>
          rcases only b with z | ⟨ob, xs, z⟩
          · rw [q] at z
            cases z
          · have z2 := un.frzs b ob _ z
            have e1 := (ok b _ z).1
            have e2 := (ok1 b _ z2).1
            rw [e] at e1
            cases e1
            exact e2
  cases hk : K.lookup a with
  | some o =>
    have e := KX a o hk
    rw [ha] at e
    cases e
    refine core (fun _ => none) (fun _ => .inl rfl) (.inr ⟨_, vs.toArray, _, hk, rfl, rfl, rfl, ?_, by simpa using rv⟩) ?_ (fun b z => absurd rfl z) (fun z => absurd rfl z)
    · rw [List.size_toArray, lenV]
      exact hl
    · intro b u z
      exact nomatch (show (none : Option HO) = some u from z)
  | none =>
    refine core (fun b => if b = a then some (.frz { cls := .type "list", data := .seq vs.toArray } (.lst (ns.map V.int))) else none) ?_ (.inl (.inr ⟨_, if_pos rfl⟩)) ?_ ?_ (fun _ => hk)
    · intro b
      by_cases hb : b = a
      · exact .inr ⟨_, _, if_pos hb⟩
      · exact .inl (if_neg hb)
    · intro b u z
      by_cases hb : b = a
      · have z1 := (if_pos hb).symm.trans z
        cases z1
        subst hb
        exact ⟨ha, by rw [List.length_map]; exact hl, vs, _, rv, ha⟩
      · have z1 := (if_neg hb).symm.trans z
        cases z1
    · intro b z
      by_cases hb : b = a
      · exact hb
      · exact absurd (if_neg hb) z

theorem walkG {l : PySem.W.OpenLaw} {n k : Nat} {q : Program} {loose : List Str} {XP : (Str → Option Value) → Heap → Prop} {YP : World → Heap → Prop}
    {d : DefRec} {K : Params → PySem.W.Frag} {sp : PySem.W.Frag → Sp} {x : Str}
    (hn : l.most = some n) (hn2 : n ≤ sizeLine) (hdf : d.params.defaults = []) (hr : Room k callerA)
    (hY : ∀ (w : World) (h : Heap), YP w h → (K w.params).In h)
    (F : ∀ (w : World) (mg : Str → Option Value) (fa : Addr) (h : Heap), (K w.params).In h → h.Ns mainGlobals mg → mg d.name = some (.ref fa) →
      ∃ fd : FuncData, (∀ (s : Shared) (u : Value), BindsTo s fd ⟨[u], []⟩ [(x, u)]) ∧
        ∀ base : Heap, (K w.params).In base → base.Ns mainGlobals mg → FnG l.prog w (K w.params) mg base CX0 k fa fd [x] (sp (K w.params)))
    (hsp : ∀ (K : PySem.W.Frag) (H : Hp) (a : Addr) (ns : List Int), ns.length ≤ n → Only H → SqL K H a (ns.map V.int) →
      sp K [.ref a] H (fun v _ => v = .bl true) fun _ _ _ => False) :
    PySem.W.WalkO q loose XP YP l.row.toRowW d [] (fun f vs => PySem.call f vs) := by
  refine Att.attach_call hn hdf ?_
  intro w s0 s1 mg mb fa o pm cd doc a vs ns G Y ho hd hcd hmg hobj hints hlen hg
  have KX := hY w _ Y
  obtain ⟨fd, hb, hF⟩ := F w mg fa _ KX G.T.g hmg
  exact law_callG KX G.T.g G.T.b G.T.builtins G.T.nolimit hg hobj hints (Nat.le_trans hlen hn2) hr hF hb
    (fun H hO hS => hsp _ H a ns hlen hO hS)
end Par
namespace Par
open PySem PySem.Spec PyProof.Rows L2

/-! ### how many distinct items there are -/
theorem nodup_le : ∀ {L M : List Int}, L.Nodup → (∀ k ∈ L, k ∈ M) → L.length ≤ M.length
  | [], M, _, _ => Nat.zero_le _
  | a :: L, M, hn, hs => by
    have ha : a ∈ M := hs a (List.mem_cons_self ..)
    have h1 := nodup_le (L := L) (M := M.erase a) (List.nodup_cons.mp hn).2 (fun k hk => by
      have hka : k ≠ a := fun e => (List.nodup_cons.mp hn).1 (e ▸ hk)
      exact (List.mem_erase_of_ne hka).mpr (hs k (List.mem_cons_of_mem _ hk)))
    have h2 := List.length_erase_of_mem ha
    have h3 : 0 < M.length := List.length_pos_of_mem ha
    show L.length + 1 ≤ M.length
    omega
theorem nodup_lt : ∀ {M L : List Int}, L.Nodup → (∀ k ∈ L, k ∈ M) → ¬ M.Nodup → L.length < M.length
  | [], _, _, _, h => absurd List.nodup_nil h
  | a :: M, L, hn, hs, hM => by
    by_cases ha : a ∈ M
    · have h := nodup_le (L := L) (M := M) hn (fun k hk => by
        rcases List.mem_cons.mp (hs k hk) with e | e
        · exact e ▸ ha
        · exact e)
      show L.length < M.length + 1
      omega
    · have hM' : ¬ M.Nodup := fun z => hM (List.nodup_cons.mpr ⟨ha, z⟩)
      have h := nodup_lt (M := M) (L := L.erase a) (hn.erase a) (fun k hk => by
        have hk2 := (hn.mem_erase_iff).mp hk
        rcases List.mem_cons.mp (hs k hk2.2) with e | e
        · exact absurd e hk2.1
        · exact e) hM'
      have h2 : L.length ≤ (L.erase a).length + 1 := by
        by_cases hL : a ∈ L
        · have := List.length_erase_of_mem hL
          omega
        · rw [List.erase_of_not_mem hL]
          omega
      show L.length < M.length + 1
      omega
theorem distinct_iff {L M : List Int} (hn : L.Nodup) (hs : ∀ k, k ∈ L ↔ k ∈ M) : L.length ≤ M.length ∧ (L.length = M.length ↔ M.Nodup) := by
  have h1 := nodup_le hn (fun k hk => (hs k).mp hk)
  refine ⟨h1, fun e => ?_, fun e => ?_⟩
  · by_cases h : M.Nodup
    · exact h
    · have := nodup_lt hn (fun k hk => (hs k).mp hk) h
      omega
  · have := nodup_le e (fun k hk => (hs k).mpr hk)
    omega
theorem firstMet_nodup2 (val : Nat → Int) : ∀ i, (firstMet val i).Nodup
  | 0 => List.nodup_nil
  | i + 1 => by
    rw [firstMet_succ]
    have ih := firstMet_nodup2 val i
    unfold step_dedup
    split
    · exact ih
    · rename_i h
      refine List.nodup_append.mpr ⟨ih, by simp, ?_⟩
      intro a ha b hb e
      have hb' : b = val i := by simpa using hb
      apply h
      rw [List.any_eq_true]
      exact ⟨a, ha, by simp [e, hb']⟩
theorem firstMet_mem (ns : List Int) (k : Int) : k ∈ firstMet (fun i => ns.getD i 0) ns.length ↔ k ∈ ns := by
  have h := firstMet_any (fun i => ns.getD i 0) ns.length k
  have e : (List.range ns.length).map (fun i => ns.getD i 0) = ns := by
    refine List.ext_getElem (by simp) (fun i h1 h2 => ?_)
    simp [List.getD_eq_getElem?_getD, List.getElem?_eq_getElem h2]
  rw [e] at h
  constructor
  · intro z
    have y : (firstMet (fun i => ns.getD i 0) ns.length).any (· == k) = true := List.any_eq_true.mpr ⟨k, z, by simp⟩
    rw [h] at y
    obtain ⟨x, hx, ex⟩ := List.any_eq_true.mp y
    have : x = k := by simpa using ex
    exact this ▸ hx
  · intro z
    have y : ns.any (· == k) = true := List.any_eq_true.mpr ⟨k, z, by simp⟩
    rw [← h] at y
    obtain ⟨x, hx, ex⟩ := List.any_eq_true.mp y
    have : x = k := by simpa using ex
    exact this ▸ hx

/-- len(set(x)), x a list or tuple of ints -/
def tLenSetQ (K : PySem.W.Frag) (ta : TE) : TE := fun σ H Q => ta σ H fun x H1 => ∃ (l : Addr) (ns : List Int), x = .ref l ∧
  (SqL K H1 l (ns.map V.int) ∨ SqT K H1 l (ns.map V.int)) ∧ ns.length ≤ 4000 ∧
  ∀ c : Nat, c ≤ ns.length → (c = ns.length ↔ ns.Nodup) → Q (.int (c : Nat)) H1
theorem numbers_of : ∀ {ns : List Int} {us : List Value}, Vals (ns.map V.int) us → IntsAre us ns
  | [], _, h => by
    cases h
    exact .nil
  | n :: ns, _, h => by
    cases h with
    | cons r t =>
      obtain ⟨tk, rfl⟩ := r
      exact .cons n tk (numbers_of t)
theorem pe_lenSetQ {X : Cx} {a : Expr} {ta : TE} {p p2 q pos : Pos} (hg : Gl X "len") (hm : X.mg "len" = none) (hg2 : Gl X "set") (hm2 : X.mg "set" = none) (ha : PE X a ta)
    (hc : X.calm = true := by rfl) (na : starEach [a] X.env = (false, eval a X.env) :: starEach [] X.env := by rfl) :
    PE X (.Call (.Name "len" p) [.Call (.Name "set" p2) [a] [] q] [] pos) (tLenSetQ X.K ta) := by
  constructor
  intro pins s σ H Q I h
  refine Call_ (ld_blt I hg hm boot_len ?_)
  refine PyProof.Rows.callWith_builtin1 (PyProof.Rows.args_cons (Call_ (ld_blt I hg2 hm2 boot_set ?_)) rfl) rfl rfl
  refine PyProof.Rows.callWith_type1 (PyProof.Rows.args_cons (thn (ha.run pins s σ H _ I h) ?_) na) na rfl
  rintro v s1 ⟨x, H1, I1, r1, l, ns, rfl, hq, hl, q1⟩
  refine PyProof.Rows.args_nil ?_
  cases r1
  rcases hq with hq | hq
  · obtain ⟨its, r, plain, hz⟩ := I1.list hq
    have hlen : its.toArray.size = ns.length := by
      rw [List.size_toArray, ← r.length]
      exact List.length_map ..
    refine call_set_list (I1.ok.hd hc) plain.isList (by simpa using numbers_of r) (by rw [hlen]; unfold scanBound; omega) ?_
    intro h' tk hS hk
    refine PyProof.Rows.args_nil ?_
    rw [hlen] at hS
    obtain ⟨o, es, ep, t, ho, hex, hd, _, _, _, hf, hn⟩ := hS
    have I2 : L2.Inv X pins σ H1 { s1 with heap := h', toks := tk } := I1.kept fun b o e => hk b o (Heap.lt_size e) e
    obtain ⟨d1, d2⟩ := distinct_iff (firstMet_nodup2 (fun i => ns.getD i 0) ns.length) (fun k => firstMet_mem ns k)
    exact call_len_set ho hex hd hf (by rw [hn]; unfold sizeLine at *; omega) ⟨.int _, H1, I2.tok _, ⟨_, by rw [hn]⟩, q1 _ d1 d2⟩
  · obtain ⟨its, r, tup, hz⟩ := I1.tuple hq
    have hlen : its.toArray.size = ns.length := by
      rw [List.size_toArray, ← r.length]
      exact List.length_map ..
    refine L2.call_set_tupI ns (I1.ok.hd hc) tup (by simpa using numbers_of r) (by unfold scanBound; omega) ?_
    intro h' tk c hS hcn hk
    refine PyProof.Rows.args_nil ?_
    obtain ⟨o, es, ep, t, ho, hex, hd, _, nd, mem, _, hf, hn, _, _⟩ := hS
    have I2 : L2.Inv X pins σ H1 { s1 with heap := h', toks := tk } := I1.kept hk
    have hmem : ∀ k, k ∈ es.toList.map keyOf ↔ k ∈ ns := fun k => (mem k).symm.trans (by simp)
    obtain ⟨d1, d2⟩ := distinct_iff nd hmem
    have hc2 : (es.toList.map keyOf).length = c := by rw [List.length_map, Array.length_toList, hn]
    rw [hc2] at d1 d2
    exact call_len_set ho hex hd hf (by rw [hn]; omega) ⟨.int (c : Nat), H1, I2.tok _, ⟨_, by rw [hn]⟩, q1 c d1 d2⟩
end Par
namespace Par
open PySem PySem.Spec PyProof.Rows L2

/-! ### a loop that changes nothing -/
section
variable {M : Model} {A : Around} {E : Value → Shared → Prop} {s : Shared}
theorem wp_forSame {α β : Type} {b : β} {f : α → β → Sem (ForInStep β)} {Q : β → Shared → Prop} : ∀ (l : List α),
    (∀ a ∈ l, ∀ Q' : ForInStep β → Shared → Prop, Q' (.yield b) s → wpAny M A (f a b) Q' E s) → Q b s → wpAny M A (forIn l b f) Q E s
  | [], _, h => by
    rw [List.forIn_nil]
    exact wpAny_pure h
  | a :: l, hf, h => by
    rw [List.forIn_cons]
    refine wpAny_bind (hf a (List.mem_cons_self ..) _ ?_)
    exact wp_forSame l (fun x hx => hf x (List.mem_cons_of_mem _ hx)) h
end
section
variable {P : Program} {w : World} {A : Around} {E : Value → Shared → Prop} {s : Shared} {a f : Addr} {S Sf : Int → Bool} {n nf : Nat}
theorem quiet_sets {sets : List Addr} {Q : Bool → Shared → Prop} (hs : ∀ b ∈ sets, ∃ S n, SetR w s.heap b S n) (h : Q true s) :
    wpAny (model P w) A (setsQuiet sets) Q E s := by
  unfold setsQuiet
  refine wpAny_bind (wp_forSame sets (fun b hb Q' q => ?_) (wpAny_pure h))
  obtain ⟨S, n, o, es, ep, t, ho, hx, hd, g, _, _, _, hf, _⟩ := hs b hb
  refine wpAny_bind (wpAny_setEntries_of ho hd hf ?_)
  rw [← Array.forIn_toList]
  refine wpAny_bind (wp_forSame es.toList (fun e he Q2 q2 => ?_) (wpAny_pure q))
  obtain ⟨k, tk, h1, _⟩ := g e he
  obtain ⟨hh, x⟩ := e
  subst h1
  exact wpAny_pure q2
/-- what a walk that nobody sees gives -/
def Given (S : Int → Bool) (n : Nat) (l : Array (Int × Value)) : Prop :=
  (∀ e ∈ l.toList, GoodE e) ∧ (l.toList.map keyOf).Nodup ∧ (∀ k, S k = true ↔ k ∈ l.toList.map keyOf) ∧ l.size = n
theorem Given.perm {l l' : Array (Int × Value)} (g : Given S n l) (p : l'.toList.Perm l.toList) : Given S n l' :=
  ⟨fun e he => g.1 e (p.mem_iff.mp he), (p.map keyOf).nodup_iff.mpr g.2.1, fun k => (g.2.2.1 k).trans (p.map keyOf).mem_iff.symm, by
    rw [← Array.length_toList, p.length_eq, Array.length_toList]
    exact g.2.2.2⟩
theorem walk_unseen {others : List Addr} {Q : Array (Int × Value) → Shared → Prop} (R : SetR w s.heap a S n) (hs : ∀ b ∈ others, ∃ S n, SetR w s.heap b S n) (Rf : SetR w s.heap f Sf nf)
    (hQ : ∀ l h', Heap.SameBut f s.heap h' → SetR w h' f Sf nf → Given S n l → Q l { s with heap := h' }) :
    wpAny (model P w) A (setWalkUnseen a others (some f)) Q E s := by
  obtain ⟨o, es, ep, t, ho, hx, hd, g, nd, hm, hb, hf, hn, hr, hl⟩ := id R
  have gv : Given S n es := ⟨g, nd, hm, hn⟩
  have same : ∀ l, Given S n l → Q l s := fun l gl => hQ l s.heap (Heap.SameBut.refl f s.heap) Rf gl
  unfold setWalkUnseen
  refine wpAny_bind (wpAny_setState_of ho hd hf ?_)
  dsimp only
  refine wpAny_bind (wpAny_byText ?_)
  cases hbt : w.params.followText "set-order" with
  | true =>
    refine wp_if_pos (by simp) ?_
    unfold setWalk
    refine wpAny_bind (wpAny_setState_of ho hd hf ?_)
    dsimp only
    refine wpAny_bind (wpAny_byText ?_)
    refine wp_if_pos hbt ?_
    exact wpAny_bind (wpAny_askSetting (wpAny_pure (same _ (gv.perm (pick_perm _ es)))))
  | false =>
    have hled : t.led = true := hl.resolve_left (by rw [hbt]; exact Bool.false_ne_true)
    by_cases hc : (false || (t.led && t.plain) || decide (es.size ≤ 1)) = true
    · refine wp_if_pos hc ?_
      unfold setWalk
      refine wpAny_bind (wpAny_setState_of ho hd hf ?_)
      dsimp only
      refine wpAny_bind (wpAny_byText ?_)
      refine wp_if_neg (by rw [hbt]; exact Bool.false_ne_true) ?_
      try refine wpAny_bind (wpAny_pure ?_)
      refine wp_if_neg ?_ ?_
      · show ¬ ((!t.plain && decide (es.size > 1)) = true)
        intro z
        rw [Bool.and_eq_true, decide_eq_true_eq] at z
        rw [hled] at hc
        have hp : t.plain = false := by simpa using z.1
        rw [hp] at hc
        have : es.size ≤ 1 := by simpa using hc
        omega
      · try refine wpAny_bind (wpAny_pure ?_)
        refine wpAny_bind (wpAny_of_eq (a := ()) ?_ ?_)
        · show (if (!t.led && decide (es.size > 1)) = true then unsupported "set:maker-not-led" else pure ()) = pure ()
          rw [hled] <;> rfl
        · exact wpAny_pure (same es gv)
    · refine wp_if_neg hc ?_
      try refine wpAny_bind (wpAny_pure ?_)
      refine wpAny_bind (quiet_sets (fun b hb => ?_) ?_)
      · rcases List.mem_cons.mp hb with z | z
        · exact z ▸ ⟨S, n, R⟩
        · exact hs b z
      refine wp_if_neg (by simp) ?_
      try refine wpAny_bind (wpAny_pure ?_)
      refine wpAny_bind (wpAny_rule ?_)
      obtain ⟨o2, es2, ep2, t2, ho2, hx2, hd2, g2, nd2, hm2, hb2, hf2, hn2, hr2, hl2⟩ := id Rf
      refine wpAny_bind (wpAny_setState_of ho2 hd2 hf2 ?_)
      dsimp only
      split
      · refine wpAny_bind (wpAny_storeSet_of ho2 hd2 ?_ (fits_of_scanBound hb2))
        have ho3 := store_at (es' := es2) (t' := { t2 with led := t2.led && t.led, plain := t2.plain && t.plain }) ho2 hd2
        refine wpAny_pure (hQ es _ (Heap.SameBut.update s.heap f _) ?_ gv)
        exact ⟨_, es2, _, _, ho3, hx2, rfl, g2, nd2, hm2, hb2, hf2, hn2, hr2, hl2.imp id fun z => by show (t2.led && t.led) = true; rw [z, hled]; rfl⟩
      · exact wpAny_pure (same es gv)
end
end Par
namespace Par
open PySem PySem.Spec PyProof.Rows L2
section
variable {P : Program} {w : World} {A : Around} {E : Value → Shared → Prop} {s : Shared} {a : Addr} {S : Int → Bool} {n : Nat}
theorem eraseAt_list {α : Type} (xs : Array α) (i : Nat) : (SetTable.eraseAt xs i).toList = xs.toList.eraseIdx i := by
  unfold SetTable.eraseAt
  rw [Array.toList_append, Array.toList_extract, Array.toList_extract, List.eraseIdx_eq_take_drop_succ]
  simp [List.extract_eq_drop_take]
  rw [List.take_of_length_le (by simp)]
/-- where the member k lies -/
theorem find_at {k : Int} {tk : Tok} {o : Obj} {es : Array (Int × Value)} {ep : Nat} {t : SetTable} {Q : Option Nat → Shared → Prop} (ho : s.heap.get? a = some o) (hd : o.data = .set es ep t) (hf : t.fits es.size = true)
    (g : ∀ e ∈ es.toList, GoodE e) (hb : es.size < scanBound) (h : Q (es.toList.findIdx? fun e => (intKind P w).is k e.2) s) :
    wpAny (model P w) A (setFind a (.int k tk) ((intKind P w).hash k)) Q E s := by
  have hel : ElemsOf (intKind P w) es.toList := good_elems g
  unfold setFind setFindIn
  refine wpAny_bind (wpAny_setState_of ho hd hf ?_)
  dsimp only
  rw [byScan_of (x := .int k tk) rfl hb hel]
  simp only [↓reduceIte]
  refine wpAny_bind (wpAny_rule ?_)
  refine wpAny_bind (wpAny_setScan_of (intKind_is P w k tk) ho hd hf hel ?_)
  cases hr : List.findIdx? (fun e => (intKind P w).is k e.2) es.toList with
  | none =>
    dsimp only
    rw [hr] at h
    exact wpAny_pure h
  | some j =>
    dsimp only
    rw [hr] at h
    rw [Nat.zero_add]
    exact wpAny_pure h
theorem discard_hashed {k : Int} {tk : Tok} {Q : Bool → Shared → Prop} (R : SetR w s.heap a S n)
    (hQ : ∀ h' m, m ≤ n → Heap.SameBut a s.heap h' → SetR w h' a (fun j => S j && !decide (j = k)) m → Q (S k) { s with heap := h' }) :
    wpAny (model P w) A (setDiscardHashed a (.int k tk) ((intKind P w).hash k)) Q E s := by
  obtain ⟨o, es, ep, t, ho, hex, hd, g, nd, hm, hb, hf, hn, hr, hl⟩ := R
  unfold setDiscardHashed
  refine wpAny_bind (find_at ho hd hf g hb ?_)
  cases hwhere : List.findIdx? (fun e => (intKind P w).is k e.2) es.toList with
  | none =>
    dsimp only
    have hnot : k ∉ es.toList.map keyOf := fun z => by
      obtain ⟨e, he, q⟩ := (good_mem (P := P) (w := w) g k).1 z
      have c := List.findIdx?_eq_none_iff.mp hwhere e he
      rw [q] at c
      cases c
    have hyes : S k = false := by
      cases q : S k with
      | false => rfl
      | true => exact absurd ((hm k).1 q) hnot
    have q := hQ s.heap n (Nat.le_refl _) (Heap.SameBut.refl a s.heap) ⟨o, es, ep, t, ho, hex, hd, g, nd, fun i => by
      rw [← hm i, Bool.and_eq_true]
      constructor
      · exact fun z => z.1
      · intro z
        refine ⟨z, ?_⟩
        have : i ≠ k := fun e => by rw [e, hyes] at z; cases z
        simp [this], hb, hf, hn, hr, hl⟩
    rw [hyes] at q
    exact wpAny_pure q
  | some j =>
    dsimp only
    obtain ⟨hj, pj, _⟩ := List.findIdx?_eq_some_iff_getElem.mp hwhere
    have hyes : S k = true := (hm k).2 ((good_mem (P := P) (w := w) g k).2 ⟨es.toList[j], List.getElem_mem hj, pj⟩)
    have hkj : keyOf es.toList[j] = k := (good_is (P := P) (w := w) (g _ (List.getElem_mem hj)) k).1 pj
    have hjs : j < es.size := by rw [Array.length_toList] at hj; exact hj
    obtain ⟨f1, f2⟩ : t.place.size = es.size ∧ t.fill ≤ t.mask := by
      simpa [SetTable.fits] using hf
    have hpl : t.place[j]? = some (t.place[j]'(by omega)) := Array.getElem?_eq_getElem _
    have hdrop : t.drop j = { t with place := SetTable.eraseAt t.place j, dummies := SetTable.insertAt t.dummies (SetTable.below t.dummies (t.place[j]'(by omega))) (t.place[j]'(by omega)) } := by
      unfold SetTable.drop
      rw [hpl]
    have pe := erase_perm es.toList j _ (List.getElem?_eq_getElem hj)
    have pk : (k :: (es.toList.eraseIdx j).map keyOf).Perm (es.toList.map keyOf) := by
      have z := pe.map keyOf
      rw [List.map_cons, hkj] at z
      exact z
    have el : (SetTable.eraseAt es j).toList = es.toList.eraseIdx j := eraseAt_list es j
    have hsz : (SetTable.eraseAt es j).size + 1 = es.size := by
      rw [← Array.length_toList, el, List.length_eraseIdx_of_lt hj, Array.length_toList]
      omega
    have hb1 : (SetTable.eraseAt es j).size < scanBound := by omega
    refine wpAny_bind (wpAny_setState_of ho hd hf ?_)
    dsimp only
    refine wpAny_bind (wpAny_storeSet_of ho hd ?_ (fits_of_scanBound hb1))
    refine wpAny_bind (wpAny_point (wpAny_pure ?_))
    have ho1 := store_at (es' := SetTable.eraseAt es j) (t' := t.drop j) ho hd
    have ndk := pk.nodup_iff.mpr nd
    have q := hQ _ (SetTable.eraseAt es j).size (by omega) (Heap.SameBut.update s.heap a (Obj.putSet (SetTable.eraseAt es j) (t.drop j)))
      ⟨_, SetTable.eraseAt es j, _, t.drop j, ho1, hex, rfl, fun e he => by
        rw [el] at he
        exact g e ((List.eraseIdx_sublist _ _).subset he), by
        rw [el]
        exact (List.nodup_cons.mp ndk).2, fun i => by
        rw [el, Bool.and_eq_true, hm i, ← pk.mem_iff, List.mem_cons]
        constructor
        · rintro ⟨z | z, y⟩
          · simp [z] at y
          · exact z
        · intro z
          refine ⟨.inr z, ?_⟩
          have : i ≠ k := fun e => (List.nodup_cons.mp ndk).1 (e ▸ z)
          simp [this], hb1, by
        rw [hdrop]
        unfold SetTable.fits
        rw [Bool.and_eq_true]
        have h1 : (SetTable.eraseAt t.place j).size + 1 = t.place.size := by
          rw [← Array.length_toList, eraseAt_list, List.length_eraseIdx_of_lt (by rw [Array.length_toList]; omega), Array.length_toList]
          omega
        have h2 : (SetTable.insertAt t.dummies (SetTable.below t.dummies t.place[j]) t.place[j]).size = t.dummies.size + 1 := by
          rw [← Array.length_toList, SetTable.toList_insertAt]
          simp only [List.length_append, List.length_cons, List.length_take, List.length_drop, Array.length_toList]
          omega
        have h3 : t.place.size + t.dummies.size ≤ t.mask := f2
        refine ⟨beq_iff_eq.mpr ?_, decide_eq_true ?_⟩
        · show (SetTable.eraseAt t.place j).size = (SetTable.eraseAt es j).size
          omega
        · show (SetTable.eraseAt t.place j).size + (SetTable.insertAt t.dummies (SetTable.below t.dummies t.place[j]) t.place[j]).size ≤ t.mask
          rw [h2]
          omega, rfl, by
        rw [hdrop]
        show Ris (SetTable.eraseAt t.place j).toList
        rw [eraseAt_list]
        exact List.Pairwise.sublist (List.eraseIdx_sublist _ _) hr, hl.imp id fun z => by
        rw [hdrop]
        exact z⟩
    rw [hyes] at q
    exact q
end
end Par
namespace Par
open PySem PySem.Spec PyProof.Rows L2
/-! ### a clean table has room for few small ints -/
def way (mask : Nat) : Nat → Nat → Nat → List Nat
  | 0, _, _ => []
  | f + 1, i, p => i :: way mask f (SetTable.leap mask i p).1 (SetTable.leap mask i p).2
def marks : List Nat → Nat → Nat
  | [], b => b
  | i :: l, b => marks l (b ||| (1 <<< i))
theorem marks_mem : ∀ (l : List Nat) (b j : Nat), (marks l b).testBit j = true → b.testBit j = true ∨ j ∈ l
  | [], b, j, h => .inl h
  | i :: l, b, j, h => by
    rcases marks_mem l _ j h with z | z
    · rw [Nat.testBit_or, Bool.or_eq_true] at z
      rcases z with z | z
      · exact .inl z
      · right
        rw [Nat.testBit_shiftLeft, Bool.and_eq_true, decide_eq_true_eq] at z
        have : j = i := by
          have z2 : j - i = 0 := by
            cases hji : j - i with
            | zero => rfl
            | succ c =>
              rw [hji] at z
              have y := z.2
              simp [Nat.testBit_succ] at y
          omega
        rw [this]
        exact List.mem_cons_self ..
    · exact .inr (List.mem_cons_of_mem _ z)
def covers : Bool := [7, 15, 31, 63, 127].all fun m => (List.range 40).all fun h => marks (way m (m + 15) (h % (m + 1)) h) 0 == 2 ^ (m + 1) - 1
theorem covers_all : covers = true := by decide +kernel
theorem way_all {m h j : Nat} (hm : m ∈ [7, 15, 31, 63, 127]) (hh : h < 40) (hj : j ≤ m) : j ∈ way m (m + 15) (h % (m + 1)) h := by
  have h1 := List.all_eq_true.mp (List.all_eq_true.mp covers_all m hm) h (List.mem_range.mpr hh)
  have h2 : marks (way m (m + 15) (h % (m + 1)) h) 0 = 2 ^ (m + 1) - 1 := by simpa using h1
  rcases marks_mem (way m (m + 15) (h % (m + 1)) h) 0 j (by rw [h2, Nat.testBit_two_pow_sub_one, decide_eq_true_eq]; omega) with z | z
  · simp at z
  · exact z
theorem free_of {mask : Nat} {owner : Array (Option Nat)} {j : Nat} (hn : owner.getD j (some 0) = none) : ∀ (f i p : Nat), j ∈ way mask f i p →
    ∃ r, SetTable.layClean.free mask owner f i p = some r ∧ owner.getD r (some 0) = none
  | 0, i, p, h => by simp [way] at h
  | f + 1, i, p, h => by
    rw [SetTable.layClean.free]
    cases hf : (List.range (SetTable.runEnd mask i + 1 - i)).find? fun k => (owner.getD (i + k) (some 0)).isNone with
    | some k =>
      refine ⟨i + k, rfl, ?_⟩
      have z := List.find?_some hf
      simpa using z
    | none =>
      dsimp only
      have hrun : i ≤ SetTable.runEnd mask i := by
        unfold SetTable.runEnd
        split <;> omega
      rcases List.mem_cons.mp (show j ∈ i :: way mask f (SetTable.leap mask i p).1 (SetTable.leap mask i p).2 from h) with z | z
      · exfalso
        have := List.find?_eq_none.mp hf 0 (List.mem_range.mpr (by omega))
        rw [Nat.add_zero, ← z, hn] at this
        exact this rfl
      · exact free_of hn f _ _ z
theorem some_none {l : List (Option Nat)} (h : (l.filterMap id).length < l.length) : ∃ j : Nat, l[j]? = some none := by
  induction l with
  | nil => simp at h
  | cons a l ih =>
    cases a with
    | none => exact ⟨0, rfl⟩
    | some x =>
      obtain ⟨j, hj⟩ := ih (by simpa using h)
      exact ⟨j + 1, by simpa using hj⟩
theorem set_none : ∀ {l : List (Option Nat)} {j k : Nat}, l[j]? = some none → ((l.set j (some k)).filterMap id).Perm (k :: l.filterMap id)
  | [], j, k, h => by simp at h
  | a :: l, 0, k, h => by
    have e : a = none := by simpa using h
    subst e
    simp
  | a :: l, j + 1, k, h => by
    have z := set_none (l := l) (j := j) (k := k) (by simpa using h)
    cases a with
    | none => simpa using z
    | some x =>
      rw [List.set_cons_succ]
      simp only [List.filterMap_cons, id_eq]
      exact (z.cons x).trans (List.Perm.swap ..)
/-- one number more, laid into its own place -/
def layStep (mask : Nat) (acc : Option (Array (Option Nat) × Nat)) (h : Int) : Option (Array (Option Nat) × Nat) :=
  acc.bind fun q => (SetTable.layClean.free mask q.1 (mask + 15) (SetTable.bits h % (mask + 1)) (SetTable.bits h)).bind fun j => some (q.1.setIfInBounds j (some q.2), q.2 + 1)
theorem fold_ok {mask : Nat} (hm : mask ∈ [7, 15, 31, 63, 127]) : ∀ (hs : List Int) (owner : Array (Option Nat)) (k : Nat), (∀ h ∈ hs, SetTable.bits h < 40) → owner.size = mask + 1 →
    (owner.toList.filterMap id).Perm (List.range k) → k + hs.length ≤ mask →
    ∃ owner', hs.foldl (layStep mask) (some (owner, k)) = some (owner', k + hs.length) ∧ owner'.size = mask + 1 ∧ (owner'.toList.filterMap id).Perm (List.range (k + hs.length))
  | [], owner, k, _, hz, hp, _ => ⟨owner, rfl, hz, hp⟩
  | h :: hs, owner, k, hb, hz, hp, hk => by
    have hlt : (owner.toList.filterMap id).length < owner.toList.length := by
      rw [hp.length_eq, List.length_range, Array.length_toList, hz]
      simp only [List.length_cons] at hk
      omega
    obtain ⟨j, hj⟩ := some_none hlt
    have hjs : j < owner.size := by
      have := (List.getElem?_eq_some_iff.mp hj).1
      rw [Array.length_toList] at this
      exact this
    have hn : owner.getD j (some 0) = none := by
      rw [Array.getElem?_toList] at hj
      simp [Array.getD_eq_getD_getElem?, hj]
    obtain ⟨r, hr, hrn⟩ := free_of hn (mask + 15) _ _ (way_all (j := j) hm (hb h (List.mem_cons_self ..)) (by omega))
    have hrs : r < owner.size := by
      by_cases c : r < owner.size
      · exact c
      · simp [Array.getD_eq_getD_getElem?, Array.getElem?_eq_none (Nat.le_of_not_lt c)] at hrn
    have hrl : owner.toList[r]? = some none := by
      rw [Array.getElem?_toList, Array.getElem?_eq_getElem hrs]
      simp [Array.getD_eq_getD_getElem?, Array.getElem?_eq_getElem hrs] at hrn
      rw [hrn]
    have hstep : layStep mask (some (owner, k)) h = some (owner.setIfInBounds r (some k), k + 1) := by
      unfold layStep
      show (SetTable.layClean.free mask owner (mask + 15) _ _).bind _ = _
      rw [hr]
      rfl
    obtain ⟨o2, e1, e2, e3⟩ := fold_ok hm hs (owner.setIfInBounds r (some k)) (k + 1) (fun x hx => hb x (List.mem_cons_of_mem _ hx)) (by rw [Array.size_setIfInBounds]; exact hz) (by
      rw [Array.toList_setIfInBounds]
      refine (set_none hrl).trans ?_
      rw [List.range_succ]
      exact (hp.cons k).trans (List.perm_append_singleton _ _).symm) (by simp only [List.length_cons] at hk; omega)
    refine ⟨o2, ?_, e2, ?_⟩
    · rw [List.foldl_cons, hstep, e1, List.length_cons]
      congr 2
      omega
    · rw [List.length_cons]
      have : k + (hs.length + 1) = k + 1 + hs.length := by omega
      rw [this]
      exact e3
theorem owner_list {owner : Array (Option Nat)} {n : Nat} (h : owner.size = n) : (List.range n).filterMap (fun j => owner.getD j none) = owner.toList.filterMap id := by
  have e : (List.range n).map (fun j => owner.getD j none) = owner.toList := by
    refine List.ext_getElem (by simp [h]) (fun i h1 h2 => ?_)
    have hi : i < owner.size := by rw [Array.length_toList] at h2; exact h2
    simp [Array.getD_eq_getD_getElem?, Array.getElem?_eq_getElem hi]
  rw [← e, List.filterMap_map]
  rfl
theorem clean_ok {mask finger moves : Nat} {led plain : Bool} {hashes : Array Int} (hm : mask ∈ [7, 15, 31, 63, 127]) (hb : ∀ h ∈ hashes.toList, SetTable.bits h < 40) (hz : hashes.size ≤ mask) :
    ∃ t order, SetTable.laid mask finger moves led plain hashes = some (t, order) ∧ order.toList.Perm (List.range hashes.size) ∧ Ris t.place.toList ∧ t.led = led ∧ t.place.size = hashes.size ∧ t.dummies = #[] ∧ t.mask = mask := by
  obtain ⟨owner, e1, e2, e3⟩ := fold_ok hm hashes.toList (Array.replicate (mask + 1) none) 0 hb (by simp) (by simp) (by rw [Array.length_toList]; omega)
  have e : SetTable.layClean mask hashes = some owner := by
    unfold SetTable.layClean
    rw [← Array.foldl_toList]
    show Option.map _ (hashes.toList.foldl (layStep mask) (some (Array.replicate (mask + 1) none, 0))) = _
    rw [e1]
    rfl
  have p2 : (((List.range (mask + 1)).filterMap fun j => (owner.getD j none).map (j, ·)).map (·.2)).Perm (List.range hashes.size) := by
    have : ((List.range (mask + 1)).filterMap fun j => (owner.getD j none).map (j, ·)).map (·.2) = (List.range (mask + 1)).filterMap fun j => owner.getD j none := by
      rw [List.map_filterMap]
      congr 1
      funext j
      cases owner.getD j none <;> rfl
    rw [this, owner_list e2]
    rw [Nat.zero_add, Array.length_toList] at e3
    exact e3
  unfold SetTable.laid
  rw [e]
  refine ⟨_, _, rfl, p2, ?_, rfl, ?_, rfl, rfl⟩
  · exact (ris_live (fun j => owner.getD j none) (List.range (mask + 1)) (by unfold Ris; first | exact List.pairwise_lt_range | exact List.pairwise_lt_range _)).1
  · show (((List.range (mask + 1)).filterMap fun j => (owner.getD j none).map (j, ·)).map (·.1)).toArray.size = _
    have := p2.length_eq
    rw [List.length_map, List.length_range] at this
    rw [List.size_toArray, List.length_map]
    exact this
end Par
namespace Par
open PySem PySem.Spec PyProof.Rows L2
def Cell (k : Int) : Prop := 0 ≤ k ∧ k < 40
theorem cells_few {L : List Int} (hn : L.Nodup) (h : ∀ k ∈ L, Cell k) : L.length ≤ 40 := by
  have := nodup_le (M := (List.range 40).map Int.ofNat) hn (fun k hk => by
    obtain ⟨h1, h2⟩ := h k hk
    exact List.mem_map.mpr ⟨k.toNat, List.mem_range.mpr (by omega), by simp; omega⟩)
  simpa using this
theorem bits_small : ∀ k : Nat, k < 40 → SetTable.bits (hashInt (k : Int)) < 40 := by decide +kernel
theorem bits_cell {k : Int} (h : Cell k) : SetTable.bits (hashInt k) < 40 := by
  have := bits_small k.toNat (by have := h.1; have := h.2; omega)
  rwa [Int.toNat_of_nonneg h.1] at this
theorem wide_enough : ∀ n : Nat, n ≤ 40 → SetTable.sizeAbove (n * 2) - 1 ∈ [7, 15, 31, 63, 127] ∧ n ≤ SetTable.sizeAbove (n * 2) - 1 ∧ SetTable.sizeAbove (n * 2) ≤ 128 := by decide +kernel
section
variable {P : Program} {w : World} {A : Around} {E : Value → Shared → Prop} {s : Shared} {a : Addr} {S : Int → Bool} {n : Nat}
theorem SetR.few (R : SetR w s.heap a S n) (h : ∀ k, S k = true → Cell k) : n ≤ 40 := by
  obtain ⟨o, es, ep, t, ho, hx, hd, g, nd, hm, hb, hf, hn, hr, hl⟩ := R
  have := cells_few nd (fun k hk => h k ((hm k).2 hk))
  rw [List.length_map, Array.length_toList, hn] at this
  exact this
/-- a set that is still empty, its table -/
def NewSet (w : World) (h : Heap) (r : Addr) (n : Nat) : Prop := ∃ o ep t, h.get? r = some o ∧ o.ExactSet ∧ o.data = .set #[] ep t ∧ t.place = #[] ∧ t.dummies = #[] ∧ (w.params.followText "set-order" = true ∨ t.led = true) ∧
  t.mask ∈ [7, 15, 31, 63, 127] ∧ n ≤ t.mask
theorem room_new {r : Addr} {Q : Unit → Shared → Prop} (hn : n ≤ 40)
    (hr : s.heap.get? r = some { cls := .type "set", dict := none, data := .set #[] 0 (.fresh 0 0 (!w.params.followText "set-order")) })
    (hQ : ∀ h', Heap.SameBut r s.heap h' → NewSet w h' r n → Q () { s with heap := h' }) : wpAny (model P w) A (setRoomFor r n) Q E s := by
  have led : w.params.followText "set-order" = true ∨ (!w.params.followText "set-order") = true := by
    cases w.params.followText "set-order"
    · exact .inr rfl
    · exact .inl rfl
  unfold setRoomFor
  refine wpAny_bind (wpAny_setState_of hr rfl rfl ?_)
  dsimp only
  by_cases h5 : n * 5 ≥ 21
  · have e : (SetTable.fresh 0 0 (!w.params.followText "set-order")).roomFor n = some (n * 2) := by
      unfold SetTable.roomFor SetTable.fill SetTable.fresh
      simp [h5]
    rw [e]
    dsimp only
    unfold setRelay
    refine wpAny_bind (wpAny_setState_of hr rfl rfl ?_)
    dsimp only
    obtain ⟨w1, w2, w3⟩ := wide_enough n hn
    refine wp_if_neg (by rw [sizeLine_eq]; omega) ?_
    try refine wpAny_bind (wpAny_pure ?_)
    obtain ⟨t, order, e1, e2, e3, e4, e5, e6, e7⟩ := clean_ok (finger := 0) (moves := (SetTable.fresh 0 0 (!w.params.followText "set-order")).movedTo (SetTable.sizeAbove (n * 2) - 1)) (led := !w.params.followText "set-order") (plain := true) (hashes := #[]) w1 (by simp) (by simp)
    have e8 : (SetTable.fresh 0 0 (!w.params.followText "set-order")).relaid ((#[] : Array (Int × Value)).map (·.1)) (n * 2) = some (t, order) := by
      have q : ((#[] : Array (Int × Value)).map (·.1)) = #[] := by simp
      rw [q]
      exact e1
    rw [e8]
    have eo : order = #[] := by
      have : order.toList = [] := List.length_eq_zero_iff.mp (by rw [e2.length_eq]; simp)
      exact Array.toList_eq_nil_iff.mp this
    subst eo
    refine wpAny_bind (wpAny_pure ?_)
    refine wpAny_storeSet_of hr rfl ?_ (by simp)
    have ho1 := store_at (es' := #[]) (t' := t) hr rfl
    refine hQ _ (Heap.SameBut.update s.heap r _) ⟨_, _, t, ho1, ⟨rfl, rfl, rfl⟩, rfl, by simpa using e5, e6, by rw [e4]; exact led, by rw [e7]; exact w1, by rw [e7]; exact w2⟩
  · have e : (SetTable.fresh 0 0 (!w.params.followText "set-order")).roomFor n = none := by
      unfold SetTable.roomFor SetTable.fill SetTable.fresh
      simp [h5]
    rw [e]
    dsimp only
    exact wpAny_pure (hQ s.heap (Heap.SameBut.refl r s.heap) ⟨_, _, _, hr, ⟨rfl, rfl, rfl⟩, rfl, rfl, rfl, led, by simp [SetTable.fresh], by show n ≤ 7; omega⟩)
theorem merge_new {r o : Addr} {each : Sem Unit} {Q : Unit → Shared → Prop}
    (hr : s.heap.get? r = some { cls := .type "set", dict := none, data := .set #[] 0 (.fresh 0 0 (!w.params.followText "set-order")) })
    (R : SetR w s.heap o S n) (hne : r ≠ o) (hS : ∀ k, S k = true → Cell k)
    (hQ : ∀ h', Heap.SameBut r s.heap h' → SetR w h' r S n → Q () { s with heap := h' }) : wpAny (model P w) A (setMerge r o each) Q E s := by
  have hn40 := SetR.few R hS
  obtain ⟨oo, es, ep, t, ho, hx, hd, g, nd, hm, hb, hf, hn, hrs, hl⟩ := id R
  have led : w.params.followText "set-order" = true ∨ (!w.params.followText "set-order") = true := by
    cases w.params.followText "set-order"
    · exact .inr rfl
    · exact .inl rfl
  unfold setMerge
  refine wp_if_neg (by simpa using hne) ?_
  try refine wpAny_bind (wpAny_pure ?_)
  refine wpAny_bind (wpAny_setState_of ho hd hf ?_)
  dsimp only
  by_cases he : es.isEmpty = true
  · refine wp_if_pos he ?_
    have e0 : es = #[] := by simpa using he
    subst e0
    refine wpAny_pure (hQ s.heap (Heap.SameBut.refl r s.heap) ⟨_, #[], _, _, hr, ⟨rfl, rfl, rfl⟩, rfl, g, nd, hm, hb, rfl, hn, List.Pairwise.nil, led⟩)
  · refine wp_if_neg he ?_
    try refine wpAny_bind (wpAny_pure ?_)
    rw [hn]
    refine wpAny_bind (room_new hn40 hr fun h1 sb1 new => ?_)
    obtain ⟨o1, ep1, t1, ho1, hx1, hd1, hp1, hdm1, hl1, hm1, hk1⟩ := new
    have hf1 : t1.fits (#[] : Array (Int × Value)).size = true := by
      simp [SetTable.fits, SetTable.fill, hp1, hdm1]
    refine wpAny_bind (wpAny_setState_of (es := #[]) ho1 hd1 hf1 ?_)
    dsimp only
    have hfill : t1.fill = 0 := by simp [SetTable.fill, hp1, hdm1]
    cases hroad : t1.road t with
    | oneByOne =>
      exfalso
      unfold SetTable.road at hroad
      rw [hfill] at hroad
      simp at hroad
      split at hroad <;> simp at hroad
    | slotForSlot =>
      dsimp only
      refine wpAny_storeSet_of ho1 hd1 ?_ (fits_of_scanBound hb)
      have ho2 := store_at (es' := es) (t' := { t with finger := t1.finger, led := t1.led && t.led, moves := t1.moves, plain := t1.plain && t.plain }) ho1 hd1
      refine hQ _ (sb1.trans (Heap.SameBut.update h1 r _)) ⟨_, es, _, _, ho2, hx1, rfl, g, nd, hm, hb, hf, hn, hrs, ?_⟩
      rcases hl with z | z
      · exact .inl z
      · rcases hl1 with y | y
        · exact .inl y
        · exact .inr (by show (t1.led && t.led) = true; rw [z, y]; rfl)
    | clean =>
      dsimp only
      have hsm : (es.map (·.1)).size = es.size := Array.size_map ..
      obtain ⟨t2, order, e1, e2, e3, e4, e5, e6, e7⟩ := clean_ok (finger := t1.finger) (moves := t1.moves) (led := t1.led && t.led) (plain := t1.plain && t.plain) (hashes := es.map (·.1)) hm1 (fun h hh => by
        rw [Array.toList_map] at hh
        obtain ⟨e, he, rfl⟩ := List.mem_map.mp hh
        obtain ⟨k, tk, q1, q2⟩ := g e he
        rw [q2]
        refine bits_cell (hS k ((hm k).2 (List.mem_map.mpr ⟨e, he, ?_⟩)))
        unfold keyOf
        rw [q1]) (by rw [hsm]; omega)
      rw [e1]
      rw [hsm] at e2 e5
      have pm : (order.filterMap (es[·]?)).toList.Perm es.toList := by
        rw [Array.toList_filterMap]
        exact (e2.filterMap _).trans (by rw [filterMap_getElem?_range])
      have hsz : (order.filterMap (es[·]?)).size = es.size := by rw [← Array.length_toList, pm.length_eq, Array.length_toList]
      refine wpAny_bind (wpAny_of_eq (a := (order.filterMap (es[·]?), t2)) ?_ ?_)
      · show (do
          if ((order.filterMap (es[·]?)).size != es.size) = true then unsupported "internal:set-table-lost-an-element"
          pure (order.filterMap (es[·]?), t2)) = _
        rw [if_neg (by rw [hsz]; simp)]
        try rfl
      · dsimp only
        refine wpAny_storeSet_of ho1 hd1 ?_ (by rw [hsz]; exact fits_of_scanBound hb)
        have ho2 := store_at (es' := order.filterMap (es[·]?)) (t' := t2) ho1 hd1
        refine hQ _ (sb1.trans (Heap.SameBut.update h1 r _)) ⟨_, _, _, t2, ho2, hx1, rfl, fun e he => g e (pm.mem_iff.mp he), (pm.map keyOf).nodup_iff.mpr nd, fun k => (hm k).trans (pm.map keyOf).mem_iff.symm, by rw [hsz]; exact hb, ?_, by rw [hsz]; exact hn, e3, ?_⟩
        · rw [hsz]
          have : t2.place.size + t2.dummies.size ≤ t2.mask := by
            rw [e5, e6, e7]
            simp
            omega
          simp [SetTable.fits, SetTable.fill, e5, e6, e7]
          omega
        · rw [e4]
          rcases hl with z | z
          · exact .inl z
          · rcases hl1 with y | y
            · exact .inl y
            · exact .inr (by rw [z, y]; rfl)
end
end Par
namespace Par
open PySem PySem.Spec PyProof.Rows L2
theorem entry_set_xor : entryFor table "set.__xor__" = some Builtin.«frozenset.__xor__» :=
  entryFor_alias (id' := "frozenset.__xor__") (by kernel_rfl) rfl (by decide +kernel) (by kernel_rfl)
theorem entry_set_and : entryFor table "set.__and__" = some Builtin.«frozenset.__and__» :=
  entryFor_alias (id' := "frozenset.__and__") (by kernel_rfl) rfl (by decide +kernel) (by kernel_rfl)
section
variable {P : Program} {w : World} {A : Around} {E : Value → Shared → Prop} {s : Shared} {a : Addr} {S : Int → Bool} {n : Nat}
theorem set_typ (R : SetR w s.heap a S n) : s.TypeIs (.ref a) "set" := by
  obtain ⟨o, es, ep, t, ho, hx, _⟩ := R
  exact ⟨o, ho, hx.1⟩
theorem any_set {Q : Bool → Shared → Prop} (hT : s.TypeIs (.ref a) "set") (h : Q true s) : wpAny (model P w) A (Builtin.Frozenset.isAnySet (.ref a)) Q E s := by
  unfold Builtin.Frozenset.isAnySet
  refine wpAny_bind (wpAny_isInstance hT sub_set_self ?_)
  exact wpAny_pure h
theorem base_set {Q : Value → Shared → Prop} (hT : s.TypeIs (.ref a) "set") (h : Q (.type "set") s) : wpAny (model P w) A (Builtin.Frozenset.baseOf a) Q E s := by
  unfold Builtin.Frozenset.baseOf
  refine wpAny_bind (wpAny_isInstance hT sub_set_self ?_)
  exact wpAny_pure h
theorem new_set {Q : Value → Shared → Prop} (h : Q (.ref s.heap.objs.size) { s with heap := s.heap.push { cls := .type "set", dict := none, data := .set #[] 0 (.fresh 0 0 (!w.params.followText "set-order")) } }) :
    wpAny (model P w) A (newSet (.type "set")) Q E s := by
  unfold newSet
  refine wpAny_bind (wpAny_byText ?_)
  dsimp only
  simp only [newObj]
  refine wpAny_bind (wpAny_alloc (wpAny_pure ?_))
  exact h
theorem flip_one {k : Int} {tk : Tok} {Q : Unit → Shared → Prop} (R : SetR w s.heap a S n) (room : n + 1 < scanBound)
    (hQ : ∀ h' m, m ≤ n + 1 → Heap.SameBut a s.heap h' → SetR w h' a (fun j => xor (S j) (decide (j = k))) m → Q () { s with heap := h' }) :
    wpAny (model P w) A (holding [.int k tk] (do
      if !(← setDiscardHashed a (.int k tk) ((intKind P w).hash k)) then
        let _ ← setAddHashed a (.int k tk) ((intKind P w).hash k))) Q E s := by
  refine wpAny_holding (wpAny_bind (discard_hashed R fun h1 m hm sb1 R1 => ?_))
  cases hk : S k with
  | true =>
    refine wp_if_neg (by simp) ?_
    refine wpAny_pure (hQ h1 m (by omega) sb1 (R1.congr fun j => ?_))
    by_cases e : j = k
    · subst e
      rw [hk]
      simp
    · simp [e]
  | false =>
    refine wp_if_pos (by simp) ?_
    refine wpAny_bind (setR_add_hashed (s := { s with heap := h1 }) R1 (by omega) fun h2 sb2 R2 => ?_)
    refine wpAny_pure (hQ h2 _ (by split <;> omega) (sb1.trans sb2) (R2.congr fun j => ?_))
    by_cases e : j = k
    · subst e
      rw [hk]
      simp
    · simp [e]
theorem flip_all {body : Int × Value → PUnit → Sem (ForInStep PUnit)} {o : Addr} {oo : Obj} (hne : o ≠ a)
    (hb : ∀ (e : Int × Value) (s : Shared) (S : Int → Bool) (n : Nat) (Q : ForInStep PUnit → Shared → Prop), GoodE e → s.heap.get? o = some oo → SetR w s.heap a S n → n + 1 < scanBound →
      (∀ h' m, m ≤ n + 1 → Heap.SameBut a s.heap h' → SetR w h' a (fun j => xor (S j) (decide (j = keyOf e))) m → Q (.yield ⟨⟩) { s with heap := h' }) → wpAny (model P w) A (body e ⟨⟩) Q E s) :
    ∀ (l : List (Int × Value)) (s : Shared) (S : Int → Bool) (n : Nat) (Q : PUnit → Shared → Prop), (∀ e ∈ l, GoodE e) → (l.map keyOf).Nodup → s.heap.get? o = some oo → SetR w s.heap a S n → n + l.length + 1 < scanBound →
      (∀ h' m, Heap.SameBut a s.heap h' → SetR w h' a (fun j => xor (S j) (decide (j ∈ l.map keyOf))) m → Q ⟨⟩ { s with heap := h' }) → wpAny (model P w) A (forIn l ⟨⟩ body) Q E s
  | [], s, S, n, Q, _, _, _, R, _, hQ => by
    rw [List.forIn_nil]
    exact wpAny_pure (hQ s.heap n (Heap.SameBut.refl a s.heap) (R.congr fun j => by simp))
  | e :: l, s, S, n, Q, g, nd, Ro, R, room, hQ => by
    rw [List.forIn_cons]
    simp only [List.length_cons] at room
    refine wpAny_bind (hb e s S n _ (g e (List.mem_cons_self ..)) Ro R (by omega) fun h1 m hm sb1 R1 => ?_)
    have nd' := List.nodup_cons.mp (show (keyOf e :: l.map keyOf).Nodup from nd)
    refine flip_all hne hb l { s with heap := h1 } _ m Q (fun x hx => g x (List.mem_cons_of_mem _ hx)) nd'.2 ((sb1.2 o hne).trans Ro) R1 (by omega) fun h2 m2 sb2 R2 => ?_
    refine hQ h2 m2 (sb1.trans sb2) (R2.congr fun j => ?_)
    show xor (S j) (decide (j ∈ keyOf e :: l.map keyOf)) = xor (xor (S j) (decide (j = keyOf e))) (decide (j ∈ l.map keyOf))
    by_cases e1 : j = keyOf e
    · have : j ∉ l.map keyOf := fun z => nd'.1 (e1 ▸ z)
      have hin : j ∈ keyOf e :: l.map keyOf := by
        rw [e1]
        exact List.mem_cons_self ..
      rw [decide_eq_true hin, decide_eq_true e1, decide_eq_false this]
      simp
    · by_cases e2 : j ∈ l.map keyOf
      · rw [decide_eq_true (List.mem_cons_of_mem _ e2), decide_eq_true e2, decide_eq_false e1]
        simp
      · have hout : j ∉ keyOf e :: l.map keyOf := fun z => by
          rcases List.mem_cons.mp z with z | z
          · exact e1 z
          · exact e2 z
        rw [decide_eq_false hout, decide_eq_false e2, decide_eq_false e1]
        simp
def symOf (id : String) (l : Addr) (r : Value) : Sem Value := do
  let result ← Builtin.Frozenset.newFrom id (← Builtin.Frozenset.baseOf l) r
  holding [result] (Builtin.Frozenset.symmetricDifferenceUpdate id (← Builtin.Frozenset.addrOf result) (.ref l))
  return result
theorem call_xor {b : Addr} {T : Int → Bool} {m : Nat} {Q : Value → Shared → Prop} (Ra : SetR w s.heap a S n) (Rb : SetR w s.heap b T m) (hS : ∀ k, S k = true → Cell k) (hT : ∀ k, T k = true → Cell k)
    (hQ : ∀ h' c, (∀ x u, s.heap.get? x = some u → h'.get? x = some u) → SetR w h' s.heap.objs.size (fun k => xor (S k) (T k)) c → c ≤ 40 → Q (.ref s.heap.objs.size) { s with heap := h' }) :
    wpAny (model P w) A (call (.builtin "set.__xor__") [.ref a, .ref b]) Q E s := by
  have ta : s.TypeIs (.ref a) "set" := set_typ Ra
  have tb : s.TypeIs (.ref b) "set" := set_typ Rb
  have la := Ra.lt
  have lb := Rb.lt
  refine wpAny_call_entry F.slot_set_xor ta entry_set_xor ?_ (F.args_set_xor_2 _ _)
  unfold Builtin.«frozenset.__xor__»
  show wpAny _ _ (do
    let (self, other) ← Builtin.Frozenset.slot1 "__xor__" ⟨[.ref a, .ref b], []⟩
    let (l, r) := if false = true then (other, self) else (self, other)
    if !(← Builtin.Frozenset.isAnySet l <&&> Builtin.Frozenset.isAnySet r) then rule s!"frozenset.{"__xor__"}.declined"; return ← ret .notImplemented
    ret (← symOf s!"frozenset.{"__xor__"}" (← Builtin.Frozenset.addrOf l) r)) _ _ s
  refine wpAny_bind (wpAny_of_eq (a := (Value.ref a, Value.ref b)) (by rfl) ?_)
  dsimp only
  rw [if_neg Bool.false_ne_true]
  dsimp only
  refine wpAny_bind (wpAny_bind (any_set ta ?_))
  show wpAny _ _ (Builtin.Frozenset.isAnySet (.ref b)) _ _ s
  refine any_set tb ?_
  refine wp_if_neg (by simp) ?_
  refine wpAny_bind (m := Builtin.Frozenset.addrOf (.ref a)) (wpAny_pure ?_)
  refine wpAny_bind ?_
  unfold symOf
  refine wpAny_bind (base_set ta ?_)
  refine wpAny_bind ?_
  unfold Builtin.Frozenset.newFrom
  refine wpAny_bind (new_set ?_)
  generalize hr : s.heap.objs.size = r at *
  have hget : (s.heap.push { cls := .type "set", dict := none, data := .set #[] 0 (.fresh 0 0 (!w.params.followText "set-order")) }).get? s.heap.objs.size = some { cls := .type "set", dict := none, data := .set #[] 0 (.fresh 0 0 (!w.params.followText "set-order")) } := Heap.get?_push_size _ rfl
  generalize hg : s.heap.push { cls := .type "set", dict := none, data := .set #[] 0 (.fresh 0 0 (!w.params.followText "set-order")) } = g at *
  have keep : ∀ x u, s.heap.get? x = some u → g.get? x = some u := fun x u e => by
    rw [← hg]
    exact Heap.get?_push_of_some _ e
  have Ra1 : SetR w g a S n := Ra.at fun u e => keep a u e
  have Rb1 : SetR w g b T m := Rb.at fun u e => keep b u e
  refine wpAny_bind (m := Builtin.Frozenset.addrOf (.ref r)) (wpAny_pure ?_)
  refine wpAny_bind (wpAny_holding ?_)
  unfold Builtin.Frozenset.updateFrom
  refine wpAny_bind (any_set (s := { s with heap := g }) (set_typ Rb1) ?_)
  refine wp_if_pos rfl ?_
  refine wpAny_bind (m := Builtin.Frozenset.addrOf (.ref b)) (wpAny_pure ?_)
  unfold Builtin.Frozenset.merge
  obtain ⟨ob, esb, epb, tb2, hob, hxb, hdb, _, _, _, _, hfb, _⟩ := id Rb1
  refine wpAny_bind (wpAny_setEpoch_of hob hdb hfb ?_)
  rw [hr] at hget
  refine merge_new (s := { s with heap := g }) hget Rb1 (Nat.ne_of_gt lb) hT fun h1 sb1 R1 => ?_
  refine wpAny_pure ?_
  refine wpAny_bind (m := Builtin.Frozenset.addrOf (.ref r)) (wpAny_pure ?_)
  refine wpAny_bind (wpAny_holding ?_)
  have hra : a ≠ r := Nat.ne_of_lt la
  have Ra2 : SetR w h1 a S n := Ra1.at fun u e => (sb1.2 a hra).trans e
  unfold Builtin.Frozenset.symmetricDifferenceUpdate
  refine wp_if_neg (by simpa using hra) ?_
  try refine wpAny_bind (wpAny_pure ?_)
  dsimp only
  refine wpAny_bind (wpAny_typeOf (s := { s with heap := h1 }) (set_typ Ra2) ?_)
  refine wp_if_neg (by decide) ?_
  try refine wpAny_bind (wpAny_pure ?_)
  refine wpAny_bind (any_set (s := { s with heap := h1 }) (set_typ Ra2) ?_)
  refine wp_if_pos rfl ?_
  refine wpAny_bind (wpAny_pure ?_)
  refine wpAny_bind (m := Builtin.Frozenset.addrOf (.ref a)) (wpAny_pure ?_)
  obtain ⟨oa, esa, epa, ta2, hoa, hxa, hda, _, _, _, _, hfa, _⟩ := id Ra2
  refine wpAny_bind (wpAny_setEpoch_of hoa hda hfa ?_)
  refine wpAny_holding ?_
  refine wpAny_bind (walk_unseen (s := { s with heap := h1 }) (f := r) Ra2 (fun x hx => by rw [List.mem_singleton.mp hx]; exact ⟨T, m, R1⟩) R1 fun l h2 sb2 R2 gl => ?_)
  obtain ⟨gl1, gl2, gl3, gl4⟩ := gl
  have n40 : n ≤ 40 := SetR.few (s := { s with heap := h1 }) Ra2 hS
  have m40 : m ≤ 40 := SetR.few (s := { s with heap := h1 }) R1 hT
  rw [← Array.forIn_toList]
  refine wpAny_bind (flip_all (a := r) (o := a) (oo := oa) hra ?_ l.toList { s with heap := h2 } T m _ gl1 gl2 ((sb2.2 a hra).trans hoa) R2 (by rw [Array.length_toList, gl4]; unfold scanBound; omega) fun h3 c sb3 R3 => ?_)
  · intro e s0 S0 n0 Q0 ge ho0 R0 room q0
    obtain ⟨k, tk, e1, e2⟩ := ge
    obtain ⟨eh, ev⟩ := e
    dsimp only at e1 e2
    subst e1
    subst e2
    refine wpAny_bind (flip_one R0 room fun h' m' hm' sb' R' => ?_)
    refine wpAny_bind ?_
    unfold Builtin.Frozenset.unchanged
    refine wpAny_bind (wpAny_setEpoch_of ((sb'.2 a hra).trans ho0) hda hfa ?_)
    refine wp_if_neg (by simp) ?_
    exact wpAny_pure (wpAny_pure (q0 h' m' hm' sb' R'))
  refine wpAny_pure (wpAny_pure (wpAny_pure ⟨_, rfl, ?_⟩))
  have Rf : SetR w h3 r (fun k => xor (S k) (T k)) c := R3.congr fun k => by
    have : S k = decide (k ∈ l.toList.map keyOf) := by
      cases h : S k with
      | true => rw [decide_eq_true ((gl3 k).1 h)]
      | false =>
        have : k ∉ l.toList.map keyOf := fun z => by
          have := (gl3 k).2 z
          rw [h] at this
          cases this
        rw [decide_eq_false this]
    rw [this]
    exact Bool.xor_comm _ _
  refine hQ h3 c (fun x u e => ?_) Rf (SetR.few (s := { s with heap := h3 }) Rf fun k hk => ?_)
  · have hxr : x ≠ r := by
      rw [← hr]
      exact Nat.ne_of_lt (Heap.lt_size e)
    exact (sb3.2 x hxr).trans ((sb2.2 x hxr).trans ((sb1.2 x hxr).trans (keep x u e)))
  · cases h : S k with
    | true => exact hS k h
    | false =>
      rw [h] at hk
      exact hT k (by simpa using hk)
end
end Par
namespace Par
open PySem PySem.Spec PyProof.Rows L2
section
variable {X : Cx}
/-- set(t), t a tuple of ints -/
def rSetTup (K : PySem.W.Frag) (w : World) : List V → Hp → VK → Prop := fun xs H Q => ∃ (l : Addr) (ns : List Int), xs = [V.ref l] ∧ SqT K H l (ns.map V.int) ∧ ns.length ≤ 4000 ∧
  ∀ p c, H p = none → Q (.ref p) (upd H p (SetO w p (fun j => decide (j ∈ ns)) c))
theorem cr_setTup (hc : X.calm = true) : CallR X (.type "set") (rSetTup X.K X.w) := by
  intro pins s σ H xs us Q I r h
  obtain ⟨l, ns, rfl, hq, hl, q⟩ := h
  rw [Vals.ref1 r]
  obtain ⟨its, rv, tup, hz⟩ := I.tuple hq
  refine L2.call_set_tupI ns (I.ok.hd hc) tup (by simpa using numbers_of rv) (by unfold scanBound; omega) ?_
  intro h' tk c hS hcn hk
  exact ⟨.ref _, _, I.laid (t' := tk) hk (Nat.le_refl _) (setO_new hS), rfl, q _ c (I.hok.fresh (Nat.le_refl _))⟩
/-- one ^ other, sets of cells -/
def rXor (w : World) : V → V → Hp → VK → Prop := fun x y H Q => ∃ (a b : Addr) (S T : Int → Bool) (n m : Nat), x = V.ref a ∧ y = V.ref b ∧ H a = some (SetO w a S n) ∧ H b = some (SetO w b T m) ∧
  (∀ k, S k = true → Cell k) ∧ (∀ k, T k = true → Cell k) ∧ ∀ p c, H p = none → c ≤ 40 → Q (.ref p) (upd H p (SetO w p (fun k => xor (S k) (T k)) c))
theorem op_xorS : OpR X (binaryOp .BitXor) (rXor X.w) := by
  intro pins s σ H x y v u Q I rx ry h
  obtain ⟨a, b, S, T, n, m, rfl, rfl, ha, hb, hS, hT, q⟩ := h
  cases rx
  cases ry
  have Ra := setO_get I ha
  have Rb := setO_get I hb
  refine wpAny_binaryOp_same (op := .BitXor) (T := "set") (set_typ Ra) (set_typ Rb) F.fills_set_xor F.slot_set_xor ?_
  refine call_xor Ra Rb hS hT fun h' c k R c40 => ⟨by simp, ?_⟩
  exact ⟨.ref _, _, I.laid (t' := s.toks) k (Nat.le_refl _) (setO_new R), rfl, q _ c (I.hok.fresh (Nat.le_refl _)) c40⟩
end
end Par
namespace Par
open PySem PySem.Spec PyProof.Rows L2
section
variable {prog : Program} {w : World} {A : Around} {E : Value → Shared → Prop} {s : Shared}
theorem collect_tup {tp : Addr} {vs : List Value} {Q : List Value → Shared → Prop} (htp : IsTup s.heap tp vs.toArray)
    (h : Q vs { s with heap := (s.heap.push (seqObj "list" #[] 0)).update s.heap.objs.size (Obj.mapSeq (· ++ vs.toArray)) })
    (len : vs.length ≤ sizeLine) : wpAny (model prog w) A (collect (.ref tp)) Q E s := by
  obtain ⟨o, hob, hcl, n, hdt⟩ := id htp
  unfold collect
  refine wpAny_bind (wpAny_runValue ?_)
  refine codeAny_builtin entry_proto_collect' ?_
  show wpAny _ _ (do again (.builtin "list.__iadd__" ⟨[← newList [], .ref tp], []⟩)) _ _ s
  refine wpAny_bind (wpAny_newList (wpAny_pure ?_))
  refine ⟨Code.quiet_builtin _ (by decide +kernel), codeAny_builtin entry_list_iadd' ?_⟩
  show wpAny _ _ (Builtin.List.listExtendWith (.ref s.heap.objs.size) (.ref tp) (.ref s.heap.objs.size)) _ _ { s with heap := s.heap.push (seqObj "list" #[] 0) }
  unfold Builtin.List.listExtendWith -- a tuple's items go over at once
  have ho2 : (s.heap.push (seqObj "list" #[] 0)).get? tp = some o := Heap.get?_push_of_some _ hob
  refine wpAny_bind (wpAny_typeOf (T := "tuple") ⟨o, ho2, hcl⟩ ?_)
  have ht : (Value.type "tuple" == Value.type "tuple") = true := by rfl
  rw [if_pos (by simp [ht])]
  refine wpAny_bind (listItems_at ho2 hdt ?_)
  refine wpAny_bind (listItems_at (n := 0) (xs := #[]) (Heap.get?_push_size _ rfl) rfl ?_)
  rw [if_neg (by simp)]
  have room : (#[] ++ vs.toArray).size ≤ sizeLine + 1 := by
    simp only [Array.size_append, List.size_toArray, List.length_nil]
    omega
  refine wpAny_bind (listUpdate_at (xs := #[]) (n := 0) (Heap.get?_push_size _ rfl) rfl ?_ (Nat.zero_le _) room)
  refine wpAny_pure ?_
  have flat : ((#[] : Array Value) ++ vs.toArray).toList = vs := by simp
  refine wpAny_bind (wpAny_load (get?_update_seq (Heap.get?_push_size s.heap rfl) _) ?_)
  show wpAny _ _ (pure (#[] ++ vs.toArray).toList) Q E _
  rw [flat]
  exact wpAny_pure h
theorem sorted_tupOrd {tp : Addr} {vs : List Value} {ltv : Value → Value → Bool} {Q : Value → Shared → Prop} (O : SrtO.Swo ltv) (htp : IsTup s.heap tp vs.toArray) (hz : vs.length ≤ sizeLine)
    (can : 2 ≤ vs.length → ∀ (h1 : Heap) (a : Addr), h1.get? a = some (seqObj "list" vs.toArray 0) → (∀ b o, s.heap.get? b = some o → b ≠ a ∧ h1.get? b = some o) → SrtO.SortableO prog w A.in1.in1 { s with heap := h1 } a vs ltv)
    (h : ∀ out : List Value, SrtO.Srtd ltv out → SrtO.Stb ltv out vs → Q (.ref (s.heap.objs.size + 1)) { s with heap := sortedAll s.heap vs out.toArray }) :
    wpAny (model prog w) A (call (.builtin "sorted") [.ref tp]) Q E s := by
  refine Calls.call_function_entry kind_sorted plain_sorted entry_sorted (args_sorted1 (.ref tp)) ?_
  unfold Builtin.«sorted»
  refine wpAny_bind (m := checkCount "sorted" 1 1 _) ?_
  refine wpAny_pure ?_
  refine wpAny_bind (collect_tup htp ?_ hz)
  refine wpAny_bind (wpAny_newList (s := _) ?_ hz)
  generalize eg : (s.heap.push (seqObj "list" #[] 0)).update s.heap.objs.size (Obj.mapSeq (· ++ vs.toArray)) = g
  have hsz : g.objs.size = s.heap.objs.size + 1 := by rw [← eg, Heap.size_update, size_push']
  have hoL : (g.push (seqObj "list" vs.toArray 0)).get? (s.heap.objs.size + 1) = some (seqObj "list" vs.toArray 0) := by
    rw [← hsz]
    exact Heap.get?_push_size g rfl
  have keep : ∀ b o, s.heap.get? b = some o → b ≠ s.heap.objs.size + 1 ∧ (g.push (seqObj "list" vs.toArray 0)).get? b = some o := by
    intro b o q
    have hbl : b < s.heap.objs.size := Heap.lt_size q
    refine ⟨Nat.ne_of_lt (Nat.lt_succ_of_lt hbl), Heap.get?_push_of_some (seqObj "list" vs.toArray 0) ?_⟩
    rw [← eg, Heap.get?_update_ne _ _ _ _ (Nat.ne_of_lt hbl)]
    exact Heap.get?_push_of_some (seqObj "list" #[] 0) q
  show wpAny _ _ _ _ _ { s with heap := g.push (seqObj "list" vs.toArray 0) }
  rw [hsz]
  refine wpAny_bind (wpAny_holding (wpAny_call_entry slot_list_sort ⟨_, hoL, rfl⟩ entry_list_sort (SrtO.list_sort_ord O hoL hz (fun h2 => can h2 _ _ hoL keep) ?_) (args_list_sort _)))
  intro out hs hb
  refine ⟨_, rfl, ?_⟩
  subst eg
  exact wpAny_pure ⟨.ref (s.heap.objs.size + 1), rfl, h out hs hb⟩
end
/-- sorted(t), t a tuple of ints -/
theorem cr_sortedTup {X : Cx} : CallR X (.builtin "sorted") (fun vs H Q => ∃ (a : Addr) (ns : List Int), vs = [V.ref a] ∧ SqT X.K H a (ns.map V.int) ∧
    ∀ (ms : List Int) (p : Addr), ms.Perm ns → ms.Pairwise (· ≤ ·) → H p = none → Q (.ref p) (upd H p (.lst (ms.map V.int)))) := by
  intro pins s σ H vs us Q I r h
  obtain ⟨a, ns, rfl, hs, q⟩ := h
  obtain ⟨its, rv, htp, hz⟩ := I.tuple hs
  rw [Vals.ref1 r]
  have hi := rv.ints
  refine sorted_tupOrd SrtO.swo_int htp (by rw [← rv.length]; exact hz) (fun h2 h1 a2 _ _ => SrtO.ints_sortable hi h2) ?_
  intro out h1 h2
  obtain ⟨o1, o2, o3⟩ := SrtO.ints_out hi h1 h2
  obtain ⟨ep, he⟩ := PyProof.Rows.sortedAll_at s.heap its out.toArray
  have hshort : ((out.map SrtO.iv).map V.int).length ≤ sizeLine := by
    rw [List.length_map, o2.length_eq]
    rw [List.length_map] at hz
    exact hz
  have lay := I.laid (t' := s.toks) (a := s.heap.objs.size + 1) (o := .lst ((out.map SrtO.iv).map V.int)) (fun _ _ => PyProof.Rows.sortedAll_old) (Nat.le_succ _)
    ⟨hshort, out, ep, vals_of_ints o1, he⟩
  exact ⟨.ref _, _, lay, rfl, q _ _ o2 o3 (I.hok.fresh (Nat.le_succ _))⟩
end Par
namespace Par
open PySem PySem.Spec PyProof.Rows L2
theorem meets_enumT (l : Addr) (items : Array Value) :
    Meets (Builtin.«enumerate.__new__» ⟨[.type "enumerate", .ref l], []⟩) (fun _ R s => s.heap.IsTuple l items ∧
      R (.ok (.ret (.ref (s.heap.push { cls := .type "tuple_iterator", data := .fields #[.ref l, .int 0 0] }).objs.size)))
        { s with heap := (s.heap.push { cls := .type "tuple_iterator", data := .fields #[.ref l, .int 0 0] }).push { cls := .type "enumerate", data := .fields #[.none, .bool false, .ref s.heap.objs.size, rawInt 0, .none, .none] } }) := by
  refine .of_wp ?_
  rintro prog w A R ⟨hp, g, d, tk, os⟩ ⟨h1, h⟩
  have sub1 := sub_enumerate
  have it1 : ∀ {B : Around} {E : Value → Shared → Prop} {Q : Value → Shared → Prop},
      Q (.ref hp.objs.size) ⟨hp.push { cls := .type "tuple_iterator", data := .fields #[.ref l, .int 0 0] }, g, d, tk, os⟩ → wpAny (model prog w) B (pyIter (.ref l)) Q E ⟨hp, g, d, tk, os⟩ :=
    fun q => (begins_tuple l items).iter prog w _ _ ⟨hp, g, d, tk, os⟩ _ h1 q
  wp_walk using it1
  refine wpAny_stack_any (fun st => wpAny_pure ?_)
  split
  · rename_i c _ _ _ _ _
    cases (c == Value.type "enumerate") <;> (wp_walk using it1; exact ⟨_, rfl, h⟩)
  · wp_walk using it1
    exact ⟨_, rfl, h⟩
section
variable {prog : Program} {w : World} {A : Around} {E : Value → Shared → Prop} {s : Shared}
theorem call_enumT {l : Addr} {items : Array Value} {Q : Value → Shared → Prop} (hL : s.heap.IsTuple l items)
    (h : ∀ h', IsEnum h' (s.heap.objs.size + 1) s.heap.objs.size 0 .none → h'.IsTupleIter s.heap.objs.size l 0 → (∀ b o, s.heap.get? b = some o → h'.get? b = some o) →
      Q (.ref (s.heap.objs.size + 1)) { s with heap := h' }) : wpAny (model prog w) A (call (.type "enumerate") [.ref l]) Q E s := by
  refine callType_new F.called_enumerate (by decide) (F.typeCall_enumerate_1 _) (F.newCall_enumerate_1 _) (fun obj => F.args_object_init_2 obj _) F.entry_enumerate_new (meets_enumT l items) ⟨hL, ?_⟩
  generalize eg : s.heap.push { cls := .type "tuple_iterator", data := .fields #[.ref l, .int 0 0] } = g
  have hz : g.objs.size = s.heap.objs.size + 1 := by rw [← eg]; exact Heap.size_push ..
  have hi : g.get? s.heap.objs.size = some { cls := .type "tuple_iterator", data := .fields #[.ref l, .int 0 0] } := by rw [← eg]; exact Heap.get?_push_size _ rfl
  have hk : ∀ b o, s.heap.get? b = some o → g.get? b = some o := by rw [← eg]; exact fun b o x => Heap.get?_push_of_some _ x
  show _ ∧ _
  have he := Heap.get?_push_size g (o := { cls := .type "enumerate", data := .fields #[.none, .bool false, .ref s.heap.objs.size, rawInt 0, .none, .none] }) rfl
  rw [hz] at he ⊢
  exact ⟨⟨_, he, rfl⟩, h _ he ⟨_, Heap.get?_push_of_some _ hi, rfl, rfl⟩ fun b o x => Heap.get?_push_of_some _ (hk b o x)⟩
end
/-- the tuple at a, each item in a new pair -/
def ItEnT (K : PySem.W.Frag) (a : Addr) : It where
  go := fun i H => ∃ (xs : List V) (x : V), SqT K H a xs ∧ xs[i]? = some x
  yld := fun i H v H' => ∃ T x, v = .ref T ∧ H T = none ∧ H' = upd H T (.tup [.int (i : Nat), x]) ∧ ∀ xs, SqT K H a xs → xs[i]? = some x
  stop := fun i H => ∃ xs : List V, SqT K H a xs ∧ xs.length ≤ i
theorem turn_enumT {P : Program} {w : World} {K : PySem.W.Frag} {elts : List Expr} {kk : Nat} {tpos : Pos} (a e it : Addr) :
    Turn P w K (.Tuple elts kk tpos) (ItEnT K a) [e, it] e (fun i h => (∃ old, IsEnum h e it ((i : Nat) : Int) old) ∧ h.IsTupleIter it a i ∧ e ≠ it ∧ a ≠ it ∧ a ≠ e) where
  mem := by simp
  obj := by
    rintro i h ⟨⟨old, he⟩, ⟨o, ho, hc, hd⟩, _⟩ b hb
    rcases (show b = e ∨ b = it by simpa using hb) with rfl | rfl
    · exact ⟨_, he, fun v q => nomatch q⟩
    · exact ⟨o, ho, fun v q => by rw [hd] at q; cases q⟩
  keep := by
    rintro i h h' ⟨⟨old, he⟩, ⟨o, ho, r⟩, ne⟩ k
    exact ⟨⟨old, k e (by simp) _ he⟩, ⟨o, k it (by simp) o ho, r⟩, ne⟩
  item := by
    intro X hP hw hK hc i pins s σ H E I hf st hg
    subst hP hw hK
    obtain ⟨⟨old, he⟩, hit, hne, n1, n2⟩ := st
    obtain ⟨xs, x, hq, hx⟩ := hg
    obtain ⟨its, rv, p, hz⟩ := I.tuple hq
    obtain ⟨u, hu, ru⟩ := rv.get hx
    have hel : e < s.heap.objs.size := Heap.lt_size he
    have hil : it < s.heap.objs.size := let ⟨_, q, _⟩ := hit; Heap.lt_size q
    have hlt : i < its.toArray.size := by
      rcases Nat.lt_or_ge i its.length with z | z
      · simpa using z
      · rw [List.getElem?_eq_none z] at hu
        cases hu
    have hh : X.A.in1.handled = none := I.ok.hd hc
    refine wpAny_pyNext_enum_itemD (Draws.tuple hh it a n1 its.toArray) he ⟨hit, p⟩ hlt hne (by simp [hne, Ne.symm n2]) ?_
    intro y h1 tk hy ho hit1 hT hsz hk
    have ey : y = u := by
      have q : its.toArray[i]? = some u := by simpa using hu
      rw [hy] at q
      exact Option.some.inj q
    subst ey
    refine ⟨_, rfl, wpAny_letOwnedTupleGo_enum (s := { s with heap := h1, toks := tk + 1 }) ho ?_⟩
    intro h2 he2 sb
    have hT2 : h2.get? s.heap.objs.size = some { cls := .type "tuple", data := .seq #[.int i tk, y] } := (sb.2 _ (Nat.ne_of_gt hel)).trans hT
    have new : ObjOk X.prog X.w (upd H s.heap.objs.size (.tup [.int (i : Nat), x])) h2 s.heap.objs.size (.tup [.int (i : Nat), x]) :=
      ⟨by show 2 ≤ sizeLine; decide, [.int i tk, y], .cons ⟨_, rfl⟩ (.cons ru .nil), ⟨_, hT2, rfl, _, rfl⟩⟩
    have I1 : L2.Inv X pins σ (upd H s.heap.objs.size (.tup [.int (i : Nat), x])) { s with heap := h2, toks := tk + 1 } := by
      refine I.turnedNew (ch := [e, it]) ?_ hf (Nat.le_refl _) new
      intro b ob hb q
      have b1 : b ≠ e := fun z => hb (by simp [z])
      exact (sb.2 b b1).trans (hk b ob b1 (fun z => hb (by simp [z])) q)
    refine ⟨.ref s.heap.objs.size, _, I1, rfl, ⟨_, x, rfl, I.hok.fresh (Nat.le_refl _), rfl, ?_⟩, ⟨⟨y, ?_⟩, ?_, hne, n1, n2⟩, ?_⟩
    · intro ys hy
      rw [I.tuple_inj hy hq]
      exact hx
    · have e1 : ((i + 1 : Nat) : Int) = (i : Int) + 1 := by omega
      rw [e1]
      exact he2
    · obtain ⟨o, q, r⟩ := hit1.1
      exact ⟨o, (sb.2 it (Ne.symm hne)).trans q, r⟩
    · intro b hb
      have hb2 : b < s.heap.objs.size := by
        rcases (show b = e ∨ b = it by simpa using hb) with rfl | rfl
        · exact hel
        · exact hil
      rw [upd_ne (Nat.ne_of_lt hb2)]
      exact (hf b hb).1
  done := by
    intro X hP hw hK hc i pins s σ H E I hf st hg
    subst hP hw hK
    obtain ⟨⟨old, he⟩, hit, hne, n1, n2⟩ := st
    obtain ⟨xs, hq, hx⟩ := hg
    obtain ⟨its, rv, p, hz⟩ := I.tuple hq
    obtain ⟨f0, f1, f2, f3, f4, f5⟩ := hf it (by simp)
    have hh : X.A.in1.handled = none := I.ok.hd hc
    by_cases hi : i = its.toArray.size
    · subst hi
      refine wpAny_pyNext_enum_endD (Draws.tuple hh it a n1 its.toArray) he ⟨hit, p⟩ ?_
      intro h1 ex
      exact ⟨rfl, I.turned (t' := s.toks) (fun b o hb q => ex b o hb q) f0 f1 f3 f4 f5⟩
    · refine wpAny_bind (wpAny_attempt (wpAny_callSpecial?_slot (s := s) (name := Str.ofString "__next__") ⟨_, he, rfl⟩ F.slot_enumerate_next
        (wpAny_call_entry (s := s) F.slot_enumerate_next ⟨_, he, rfl⟩ F.entry_enumerate_next ?_ (F.args_enumerate_next_1 _))))
      show wpAny _ _ (field (Value.ref e) 2 >>= _) _ _ s
      refine wpAny_bind (wpAny_field (s := s) he rfl (x := .ref it) rfl ?_)
      refine wpAny_bind (wpAny_nextOf_tuple_end hh hit p (by simp; have := rv.length; omega) ?_)
      rintro h1 z ex ⟨o, ho, hcl⟩
      refine wpAny_bind (wpAny_isInstance (T := "StopIteration") (b := true) ⟨o, ho, hcl⟩ isSubtype_stop ?_)
      exact wpAny_pure ⟨rfl, I.turned (t' := s.toks) (fun b o hb q => ex b o hb q) f0 f1 f3 f4 f5⟩
  self := by
    rintro A i s Q E ⟨⟨_, he⟩, _⟩ h
    exact wpAny_pyIter_enum he h
def iEnumT (K : PySem.W.Frag) (ta : TA) : TI := fun σ H R => ta σ H fun vs H1 => ∃ a xs, vs = [.ref a] ∧ SqT K H1 a xs ∧ R (ItEnT K a) H1
/-- for i, x in enumerate(t), t a tuple -/
theorem pi_enumT {X : Cx} {e : Expr} {ta : TA} {p pos tpos : Pos} {elts : List Expr} {kk : Nat} (hg : Gl X "enumerate") (hm : X.mg "enumerate" = none) (ha : PA X [e] ta)
    (hs : starEach [e] X.env = [(false, eval e X.env)] := by rfl) : PI X (.Tuple elts kk tpos) (.Call (.Name "enumerate" p) [e] [] pos) (iEnumT X.K ta) := by
  constructor
  intro pins s σ H R I h
  refine Call_ (ld_blt I hg hm boot_enumerate (PyProof.Rows.callWith_type1 (thn (ha.run pos pins s σ H _ I h) ?_) hs rfl))
  rintro us s1 ⟨vs, H1, I1, r1, a, xs, rfl, hq, q⟩
  cases r1 with
  | cons r rr =>
    cases rr
    cases r
    obtain ⟨its, rv, pl, hz⟩ := I1.tuple hq
    refine call_enumT pl ?_
    intro h1 he hit hk
    refine wpAny_pyIter_enum he ?_
    have I2 : L2.Inv X pins σ H1 { s1 with heap := h1 } := I1.kept (t' := s1.toks) hk
    have al : a < s1.heap.objs.size := pl.lt
    refine ⟨s1.heap.objs.size + 1, [s1.heap.objs.size + 1, s1.heap.objs.size], _, _, H1, rfl, I2, turn_enumT a (s1.heap.objs.size + 1) s1.heap.objs.size,
      ⟨⟨.none, he⟩, hit, Nat.succ_ne_self _, Nat.ne_of_lt al, Nat.ne_of_lt (Nat.lt_succ_of_lt al)⟩, ?_, q⟩
    intro b hb
    have hle : s1.heap.objs.size ≤ b := by
      rcases (show b = s1.heap.objs.size + 1 ∨ b = s1.heap.objs.size by simpa using hb) with z | z
      · rw [z]
        exact Nat.le_succ _
      · rw [z]
        exact Nat.le_refl _
    exact I1.fpOk hle (I1.hok.fresh hle)
theorem walk_enumT {K : PySem.W.Frag} {a : Addr} {xs : List V} :
    Walk (ItEnT K a) xs.length (fun H => SqT K H a xs) (YPair (fun i => some (.int (i : Nat))) (fun i => xs[i]?)) where
  goes := fun i H hi h => ⟨xs, xs[i], h, by simp [hi]⟩
  stops := fun H h => ⟨xs, h, Nat.le_refl _⟩
  yields := by
    rintro i H v H' hi h ⟨T, x, rfl, hn, rfl, hx⟩
    exact ⟨T, _, x, rfl, hn, rfl, rfl, hx xs h⟩
end Par
namespace Par
open PySem PySem.Spec PyProof.Rows L2

section
variable {X : Cx} {CX : CXT} {k : Nat} {f : Addr} {fd : FuncData} {ps ks : List Str} {sp : Sp} {E : XK} {x : Str} {p pos : Pos} {kws : List Keyword} {tk : TA}
  {g : List Value → List Value → List Value} {gV : List V → List V → List V}
/-- f(k = v, ..), no positional argument -/
theorem pe_callN0 (F : FnOk X.prog X.w X.K X.mg X.base CX k f fd ps sp) (hr : Room k X.A) (hg : Gl X x) (hm : X.mg x = some (.ref f))
    (hk : PySem.W.keepIn X.K (.ref f) = true) (hb : KBn X.K fd ps 0 ks g gV) (hx : Passes CX X E) (hkw : PK X kws tk)
    (hall : (backToKw pos (keywordEach kws X.env)).all (·.1.isSome) = true := by rfl)
    (hks : (backToKw pos (keywordEach kws X.env)).filterMap (·.1) = ks := by rfl)
    (hdb : (x == ("__debug__" : Str)) = false := by decide)
    (hpl : ((backTo pos (starEach [] X.env)).any (·.1) || (backToKw pos (keywordEach kws X.env)).any (·.1.isNone)) = false := by rfl) :
    PE X (.Call (.Name x p) [] kws pos) (tCallN 0 ks.length sp gV E tNil tk) := by
  constructor
  intro pins s σ H Q I h
  refine wpAny_Call_Name_kw (ld_glob I hg hm ?_ hdb)
  refine PySem.W.callWith_KW0 (h₀ := X.base) I.ok.mod.kin hk hall ?_ hpl
  refine thn (hkw.run pos pins s σ H _ I h) ?_
  rintro ws s2 ⟨zs, H2, I2, rz, l1, l2, q2⟩
  refine ⟨I2.kIn, ?_⟩
  rw [hks]
  exact run_fnN F hr hb hx I2 .nil rz l1 l2 q2
end

/-! ### a new list whose place is not that of sys.modules -/
def tLstS (t : TA) : TE := fun σ H Q => t σ H fun xs H1 => xs.length ≤ sizeLine ∧ ∀ p, H1 p = none → p ≠ sysModules → Q (.ref p) (upd H1 p (.lst xs))
theorem new_ne_sys {X : Cx} {pins : List (Addr × Obj)} {σ : L2.St} {H : Hp} {s : Shared} (I : Inv X pins σ H s) : s.heap.objs.size ≠ sysModules := by
  obtain ⟨o, _, _, e, _⟩ := I.ok.mod.glob
  have h1 := Heap.lt_size (I.bk _ _ e)
  intro z
  rw [z] at h1
  exact absurd h1 (by decide)
theorem pe_lstS {X : Cx} {es : List Expr} {t : TA} {pos : Pos} (h : PA X es t) : PE X (.List es pos) (tLstS t) := by
  constructor
  intro pins s σ H Q I hq
  refine wpAny_List_spliced (thn (h.run pos pins s σ H _ I hq) ?_)
  rintro us s1 ⟨xs, H1, I1, r, z, q⟩
  refine ⟨by rw [← r.length]; exact z, ?_⟩
  have free : H1 s1.heap.objs.size = none := I1.hok.fresh (Nat.le_refl _)
  have lay := I1.laid (t' := s1.toks) (o := .lst xs) (h' := s1.heap.push { cls := .type "list", data := .seq us.toArray 0 })
    (fun b u e => Heap.get?_push_of_some _ e) (Nat.le_refl _) ⟨z, us, 0, r, Heap.get?_push_size _ rfl⟩
  exact ⟨V.ref s1.heap.objs.size, _, lay, rfl, q _ free (new_ne_sys I1)⟩

/-! ### repr -/
/-- a value that is no container, or a dict with keys and values that are none -/
inductive Fl (H : Hp) : V → PyData → Prop
  | non : Fl H .non .none
  | bl (b : Bool) : Fl H (.bl b) (.bool b)
  | int (i : Int) : Fl H (.int i) (.int i)
  | str (x : Str) : Fl H (.str x) (.str x)
  | dic0 {a : Addr} : H a = some (.dK []) → Fl H (.ref a) (.dict [])
  | dic1 {a : Addr} {i j : Int} : H a = some (.dK [(Sum.inl i, .int j)]) → Fl H (.ref a) (.dict [(.int i, .int j)])
inductive FlAll (H : Hp) : List V → List PyData → Prop
  | nil : FlAll H [] []
  | cons {v : V} {vs : List V} {d : PyData} {ds : List PyData} : Fl H v d → FlAll H vs ds → FlAll H (v :: vs) (d :: ds)
/-- what repr is asked of: data without a dict, a flat thing, a list of flat things -/
inductive Dx (K : PySem.W.Frag) (H : Hp) : V → PyData → Prop
  | dp {v : V} {d : PyData} : Dp K H v d → Dx K H v d
  | fl {v : V} {d : PyData} : Fl H v d → Dx K H v d
  | lst {a : Addr} {xs : List V} {ds : List PyData} : H a = some (.lst xs) → a ≠ sysModules → FlAll H xs ds → Dx K H (.ref a) (.list ds)

mutual
theorem dp_nodict {K : PySem.W.Frag} {H : Hp} : ∀ (d : PyData) (v : V), Dp K H v d → d.hasDict = false
  | .none, _, _ => rfl
  | .bool _, _, _ => rfl
  | .int _, _, _ => rfl
  | .str _, _, _ => rfl
  | .list ds, _, h => by
    cases h with
    | lst _ ha => exact dps_nodict ds _ ha
  | .tuple ds, _, h => by
    cases h with
    | tup _ ha => exact dps_nodict ds _ ha
  | .dict _, _, h => by cases h
theorem dps_nodict {K : PySem.W.Frag} {H : Hp} : ∀ (ds : List PyData) (vs : List V), DpAll K H vs ds → PyData.hasDictAll ds = false
  | [], _, _ => rfl
  | d :: ds, _, h => by
    cases h with
    | cons h1 h2 =>
      show (d.hasDict || PyData.hasDictAll ds) = false
      rw [dp_nodict d _ h1, dps_nodict ds _ h2]
      rfl
end

section
variable {X : Cx} {pins : List (Addr × Obj)} {σ : L2.St} {H : Hp} {s : Shared}
theorem fl_reads (I : Inv X pins σ H s) {v : V} {d : PyData} {u : Value} (h : Fl H v d) (r : RelV v u) : ∃ as, Reads s.heap u d as ∧ sysModules ∉ as := by
  cases h with
  | non =>
    cases r
    exact ⟨_, Reads.none, by simp⟩
  | bl b =>
    cases r
    exact ⟨_, Reads.bool b, by simp⟩
  | int i =>
    obtain ⟨t, rfl⟩ := r
    exact ⟨_, Reads.int i t, by simp⟩
  | str x =>
    obtain ⟨t, rfl⟩ := r
    exact ⟨_, Reads.str x t, by simp⟩
  | @dic0 a e =>
    cases r
    obtain ⟨_, ns, vs, kv, o, es, ep, ho, hx, hd, hk, hp, _⟩ := dk_of I.hok e
    cases kv
    have ne : sysModules ≠ a := fun z => by rw [← z] at ns; exact absurd ns (by decide)
    cases hes : es.toList with
    | cons e1 t1 => rw [hes] at hp; cases hp
    | nil =>
      refine ⟨_, Reads.dict (kvs := []) (as := []) (bs := []) ho hx.1 hd (by rw [hes]; exact ReadsAll.nil) (by rw [hes]; exact ReadsAll.nil), ?_⟩
      simpa using ne
  | @dic1 a i j e =>
    cases r
    obtain ⟨_, ns, vs, kv, o, es, ep, ho, hx, hd, hk, hp, _⟩ := dk_of I.hok e
    have ne : sysModules ≠ a := fun z => by rw [← z] at ns; exact absurd ns (by decide)
    cases kv with
    | @cons _ q _ _ k1 k2 =>
      cases k2
      obtain ⟨k, u⟩ := q
      obtain ⟨e1, t, e2⟩ := k1
      have e1' : Sum.inl i = k := e1
      have e2' : u = Value.int j t := e2
      subst e1' e2'
      cases hes : es.toList with
      | nil => rw [hes] at hp; cases hp
      | cons e1 t1 =>
        rw [hes] at hp
        cases hp with
        | cons p1 p3 p2 =>
          cases p2
          have p1' : keyIs (Sum.inl i) e1.key = true := p1
          rcases keyIs_shape p1' with ⟨i2, t2, w1, w2⟩ | ⟨x2, t2, w1, w2⟩
          · cases w1
            have p3' : e1.val = Value.int j t := p3
            refine ⟨_, Reads.dict (kvs := [(.int i, .int j)]) ho hx.1 hd (as := [] ++ []) (bs := [] ++ []) ?_ ?_, ?_⟩
            · rw [hes]
              show ReadsAll s.heap [e1.key] [PyData.int i] ([] ++ [])
              rw [w2]
              exact ReadsAll.cons (Reads.int i t2) ReadsAll.nil
            · rw [hes]
              show ReadsAll s.heap [e1.val] [PyData.int j] ([] ++ [])
              rw [p3']
              exact ReadsAll.cons (Reads.int j t) ReadsAll.nil
            · simpa using ne
          · cases w1
theorem flAll_reads (I : L2.Inv X pins σ H s) : ∀ {vs : List V} {ds : List PyData} {us : List Value}, FlAll H vs ds → Vals vs us → ∃ as, ReadsAll s.heap us ds as ∧ sysModules ∉ as
  | _, _, _, .nil, .nil => ⟨_, ReadsAll.nil, by simp⟩
  | _, _, _, .cons h1 h2, .cons r1 r2 => by
    obtain ⟨as, q1, n1⟩ := fl_reads I h1 r1
    obtain ⟨bs, q2, n2⟩ := flAll_reads I h2 r2
    refine ⟨_, ReadsAll.cons q1 q2, ?_⟩
    intro z
    rcases List.mem_append.mp z with z | z
    · exact n1 z
    · exact n2 z
theorem dx_reads (I : L2.Inv X pins σ H s) {v : V} {d : PyData} {u : Value} (h : Dx X.K H v d) (r : RelV v u) :
    ∃ as, Reads s.heap u d as ∧ (d.hasDict = true → sysModules ∉ as) := by
  cases h with
  | dp h =>
    obtain ⟨as, q⟩ := Dp.reads I d v u h r
    refine ⟨as, q, fun z => ?_⟩
    rw [dp_nodict d v h] at z
    cases z
  | fl h =>
    obtain ⟨as, q, n⟩ := fl_reads I h r
    exact ⟨as, q, fun _ => n⟩
  | @lst a xs ds e ne h =>
    cases r
    obtain ⟨its, rv, ⟨o, n, ho, hc, _, hd⟩, _⟩ := I.list (a := a) (xs := xs) (SqL.of e)
    obtain ⟨as, q, nn⟩ := flAll_reads I h rv
    refine ⟨_, Reads.list ho hc hd q, fun _ z => ?_⟩
    rcases List.mem_cons.mp z with z | z
    · exact ne z.symm
    · exact nn z
end

section
variable {X : Cx}
/-- repr(x) where the guards are none -/
theorem cr_repr (gs : X.A.guards = some []) (hu : X.A.units + 64 < cLine) : CallR X (.builtin "repr") (fun xs H Q => ∃ v d, xs = [v] ∧ Dx X.K H v d ∧
    d.showable = true ∧ d.depth ≤ 40 ∧ d.shown.length ≤ sizeLine ∧ Q (.str d.shown) H) := by
  intro pins s σ H xs us Q I r h
  obtain ⟨v, d, rfl, hd, sh, dep, len, q⟩ := h
  cases r with
  | @cons _ u _ _ r1 r2 =>
    cases r2
    obtain ⟨as, rd, ns⟩ := dx_reads I hd r1
    have fin : ∀ (h' : Heap) (tk u' : Nat), (∀ b o, s.heap.get? b = some o → h'.get? b = some o) → EP X pins σ Q (.str d.shown u') { s with heap := h', toks := tk } :=
      fun h' tk u' k => ⟨.str d.shown, H, I.un (t' := tk) (Un.kept k) (I.hok.kept k), ⟨_, rfl⟩, q⟩
    cases u with
    | ref a => exact repr_of_reads' rd sh ns gs (by omega) (fun _ _ z => z) (fun h' u tk k => fin h' tk u k) len
    | none => cases rd; exact PySem.P.repr_of_none (fin s.heap _ _ fun _ _ z => z)
    | bool b => cases rd; exact PySem.P.repr_of_bool (fin s.heap _ _ fun _ _ z => z)
    | int i t => cases rd; exact PySem.P.repr_of_int (by simpa [PyData.showable] using sh) (fin s.heap _ _ fun _ _ z => z)
    | str x t => cases rd; exact PySem.P.repr_of_str (fin s.heap _ _ fun _ _ z => z) len
    | _ => cases rd
end
end Par
namespace Par
open PySem PySem.Spec PyProof.Rows L2
/-! ### data stays data -/
theorem sqL_same {K : PySem.W.Frag} {H H' : Hp} {a : Addr} {xs : List V} (s : Same H H') (h : SqL K H a xs) : SqL K H' a xs := s.seq h
theorem sqT_same {K : PySem.W.Frag} {H H' : Hp} {a : Addr} {xs : List V} (s : Same H H') (h : SqT K H a xs) : SqT K H' a xs := by
  rcases h with (h | ⟨o, h⟩) | h
  · exact .inl (.inl (s _ _ h))
  · exact .inl (.inr ⟨o, s _ _ h⟩)
  · exact .inr h
mutual
theorem dp_same {K : PySem.W.Frag} {H H' : Hp} (s : Same H H') : ∀ (d : PyData) (v : V), Dp K H v d → Dp K H' v d
  | .none, _, h => by cases h; exact .non
  | .bool b, _, h => by cases h; exact .bl b
  | .int i, _, h => by cases h; exact .int i
  | .str x, _, h => by cases h; exact .str x
  | .list ds, _, h => by
    cases h with
    | lst q ha => exact .lst (sqL_same s q) (dps_same s ds _ ha)
  | .tuple ds, _, h => by
    cases h with
    | tup q ha => exact .tup (sqT_same s q) (dps_same s ds _ ha)
  | .dict _, _, h => by cases h
theorem dps_same {K : PySem.W.Frag} {H H' : Hp} (s : Same H H') : ∀ (ds : List PyData) (vs : List V), DpAll K H vs ds → DpAll K H' vs ds
  | [], _, h => by cases h; exact .nil
  | d :: ds, _, h => by
    cases h with
    | cons h1 h2 => exact .cons (dp_same s d _ h1) (dps_same s ds _ h2)
end
theorem fl_same {H H' : Hp} (s : Same H H') {v : V} {d : PyData} (h : Fl H v d) : Fl H' v d := by
  cases h with
  | non => exact .non
  | bl b => exact .bl b
  | int i => exact .int i
  | str x => exact .str x
  | dic0 e => exact .dic0 (s _ _ e)
  | dic1 e => exact .dic1 (s _ _ e)
/-- a thing that is handed in: flat, a dict, or a list or tuple of data -/
inductive Giv (K : PySem.W.Frag) (H : Hp) : V → PyData → Prop
  | fl {v : V} {d : PyData} : Fl H v d → Giv K H v d
  | lst {a : Addr} {xs : List V} {ds : List PyData} : H a = some (.lst xs) → DpAll K H xs ds → xs.length ≤ 200 → Giv K H (.ref a) (.list ds)
  | tup {a : Addr} {xs : List V} {ds : List PyData} : H a = some (.tup xs) → DpAll K H xs ds → xs.length ≤ 200 → Giv K H (.ref a) (.tuple ds)
theorem giv_same {K : PySem.W.Frag} {H H' : Hp} (s : Same H H') {v : V} {d : PyData} (h : Giv K H v d) : Giv K H' v d := by
  cases h with
  | fl f => exact .fl (fl_same s f)
  | lst e q l => exact .lst (s _ _ e) (dps_same s _ _ q) l
  | tup e q l => exact .tup (s _ _ e) (dps_same s _ _ q) l
theorem giv_dx {K : PySem.W.Frag} {H : Hp} {v : V} {d : PyData} (h : Giv K H v d) : Dx K H v d := by
  cases h with
  | fl f => exact .fl f
  | lst e q _ => exact .dp (.lst (SqL.of e) q)
  | tup e q _ => exact .dp (.tup (SqT.of e) q)
theorem dps_ints {K : PySem.W.Frag} {H : Hp} : ∀ ns : List Int, DpAll K H (ns.map V.int) (ns.map PyData.int)
  | [] => .nil
  | n :: ns => .cons (.int n) (dps_ints ns)
theorem dps_bools {K : PySem.W.Frag} {H : Hp} : ∀ bs : List Bool, DpAll K H (bs.map V.bl) (bs.map PyData.bool)
  | [] => .nil
  | n :: ns => .cons (.bl n) (dps_bools ns)
theorem dps_append {K : PySem.W.Frag} {H : Hp} : ∀ {xs ys : List V} {ds es : List PyData}, DpAll K H xs ds → DpAll K H ys es → DpAll K H (xs ++ ys) (ds ++ es)
  | _, _, _, _, .nil, h => h
  | _, _, _, _, .cons h1 h2, h => .cons h1 (dps_append h2 h)

/-! ### what is shown is short -/
def small (d : PyData) : Prop := d.showable = true ∧ d.depth ≤ 4 ∧ d.shown.length ≤ 200
def good (d : PyData) : Prop := d.showable = true ∧ d.depth ≤ 8 ∧ d.shown.length ≤ 200000
theorem log_lt {n k : Nat} (h : n < 2 ^ k) (hk : 0 < k) : n.log2 < k := by
  by_cases h0 : n = 0
  · subst h0
    exact hk
  · exact (Nat.log2_lt h0).mpr h
theorem small_int {i : Int} (h : i.natAbs < 2 ^ 100) : small (.int i) := by
  have h1 := log_lt h (by decide)
  refine ⟨?_, Nat.zero_le _, ?_⟩
  · show decide (i.natAbs.log2 < 1920) = true
    exact decide_eq_true (by omega)
  · show (Str.ofString (toString i)).length ≤ 200
    have h2 := int_text_length_le (a := i) (k := 100) (by decide) h1
    rw [PySem.ofString_length]
    omega
theorem small_bool (b : Bool) : small (.bool b) := by cases b <;> exact ⟨by decide, by decide, by decide +kernel⟩
theorem small_good {d : PyData} (h : small d) : good d := ⟨h.1, by have := h.2.1; omega, by have := h.2.2; omega⟩
theorem showAll {ds : List PyData} : (∀ d ∈ ds, d.showable = true) → PyData.showableAll ds = true := by
  induction ds with
  | nil => intro _; rfl
  | cons d ds ih =>
    intro h
    show (d.showable && PyData.showableAll ds) = true
    rw [h d (List.mem_cons_self ..), ih fun e he => h e (List.mem_cons_of_mem _ he)]
    rfl
theorem depthAll {ds : List PyData} {n : Nat} : (∀ d ∈ ds, d.depth ≤ n) → PyData.depthAll ds ≤ n := by
  induction ds with
  | nil => intro _; exact Nat.zero_le _
  | cons d ds ih =>
    intro h
    show max d.depth (PyData.depthAll ds) ≤ n
    have h1 := h d (List.mem_cons_self ..)
    have h2 := ih fun e he => h e (List.mem_cons_of_mem _ he)
    omega
theorem piledAll {ds : List PyData} {n : Nat} : (∀ d ∈ ds, d.shown.length ≤ n) → piled (PyData.shownAll ds) ≤ ds.length * (n + 2) := by
  induction ds with
  | nil => intro _; show 0 ≤ _; exact Nat.zero_le _
  | cons d ds ih =>
    intro h
    show piled (d.shown :: PyData.shownAll ds) ≤ _
    rw [piled_cons, List.length_cons, Nat.add_mul]
    have h1 := h d (List.mem_cons_self ..)
    have h2 := ih fun e he => h e (List.mem_cons_of_mem _ he)
    omega
theorem listText_le : ∀ ts : List Str, (listText ts).length ≤ piled ts + 2
  | [] => by
    rw [listText_nil]
    show Str.length (Str.ofString "[]") ≤ 2
    decide +kernel
  | t :: ts => by
    have h := textFrom_length_pos ts 1 (Str.ofString "[" ++ Str.ofString "" ++ t) (by decide)
    have e1 : (Str.ofString "[" ++ Str.ofString "" ++ t).length = 1 + t.length := by
      rw [strLen_append, strLen_append]
      rfl
    have e2 : (listText (t :: ts)).length = (textFrom 1 (Str.ofString "[" ++ Str.ofString "" ++ t) ts).length + 1 := strLen_append _ _
    rw [e2, h, e1, piled_cons]
    omega
theorem tupleText_le (ts : List Str) : (tupleText ts).length ≤ piled ts + 4 := by
  have e1 : (Str.ofString "(").length = 1 := by decide +kernel
  have e3 : (Str.ofString (if ts.length == 1 then ",)" else ")")).length ≤ 2 := by split <;> decide +kernel
  have e4 : (tupleText ts).length = (Str.ofString "(").length + (Str.join ", " ts).length + (Str.ofString (if ts.length == 1 then ",)" else ")")).length := by
    unfold tupleText
    rw [strLen_append, strLen_append]
  by_cases h : ts = []
  · subst h
    decide +kernel
  · have := join_length_add ts h
    omega
theorem good_list {ds : List PyData} (h : ∀ d ∈ ds, small d) (hl : ds.length ≤ 300) : good (.list ds) := by
  refine ⟨showAll fun d hd => (h d hd).1, ?_, ?_⟩
  · show PyData.depthAll ds + 1 ≤ 8
    have := depthAll (n := 4) fun d hd => (h d hd).2.1
    omega
  · show (listText (PyData.shownAll ds)).length ≤ 200000
    have h1 := listText_le (PyData.shownAll ds)
    have h2 := piledAll (n := 200) fun d hd => (h d hd).2.2
    have h3 : ds.length * (200 + 2) ≤ 300 * (200 + 2) := Nat.mul_le_mul_right _ hl
    omega
theorem good_tuple {ds : List PyData} (h : ∀ d ∈ ds, small d) (hl : ds.length ≤ 300) : good (.tuple ds) := by
  refine ⟨showAll fun d hd => (h d hd).1, ?_, ?_⟩
  · show PyData.depthAll ds + 1 ≤ 8
    have := depthAll (n := 4) fun d hd => (h d hd).2.1
    omega
  · show (tupleText (PyData.shownAll ds)).length ≤ 200000
    have h1 := tupleText_le (PyData.shownAll ds)
    have h2 := piledAll (n := 200) fun d hd => (h d hd).2.2
    have h3 : ds.length * (200 + 2) ≤ 300 * (200 + 2) := Nat.mul_le_mul_right _ hl
    omega
/-- a short list of good things can be shown -/
theorem shown_list {ds : List PyData} (h : ∀ d ∈ ds, good d) (hl : ds.length ≤ 8) : (PyData.list ds).showable = true ∧ (PyData.list ds).depth ≤ 40 ∧ (PyData.list ds).shown.length ≤ sizeLine := by
  refine ⟨showAll fun d hd => (h d hd).1, ?_, ?_⟩
  · show PyData.depthAll ds + 1 ≤ 40
    have := depthAll (n := 8) fun d hd => (h d hd).2.1
    omega
  · show (listText (PyData.shownAll ds)).length ≤ sizeLine
    have h1 := listText_le (PyData.shownAll ds)
    have h2 := piledAll (n := 200000) fun d hd => (h d hd).2.2
    have h3 : ds.length * (200000 + 2) ≤ 8 * (200000 + 2) := Nat.mul_le_mul_right _ hl
    rw [sizeLine_eq]
    omega
theorem shown_good {d : PyData} (h : good d) : d.showable = true ∧ d.depth ≤ 40 ∧ d.shown.length ≤ sizeLine := by
  obtain ⟨h1, h2, h3⟩ := h
  refine ⟨h1, by omega, ?_⟩
  rw [sizeLine_eq]
  omega
end Par
namespace Par
open PySem PySem.Spec PyProof.Rows L2
/-- a statement that is never reached -/
theorem ps_off {X : Cx} {st : Stmt} : PS X st (fun _ _ _ => False) := ⟨fun _ _ _ _ _ _ h => h.elim⟩
/-- o.m(k = v, ..) -/
def tMethK (C : Addr) (m : Str) (n : Nat) (sp : Sp) (gV : List V → List V → List V) (E : XK) (ta : TE) (tk : TA) : TE := fun σ H Q => ta σ H fun x H1 => ∃ a dx fs, x = .ref a ∧ H1 a = some (.ins C dx fs) ∧ fs.lookup m = none ∧
  tk σ H1 fun zs H2 => zs.length = n ∧ sp (gV [x] zs) H2 Q E
section
variable {X : Cx} {CX : CXT} {k : Nat} {f C : Addr} {fd : FuncData} {ps ks : List Str} {sp : Sp} {E : XK} {x m : Str} {p pos apos : Pos} {e o : Expr} {es : List Expr} {kws : List Keyword} {ta : TE} {t tk : TA}
  {g : List Value → List Value → List Value} {gV : List V → List V → List V}
theorem pe_methK {pl : Sem Bool} (he : PE X o ta) (c : Cls X.K C) (hm : Meth X.K C m f) (F : FnOk X.prog X.w X.K X.mg X.base CX k f fd ps sp) (hr : Room k X.A) (hb : KBn X.K fd ps 1 ks g gV) (hx : Passes CX X E) (hkw : PK X kws tk)
    (hall : (backToKw pos (keywordEach kws X.env)).all (·.1.isSome) = true := by rfl) (hks : (backToKw pos (keywordEach kws X.env)).filterMap (·.1) = ks := by rfl)
    (hpl : ((backTo pos (starEach [] X.env)).any (·.1) || (backToKw pos (keywordEach kws X.env)).any (·.1.isNone)) = false := by rfl)
    (ht : eval (.Call (.Attribute o m apos) [] kws pos) X.env = (do
      let ov ← eval o X.env
      standAt apos.atName
      let (f, first) ← holding [ov] (getMethod ov m pl)
      callWith pos f first (backTo pos (starEach [] X.env)) (backToKw pos (keywordEach kws X.env))) := by rfl) :
    PE X (.Call (.Attribute o m apos) [] kws pos) (tMethK C m ks.length sp gV E ta tk) := by
  refine ⟨fun pins s σ H Q I h => ?_⟩
  refine PySem.W.methodCall_KW (pl := pl) (thn (he.run pins s σ H _ I h) ?_) ht
  rintro u s1 ⟨x, H1, I1, rx, a, dx, fs, ex, ea, l, q⟩
  subst ex
  obtain rfl : u = Value.ref a := rx
  refine getmeth_ok I1 ea c hm l ?_
  refine PySem.W.callWith_KW0 (first := [.ref a]) (h₀ := X.base) I.ok.mod.kin hm.kp hall ?_ hpl
  refine thn (hkw.run pos pins s1 σ H1 _ I1 q) ?_
  rintro ws s2 ⟨zs, H2, I2, rz, l2, q2⟩
  refine ⟨I2.kIn, ?_⟩
  rw [hks]
  have r1 : Vals [V.ref a] ([.ref a] ++ []) := .cons rfl .nil
  refine wpAny_call (codeAny_mono (F.run X.A X.stack s2 H2 ⟨[.ref a] ++ [], ks.zip ws⟩ (g [.ref a] ws) (gV [.ref a] zs) Q E hr I2.env0
    (hb.to s2 [.ref a] ws I2.kIn rfl (rz.length.symm.trans l2)) (hb.rel r1 rz) q2) ?_)
  intro res s3 hq
  cases res with
  | error er => exact hx pins σ H2 s2 er s3 I2 hq
  | ok fl =>
    cases fl with
    | ret u => exact I2.after hq
    | next => exact False.elim hq
    | brk => exact False.elim hq
    | cont => exact False.elim hq
/-- len(o), o an own instance whose class has __len__ -/
theorem cr_lenOwn (c : PySem.W.findIn X.K (.ref C) "__len__" = some (some (.ref f))) (hf : PySem.W.isFn X.K (.ref f) = true) (F : FnOk X.prog X.w X.K X.mg X.base CX k f fd ps sp) (hr : Room (k + 1) X.A) (hb : Binds X.K fd ps []) (hx : Passes CX X E) :
    CallR X (.builtin "len") (fun vs H Q => ∃ a dx fs, vs = [.ref a] ∧ H a = some (.ins C dx fs) ∧ sp [.ref a] H (fun v H2 => ∃ n : Int, v = .int n ∧ 0 ≤ n ∧ n < 2 ^ 63 ∧ Q (.int n) H2) E) := by
  intro pins s σ H vs us Q I r h
  obtain ⟨a, dx, fs, rfl, ha, q⟩ := h
  rw [Vals.ref1 r]
  obtain ⟨mA, O, _⟩ := ins_get I.hok ha
  obtain ⟨od, J, hl⟩ := O.look
  refine Calls.call_function_entry kind_len plain_len entry_len (args_len1 _) ?_
  unfold Builtin.«len»
  refine wpAny_bind (m := oneArg "len" _) (wpAny_pure ?_)
  refine wpAny_bind (m := callSpecial? (.ref a) (Str.ofString "__len__")) (PySem.W.special_fn I.kIn J c (beq_iff_eq.mp hf) ?_)
  have hlen : ([Value.ref a] ++ []).length = ps.length := F.len _ _ _ _ q
  refine wpAny_call (codeAny_mono (F.run X.A.in1 X.stack s H ⟨[.ref a], []⟩ [.ref a] [.ref a] _ E hr.in1 I.env0.in1 (hb s [.ref a] I.kIn hlen) (.cons rfl .nil) q) ?_)
  intro res s3 hq
  cases res with
  | error er => exact hx pins σ H s er s3 I hq
  | ok fl =>
    cases fl with
    | next => exact False.elim hq
    | brk => exact False.elim hq
    | cont => exact False.elim hq
    | ret u =>
      obtain ⟨v, H3, I3, rv, n, rfl, n0, n1, q3⟩ := I.after hq
      obtain ⟨tk, rfl⟩ := rv
      refine wpAny_bind (wpAny_holding (wpAny_pure ?_))
      refine wpAny_bind (wpAny_letGo ?_)
      show wpAny _ _ (if n < 0 then _ else _) _ _ _
      rw [if_neg (by omega)]
      show wpAny _ _ (if n ≥ 2 ^ 63 then _ else _) _ _ _
      rw [if_neg (by omega)]
      exact wpAny_bind (wpAny_mkInt (wpAny_pure ⟨_, rfl, .int n, H3, I3.tok _, ⟨_, rfl⟩, q3⟩))
end
end Par
namespace K17
open PySem PySem.Spec PyProof.Rows L2 Par
def topS (i : Nat) : Stmt := PySem.Challenge.pw_paritycells_k17_three_simple_flips.main.body.getD i (.Pass ⟨0, 0, 0, 0⟩)
abbrev sInteger : Stmt := topS 10
abbrev sBetween : Stmt := topS 11
abbrev sIsSize : Stmt := topS 14
abbrev sIsCell : Stmt := topS 15
abbrev sAre : Stmt := topS 16
abbrev sCells : Stmt := topS 17
abbrev sAdded : Stmt := topS 18
abbrev sPot : Stmt := topS 32
abbrev sDraw : Stmt := topS 33
abbrev sBits : Stmt := topS 34
abbrev sUp : Stmt := topS 35
abbrev sShare : Stmt := topS 19
abbrev sApply : Stmt := topS 28
abbrev sFit : Stmt := topS 27
abbrev sLaw : Stmt := topS 44
abbrev sMade : Stmt := topS 36
abbrev sIsSo : Stmt := topS 37
abbrev sMet : Stmt := topS 40
abbrev sWritten : Stmt := topS 20
abbrev slAnyThing : Stmt := topS 38
abbrev slIsInt : Stmt := topS 39
abbrev slOne : Stmt := topS 41
abbrev slDue : Stmt := topS 42
abbrev slEffectsRight : Stmt := topS 43
abbrev mInit : Stmt := inClass (topS 30) 0
abbrev mEq : Stmt := inClass (topS 30) 1
abbrev mLen : Stmt := inClass (topS 30) 2
abbrev mRepr : Stmt := inClass (topS 30) 3
abbrev mStr : Stmt := inClass (topS 30) 4
abbrev mSize : Stmt := inClass (topS 30) 5
abbrev mUps : Stmt := inClass (topS 30) 6
abbrev mIsUp : Stmt := inClass (topS 30) 7
abbrev mPar : Stmt := inClass (topS 30) 8
abbrev mTog : Stmt := inClass (topS 30) 9
abbrev gInit : Stmt := inClass (topS 22) 0
abbrev gEq : Stmt := inClass (topS 22) 1
abbrev gRepr : Stmt := inClass (topS 22) 2
abbrev gStr : Stmt := inClass (topS 22) 3
abbrev gTested : Stmt := inClass (topS 22) 4
abbrev gToggled : Stmt := inClass (topS 22) 5
abbrev gIdle : Stmt := inClass (topS 22) 6
abbrev gWidth : Stmt := inClass (topS 22) 7
abbrev sWIni : Stmt := inClass (topS 8) 0
/-- the built-in names that the module leaves alone -/
structure Bl (mg : Str → Option Value) : Prop where
  len : mg "len" = none
  abs : mg "abs" = none
  max : mg "max" = none
  min : mg "min" = none
  divmod : mg "divmod" = none
  list : mg "list" = none
  tuple : mg "tuple" = none
  range : mg "range" = none
  isinstance : mg "isinstance" = none
  bool : mg "bool" = none
  int : mg "int" = none
  sorted : mg "sorted" = none
  set : mg "set" = none
  all : mg "all" = none
  enumerate : mg "enumerate" = none
  repr : mg "repr" = none
  sum : mg "sum" = none

/-! ### the pot: two numbers that are not negative, the second one small -/
def PotAt (H : Hp) (p : Addr) : Prop := ∃ a b : Int, H p = some (.lst [.int a, .int b]) ∧ 0 ≤ a ∧ 0 ≤ b ∧ b < 2147483648
/-- all but what stands at p is as it was -/
def But (p : Addr) (H H' : Hp) : Prop := ∀ b o, b ≠ p → H b = some o → H' b = some o
theorem But.refl (p : Addr) (H : Hp) : But p H H := fun _ _ _ h => h
theorem But.trans {p : Addr} {H H1 H2 : Hp} (a : But p H H1) (b : But p H1 H2) : But p H H2 := fun c o n h => b c o n (a c o n h)
theorem But.upd {p : Addr} {H : Hp} (o : HO) : But p H (L2.upd H p o) := fun b u n h => by rw [upd_ne n]; exact h
theorem But.new {p q : Addr} {H : Hp} {o : HO} (n : H q = none) : But p H (L2.upd H q o) := fun b u _ h => by rw [upd_ne (ne_of_none h n)]; exact h
theorem But.same {p : Addr} {H H' : Hp} (h : Same H H') : But p H H' := fun b o _ e => h b o e
theorem PotAt.same {p : Addr} {H H' : Hp} (x : PotAt H p) (s : Same H H') : PotAt H' p := by
  obtain ⟨a, b, e, r⟩ := x
  exact ⟨a, b, s _ _ e, r⟩
theorem same_new {H : Hp} {q : Addr} {o : HO} (n : H q = none) : Same H (upd H q o) := fun b u h => by
  rw [upd_ne (ne_of_none h n)]
  exact h
theorem But.free {p q : Addr} {H H' : Hp} (h : But p H H') (x : PotAt H p) (n : H' q = none) (x' : PotAt H' p) : H q = none := by
  cases e : H q with
  | none => rfl
  | some o =>
    by_cases z : q = p
    · subst z
      obtain ⟨_, _, e', _⟩ := x'
      rw [n] at e'
      cases e'
    · rw [h q o z e] at n
      cases n

section
variable {P : Program} {w : World} {K : PySem.W.Frag} {mg : Str → Option Value} {base : Heap}

def spPot (K : PySem.W.Frag) : Sp := fun vs H Q _ => ∃ (a : Addr) (ns : List Int) (k : Nat), vs = [.ref a, .int (k : Int)] ∧ SqL K H a (ns.map V.int) ∧ k ≤ 1000 ∧
  ∀ p H', H p = none → Same H H' → PotAt H' p → Q (.ref p) H'
theorem scPot : FnScope ["_law_script", "_law_k", "_law_digits"] ["_law_script", "_law_k"] (defScope sPot) := ⟨rfl, rfl, rfl, by decide +kernel, rfl, by decide +kernel, by decide +kernel⟩
theorem ok_pot {f : Addr} {fd : FuncData} (F : Fun K "_law_pot" "_law_pot" sPot f fd) (B : Bl mg) : FnOk P w K mg base CX0 2 f fd ["_law_script", "_law_k"] (spPot K) := by
  refine F.ok scPot (fun vs H Q E h => ?_) (fun cdv A outer s H vs Q E hr h => ?_)
  · obtain ⟨a, ns, k, rfl, _⟩ := h
    rfl
  · obtain ⟨a, ns, k, rfl, hS, hk, out⟩ := h
    refine ⟨_, pss_cons (ps_set (i := 2) scPot.nd rfl (Or.inl rfl) (pe_ifExp (pt_cmpR op_lt (pv 1) (pe_callB call_len_seq (by rfl) B.len PySem.boot_len (pa_cons (pv 0) pa_nil)) (nomark _)) (pe_ix ix_list (pv 0) (pv 1) (fun _ _ => rfl)) pe_int))
      (pss_one (ps_ret (pe_lst (pa_cons
        (pe_callB (call_max2 rfl) (by rfl) B.max (by decide +kernel) (pa_cons pe_int (pa_cons (pe_op op_sub (pe_callB call_abs (by rfl) B.abs (by decide +kernel) (pa_cons (pv 2) pa_nil)) (pe_op op_pow pe_int pe_int)) pa_nil)))
        (pa_cons (pe_op op_mod (pe_op op_add (pe_op op_add (pe_op op_mul (pe_op op_mod (pe_callB call_abs (by rfl) B.abs (by decide +kernel) (pa_cons (pv 2) pa_nil)) pe_int) pe_int) (pe_op op_mul pe_int (pv 1))) pe_int) pe_int) pa_nil))))), ?_⟩
    have hm : ∀ d : Int, (0 : Int) ≤ (if d < 0 then -d else d) % 2147483587 ∧ (if d < 0 then -d else d) % 2147483587 < 2147483587 := fun d => ⟨Int.emod_nonneg _ (by decide), Int.emod_lt_of_pos _ (by decide)⟩
    have two : ∀ x : Int, 0 ≤ (if x > 0 then x else 0) := fun x => by split <;> omega
    have fin : ∀ d : Int, ∀ p, H p = none → Q (.ref p) (upd H p (.lst [.int (if (if d < 0 then -d else d) - 10 ^ 18 > 0 then (if d < 0 then -d else d) - 10 ^ 18 else 0),
        .int (((if d < 0 then -d else d) % 2147483587 * 48271 + 60013 * (k : Int) + 29) % 2147483647)])) := by
      intro d p hp
      refine out p _ hp (same_new hp) ⟨_, _, upd_same, two _, Int.emod_nonneg _ (by decide), ?_⟩
      have := Int.emod_lt_of_pos ((if d < 0 then -d else d) % 2147483587 * 48271 + 60013 * (k : Int) + 29) (b := 2147483647) (by decide)
      omega
    refine ⟨_, rfl, _, rfl, a, _, rfl, .inl hS, _, _, rfl, rfl, _, rfl, ?_⟩
    refine ite2 (fun hlt => ?_) (fun _ => ?_)
    · have hlt2 : (k : Int) < ((ns.map V.int).length : Int) := of_decide_eq_true hlt
      rw [List.length_map] at hlt2
      have hk2 : k < ns.length := by omega
      refine ⟨_, rfl, _, rfl, a, _, _, .int ns[k], rfl, rfl, hS, atI_nat (by simp [hk2]), ?_⟩
      refine ⟨_, rfl, _, rfl, 10, 18, rfl, rfl, ⟨by decide, by decide, by decide⟩, _, _, rfl, rfl, 0, _, rfl, ?_⟩
      refine ⟨_, rfl, _, rfl, _, _, rfl, rfl, (by show (0 : Int) < _; decide), _, _, rfl, rfl, .inl ⟨by have := hm ns[k]; omega, by have := hm ns[k]; omega⟩, _, rfl, 60013, _, rfl, rfl, .inl ⟨by decide, by decide⟩, _, _, rfl, rfl, _, _, rfl, rfl, _, _, rfl, rfl, (by show (0 : Int) < _; decide), ?_⟩
      exact ⟨(by show 2 ≤ sizeLine; decide), fin ns[k]⟩
    · refine ⟨_, rfl, _, rfl, 10, 18, rfl, rfl, ⟨by decide, by decide, by decide⟩, _, _, rfl, rfl, 0, _, rfl, ?_⟩
      refine ⟨_, rfl, _, rfl, _, _, rfl, rfl, (by show (0 : Int) < _; decide), _, _, rfl, rfl, .inl ⟨by have := hm 0; omega, by have := hm 0; omega⟩, _, rfl, 60013, _, rfl, rfl, .inl ⟨by decide, by decide⟩, _, _, rfl, rfl, _, _, rfl, rfl, _, _, rfl, rfl, (by show (0 : Int) < _; decide), ?_⟩
      exact ⟨(by show 2 ≤ sizeLine; decide), fin 0⟩

/-- one draw: a digit below many; the pot goes on -/
def spDraw : Sp := fun vs H Q _ => ∃ (p : Addr) (m : Int), vs = [.ref p, .int m] ∧ PotAt H p ∧ 0 < m ∧ m < 1073741824 ∧
  ∀ d H', 0 ≤ d → d < m → But p H H' → PotAt H' p → Q (.int d) H'
theorem scDraw : FnScope ["_law_pot_here", "_law_many", "_law_digit"] ["_law_pot_here", "_law_many"] (defScope sDraw) := ⟨rfl, rfl, rfl, by decide +kernel, rfl, by decide +kernel, by decide +kernel⟩
theorem ok_draw {f : Addr} {fd : FuncData} (F : Fun K "_law_draw" "_law_draw" sDraw f fd) (B : Bl mg) : FnOk P w K mg base CX0 2 f fd ["_law_pot_here", "_law_many"] spDraw := by
  refine F.ok scDraw (fun vs H Q E h => ?_) (fun cdv A outer s H vs Q E hr h => ?_)
  · obtain ⟨p, m, rfl, _⟩ := h
    rfl
  · obtain ⟨p, m, rfl, ⟨a, b, hp, ha, hb, hb2⟩, hm, hm2, out⟩ := h
    refine ⟨_, pss_cons (ps_if (pt_cmpR op_gt (pe_ix ix_list (pv 0) pe_int (fun _ _ => rfl)) pe_int (nomark _))
        (pss_cons (ps_asg (pe_callB call_divmod (by rfl) B.divmod (by decide +kernel) (pa_cons (pe_ix ix_list (pv 0) pe_int (fun _ _ => rfl)) (pa_cons (pv 1) pa_nil))) (pg_tup rfl (pgs_cons (pg_sub (pv 0) pe_int set_list) (pgs_cons (pg_name (i := 2) scDraw.nd rfl (Or.inl rfl)) pgs_nil))))
          (pss_one (ps_ret (pv 2)))) pss_nil)
      (pss_cons (ps_asg (pe_op op_mod (pe_op op_add (pe_op op_mul (pe_ix ix_list (pv 0) pe_int (fun _ _ => rfl)) pe_int) pe_int) pe_int) (pg_sub (pv 0) pe_int set_list))
      (pss_one (ps_ret (pe_op op_mod (pe_op op_fdiv (pe_op op_mod (pe_op op_mul (pe_ix ix_list (pv 0) pe_int (fun _ _ => rfl)) (pe_ix ix_list (pv 0) pe_int (fun _ _ => rfl))) pe_int) pe_int) (pv 1))))), ?_⟩
    have hL : SqL K H p [.int a, .int b] := SqL.of hp
    refine ⟨_, rfl, p, _, 0, .int a, rfl, rfl, hL, rfl, a, 0, rfl, rfl, _, rfl, ?_⟩
    refine ite2 (fun hpos => ?_) (fun hneg => ?_)
    · refine ⟨_, rfl, p, _, 0, .int a, rfl, rfl, hL, rfl, _, rfl, a, m, rfl, ⟨hm, hm2⟩, fun q hq => ?_⟩
      have hne : p ≠ q := ne_of_none hp hq
      have hT : SqT K (upd H q (.tup [.int (a / m), .int (a % m)])) q [.int (a / m), .int (a % m)] := SqT.of upd_same
      have hp2 : (upd H q (.tup [.int (a / m), .int (a % m)])) p = some (.lst [.int a, .int b]) := by
        rw [upd_ne hne]
        exact hp
      refine ⟨q, _, rfl, hT, rfl, _, _, rfl, _, rfl, p, _, 0, 0, rfl, rfl, hp2, rfl, _, _, rfl, rfl, _, rfl, ?_⟩
      exact out (a % m) _ (Int.emod_nonneg _ (by omega)) (Int.emod_lt_of_pos _ hm) ((But.new hq).trans (But.upd _)) ⟨a / m, b, upd_same, Int.ediv_nonneg ha (by omega), hb, hb2⟩
    · have h0 : (0 : Int) ≤ (b * 39373 + 12227) % 2147483629 := Int.emod_nonneg _ (by decide)
      have h1 : (b * 39373 + 12227) % 2147483629 < 2147483629 := Int.emod_lt_of_pos _ (by decide)
      refine ⟨_, rfl, p, _, 1, .int b, rfl, rfl, hL, rfl, b, 39373, rfl, rfl, .inl ⟨by omega, by omega⟩, _, _, rfl, rfl, _, _, rfl, rfl, (by show (0 : Int) < _; decide), _, rfl, p, _, 1, 1, rfl, rfl, hp, rfl, ?_⟩
      have hL2 : SqL K (upd H p (.lst [.int a, .int ((b * 39373 + 12227) % 2147483629)])) p [.int a, .int ((b * 39373 + 12227) % 2147483629)] := SqL.of upd_same
      refine ⟨_, rfl, p, _, 1, _, rfl, rfl, hL2, rfl, _, rfl, p, _, 1, _, rfl, rfl, hL2, rfl, _, _, rfl, rfl, .inl ⟨by omega, by omega⟩, _, _, rfl, rfl, (by show (0 : Int) < _; decide), _, _, rfl, rfl, ⟨by decide, by decide⟩, _, rfl, _, m, rfl, rfl, hm, ?_⟩
      exact out _ _ (Int.emod_nonneg _ (by omega)) (Int.emod_lt_of_pos _ hm) (But.upd _) ⟨a, _, upd_same, ha, h0, by omega⟩
end
end K17
namespace K17
open PySem PySem.Spec PyProof.Rows L2 Par
section
variable {P : Program} {w : World} {K : PySem.W.Frag} {mg : Str → Option Value} {base : Heap}
/-- a def of the module that raises nothing -/
def Has (P : Program) (w : World) (K : PySem.W.Frag) (mg : Str → Option Value) (base : Heap) (x : Str) (lv : Nat) (ps : List Str) (sp : Sp) : Prop :=
  ∃ f fd, FnOk P w K mg base CX0 lv f fd ps sp ∧ mg x = some (.ref f) ∧ PySem.W.keepIn K (.ref f) = true ∧ Binds K fd ps []

end
end K17
namespace K17
open PySem PySem.Spec PyProof.Rows L2 Par
theorem perm_erase : ∀ {l : List Int} {i : Nat} {x : Int}, l[i]? = some x → (x :: l.eraseIdx i).Perm l
  | [], i, x, h => by simp at h
  | a :: l, 0, x, h => by
    have e : a = x := by simpa using h
    subst e
    exact List.Perm.refl _
  | a :: l, i + 1, x, h => by
    have h2 : l[i]? = some x := by simpa using h
    have ih := perm_erase h2
    show (x :: a :: l.eraseIdx i).Perm (a :: l)
    exact (List.Perm.swap a x _).trans (ih.cons a)
/-- what len of a list or tuple asks -/
def rLenQ (K : PySem.W.Frag) : List V → Hp → VK → Prop := fun xs H Q => ∃ p ys, xs = [.ref p] ∧ (SqL K H p ys ∨ SqT K H p ys) ∧ Q (.int ys.length) H
theorem map_eraseIdx : ∀ (l : List Int) (i : Nat), (l.map V.int).eraseIdx i = (l.eraseIdx i).map V.int
  | [], _ => rfl
  | _ :: _, 0 => rfl
  | a :: l, i + 1 => by
    show V.int a :: (l.map V.int).eraseIdx i = V.int a :: (l.eraseIdx i).map V.int
    rw [map_eraseIdx l i]
theorem yesT {σ : L2.St} {H : Hp} {A B : Hp → Prop} (h : A H) : tYes σ H (fun b H3 => if b = true then A H3 else B H3) := by
  unfold tYes
  show (if true = true then A H else B H)
  rw [if_pos rfl]
  exact h
section
variable {P : Program} {w : World} {K : PySem.W.Frag} {mg : Str → Option Value} {base : Heap}
end
end K17
namespace K17
open PySem PySem.Spec PyProof.Rows L2 Par
theorem sq_ty {K : PySem.W.Frag} {H : Hp} {a : Addr} {xs : List V} (h : SqL K H a xs) : TyX K H (.ref a) (.type "list") := by
  rcases h with (h | ⟨o, h⟩) | ⟨o, its, n, hk, hc, _⟩
  · exact .base (.lst h)
  · exact .base (.frz h)
  · exact .kList hk hc
theorem sqt_ty {K : PySem.W.Frag} {H : Hp} {a : Addr} {xs : List V} (h : SqT K H a xs) : TyX K H (.ref a) (.type "tuple") := by
  rcases h with (h | ⟨o, h⟩) | ⟨o, its, n, hk, hc, _⟩
  · exact .base (.tup h)
  · exact .fTuple h
  · exact .kTuple hk hc
/-- a list or tuple of xs -/
def Sq (K : PySem.W.Frag) (H : Hp) (a : Addr) (xs : List V) : Prop := SqL K H a xs ∨ SqT K H a xs
section
variable {P : Program} {w : World} {K : PySem.W.Frag} {mg : Str → Option Value} {base : Heap}
theorem kit_seq {n : String} (h : n = "list" ∨ n = "tuple") : PySem.W.kitAny K (.type n) [.type "list", .type "tuple"] = some true := by
  rcases h with rfl | rfl
  · exact kitAny_cons (b := true) (kit_ty (by decide +kernel)) (fun z => nomatch z) (fun _ => rfl)
  · exact kitAny_cons (b := false) (kit_ty (by decide +kernel)) (fun _ => kitAny_cons (b := true) (kit_ty (by decide +kernel)) (fun z => nomatch z) (fun _ => rfl)) (fun z => nomatch z)
theorem same_sq {H H' : Hp} {a : Addr} {xs : List V} (s : Same H H') (h : SqL K H a xs) : SqL K H' a xs := s.seq h
theorem same_sqt {H H' : Hp} {a : Addr} {xs : List V} (s : Same H H') (h : SqT K H a xs) : SqT K H' a xs := by
  rcases h with (h | ⟨o, h⟩) | h
  · exact .inl (.inl (s _ _ h))
  · exact .inl (.inr ⟨o, s _ _ h⟩)
  · exact .inr h
theorem same_tyx {H H' : Hp} {v : V} {t : Value} (s : Same H H') (h : TyX K H v t) : TyX K H' v t := by
  cases h with
  | base b =>
    refine .base ?_
    cases b with
    | non => exact .non
    | bl y => exact .bl y
    | int i => exact .int i
    | str y => exact .str y
    | flt y => exact .flt y
    | lst e => exact .lst (s _ _ e)
    | frz e => exact .frz (s _ _ e)
    | tup e => exact .tup (s _ _ e)
    | dK e => exact .dK (s _ _ e)
    | dT e => exact .dT (s _ _ e)
    | ins e cl ha hn htk hm => exact .ins (s _ _ e) cl ha hn htk hm
  | byt y => exact .byt y
  | set e => exact .set (s _ _ e)
  | kList e c => exact .kList e c
  | kTuple e c => exact .kTuple e c
  | kDict e c => exact .kDict e c
  | fTuple e => exact .fTuple (s _ _ e)
  | fDict e => exact .fDict (s _ _ e)
theorem Sq.same {H H' : Hp} {a : Addr} {xs : List V} (s : Same H H') (h : Sq K H a xs) : Sq K H' a xs := h.imp (same_sq s) (same_sqt s)
/-- is_integer -/
def spInteger : Sp := fun vs H Q _ => ∃ i : Int, vs = [.int i] ∧ Q (.bl true) H
theorem scInteger : FnScope ["thing"] ["thing"] (defScope sInteger) := ⟨rfl, rfl, rfl, by decide +kernel, rfl, by decide +kernel, by decide +kernel⟩
theorem ok_integer {f : Addr} {fd : FuncData} (F : Fun K "is_integer" "is_integer" sInteger f fd) (B : Bl mg) : FnOk P w K mg base CX0 1 f fd ["thing"] spInteger := by
  refine F.ok scInteger (fun vs H Q E h => ?_) (fun cdv A outer s H vs Q E hr h => ?_)
  · obtain ⟨i, rfl, _⟩ := h
    rfl
  · obtain ⟨i, rfl, out⟩ := h
    refine ⟨_, pss_one (ps_ret (pe_and (pe_callB call_isi (by rfl) B.isinstance (by decide +kernel) (pa_cons (pv 0) (pa_cons (pe_bltn (v := .ty "int") (by rfl) B.int (by decide +kernel) rfl) pa_nil))) (pe_one (pe_not (pe_callB call_isi (by rfl) B.isinstance (by decide +kernel) (pa_cons (pv 0) (pa_cons (pe_bltn (v := .ty "bool") (by rfl) B.bool (by decide +kernel) rfl) pa_nil))))))), ?_⟩
    refine ⟨_, rfl, _, _, _, _, true, rfl, .ty "int", .base (.int i), kit_ty (by decide +kernel), _, rfl, iteT ?_⟩
    exact ⟨_, rfl, _, _, _, _, false, rfl, .ty "bool", .base (.int i), kit_ty (by decide +kernel), _, rfl, out⟩
/-- is_integer_between, of whole numbers -/
def spBetween : Sp := fun vs H Q _ => ∃ i lo hi : Int, vs = [.int i, .int lo, .int hi] ∧ Q (.bl (decide (lo ≤ i) && decide (i ≤ hi))) H
theorem scBetween : FnScope ["thing", "low", "high"] ["thing", "low", "high"] (defScope sBetween) := ⟨rfl, rfl, rfl, by decide +kernel, rfl, by decide +kernel, by decide +kernel⟩
theorem ok_between {f : Addr} {fd : FuncData} (F : Fun K "is_integer_between" "is_integer_between" sBetween f fd) (B : Bl mg) (D : Has P w K mg base "is_integer" 1 ["thing"] spInteger) : FnOk P w K mg base CX0 2 f fd ["thing", "low", "high"] spBetween := by
  obtain ⟨fD, fdD, GD, mD, kD, bD⟩ := D
  refine F.ok scBetween (fun vs H Q E h => ?_) (fun cdv A outer s H vs Q E hr h => ?_)
  · obtain ⟨i, lo, hi, rfl, _⟩ := h
    rfl
  · obtain ⟨i, lo, hi, rfl, out⟩ := h
    refine ⟨_, pss_one (ps_ret (pe_and (pe_call GD hr (by rfl) mD kD bD .nil pass0 (pa_cons (pv 0) pa_nil)) (pe_one (pe_chain op_le op_le (pv 1) (pv 0) (pv 2))))), ?_⟩
    refine ⟨_, rfl, i, rfl, _, rfl, iteT ?_⟩
    refine ⟨_, rfl, _, rfl, lo, i, rfl, rfl, _, rfl, ite2 (fun h1 => ?_) (fun h1 => ?_)⟩
    · refine ⟨_, rfl, i, hi, rfl, rfl, ?_⟩
      rw [h1, Bool.true_and] at out
      exact out
    · have e : decide (lo ≤ i) = false := by simpa using h1
      rw [e, Bool.false_and] at out
      exact out
def spIsSize : Sp := fun vs H Q _ => ∃ i : Int, vs = [.int i] ∧ Q (.bl (decide (1 ≤ i) && decide (i ≤ 40))) H
theorem scIsSize : FnScope ["thing"] ["thing"] (defScope sIsSize) := ⟨rfl, rfl, rfl, by decide +kernel, rfl, by decide +kernel, by decide +kernel⟩
theorem ok_issize {f : Addr} {fd : FuncData} (F : Fun K "is_size" "is_size" sIsSize f fd) (hM : ∃ t, mg "MOST_CELLS" = some (.int 40 t)) (D : Has P w K mg base "is_integer_between" 2 ["thing", "low", "high"] spBetween) :
    FnOk P w K mg base CX0 3 f fd ["thing"] spIsSize := by
  obtain ⟨fD, fdD, GD, mD, kD, bD⟩ := D
  obtain ⟨tM, hM⟩ := hM
  refine F.ok scIsSize (fun vs H Q E h => ?_) (fun cdv A outer s H vs Q E hr h => ?_)
  · obtain ⟨i, rfl, _⟩ := h
    rfl
  · obtain ⟨i, rfl, out⟩ := h
    refine ⟨_, pss_one (ps_ret (pe_call GD hr (by rfl) mD kD bD .nil pass0 (pa_cons (pv 0) (pa_cons pe_int (pa_cons (pe_glob (v := .int 40) (by rfl) hM ⟨_, rfl⟩) pa_nil))))), ?_⟩
    exact ⟨_, rfl, i, 1, 40, rfl, out⟩
def spIsCell : Sp := fun vs H Q _ => ∃ i n : Int, vs = [.int i, .int n] ∧ Q (.bl (decide (0 ≤ i) && decide (i ≤ n - 1))) H
theorem scIsCell : FnScope ["thing", "size"] ["thing", "size"] (defScope sIsCell) := ⟨rfl, rfl, rfl, by decide +kernel, rfl, by decide +kernel, by decide +kernel⟩
theorem ok_iscell {f : Addr} {fd : FuncData} (F : FunD K "is_cell" "is_cell" (defArgs sIsCell) (defBody sIsCell) (defScope sIsCell) [] [("size", .int 40)] f fd)
    (D : Has P w K mg base "is_integer_between" 2 ["thing", "low", "high"] spBetween) : FnOk P w K mg base CX0 3 f fd ["thing", "size"] spIsCell := by
  obtain ⟨fD, fdD, GD, mD, kD, bD⟩ := D
  refine F.ok scIsCell (fun vs H Q E h => ?_) (fun cdv A outer s H vs Q E hr h => ?_)
  · obtain ⟨i, n, rfl, _⟩ := h
    rfl
  · obtain ⟨i, n, rfl, out⟩ := h
    refine ⟨_, pss_one (ps_ret (pe_call GD hr (by rfl) mD kD bD .nil pass0 (pa_cons (pv 0) (pa_cons pe_int (pa_cons (pe_op op_sub (pv 1) pe_int) pa_nil))))), ?_⟩
    exact ⟨_, rfl, _, rfl, n, 1, rfl, rfl, i, 0, n - 1, rfl, out⟩
/-- a def called with size = .. -/
def HasN (P : Program) (w : World) (K : PySem.W.Frag) (mg : Str → Option Value) (base : Heap) (x : Str) (lv : Nat) (y : Str) (sp : Sp) : Prop :=
  ∃ f fd, FnOk P w K mg base CX0 lv f fd [y, "size"] sp ∧ mg x = some (.ref f) ∧ PySem.W.keepIn K (.ref f) = true ∧ KBn K fd [y, "size"] 1 ["size"] (fun us ws => us ++ ws) (fun vs zs => vs ++ zs)
/-- are_cells of cells of this size -/
def spAre (K : PySem.W.Frag) : Sp := fun vs H Q _ => ∃ (a : Addr) (n : Int) (ns : List Int), vs = [.ref a, .int n] ∧ Sq K H a (ns.map V.int) ∧ ns.length ≤ 500 ∧ (∀ k ∈ ns, 0 ≤ k ∧ k < n) ∧ ns.Nodup ∧
  ∀ H', Same H H' → Q (.bl true) H'
abbrev nCells : List Str := ["things", "size", "thing"]
theorem scAre : FnScope nCells ["things", "size"] (defScope sAre) := ⟨rfl, rfl, rfl, by decide +kernel, rfl, by decide +kernel, by decide +kernel⟩
theorem all_true {l : List Bool} (h : ∀ b ∈ l, b = true) : l.all id = true := List.all_eq_true.mpr fun b hb => h b hb
theorem ok_are {f : Addr} {fd : FuncData} (F : Fun K "are_cells" "are_cells" sAre f fd) (B : Bl mg)
    (D : HasN P w K mg base "is_cell" 3 "thing" spIsCell) : FnOk P w K mg base CX0 4 f fd ["things", "size"] (spAre K) := by
  obtain ⟨fD, fdD, GD, mD, kD, bD⟩ := D
  refine F.ok scAre (fun vs H Q E h => ?_) (fun cdv A outer s H vs Q E hr h => ?_)
  · obtain ⟨a, n, ns, rfl, _⟩ := h
    rfl
  · obtain ⟨a, n, ns, rfl, hq, hl, hin, hnd, good⟩ := h
    rcases hq with hq | hq
    · refine ⟨_, pss_cons (ps_if (pt_not (pt_val (pe_callB call_isiT (by rfl) B.isinstance (by decide +kernel) (pa_cons (pv 0) (pa_cons (pe_tup (pa_cons (pe_bltn (v := .ty "list") (by rfl) B.list (by decide +kernel) rfl) (pa_cons (pe_bltn (v := .ty "tuple") (by rfl) B.tuple (by decide +kernel) rfl) pa_nil))) pa_nil))))) (pss_one ps_off) pss_nil)
      (pss_cons (ps_if (pt_not (pt_val (pe_callB (cr_all rfl) (by rfl) B.all (by decide +kernel) (pa_cons (pe_lc (own := [("thing", 2)]) (g := gName 2) (te := tCallN 1 (["size"] : List Str).length spIsCell (fun vs zs => vs ++ zs) E0 (tCons (tVar 2) tNil) (tCons (tVar 1) tNil)) rfl scAre.nd (pi_list (pv 0)) (blkOk_by (own := [("thing", 2)]) (N := nCells) (sc := defScope sAre) (by decide +kernel))
          (fun _ _ _ _ _ => pg_name (i := 2) scAre.nd rfl (Or.inl rfl)) (fun _ _ _ _ _ => pts_nil) (fun _ _ _ _ _ => by exact pe_callN (n := 1) (ks := ["size"]) GD hr (by rfl) mD kD bD pass0 (pa_cons (pv 2) pa_nil) (pk_cons (pv 1) pk_nil))) pa_nil)))) (pss_one ps_off) pss_nil)
      (pss_one (ps_ret (pe_cmpR op_eq (pe_lenSetQ (by rfl) B.len (by rfl) B.set (pv 0)) (pe_callB call_len_seq (by rfl) B.len PySem.boot_len (pa_cons (pv 0) pa_nil)) (nomark _))))), ?_⟩
      refine ⟨_, rfl, by decide, fun p hp => ?_⟩
      have s1 : Same H (upd H p (.tup [.ty "list", .ty "tuple"])) := same_new hp
      refine ⟨_, p, _, _, _, true, rfl, upd_same, .cons (.ty _) (.cons (.ty _) .nil), sq_ty (same_sq s1 hq), kit_seq (by simp), _, rfl, iteF ?_⟩
      refine ⟨_, rfl, a, rfl, ⟨_, same_sq s1 hq⟩, fun D hD => ?_⟩
      refine lc_list (K := K) (a := a) (xs := ns.map V.int) (fun i H' => Same H H' ∧ H' D = some (.lst ((ns.take i).map fun k => V.bl (decide (0 ≤ k) && decide (k ≤ n - 1))))) ⟨s1.trans (same_new hD), upd_same⟩ (fun i H' _ h => same_sq h.1 hq) ?_ ?_
      · rintro i x H2 hx ⟨s2, hD2⟩
        rw [List.getElem?_map] at hx
        obtain ⟨k, hk, rfl⟩ : ∃ k, ns[i]? = some k ∧ x = V.int k := by
          cases e : ns[i]? with
          | none => rw [e] at hx; cases hx
          | some k => rw [e] at hx; exact ⟨k, rfl, (Option.some.inj hx).symm⟩
        refine ⟨rfl, yesT ?_⟩
        refine ⟨_, rfl, _, rfl, rfl, rfl, k, n, rfl, _, hD2, ?_, ?_, ?_⟩
        · rw [List.length_map, List.length_take]
          exact small1000 (by omega)
        · intro b o e
          have hDb : H D = none := s1.free hD
          rw [upd_ne (ne_of_none e hDb)]
          exact s2 b o e
        · rw [upd_same, List.take_succ, hk, List.map_append]
          rfl
      rintro H2 ⟨s2, hD2⟩
      rw [List.length_map, List.take_length] at hD2
      refine ⟨D, ns.map fun k => decide (0 ≤ k) && decide (k ≤ n - 1), rfl, SqL.of (by rw [hD2, List.map_map]; rfl), _, rfl, ?_⟩
      have eall : (ns.map fun k => decide (0 ≤ k) && decide (k ≤ n - 1)).all id = true := by
        refine all_true fun b hb => ?_
        obtain ⟨k, hk, rfl⟩ := List.mem_map.mp hb
        obtain ⟨h1, h2⟩ := hin k hk
        have h3 : k ≤ n - 1 := by omega
        simp [h1, h3]
      rw [eall]
      refine iteF ⟨_, rfl, a, ns, rfl, .inl (same_sq s2 hq), by omega, fun c hc hiff => ?_⟩
      refine ⟨_, rfl, a, _, rfl, .inl (same_sq s2 hq), ?_⟩
      rw [List.length_map]
      have ec : c = ns.length := hiff.mpr hnd
      subst ec
      refine ⟨rfl, ?_⟩
      rw [decide_eq_true rfl]
      exact good H2 s2
    · refine ⟨_, pss_cons (ps_if (pt_not (pt_val (pe_callB call_isiT (by rfl) B.isinstance (by decide +kernel) (pa_cons (pv 0) (pa_cons (pe_tup (pa_cons (pe_bltn (v := .ty "list") (by rfl) B.list (by decide +kernel) rfl) (pa_cons (pe_bltn (v := .ty "tuple") (by rfl) B.tuple (by decide +kernel) rfl) pa_nil))) pa_nil))))) (pss_one ps_off) pss_nil)
      (pss_cons (ps_if (pt_not (pt_val (pe_callB (cr_all rfl) (by rfl) B.all (by decide +kernel) (pa_cons (pe_lc (own := [("thing", 2)]) (g := gName 2) (te := tCallN 1 (["size"] : List Str).length spIsCell (fun vs zs => vs ++ zs) E0 (tCons (tVar 2) tNil) (tCons (tVar 1) tNil)) rfl scAre.nd (pi_tup (pv 0)) (blkOk_by (own := [("thing", 2)]) (N := nCells) (sc := defScope sAre) (by decide +kernel))
          (fun _ _ _ _ _ => pg_name (i := 2) scAre.nd rfl (Or.inl rfl)) (fun _ _ _ _ _ => pts_nil) (fun _ _ _ _ _ => by exact pe_callN (n := 1) (ks := ["size"]) GD hr (by rfl) mD kD bD pass0 (pa_cons (pv 2) pa_nil) (pk_cons (pv 1) pk_nil))) pa_nil)))) (pss_one ps_off) pss_nil)
      (pss_one (ps_ret (pe_cmpR op_eq (pe_lenSetQ (by rfl) B.len (by rfl) B.set (pv 0)) (pe_callB call_len_seq (by rfl) B.len PySem.boot_len (pa_cons (pv 0) pa_nil)) (nomark _))))), ?_⟩
      refine ⟨_, rfl, by decide, fun p hp => ?_⟩
      have s1 : Same H (upd H p (.tup [.ty "list", .ty "tuple"])) := same_new hp
      refine ⟨_, p, _, _, _, true, rfl, upd_same, .cons (.ty _) (.cons (.ty _) .nil), sqt_ty (same_sqt s1 hq), kit_seq (by simp), _, rfl, iteF ?_⟩
      refine ⟨_, rfl, a, rfl, ⟨_, same_sqt s1 hq⟩, fun D hD => ?_⟩
      refine lc_tup (K := K) (a := a) (xs := ns.map V.int) (fun i H' => Same H H' ∧ H' D = some (.lst ((ns.take i).map fun k => V.bl (decide (0 ≤ k) && decide (k ≤ n - 1))))) ⟨s1.trans (same_new hD), upd_same⟩ (fun i H' _ h => same_sqt h.1 hq) ?_ ?_
      · rintro i x H2 hx ⟨s2, hD2⟩
        rw [List.getElem?_map] at hx
        obtain ⟨k, hk, rfl⟩ : ∃ k, ns[i]? = some k ∧ x = V.int k := by
          cases e : ns[i]? with
          | none => rw [e] at hx; cases hx
          | some k => rw [e] at hx; exact ⟨k, rfl, (Option.some.inj hx).symm⟩
        refine ⟨rfl, yesT ?_⟩
        refine ⟨_, rfl, _, rfl, rfl, rfl, k, n, rfl, _, hD2, ?_, ?_, ?_⟩
        · rw [List.length_map, List.length_take]
          exact small1000 (by omega)
        · intro b o e
          have hDb : H D = none := s1.free hD
          rw [upd_ne (ne_of_none e hDb)]
          exact s2 b o e
        · rw [upd_same, List.take_succ, hk, List.map_append]
          rfl
      rintro H2 ⟨s2, hD2⟩
      rw [List.length_map, List.take_length] at hD2
      refine ⟨D, ns.map fun k => decide (0 ≤ k) && decide (k ≤ n - 1), rfl, SqL.of (by rw [hD2, List.map_map]; rfl), _, rfl, ?_⟩
      have eall : (ns.map fun k => decide (0 ≤ k) && decide (k ≤ n - 1)).all id = true := by
        refine all_true fun b hb => ?_
        obtain ⟨k, hk, rfl⟩ := List.mem_map.mp hb
        obtain ⟨h1, h2⟩ := hin k hk
        have h3 : k ≤ n - 1 := by omega
        simp [h1, h3]
      rw [eall]
      refine iteF ⟨_, rfl, a, ns, rfl, .inr (same_sqt s2 hq), by omega, fun c hc hiff => ?_⟩
      refine ⟨_, rfl, a, _, rfl, .inr (same_sqt s2 hq), ?_⟩
      rw [List.length_map]
      have ec : c = ns.length := hiff.mpr hnd
      subst ec
      refine ⟨rfl, ?_⟩
      rw [decide_eq_true rfl]
      exact good H2 s2
/-- cell_tuple of cells of this size -/
def spCells (K : PySem.W.Frag) : Sp := fun vs H Q _ => ∃ (a : Addr) (n : Int) (ns : List Int), vs = [.ref a, .int n] ∧ Sq K H a (ns.map V.int) ∧ ns.length ≤ 500 ∧ (∀ k ∈ ns, 0 ≤ k ∧ k < n) ∧ ns.Nodup ∧
  ∀ p (ms : List Int) H', H p = none → Same H H' → ms.Perm ns → ms.Pairwise (· ≤ ·) → H' p = some (.tup (ms.map V.int)) → Q (.ref p) H'
theorem scCells : FnScope ["things", "size"] ["things", "size"] (defScope sCells) := ⟨rfl, rfl, rfl, by decide +kernel, rfl, by decide +kernel, by decide +kernel⟩
theorem ok_cells {f : Addr} {fd : FuncData} (F : FunD K "cell_tuple" "cell_tuple" (defArgs sCells) (defBody sCells) (defScope sCells) [] [("size", .int 40)] f fd) (B : Bl mg)
    (D : Has P w K mg base "are_cells" 4 ["things", "size"] (spAre K)) : FnOk P w K mg base CX0 5 f fd ["things", "size"] (spCells K) := by
  obtain ⟨fD, fdD, GD, mD, kD, bD⟩ := D
  refine F.ok scCells (fun vs H Q E h => ?_) (fun cdv A outer s H vs Q E hr h => ?_)
  · obtain ⟨a, n, ns, rfl, _⟩ := h
    rfl
  · obtain ⟨a, n, ns, rfl, hq, hl, hin, hnd, good⟩ := h
    rcases id hq with hq1 | hq1
    · refine ⟨_, pss_cons (ps_if (pt_not (pt_val (pe_call GD hr (by rfl) mD kD bD .nil pass0 (pa_cons (pv 0) (pa_cons (pv 1) pa_nil))))) (pss_one ps_off) pss_nil)
      (pss_one (ps_ret (pe_callTy call_tuple_of (by rfl) B.tuple (by decide +kernel) (pa_cons (pe_callB cr_sortedI (by rfl) B.sorted (by decide +kernel) (pa_cons (pv 0) pa_nil)) pa_nil)))), ?_⟩
      refine ⟨_, rfl, _, rfl, a, n, ns, rfl, hq, hl, hin, hnd, fun H2 s2 => ⟨_, rfl, iteF ?_⟩⟩
      refine ⟨_, rfl, a, ns, rfl, same_sq s2 hq1, fun ms p2 pm pw hp2 => ?_⟩
      refine ⟨p2, _, rfl, .inl ⟨SqL.of upd_same, fun l hl2 => ?_⟩⟩
      have hl3 : H l = none := s2.free ((same_new hp2).free hl2)
      exact good l ms _ hl3 ((s2.trans (same_new hp2)).trans (same_new hl2)) pm pw upd_same
    · refine ⟨_, pss_cons (ps_if (pt_not (pt_val (pe_call GD hr (by rfl) mD kD bD .nil pass0 (pa_cons (pv 0) (pa_cons (pv 1) pa_nil))))) (pss_one ps_off) pss_nil)
      (pss_one (ps_ret (pe_callTy call_tuple_of (by rfl) B.tuple (by decide +kernel) (pa_cons (pe_callB cr_sortedTup (by rfl) B.sorted (by decide +kernel) (pa_cons (pv 0) pa_nil)) pa_nil)))), ?_⟩
      refine ⟨_, rfl, _, rfl, a, n, ns, rfl, hq, hl, hin, hnd, fun H2 s2 => ⟨_, rfl, iteF ?_⟩⟩
      refine ⟨_, rfl, a, ns, rfl, same_sqt s2 hq1, fun ms p2 pm pw hp2 => ?_⟩
      refine ⟨p2, _, rfl, .inl ⟨SqL.of upd_same, fun l hl2 => ?_⟩⟩
      have hl3 : H l = none := s2.free ((same_new hp2).free hl2)
      exact good l ms _ hl3 ((s2.trans (same_new hp2)).trans (same_new hl2)) pm pw upd_same
/-- added_cells of two tuples of cells -/
def spAdded (K : PySem.W.Frag) : Sp := fun vs H Q _ => ∃ (a b : Addr) (ns ms : List Int), vs = [.ref a, .ref b] ∧ SqT K H a (ns.map V.int) ∧ SqT K H b (ms.map V.int) ∧ ns.length ≤ 500 ∧ ms.length ≤ 500 ∧ (∀ k ∈ ns, Cell k) ∧ (∀ k ∈ ms, Cell k) ∧
  ∀ p (ks : List Int) H', H p = none → Same H H' → ks.Pairwise (· < ·) → (∀ k, k ∈ ks ↔ xor (decide (k ∈ ns)) (decide (k ∈ ms)) = true) → H' p = some (.tup (ks.map V.int)) → Q (.ref p) H'
theorem scAdded : FnScope ["one", "other"] ["one", "other"] (defScope sAdded) := ⟨rfl, rfl, rfl, by decide +kernel, rfl, by decide +kernel, by decide +kernel⟩
theorem ok_added {f : Addr} {fd : FuncData} (F : Fun K "added_cells" "added_cells" sAdded f fd) (B : Bl mg) : FnOk P w K mg base CX0 2 f fd ["one", "other"] (spAdded K) := by
  refine F.ok scAdded (fun vs H Q E h => ?_) (fun cdv A outer s H vs Q E hr h => ?_)
  · obtain ⟨a, b, ns, ms, rfl, _⟩ := h
    rfl
  · obtain ⟨a, b, ns, ms, rfl, ha, hb, l1, l2, c1, c2, out⟩ := h
    refine ⟨_, pss_one (ps_ret (pe_callTy call_tuple_of (by rfl) B.tuple (by decide +kernel) (pa_cons (pe_callB (cr_sortedSet rfl) (by rfl) B.sorted (by decide +kernel) (pa_cons (pe_op op_xorS (pe_callTy (cr_setTup rfl) (by rfl) B.set (by decide +kernel) (pa_cons (pv 0) pa_nil)) (pe_callTy (cr_setTup rfl) (by rfl) B.set (by decide +kernel) (pa_cons (pv 1) pa_nil))) pa_nil)) pa_nil))), ?_⟩
    refine ⟨_, rfl, a, ns, rfl, ha, by omega, fun p1 n1 hp1 => ?_⟩
    have s1 := same_new (o := SetO w p1 (fun j => decide (j ∈ ns)) n1) hp1
    refine ⟨_, rfl, b, ms, rfl, same_sqt s1 hb, by omega, fun p2 n2 hp2 => ?_⟩
    have s2 := same_new (o := SetO w p2 (fun j => decide (j ∈ ms)) n2) hp2
    refine ⟨p1, p2, _, _, n1, n2, rfl, rfl, s2 _ _ upd_same, upd_same, fun k hk => c1 k (of_decide_eq_true hk), fun k hk => c2 k (of_decide_eq_true hk), fun p3 c hp3 hc => ?_⟩
    have s3 := same_new (o := SetO w p3 (fun k => xor (decide (k ∈ ns)) (decide (k ∈ ms))) c) hp3
    refine ⟨p3, _, c, rfl, upd_same, by omega, fun ks p4 pw hk hlen hp4 => ?_⟩
    refine ⟨p4, _, rfl, .inl ⟨SqL.of upd_same, fun l hl => ?_⟩⟩
    have s4 := same_new (o := .lst (ks.map V.int)) hp4
    have s5 := same_new (o := .tup (ks.map V.int)) hl
    have sm := ((s1.trans s2).trans s3).trans s4
    exact out l ks _ (sm.free hl) (sm.trans s5) pw hk upd_same
end
end K17
namespace K17
open PySem PySem.Spec PyProof.Rows L2 Par
/-! ### bits -/
def upF : Nat → List Int → List Int
  | _, [] => []
  | i, b :: bs => if b = 1 then (i : Int) :: upF (i + 1) bs else upF (i + 1) bs
theorem upF_snoc : ∀ (j : Nat) (l : List Int) (b : Int), upF j (l ++ [b]) = upF j l ++ (if b = 1 then [((j + l.length : Nat) : Int)] else [])
  | j, [], b => by
    show (if b = 1 then [(j : Int)] else []) = [] ++ _
    simp
  | j, a :: l, b => by
    have h := upF_snoc (j + 1) l b
    have e : j + 1 + l.length = j + (l.length + 1) := by omega
    show (if a = 1 then (j : Int) :: upF (j + 1) (l ++ [b]) else upF (j + 1) (l ++ [b])) = (if a = 1 then (j : Int) :: upF (j + 1) l else upF (j + 1) l) ++ _
    rw [h, e, List.length_cons]
    split <;> rfl
theorem upF_step {bs : List Int} {i : Nat} {b : Int} (h : bs[i]? = some b) : upF 0 (bs.take (i + 1)) = upF 0 (bs.take i) ++ (if b = 1 then [(i : Int)] else []) := by
  have hi : i < bs.length := (List.getElem?_eq_some_iff.mp h).1
  rw [List.take_succ, h]
  show upF 0 (bs.take i ++ [b]) = _
  rw [upF_snoc, List.length_take]
  have : 0 + min i bs.length = i := by omega
  rw [this]
theorem mem_upF : ∀ (j : Nat) (bs : List Int) (k : Int), k ∈ upF j bs ↔ ∃ i : Nat, bs[i]? = some 1 ∧ k = ((j + i : Nat) : Int)
  | j, [], k => by simp [upF]
  | j, b :: bs, k => by
    have ih := mem_upF (j + 1) bs k
    unfold upF
    constructor
    · intro h
      split at h
      · rename_i hb
        rcases List.mem_cons.mp h with e | e
        · exact ⟨0, by simp [hb], by simpa using e⟩
        · obtain ⟨i, h1, h2⟩ := ih.mp e
          exact ⟨i + 1, by simpa using h1, by omega⟩
      · obtain ⟨i, h1, h2⟩ := ih.mp h
        exact ⟨i + 1, by simpa using h1, by omega⟩
    · rintro ⟨i, h1, h2⟩
      cases i with
      | zero =>
        have hb : b = 1 := by simpa using h1
        rw [if_pos hb]
        rw [h2]
        exact List.mem_cons_self ..
      | succ i =>
        have h3 : k ∈ upF (j + 1) bs := ih.mpr ⟨i, by simpa using h1, by omega⟩
        split
        · exact List.mem_cons_of_mem _ h3
        · exact h3
theorem upF_up : ∀ (j : Nat) (bs : List Int), (upF j bs).Pairwise (· < ·)
  | j, [] => List.Pairwise.nil
  | j, b :: bs => by
    unfold upF
    split
    · refine List.pairwise_cons.mpr ⟨fun k hk => ?_, upF_up (j + 1) bs⟩
      obtain ⟨i, _, e⟩ := (mem_upF (j + 1) bs k).mp hk
      omega
    · exact upF_up (j + 1) bs
theorem nodup_lt_ {l : List Int} (h : l.Pairwise (· < ·)) : l.Nodup := h.imp (fun a e => by omega)
theorem upF_in {bs : List Int} {k : Int} (h : k ∈ upF 0 bs) : 0 ≤ k ∧ k < bs.length := by
  obtain ⟨i, h1, e⟩ := (mem_upF 0 bs k).mp h
  have := (List.getElem?_eq_some_iff.mp h1).1
  omega
theorem upF_len : ∀ (j : Nat) (bs : List Int), (upF j bs).length ≤ bs.length
  | j, [] => Nat.le_refl _
  | j, b :: bs => by
    have := upF_len (j + 1) bs
    unfold upF
    split
    · simp only [List.length_cons]; omega
    · simp only [List.length_cons]; omega
/-- the bits of a board of n cells, those of S up, cell 0 too -/
def mkB (n : Nat) (S : Int → Bool) : List Int := (List.range n).map fun (i : Nat) => if (decide (i = 0) || S (i : Int)) = true then 1 else 0
def flipB (bs ns : List Int) : List Int := (List.range bs.length).map fun (i : Nat) => if decide ((i : Int) ∈ ns) = true then 1 - bs.getD i 0 else bs.getD i 0
/-- what is a board's bits: zeros and ones, the first one 1, at most 40 -/
def OkB (bs : List Int) : Prop := (∀ x ∈ bs, x = 0 ∨ x = 1) ∧ bs[0]? = some 1 ∧ bs.length ≤ 40
theorem mkB_len (n : Nat) (S : Int → Bool) : (mkB n S).length = n := by simp [mkB]
theorem flipB_len (bs ns : List Int) : (flipB bs ns).length = bs.length := by simp [flipB]
theorem mkB_ok {n : Nat} {S : Int → Bool} (h1 : 1 ≤ n) (h2 : n ≤ 40) : OkB (mkB n S) := by
  refine ⟨fun x hx => ?_, ?_, by rw [mkB_len]; exact h2⟩
  · obtain ⟨i, _, rfl⟩ := List.mem_map.mp hx
    split <;> simp
  · unfold mkB
    rw [List.getElem?_map, List.getElem?_range (by omega)]
    simp
theorem bit_at {bs : List Int} (h : OkB bs) {i : Nat} (hi : i < bs.length) : bs.getD i 0 = 0 ∨ bs.getD i 0 = 1 := by
  rw [List.getD_eq_getElem?_getD, List.getElem?_eq_getElem hi]
  exact h.1 _ (List.getElem_mem hi)
theorem up_iff {bs : List Int} (i : Nat) (hi : i < bs.length) : ((i : Int) ∈ upF 0 bs) ↔ bs.getD i 0 = 1 := by
  rw [mem_upF, List.getD_eq_getElem?_getD, List.getElem?_eq_getElem hi]
  constructor
  · rintro ⟨j, h1, h2⟩
    have : i = j := by omega
    subst this
    rw [List.getElem?_eq_getElem hi] at h1
    exact Option.some.inj h1
  · intro h
    exact ⟨i, by rw [List.getElem?_eq_getElem hi]; exact congrArg some h, by omega⟩
theorem tog_eq {bs ns : List Int} (h : OkB bs) (h0 : ∀ k ∈ ns, 1 ≤ k) {S : Int → Bool} (hS : ∀ k, S k = xor (decide (k ∈ upF 0 bs)) (decide (k ∈ ns))) : mkB bs.length S = flipB bs ns := by
  unfold mkB flipB
  refine List.map_congr_left fun i hi => ?_
  have hi2 : i < bs.length := List.mem_range.mp hi
  rw [hS]
  by_cases z : i = 0
  · subst z
    have n0 : ¬ ((0 : Nat) : Int) ∈ ns := fun q => by have := h0 _ q; omega
    have b0 : bs.getD 0 0 = 1 := by
      rw [List.getD_eq_getElem?_getD, h.2.1]
      rfl
    rw [decide_eq_false n0, b0]
    simp
  · rw [decide_eq_false z, Bool.false_or]
    by_cases u : (i : Int) ∈ upF 0 bs
    · have b1 := (up_iff i hi2).mp u
      rw [decide_eq_true u, b1]
      by_cases m : (i : Int) ∈ ns
      · rw [decide_eq_true m]; simp
      · rw [decide_eq_false m]; simp
    · have b1 : bs.getD i 0 = 0 := (bit_at h hi2).resolve_right fun q => u ((up_iff i hi2).mpr q)
      rw [decide_eq_false u, b1]
      by_cases m : (i : Int) ∈ ns
      · rw [decide_eq_true m]; simp
      · rw [decide_eq_false m]; simp
theorem flip_ok {bs ns : List Int} (h : OkB bs) (h0 : ∀ k ∈ ns, 1 ≤ k) : OkB (flipB bs ns) := by
  have hl : 1 ≤ bs.length := by
    have := (List.getElem?_eq_some_iff.mp h.2.1).1
    omega
  rw [← tog_eq h h0 (S := fun k => xor (decide (k ∈ upF 0 bs)) (decide (k ∈ ns))) (fun _ => rfl)]
  exact mkB_ok hl h.2.2
theorem flip_flip {bs ns : List Int} : flipB (flipB bs ns) ns = bs := by
  refine List.ext_getElem (by rw [flipB_len, flipB_len]) fun i h1 h2 => ?_
  have e : ∀ (cs : List Int) (h : i < (flipB cs ns).length), (flipB cs ns)[i] = if decide ((i : Int) ∈ ns) = true then 1 - cs.getD i 0 else cs.getD i 0 := fun cs h => by
    unfold flipB
    simp
  rw [e]
  have g : (flipB bs ns).getD i 0 = (flipB bs ns)[i]'(by rw [flipB_len]; exact h2) := by
    rw [List.getD_eq_getElem?_getD, List.getElem?_eq_getElem]
    rfl
  rw [g, e]
  have g2 : bs.getD i 0 = bs[i] := by
    rw [List.getD_eq_getElem?_getD, List.getElem?_eq_getElem h2]
    rfl
  rw [g2]
  split
  · omega
  · rfl
end K17
namespace K17
open PySem PySem.Spec PyProof.Rows L2 Par
theorem in_ints (x : Int) (ns : List Int) : inV (.int x) (ns.map V.int) = decide (x ∈ ns) := by
  unfold inV
  rw [List.any_map]
  rw [Bool.eq_iff_iff, List.any_eq_true, decide_eq_true_eq]
  constructor
  · rintro ⟨y, hy, e⟩
    have e2 : (y == x) = true := e
    have e3 : y = x := by simpa using e2
    exact e3 ▸ hy
  · intro h
    refine ⟨x, h, ?_⟩
    show (x == x) = true
    simp
theorem flat_ints (ns : List Int) : (ns.map V.int).all flatV = true := by
  rw [List.all_map, List.all_eq_true]
  intro x _
  rfl
theorem perm_sum : ∀ {l m : List Int}, l.Perm m → l.sum = m.sum := by
  intro l m h
  induction h with
  | nil => rfl
  | cons x _ ih => rw [List.sum_cons, List.sum_cons, ih]
  | swap x y l =>
    simp only [List.sum_cons]
    omega
  | trans _ _ h1 h2 => exact h1.trans h2
theorem no_fld {m : Str} {v : V} (h : (m == ("states" : Str)) = false) : ([("states", v)] : List (Str × V)).lookup m = none := by
  simp [List.lookup, h]
theorem fld_ {v : V} : ([("states", v)] : List (Str × V)).lookup ("states" : Str) = some v := by
  simp [List.lookup]
/-- a board at b, with these bits -/
def Bd (C : Addr) (H : Hp) (b : Addr) (bs : List Int) : Prop := ∃ dx t, H b = some (.ins C dx [("states", .ref t)]) ∧ H t = some (.tup (bs.map V.int))
theorem Bd.same {C : Addr} {H H' : Hp} {b : Addr} {bs : List Int} (s : Same H H') (h : Bd C H b bs) : Bd C H' b bs := by
  obtain ⟨dx, t, h1, h2⟩ := h
  exact ⟨dx, t, s _ _ h1, s _ _ h2⟩
theorem Bd.but {C p : Addr} {H H' : Hp} {b : Addr} {bs : List Int} (hp : PotAt H p) (s : But p H H') (h : Bd C H b bs) : Bd C H' b bs := by
  obtain ⟨dx, t, h1, h2⟩ := h
  obtain ⟨x, y, e, _⟩ := hp
  have n1 : b ≠ p := fun z => by rw [z, e] at h1; cases h1
  have n2 : t ≠ p := fun z => by rw [z, e] at h2; cases h2
  exact ⟨dx, t, s _ _ n1 h1, s _ _ n2 h2⟩
structure BC (K : PySem.W.Frag) (mg : Str → Option Value) (C : Addr) : Prop where
  cl : Cls K C
  nS : NoAttr K C "states"
  mgC : mg "Board" = some (.ref C)
section
variable {P : Program} {w : World} {K : PySem.W.Frag} {mg : Str → Option Value} {base : Heap}
/-- a method that is called by places -/
def HasM (P : Program) (w : World) (K : PySem.W.Frag) (mg : Str → Option Value) (base : Heap) (C : Addr) (m : Str) (lv : Nat) (ps : List Str) (sp : Sp) : Prop :=
  ∃ f fd, FnOk P w K mg base CX0 lv f fd ps sp ∧ Meth K C m f ∧ Binds K fd ps []
/-- len(self.states) -/
def spSize (C : Addr) : Sp := fun vs H Q _ => ∃ (b : Addr) (bs : List Int), vs = [.ref b] ∧ Bd C H b bs ∧ Q (.int (bs.length : Nat)) H
theorem scSize : FnScope ["self"] ["self"] (defScope mSize) := ⟨rfl, rfl, rfl, by decide +kernel, rfl, by decide +kernel, by decide +kernel⟩
theorem scLen : FnScope ["self"] ["self"] (defScope mLen) := ⟨rfl, rfl, rfl, by decide +kernel, rfl, by decide +kernel, by decide +kernel⟩
theorem ok_size {f C : Addr} {fd : FuncData} (F : Fun K "size" "Board.size" mSize f fd) (B : Bl mg) (T : BC K mg C) : FnOk P w K mg base CX0 2 f fd ["self"] (spSize C) := by
  refine F.ok scSize (fun vs H Q E h => ?_) (fun cdv A outer s H vs Q E hr h => ?_)
  · obtain ⟨b, bs, rfl, _⟩ := h
    rfl
  · obtain ⟨b, bs, rfl, ⟨dx, t, h1, h2⟩, out⟩ := h
    refine ⟨_, pss_one (ps_ret (pe_callB call_len_seq (by rfl) B.len PySem.boot_len (pa_cons (pe_fld (pv 0) rfl) pa_nil))), ?_⟩
    refine ⟨_, rfl, b, C, dx, _, _, rfl, h1, T.cl, T.nS, fld_, t, _, rfl, .inr (SqT.of h2), ?_⟩
    rw [List.length_map]
    exact out
theorem ok_len {f C : Addr} {fd : FuncData} (F : Fun K "__len__" "Board.__len__" mLen f fd) (B : Bl mg) (T : BC K mg C) : FnOk P w K mg base CX0 2 f fd ["self"] (spSize C) := by
  refine F.ok scLen (fun vs H Q E h => ?_) (fun cdv A outer s H vs Q E hr h => ?_)
  · obtain ⟨b, bs, rfl, _⟩ := h
    rfl
  · obtain ⟨b, bs, rfl, ⟨dx, t, h1, h2⟩, out⟩ := h
    refine ⟨_, pss_one (ps_ret (pe_callB call_len_seq (by rfl) B.len PySem.boot_len (pa_cons (pe_fld (pv 0) rfl) pa_nil))), ?_⟩
    refine ⟨_, rfl, b, C, dx, _, _, rfl, h1, T.cl, T.nS, fld_, t, _, rfl, .inr (SqT.of h2), ?_⟩
    rw [List.length_map]
    exact out
/-- up -/
def spUps (C : Addr) : Sp := fun vs H Q _ => ∃ (b : Addr) (bs : List Int), vs = [.ref b] ∧ Bd C H b bs ∧ bs.length ≤ 40 ∧ ∀ p H', H p = none → Same H H' → H' p = some (.tup ((upF 0 bs).map V.int)) → Q (.ref p) H'
abbrev nUps : List Str := ["self", "cell", "state"]
theorem scUps : FnScope nUps ["self"] (defScope mUps) := ⟨rfl, rfl, rfl, by decide +kernel, rfl, by decide +kernel, by decide +kernel⟩
theorem ok_ups {f C : Addr} {fd : FuncData} (F : Fun K "up" "Board.up" mUps f fd) (B : Bl mg) (T : BC K mg C) : FnOk P w K mg base CX0 2 f fd ["self"] (spUps C) := by
  refine F.ok scUps (fun vs H Q E h => ?_) (fun cdv A outer s H vs Q E hr h => ?_)
  · obtain ⟨b, bs, rfl, _⟩ := h
    rfl
  · obtain ⟨b, bs, rfl, ⟨dx, t, h1, h2⟩, hl, out⟩ := h
    refine ⟨_, pss_one (ps_ret (pe_callTy call_tuple_of (by rfl) B.tuple (by decide +kernel) (pa_cons (pe_lc (own := [("cell", 1), ("state", 2)]) (g := gTup K 2 (gCons (gName 1) (gCons (gName 2) gNil))) rfl scUps.nd (pi_enumT (by rfl) B.enumerate (pa_cons (pe_fld (pv 0) rfl) pa_nil)) (blkOk_by (own := [("cell", 1), ("state", 2)]) (N := nUps) (sc := defScope mUps) (by decide +kernel))
        (fun _ _ _ _ _ => by exact pg_tup rfl (pgs_cons (pg_name (i := 1) scUps.nd rfl (Or.inl rfl)) (pgs_cons (pg_name (i := 2) scUps.nd rfl (Or.inl rfl)) pgs_nil)))
        (fun _ _ _ _ _ => pts_one (pt_cmpR op_eq (pv 2) pe_int (nomark _))) (fun _ _ _ _ _ => pv 1)) pa_nil))), ?_⟩
    refine ⟨_, rfl, b, C, dx, _, _, rfl, h1, T.cl, T.nS, fld_, t, _, rfl, SqT.of h2, fun D hD => ?_⟩
    refine lc_it walk_enumT (fun i H' => Same H H' ∧ H' D = some (.lst ((upF 0 (bs.take i)).map V.int))) ⟨same_new hD, upd_same⟩ (fun i H' _ h => SqT.of (h.1 _ _ h2)) ?_ ?_
    · rintro i x H3 H4 hi ⟨s3, hD3⟩ ⟨T1, x1, y1, rfl, hT, rfl, ex, ey⟩
      have hi2 : i < bs.length := by rw [List.length_map] at hi; exact hi
      have hbi : bs[i]? = some bs[i] := List.getElem?_eq_getElem hi2
      have ey2 : y1 = .int bs[i] := by
        have ey' : (bs.map V.int)[i]? = some y1 := ey
        rw [List.getElem?_map, hbi] at ey'
        exact (Option.some.inj ey').symm
      have ex2 : x1 = .int (i : Nat) := (Option.some.inj ex).symm
      subst ey2 ex2
      have s4 : Same H (upd H3 T1 (.tup [.int (i : Nat), .int bs[i]])) := s3.trans (same_new hT)
      have hD4 := (same_new (o := .tup [.int (i : Nat), .int bs[i]]) hT) _ _ hD3
      have st := upF_step hbi
      refine ⟨T1, _, rfl, SqT.of upd_same, rfl, _, _, rfl, _, _, rfl, rfl, rfl, _, rfl, rfl, _, rfl, ite2 (fun hb => ?_) (fun hb => ?_)⟩
      · have hb1 : bs[i] = 1 := by
          have := of_decide_eq_true hb
          injection this
        refine ⟨_, rfl, _, hD4, ?_, ?_, ?_⟩
        · have := upF_len 0 (bs.take i)
          rw [List.length_take] at this
          rw [List.length_map]
          exact small1000 (by omega)
        · intro z o e
          have hDH : H D = none := hD
          rw [upd_ne (ne_of_none e hDH)]
          exact s4 z o e
        · rw [upd_same, st, if_pos hb1, List.map_append]
          rfl
      · have hb1 : ¬ bs[i] = 1 := fun z => hb (decide_eq_true (by rw [z]))
        refine ⟨s4, ?_⟩
        rw [st, if_neg hb1, List.append_nil]
        exact hD4
    · rintro H3 ⟨s3, hD3⟩
      rw [List.length_map, List.take_length] at hD3
      refine ⟨D, _, rfl, .inl ⟨SqL.of hD3, fun l hl2 => ?_⟩⟩
      exact out l _ (s3.free hl2) (s3.trans (same_new hl2)) upd_same
/-- parity -/
def spPar (K : PySem.W.Frag) (C : Addr) : Sp := fun vs H Q _ => ∃ (b a : Addr) (bs ns : List Int), vs = [.ref b, .ref a] ∧ Bd C H b bs ∧ Sq K H a (ns.map V.int) ∧ ns.length ≤ 500 ∧ (∀ k ∈ ns, 0 ≤ k ∧ k < bs.length) ∧ ns.Nodup ∧
  ∀ H', Same H H' → Q (.int ((ns.map fun k => bs.getD k.toNat 0).sum % 2)) H'
abbrev nPar : List Str := ["self", "cells", "chosen", "cell"]
theorem scPar : FnScope nPar ["self", "cells"] (defScope mPar) := ⟨rfl, rfl, rfl, by decide +kernel, rfl, by decide +kernel, by decide +kernel⟩
theorem ok_par {f C : Addr} {fd : FuncData} (F : Fun K "parity" "Board.parity" mPar f fd) (B : Bl mg) (T : BC K mg C) (DS : HasM P w K mg base C "size" 2 ["self"] (spSize C)) (DC : HasN P w K mg base "cell_tuple" 5 "things" (spCells K)) :
    FnOk P w K mg base CX0 6 f fd ["self", "cells"] (spPar K C) := by
  obtain ⟨fS, fdS, GS, mS, bS⟩ := DS
  obtain ⟨fD, fdD, GD, mD, kD, bD⟩ := DC
  refine F.ok scPar (fun vs H Q E h => ?_) (fun cdv A outer s H vs Q E hr h => ?_)
  · obtain ⟨b, a, bs, ns, rfl, _⟩ := h
    rfl
  · obtain ⟨b, a, bs, ns, rfl, hB, hq, hl, hin, hnd, out⟩ := h
    obtain ⟨dx, t, h1, h2⟩ := id hB
    have r1 : Room 2 _ := hr.mono (by decide)
    refine ⟨_, pss_cons (ps_set (i := 2) scPar.nd rfl (Or.inl rfl) (pe_callN (n := 1) (ks := ["size"]) GD hr (by rfl) mD kD bD pass0 (pa_cons (pv 1) pa_nil) (pk_cons (pe_meth0 (pv 0) T.cl mS GS r1 bS .nil pass0) pk_nil)))
      (pss_one (ps_ret (pe_op op_mod (pe_callB (cr_sum rfl) (by rfl) B.sum (by decide +kernel) (pa_cons (pe_lc (own := [("cell", 3)]) (g := gName 3) (te := tOp (rIxT K) (tFld K (tVar 0) "states") (tVar 3)) rfl scPar.nd (pi_tup (pv 2)) (blkOk_by (own := [("cell", 3)]) (N := nPar) (sc := defScope mPar) (by decide +kernel))
        (fun _ _ _ _ _ => pg_name (i := 3) scPar.nd rfl (Or.inl rfl)) (fun _ _ _ _ _ => pts_nil) (fun _ _ _ _ _ => by exact pe_ix ix_tup (pe_fld (pv 0) rfl) (pv 3) (fun _ _ => rfl))) pa_nil)) pe_int))), ?_⟩
    refine ⟨_, rfl, _, rfl, b, dx, _, rfl, h1, no_fld (by decide +kernel), b, bs, rfl, hB, rfl, rfl, a, (bs.length : Nat), ns, rfl, hq, hl, hin, hnd, ?_⟩
    intro p ms H1 hp s1 pm pw hp1
    refine ⟨_, rfl, p, rfl, ⟨_, SqT.of hp1⟩, fun D hD => ?_⟩
    have hDH : H D = none := s1.free hD
    refine lc_tup (K := K) (a := p) (xs := ms.map V.int) (fun i H' => Same H1 H' ∧ H' D = some (.lst (((ms.take i).map fun k => bs.getD k.toNat 0).map V.int))) ⟨same_new hD, upd_same⟩ (fun i H' _ h => SqT.of (h.1 _ _ hp1)) ?_ ?_
    · rintro i x H2 hx ⟨s2, hD2⟩
      rw [List.getElem?_map] at hx
      obtain ⟨k, hk, rfl⟩ : ∃ k, ms[i]? = some k ∧ x = V.int k := by
        cases e : ms[i]? with
        | none => rw [e] at hx; cases hx
        | some k => rw [e] at hx; exact ⟨k, rfl, (Option.some.inj hx).symm⟩
      obtain ⟨k0, k1⟩ := hin k (pm.mem_iff.mp (List.mem_of_getElem? hk))
      have kl : k.toNat < bs.length := by omega
      have ek : k = ((k.toNat : Nat) : Int) := by omega
      have hat : atI (bs.map V.int) k = some (.int bs[k.toNat]) := by
        have z : atI (bs.map V.int) ((k.toNat : Nat) : Int) = some (.int bs[k.toNat]) := atI_nat (by simp [kl])
        rwa [Int.toNat_of_nonneg k0] at z
      have s12 : Same H H2 := s1.trans s2
      refine ⟨rfl, yesT ?_⟩
      refine ⟨_, rfl, b, C, dx, _, _, rfl, s12 _ _ h1, T.cl, T.nS, fld_, _, rfl, t, _, _, .int bs[k.toNat], rfl, rfl, SqT.of (s12 _ _ h2), hat, ?_⟩
      refine ⟨_, hD2, ?_, ?_, ?_⟩
      · rw [List.length_map, List.length_map, List.length_take, pm.length_eq]
        exact small1000 (by omega)
      · intro z o e
        rw [upd_ne (ne_of_none e hD)]
        exact s2 z o e
      · rw [upd_same, List.take_succ, hk, List.map_append, List.map_append]
        show some (HO.lst (_ ++ [V.int bs[k.toNat]])) = some (HO.lst (_ ++ [V.int (bs.getD k.toNat 0)]))
        rw [List.getD_eq_getElem?_getD, List.getElem?_eq_getElem kl]
        rfl
    · rintro H2 ⟨s2, hD2⟩
      rw [List.length_map, List.take_length] at hD2
      refine ⟨D, _, rfl, SqL.of hD2, _, _, rfl, rfl, (by show (0 : Int) < 2; decide), ?_⟩
      have es : (ms.map fun k => bs.getD k.toNat 0).sum = (ns.map fun k => bs.getD k.toNat 0).sum := perm_sum (pm.map _)
      have := out H2 (s1.trans s2)
      rw [← es] at this
      exact this
end
end K17
namespace K17
open PySem PySem.Spec PyProof.Rows L2 Par
section
variable {P : Program} {w : World} {K : PySem.W.Frag} {mg : Str → Option Value} {base : Heap}
/-- __init__ -/
def spInit (K : PySem.W.Frag) (C : Addr) : Sp := fun vs H Q _ => ∃ (b dx u : Addr) (n : Nat) (ns : List Int), vs = [.ref b, .int (n : Nat), .ref u] ∧ H b = some (.ins C dx []) ∧ Sq K H u (ns.map V.int) ∧ ns.length ≤ 500 ∧ 1 ≤ n ∧ n ≤ 40 ∧
  (∀ k ∈ ns, 0 ≤ k ∧ k < (n : Nat)) ∧ ns.Nodup ∧
  ∀ H' t, But b H H' → H' b = some (.ins C dx [("states", .ref t)]) → H' t = some (.tup ((mkB n fun k => decide (k ∈ ns)).map V.int)) → Q .non H'
abbrev nInit : List Str := ["self", "size", "up", "raised", "cell"]
theorem scInit : FnScope nInit ["self", "size", "up"] (defScope mInit) := ⟨rfl, rfl, rfl, by decide +kernel, rfl, by decide +kernel, by decide +kernel⟩
theorem ok_init {f C e : Addr} {fd : FuncData} (F : FunD K "__init__" "Board.__init__" (defArgs mInit) (defBody mInit) (defScope mInit) [] [("up", .ref e)] f fd) (B : Bl mg) (T : BC K mg C)
    (DZ : Has P w K mg base "is_size" 3 ["thing"] spIsSize) (DC : HasN P w K mg base "cell_tuple" 5 "things" (spCells K)) : FnOk P w K mg base CX0 6 f fd ["self", "size", "up"] (spInit K C) := by
  obtain ⟨fZ, fdZ, GZ, mZ, kZ, bZ⟩ := DZ
  obtain ⟨fD, fdD, GD, mD, kD, bD⟩ := DC
  refine F.ok scInit (fun vs H Q E h => ?_) (fun cdv A outer s H vs Q E hr h => ?_)
  · obtain ⟨b, dx, u, n, ns, rfl, _⟩ := h
    rfl
  · obtain ⟨b, dx, u, n, ns, rfl, hb, hq, hl, n1, n2, hin, hnd, out⟩ := h
    have r2 : Room 3 _ := hr.mono (by decide)
    refine ⟨_, pss_cons (ps_if (pt_not (pt_val (pe_call GZ r2 (by rfl) mZ kZ bZ .nil pass0 (pa_cons (pv 1) pa_nil)))) (pss_one ps_off) pss_nil)
      (pss_cons (ps_set (i := 3) scInit.nd rfl (Or.inr rfl) (pe_callN (n := 1) (ks := ["size"]) GD hr (by rfl) mD kD bD pass0 (pa_cons (pv 2) pa_nil) (pk_cons (pv 1) pk_nil)))
      (pss_one (ps_fld (pv 0) (pe_callTy call_tuple_of (by rfl) B.tuple (by decide +kernel) (pa_cons (pe_lc (own := [("cell", 4)]) (g := gName 4) (te := tIf (tOr (tTest (tOp rEq (tVar 4) (tC (.int 0)))) (tTest (tOp (rIn K false) (tVar 4) (tVar 3)))) (tC (.int 1)) (tC (.int 0))) rfl scInit.nd (pi_range1 (by rfl) B.range (pa_cons (pv 1) pa_nil)) (blkOk_by (own := [("cell", 4)]) (N := nInit) (sc := defScope mInit) (by decide +kernel))
        (fun _ _ _ _ _ => pg_name (i := 4) scInit.nd rfl (Or.inl rfl)) (fun _ _ _ _ _ => pts_nil)
        (fun _ _ _ _ _ => by exact pe_ifExp (PW.pt (pw_or (pt_cmpR op_eq (pv 4) pe_int (nomark _)) (pw_or1 (pt_cmpR op_in_seq (pv 4) (pv 3) (by rfl))))) pe_int pe_int)) pa_nil)) rfl))), ?_⟩
    refine ⟨_, rfl, (n : Nat), rfl, _, rfl, ?_⟩
    have e1 : decide ((1 : Int) ≤ (n : Nat)) = true := decide_eq_true (by omega)
    have e2 : decide (((n : Nat) : Int) ≤ 40) = true := decide_eq_true (by omega)
    rw [e1, e2]
    refine iteF ?_
    refine ⟨_, rfl, _, rfl, rfl, rfl, u, (n : Nat), ns, rfl, hq, hl, hin, hnd, ?_⟩
    intro p ms H1 hp s1 pm pw hp1
    refine ⟨_, rfl, _, rfl, by omega, by omega, fun D hD => ?_⟩
    rw [Int.toNat_natCast]
    have hms : ∀ k : Int, decide (k ∈ ms) = decide (k ∈ ns) := fun k => by
      by_cases z : k ∈ ns
      · rw [decide_eq_true z, decide_eq_true (pm.mem_iff.mpr z)]
      · rw [decide_eq_false z, decide_eq_false (fun q => z (pm.mem_iff.mp q))]
    refine lc_range (lo := 0) (n := n) (fun i H' => Same H1 H' ∧ H' D = some (.lst ((mkB i fun k => decide (k ∈ ns)).map V.int))) ⟨same_new hD, upd_same⟩ ?_ ?_
    · rintro i H2 hi ⟨s2, hD2⟩
      have e0 : (0 : Int) + (i : Nat) = (i : Nat) := by omega
      rw [e0]
      have step : ∀ x : Int, (if (decide (i = 0) || decide ((i : Int) ∈ ns)) = true then (1 : Int) else 0) = x → ∃ acc, H2 D = some (.lst acc) ∧ acc.length < sizeLine ∧
          Same H1 (upd H2 D (.lst (acc ++ [V.int x]))) ∧ (upd H2 D (.lst (acc ++ [V.int x]))) D = some (.lst ((mkB (i + 1) fun k => decide (k ∈ ns)).map V.int)) := by
        intro x hx
        refine ⟨_, hD2, by rw [List.length_map, mkB_len]; exact small1000 (by omega), ?_, ?_⟩
        · intro z o e
          rw [upd_ne (ne_of_none e hD)]
          exact s2 z o e
        · rw [upd_same]
          unfold mkB
          rw [List.range_succ, List.map_append, List.map_append]
          show some (HO.lst (_ ++ [V.int x])) = some (HO.lst (_ ++ [V.int (if (decide (i = 0) || decide ((i : Int) ∈ ns)) = true then (1 : Int) else 0)]))
          rw [hx]
      refine ⟨rfl, yesT ?_⟩
      refine ⟨_, rfl, rfl, _, rfl, ite2 (fun hz => iteT ?_) (fun hz => ?_)⟩
      · have hz1 : i = 0 := by
          have z := of_decide_eq_true hz
          have z2 : ((i : Nat) : Int) = 0 := by injection z
          omega
        exact step 1 (by rw [decide_eq_true hz1]; rfl)
      · have hz1 : ¬ i = 0 := fun z => hz (decide_eq_true (by rw [z]; rfl))
        refine ⟨_, rfl, _, rfl, p, _, rfl, .inr (SqT.of (s2 _ _ hp1)), rfl, flat_ints _, _, rfl, ?_⟩
        show if inV (V.int ((i : Nat) : Int)) (ms.map V.int) = true then _ else _
        rw [in_ints, hms]
        by_cases hm : ((i : Nat) : Int) ∈ ns
        · rw [decide_eq_true hm]
          exact iteT (step 1 (by rw [decide_eq_true hm, Bool.or_true]; rfl))
        · rw [decide_eq_false hm]
          exact iteF (step 0 (by rw [decide_eq_false hm, decide_eq_false hz1]; rfl))
    · rintro H2 ⟨s2, hD2⟩
      refine ⟨D, _, rfl, .inl ⟨SqL.of hD2, fun t ht => ?_⟩⟩
      have s3 := same_new (o := .tup ((mkB n fun k => decide (k ∈ ns)).map V.int)) ht
      have s123 : Same H _ := (s1.trans s2).trans s3
      have nb : t ≠ b := fun z => by
        have := (s1.trans s2) _ _ hb
        rw [← z, ht] at this
        cases this
      refine ⟨_, rfl, b, C, dx, [], rfl, s123 _ _ hb, T.cl, T.nS, (by show 0 < 1000; decide), ?_⟩
      refine out _ t (fun x o nx e => ?_) upd_same ?_
      · rw [upd_ne nx]
        exact s123 _ _ e
      · rw [upd_ne nb, upd_same]
/-- Board as a class whose __init__ keeps its promise -/
def HasIni (P : Program) (w : World) (K : PySem.W.Frag) (mg : Str → Option Value) (base : Heap) (C : Addr) : Prop :=
  ∃ f fd, FnOk P w K mg base CX0 6 f fd ["self", "size", "up"] (spInit K C) ∧ Mk K C f ∧ KBn K fd ["self", "size", "up"] 2 ["up"] (fun us ws => us ++ ws) (fun vs zs => vs ++ zs) ∧
    KBn K fd ["self", "size", "up"] 1 ["size", "up"] (fun us ws => us ++ ws) (fun vs zs => vs ++ zs) ∧ ∃ (e : Addr) (ds : List Value), (∀ H, SqT K H e []) ∧ Vals [V.ref e] ds ∧ Binds K fd ["self", "size", "up"] ds
/-- what Board(..) leads to -/
theorem made_board {C : Addr} {H : Hp} {n : Nat} {u : Addr} {ns : List Int} {W : Addr → Hp → Prop} (hq : Sq K H u (ns.map V.int)) (hl : ns.length ≤ 500) (n1 : 1 ≤ n) (n2 : n ≤ 40) (hin : ∀ k ∈ ns, 0 ≤ k ∧ k < (n : Nat)) (hnd : ns.Nodup)
    (out : ∀ x H', H x = none → Same H H' → Bd C H' x (mkB n fun k => decide (k ∈ ns)) → W x H') :
    ∀ x dx, H x = none → H dx = none → dx ≠ x → spInit K C [.ref x, .int (n : Nat), .ref u] (upd (upd H dx (.own x)) x (.ins C dx [])) (fun v H3 => v = .non ∧ W x H3) (fun _ _ _ => False) := by
  intro x dx hx hdx ne
  have s1 : Same H (upd (upd H dx (.own x)) x (.ins C dx [])) := fun z o e => by
    rw [upd_ne (ne_of_none e hx), upd_ne (ne_of_none e hdx)]
    exact e
  refine ⟨x, dx, u, n, ns, rfl, upd_same, hq.same s1, hl, n1, n2, hin, hnd, fun H' t bt h1 h2 => ⟨rfl, ?_⟩⟩
  refine out x H' hx (fun z o e => ?_) ⟨dx, t, h1, h2⟩
  exact bt z o (ne_of_none e hx) (s1 z o e)
/-- toggled -/
def spTog (K : PySem.W.Frag) (C : Addr) : Sp := fun vs H Q _ => ∃ (b a : Addr) (bs ns : List Int), vs = [.ref b, .ref a] ∧ Bd C H b bs ∧ OkB bs ∧ Sq K H a (ns.map V.int) ∧ ns.length ≤ 500 ∧ (∀ k ∈ ns, 1 ≤ k ∧ k < bs.length) ∧ ns.Nodup ∧
  ∀ q H', H q = none → Same H H' → Bd C H' q (flipB bs ns) → Q (.ref q) H'
abbrev nTog : List Str := ["self", "cells", "changed"]
theorem scTog : FnScope nTog ["self", "cells"] (defScope mTog) := ⟨rfl, rfl, rfl, by decide +kernel, rfl, by decide +kernel, by decide +kernel⟩
theorem ok_tog {f C : Addr} {fd : FuncData} (F : Fun K "toggled" "Board.toggled" mTog f fd) (B : Bl mg) (T : BC K mg C) (DS : HasM P w K mg base C "size" 2 ["self"] (spSize C)) (DU : HasM P w K mg base C "up" 2 ["self"] (spUps C))
    (DC : HasN P w K mg base "cell_tuple" 5 "things" (spCells K)) (DA : Has P w K mg base "added_cells" 2 ["one", "other"] (spAdded K)) (DI : HasIni P w K mg base C) :
    FnOk P w K mg base CX0 8 f fd ["self", "cells"] (spTog K C) := by
  obtain ⟨fS, fdS, GS, mS, bS⟩ := DS
  obtain ⟨fU, fdU, GU, mU, bU⟩ := DU
  obtain ⟨fD, fdD, GD, mD, kD, bD⟩ := DC
  obtain ⟨fA, fdA, GA, mA, kA, bA⟩ := DA
  obtain ⟨fI, fdI, GI, MI, kb2, _⟩ := DI
  refine F.ok scTog (fun vs H Q E h => ?_) (fun cdv A outer s H vs Q E hr h => ?_)
  · obtain ⟨b, a, bs, ns, rfl, _⟩ := h
    rfl
  · obtain ⟨b, a, bs, ns, rfl, hB, hO, hq, hl, hin, hnd, out⟩ := h
    obtain ⟨dx, t, h1, h2⟩ := id hB
    have r1 : Room 2 _ := hr.mono (by decide)
    have r3 : Room 5 _ := hr.mono (by decide)
    refine ⟨_, pss_cons (ps_set (i := 2) scTog.nd rfl (Or.inl rfl) (pe_callN (n := 1) (ks := ["size"]) GD r3 (by rfl) mD kD bD pass0 (pa_cons (pv 1) pa_nil) (pk_cons (pe_meth0 (pv 0) T.cl mS GS r1 bS .nil pass0) pk_nil)))
      (pss_cons (ps_if (pt_cmpR op_in_seq pe_int (pv 2) (by rfl)) (pss_one ps_off) pss_nil)
      (pss_one (ps_ret (pe_makeN (n := 1) (ks := ["up"]) (E := E0) MI GI hr (by rfl) T.mgC kb2 pass0 (pa_cons (pe_meth0 (pv 0) T.cl mS GS r1 bS .nil pass0) pa_nil) (pk_cons (pe_call GA r1 (by rfl) mA kA bA .nil pass0 (pa_cons (pe_meth0 (pv 0) T.cl mU GU r1 bU .nil pass0) (pa_cons (pv 2) pa_nil))) pk_nil))))), ?_⟩
    have hin0 : ∀ k ∈ ns, 0 ≤ k ∧ k < ((bs.length : Nat) : Int) := fun k hk => by
      have := hin k hk
      omega
    refine ⟨_, rfl, _, rfl, b, dx, _, rfl, h1, no_fld (by decide +kernel), b, bs, rfl, hB, rfl, rfl, a, (bs.length : Nat), ns, rfl, hq, hl, hin0, hnd, ?_⟩
    intro p ms H1 hp s1 pm pw hp1
    refine ⟨_, rfl, p, _, rfl, .inr (SqT.of hp1), rfl, flat_ints _, _, rfl, ?_⟩
    have h0 : ¬ (0 : Int) ∈ ms := fun z => by
      have := hin 0 (pm.mem_iff.mp z)
      omega
    show if inV (V.int 0) (ms.map V.int) = true then _ else _
    rw [in_ints, decide_eq_false h0]
    refine iteF ?_
    have hB1 := hB.same s1
    refine ⟨_, rfl, b, dx, _, rfl, s1 _ _ h1, no_fld (by decide +kernel), b, bs, rfl, hB1, ?_⟩
    refine ⟨_, rfl, b, dx, _, rfl, s1 _ _ h1, no_fld (by decide +kernel), b, bs, rfl, hB1, hO.2.2, ?_⟩
    intro p2 H2 hp2 s2 hup
    refine ⟨_, rfl, p2, p, upF 0 bs, ms, rfl, SqT.of hup, SqT.of (s2 _ _ hp1), ?_, ?_, ?_, ?_, ?_⟩
    · have := upF_len 0 bs
      have := hO.2.2
      omega
    · rw [pm.length_eq]
      exact hl
    · intro k hk
      have := upF_in hk
      have := hO.2.2
      exact ⟨by omega, by omega⟩
    · intro k hk
      have := hin k (pm.mem_iff.mp hk)
      have := hO.2.2
      exact ⟨by omega, by omega⟩
    intro p3 ks H3 hp3 s3 pk hks hp3'
    have hlen1 : 1 ≤ bs.length := by
      have := (List.getElem?_eq_some_iff.mp hO.2.1).1
      omega
    have hinks : ∀ k ∈ ks, 0 ≤ k ∧ k < ((bs.length : Nat) : Int) := fun k hk => by
      have z := (hks k).mp hk
      by_cases u : k ∈ upF 0 bs
      · exact upF_in u
      · rw [decide_eq_false u] at z
        have z2 : k ∈ ms := by simpa using z
        exact hin0 k (pm.mem_iff.mp z2)
    have hlks : ks.length ≤ 40 := cells_few (nodup_lt_ pk) fun k hk => by
      have := hinks k hk
      have := hO.2.2
      exact ⟨by omega, by omega⟩
    refine ⟨rfl, rfl, made_board (n := bs.length) (ns := ks) (.inr (SqT.of hp3')) (by omega) hlen1 hO.2.2 hinks (nodup_lt_ pk) fun x H' hx sx hb => ?_⟩
    have s123 := (s1.trans s2).trans s3
    refine out x H' (s123.free hx) (s123.trans sx) ?_
    have e := tog_eq (bs := bs) (ns := ns) hO (fun k hk => (hin k hk).1) (S := fun k => decide (k ∈ ks)) (fun k => by
      have z := hks k
      have em : decide (k ∈ ms) = decide (k ∈ ns) := by
        by_cases q : k ∈ ns
        · rw [decide_eq_true q, decide_eq_true (pm.mem_iff.mpr q)]
        · rw [decide_eq_false q, decide_eq_false (fun y => q (pm.mem_iff.mp y))]
      rw [← em]
      by_cases q : k ∈ ks
      · rw [decide_eq_true q]
        exact (z.mp q).symm
      · rw [decide_eq_false q]
        cases y : xor (decide (k ∈ upF 0 bs)) (decide (k ∈ ms)) with
        | false => rfl
        | true => exact absurd (z.mpr y) q)
    rw [← e]
    exact hb
end
end K17
namespace K17
open PySem PySem.Spec PyProof.Rows L2 Par
section
variable {P : Program} {w : World} {K : PySem.W.Frag} {mg : Str → Option Value} {base : Heap}
/-- new bits -/
def spBits : Sp := fun vs H Q _ => ∃ (p : Addr) (n : Nat), vs = [.ref p, .int (n : Nat)] ∧ PotAt H p ∧ 1 ≤ n ∧ n ≤ 40 ∧ ∀ q (bs : List Int) H', H q = none → OkB bs → bs.length = n → But p H H' → PotAt H' p → H' q = some (.lst (bs.map V.int)) → Q (.ref q) H'
abbrev nBits : List Str := ["_law_pot_here", "_law_width", "_law_spot"]
theorem scBits : FnScope nBits ["_law_pot_here", "_law_width"] (defScope sBits) := ⟨rfl, rfl, rfl, by decide +kernel, rfl, by decide +kernel, by decide +kernel⟩
theorem ok_bits {f : Addr} {fd : FuncData} (F : Fun K "_law_bits" "_law_bits" sBits f fd) (B : Bl mg) (D : Has P w K mg base "_law_draw" 2 ["_law_pot_here", "_law_many"] spDraw) : FnOk P w K mg base CX0 3 f fd ["_law_pot_here", "_law_width"] spBits := by
  obtain ⟨fD, fdD, GD, mD, kD, bD⟩ := D
  refine F.ok scBits (fun vs H Q E h => ?_) (fun cdv A outer s H vs Q E hr h => ?_)
  · obtain ⟨p, n, rfl, _⟩ := h
    rfl
  · obtain ⟨p, n, rfl, hp, n1, n2, out⟩ := h
    refine ⟨_, pss_one (ps_ret (pe_op op_cat (pe_lst (pa_cons pe_int pa_nil)) (pe_lc (own := [("_law_spot", 2)]) (g := gName 2) (te := tCall spDraw [] E0 (tCons (tVar 0) (tCons (tC (.int 2)) tNil))) rfl scBits.nd (pi_range2 (by rfl) B.range (pa_cons pe_int (pa_cons (pv 1) pa_nil))) (blkOk_by (own := [("_law_spot", 2)]) (N := nBits) (sc := defScope sBits) (by decide +kernel))
        (fun _ _ _ _ _ => pg_name (i := 2) scBits.nd rfl (Or.inl rfl)) (fun _ _ _ _ _ => pts_nil) (fun _ _ _ _ _ => by exact pe_call GD hr (by rfl) mD kD bD .nil pass0 (pa_cons (pv 0) (pa_cons pe_int pa_nil)))))), ?_⟩
    refine ⟨by decide, fun q hq => ?_⟩
    have hp1 := hp.same (same_new (o := .lst [.int 1]) hq)
    have nq : q ≠ p := fun z => by
      obtain ⟨_, _, y, _⟩ := hp
      rw [← z, hq] at y
      cases y
    refine ⟨_, rfl, 1, (n : Nat), rfl, ⟨by omega, by omega, by omega, by omega⟩, fun D hD => ?_⟩
    have hDH : H D = none := (same_new hq).free hD
    have nD : D ≠ p := fun z => by
      obtain ⟨_, _, y, _⟩ := hp
      rw [← z, hDH] at y
      cases y
    have qD : q ≠ D := fun z => by
      rw [← z, upd_same] at hD
      cases hD
    have en : ((n : Nat) : Int) - 1 = ((n - 1 : Nat) : Int) := by omega
    rw [en, Int.toNat_natCast]
    refine lc_range (lo := 1) (n := n - 1) (fun i H' => ∃ cs : List Int, H' D = some (.lst (cs.map V.int)) ∧ cs.length = i ∧ (∀ c ∈ cs, c = 0 ∨ c = 1) ∧ H' q = some (.lst [.int 1]) ∧ But p H H' ∧ PotAt H' p)
      ⟨[], upd_same, rfl, by simp, by rw [upd_ne qD, upd_same], (But.new hq).trans (But.new hD), hp1.same (same_new hD)⟩ ?_ ?_
    · rintro i H2 hi ⟨cs, hc, hcl, hcb, hq2, b2, hp2⟩
      refine ⟨rfl, yesT ?_⟩
      refine ⟨_, rfl, p, 2, rfl, hp2, by decide, by decide, ?_⟩
      intro d H3 d0 d1 b3 hp3
      refine ⟨_, b3 D _ nD hc, (by rw [List.length_map]; exact small1000 (by omega)), cs ++ [d], ?_, ?_, ?_, ?_, ?_, ?_⟩
      · rw [upd_same, List.map_append]
        rfl
      · rw [List.length_append, hcl]
        rfl
      · intro c hc2
        rcases List.mem_append.mp hc2 with z | z
        · exact hcb c z
        · have : c = d := by simpa using z
          omega
      · rw [upd_ne qD]
        exact b3 q _ nq hq2
      · intro z o n3 e
        rw [upd_ne (ne_of_none e hDH)]
        exact b3 z o n3 (b2 z o n3 e)
      · obtain ⟨x, y, e, r⟩ := hp3
        exact ⟨x, y, by rw [upd_ne (Ne.symm nD)]; exact e, r⟩
    · rintro H2 ⟨cs, hc, hcl, hcb, hq2, b2, hp2⟩
      refine ⟨q, D, _, _, rfl, rfl, hq2, hc, (by rw [List.length_map]; show 1 + _ ≤ sizeLine; rw [sizeLine_eq]; omega), fun r hr2 => ?_⟩
      have hrH : H r = none := b2.free hp hr2 hp2
      refine out r (1 :: cs) _ hrH ⟨fun x hx => ?_, rfl, by rw [List.length_cons]; omega⟩ (by rw [List.length_cons]; omega) (b2.trans (But.new hr2)) (hp2.same (same_new hr2)) upd_same
      rcases List.mem_cons.mp hx with z | z
      · exact .inr z
      · exact hcb x z
/-- the sum of the bits at these places, by its rest -/
def parB (bs ns : List Int) : Int := (ns.map fun k => bs.getD k.toNat 0).sum % 2
/-- the places of the ones -/
def spUpL (K : PySem.W.Frag) : Sp := fun vs H Q _ => ∃ (a : Addr) (bs : List Int), vs = [.ref a] ∧ H a = some (.lst (bs.map V.int)) ∧ bs.length ≤ 40 ∧ ∀ p H', H p = none → Same H H' → H' p = some (.lst ((upF 0 bs).map V.int)) → Q (.ref p) H'
abbrev nUpL : List Str := ["_law_bits_here", "_law_spot", "_law_bit"]
theorem scUpL : FnScope nUpL ["_law_bits_here"] (defScope sUp) := ⟨rfl, rfl, rfl, by decide +kernel, rfl, by decide +kernel, by decide +kernel⟩
theorem ok_upL {f : Addr} {fd : FuncData} (F : Fun K "_law_up" "_law_up" sUp f fd) (B : Bl mg) : FnOk P w K mg base CX0 2 f fd ["_law_bits_here"] (spUpL K) := by
  refine F.ok scUpL (fun vs H Q E h => ?_) (fun cdv A outer s H vs Q E hr h => ?_)
  · obtain ⟨b, bs, rfl, _⟩ := h
    rfl
  · obtain ⟨t, bs, rfl, h2, hl, out⟩ := h
    refine ⟨_, pss_one (ps_ret (pe_lc (own := [("_law_spot", 1), ("_law_bit", 2)]) (g := gTup K 2 (gCons (gName 1) (gCons (gName 2) gNil))) rfl scUpL.nd (pi_enum (by rfl) B.enumerate (pa_cons (pv 0) pa_nil)) (blkOk_by (own := [("_law_spot", 1), ("_law_bit", 2)]) (N := nUpL) (sc := defScope sUp) (by decide +kernel))
        (fun _ _ _ _ _ => by exact pg_tup rfl (pgs_cons (pg_name (i := 1) scUpL.nd rfl (Or.inl rfl)) (pgs_cons (pg_name (i := 2) scUpL.nd rfl (Or.inl rfl)) pgs_nil)))
        (fun _ _ _ _ _ => pts_one (pt_cmpR op_eq (pv 2) pe_int (nomark _))) (fun _ _ _ _ _ => pv 1))), ?_⟩
    refine ⟨_, rfl, t, _, rfl, SqL.of h2, fun D hD => ?_⟩
    refine lc_it walk_enum (fun i H' => Same H H' ∧ H' D = some (.lst ((upF 0 (bs.take i)).map V.int))) ⟨same_new hD, upd_same⟩ (fun i H' _ h => SqL.of (h.1 _ _ h2)) ?_ ?_
    · rintro i x H3 H4 hi ⟨s3, hD3⟩ ⟨T1, x1, y1, rfl, hT, rfl, ex, ey⟩
      have hi2 : i < bs.length := by rw [List.length_map] at hi; exact hi
      have hbi : bs[i]? = some bs[i] := List.getElem?_eq_getElem hi2
      have ey2 : y1 = .int bs[i] := by
        have ey' : (bs.map V.int)[i]? = some y1 := ey
        rw [List.getElem?_map, hbi] at ey'
        exact (Option.some.inj ey').symm
      have ex2 : x1 = .int (i : Nat) := (Option.some.inj ex).symm
      subst ey2 ex2
      have s4 : Same H (upd H3 T1 (.tup [.int (i : Nat), .int bs[i]])) := s3.trans (same_new hT)
      have hD4 := (same_new (o := .tup [.int (i : Nat), .int bs[i]]) hT) _ _ hD3
      have st := upF_step hbi
      refine ⟨T1, _, rfl, SqT.of upd_same, rfl, _, _, rfl, _, _, rfl, rfl, rfl, _, rfl, rfl, _, rfl, ite2 (fun hb => ?_) (fun hb => ?_)⟩
      · have hb1 : bs[i] = 1 := by
          have := of_decide_eq_true hb
          injection this
        refine ⟨_, rfl, _, hD4, ?_, ?_, ?_⟩
        · have := upF_len 0 (bs.take i)
          rw [List.length_take] at this
          rw [List.length_map]
          exact small1000 (by omega)
        · intro z o e
          rw [upd_ne (ne_of_none e hD)]
          exact s4 z o e
        · rw [upd_same, st, if_pos hb1, List.map_append]
          rfl
      · have hb1 : ¬ bs[i] = 1 := fun z => hb (decide_eq_true (by rw [z]))
        refine ⟨s4, ?_⟩
        rw [st, if_neg hb1, List.append_nil]
        exact hD4
    · rintro H3 ⟨s3, hD3⟩
      rw [List.length_map, List.take_length] at hD3
      exact out D _ hD s3 hD3
end
end K17
namespace Par
open PySem PySem.Spec PyProof.Rows L2
section
variable {P : Program} {w : World} {A : Around} {E : Value → Shared → Prop} {s : Shared} {a : Addr} {S : Int → Bool} {n : Nat}
/-- how many members a set has -/
theorem SetR.count (R : SetR w s.heap a S n) {L : List Int} (hn : L.Nodup) (hm : ∀ k, k ∈ L ↔ S k = true) : n = L.length := by
  obtain ⟨o, es, ep, t, ho, hx, hd, g, nd, hs, hb, hf, hz, hr, hl⟩ := R
  have h1 := nodup_le nd (fun k hk => (hm k).mpr ((hs k).2 hk))
  have h2 := nodup_le hn (fun k hk => (hs k).1 ((hm k).mp hk))
  have h3 : (es.toList.map keyOf).length = n := by rw [List.length_map, Array.length_toList, hz]
  rw [h3] at h1 h2
  omega
theorem both_one {q : Addr} {T : Int → Bool} {nq : Nat} {k : Int} {tk : Tok} {Q : Unit → Shared → Prop} (Rq : SetR w s.heap q T nq) (R : SetR w s.heap a S n) (room : n + 1 < scanBound)
    (hQ : ∀ h' m, m ≤ n + 1 → Heap.SameBut a s.heap h' → SetR w h' a (fun j => S j || (T j && decide (j = k))) m → Q () { s with heap := h' }) :
    wpAny (model P w) A (holding [.int k tk] (do
      if (← setFind q (.int k tk) ((intKind P w).hash k)).isSome then
        let _ ← setAddHashed a (.int k tk) ((intKind P w).hash k))) Q E s := by
  refine wpAny_holding (wpAny_bind (wpAny_setFind_of (knd := intKind P w) (intKind_is P w k tk) rfl Rq.setOf fun r hr => ?_))
  cases hT : T k with
  | true =>
    rw [hT] at hr
    refine wp_if_pos hr ?_
    refine wpAny_bind (setR_add_hashed R room fun h2 sb2 R2 => ?_)
    refine wpAny_pure (hQ h2 _ (by split <;> omega) sb2 (R2.congr fun j => ?_))
    by_cases e : j = k
    · subst e
      rw [hT]
      simp
    · simp [e]
  | false =>
    rw [hT] at hr
    refine wp_if_neg (by rw [hr]; exact Bool.false_ne_true) ?_
    refine wpAny_pure (hQ s.heap n (by omega) (Heap.SameBut.refl a s.heap) (R.congr fun j => ?_))
    by_cases e : j = k
    · subst e
      rw [hT]
      simp
    · simp [e]
theorem both_all {body : Int × Value → PUnit → Sem (ForInStep PUnit)} {o q : Addr} {oo : Obj} {T : Int → Bool} {nq : Nat} (hne : o ≠ a) (hnq : q ≠ a)
    (hb : ∀ (e : Int × Value) (s : Shared) (S : Int → Bool) (n : Nat) (Q : ForInStep PUnit → Shared → Prop), GoodE e → s.heap.get? o = some oo → SetR w s.heap q T nq → SetR w s.heap a S n → n + 1 < scanBound →
      (∀ h' m, m ≤ n + 1 → Heap.SameBut a s.heap h' → SetR w h' a (fun j => S j || (T j && decide (j = keyOf e))) m → Q (.yield ⟨⟩) { s with heap := h' }) → wpAny (model P w) A (body e ⟨⟩) Q E s) :
    ∀ (l : List (Int × Value)) (s : Shared) (S : Int → Bool) (n : Nat) (Q : PUnit → Shared → Prop), (∀ e ∈ l, GoodE e) → s.heap.get? o = some oo → SetR w s.heap q T nq → SetR w s.heap a S n → n + l.length + 1 < scanBound →
      (∀ h' m, Heap.SameBut a s.heap h' → SetR w h' a (fun j => S j || (T j && decide (j ∈ l.map keyOf))) m → Q ⟨⟩ { s with heap := h' }) → wpAny (model P w) A (forIn l ⟨⟩ body) Q E s
  | [], s, S, n, Q, _, _, _, R, _, hQ => by
    rw [List.forIn_nil]
    exact wpAny_pure (hQ s.heap n (Heap.SameBut.refl a s.heap) (R.congr fun j => by simp))
  | e :: l, s, S, n, Q, g, Ro, Rq, R, room, hQ => by
    rw [List.forIn_cons]
    simp only [List.length_cons] at room
    refine wpAny_bind (hb e s S n _ (g e (List.mem_cons_self ..)) Ro Rq R (by omega) fun h1 m hm sb1 R1 => ?_)
    refine both_all hne hnq hb l { s with heap := h1 } _ m Q (fun x hx => g x (List.mem_cons_of_mem _ hx)) ((sb1.2 o hne).trans Ro) (Rq.at fun u e' => (sb1.2 q hnq).trans e') R1 (by omega) fun h2 m2 sb2 R2 => ?_
    refine hQ h2 m2 (sb1.trans sb2) (R2.congr fun j => ?_)
    show (S j || (T j && decide (j ∈ keyOf e :: l.map keyOf))) = ((S j || (T j && decide (j = keyOf e))) || (T j && decide (j ∈ l.map keyOf)))
    have hd : decide (j ∈ keyOf e :: l.map keyOf) = (decide (j = keyOf e) || decide (j ∈ l.map keyOf)) := by
      rw [Bool.eq_iff_iff]
      simp only [decide_eq_true_eq, Bool.or_eq_true, List.mem_cons]
    rw [hd]
    cases S j <;> cases T j <;> simp
theorem call_and {b : Addr} {T : Int → Bool} {m : Nat} {Q : Value → Shared → Prop} (Ra : SetR w s.heap a S n) (Rb : SetR w s.heap b T m) (nab : a ≠ b) (hS : ∀ k, S k = true → Cell k) (hT : ∀ k, T k = true → Cell k)
    (hQ : ∀ h' c, (∀ x u, s.heap.get? x = some u → h'.get? x = some u) → SetR w h' s.heap.objs.size (fun k => S k && T k) c → Q (.ref s.heap.objs.size) { s with heap := h' }) :
    wpAny (model P w) A (call (.builtin "set.__and__") [.ref a, .ref b]) Q E s := by
  have ta : s.TypeIs (.ref a) "set" := set_typ Ra
  have tb : s.TypeIs (.ref b) "set" := set_typ Rb
  have la := Ra.lt
  have lb := Rb.lt
  have n40 : n ≤ 40 := SetR.few Ra hS
  have m40 : m ≤ 40 := SetR.few Rb hT
  refine wpAny_call_entry F.slot_set_and ta entry_set_and ?_ (F.args_set_and_2 _ _)
  unfold Builtin.«frozenset.__and__»
  show wpAny _ _ (do
    let (self, other) ← Builtin.Frozenset.slot1 "__and__" ⟨[.ref a, .ref b], []⟩
    let (l, r) := if false = true then (other, self) else (self, other)
    if !(← Builtin.Frozenset.isAnySet l <&&> Builtin.Frozenset.isAnySet r) then rule s!"frozenset.{"__and__"}.declined"; return ← ret .notImplemented
    ret (← Builtin.Frozenset.intersection s!"frozenset.{"__and__"}" (← Builtin.Frozenset.addrOf l) r)) _ _ s
  refine wpAny_bind (wpAny_of_eq (a := (Value.ref a, Value.ref b)) (by rfl) ?_)
  dsimp only
  rw [if_neg Bool.false_ne_true]
  dsimp only
  refine wpAny_bind (wpAny_bind (any_set ta ?_))
  show wpAny _ _ (Builtin.Frozenset.isAnySet (.ref b)) _ _ s
  refine any_set tb ?_
  refine wp_if_neg (by simp) ?_
  refine wpAny_bind (m := Builtin.Frozenset.addrOf (.ref a)) (wpAny_pure ?_)
  refine wpAny_bind ?_
  unfold Builtin.Frozenset.intersection
  refine wp_if_neg (by simpa using Ne.symm nab) ?_
  try refine wpAny_bind (wpAny_pure ?_)
  refine wpAny_bind (base_set ta ?_)
  refine wpAny_bind (new_set ?_)
  have fr := setR_fresh (h := s.heap) w
  generalize hr : s.heap.objs.size = r at *
  generalize hg : s.heap.push { cls := .type "set", dict := none, data := .set #[] 0 (.fresh 0 0 (!w.params.followText "set-order")) } = g at *
  have keep : ∀ x u, s.heap.get? x = some u → g.get? x = some u := fun x u e => by
    rw [← hg]
    exact Heap.get?_push_of_some _ e
  have Ra1 : SetR w g a S n := Ra.at fun u e => keep a u e
  have Rb1 : SetR w g b T m := Rb.at fun u e => keep b u e
  have hra : a ≠ r := Nat.ne_of_lt la
  have hrb : b ≠ r := Nat.ne_of_lt lb
  refine wpAny_bind (m := Builtin.Frozenset.addrOf (.ref r)) (wpAny_pure ?_)
  refine wpAny_bind (wpAny_holding ?_)
  refine wpAny_bind (any_set (s := { s with heap := g }) (set_typ Rb1) ?_)
  refine wp_if_pos rfl ?_
  refine wpAny_bind (m := Builtin.Frozenset.addrOf (.ref b)) (wpAny_pure ?_)
  obtain ⟨oa, esa, epa, ta2, hoa, hxa, hda, _, _, _, _, hfa, hna, _⟩ := id Ra1
  obtain ⟨ob, esb, epb, tb2, hob, hxb, hdb, _, _, _, _, hfb, hnb, _⟩ := id Rb1
  refine wpAny_bind (m := Builtin.Frozenset.sizeOf b) ?_
  unfold Builtin.Frozenset.sizeOf
  refine wpAny_bind (wpAny_setEntries_of hob hdb hfb (wpAny_pure ?_))
  refine wpAny_bind (m := do return (← setEntries a).size) ?_
  refine wpAny_bind (wpAny_setEntries_of hoa hda hfa (wpAny_pure ?_))
  by_cases hc : esb.size > esa.size
  all_goals first | rw [if_pos hc] | rw [if_neg hc]
  · dsimp only
    refine wpAny_bind (wpAny_setEpoch_of hoa hda hfa ?_)
    refine wpAny_bind (walk_unseen (s := { s with heap := g }) (f := r) Ra1 (fun x hx => by
      rcases List.mem_cons.mp hx with z | z
      · rw [z]
        exact ⟨_, _, Rb1⟩
      · rw [List.mem_singleton.mp z]
        exact ⟨_, _, fr⟩) fr fun l h2 sb2 R2 gl => ?_)
    obtain ⟨gl1, gl2, gl3, gl4⟩ := gl
    rw [← Array.forIn_toList]
    refine wpAny_bind (both_all (a := r) (o := a) (q := b) (oo := oa) hra hrb ?_ l.toList { s with heap := h2 } (fun _ => false) 0 _ gl1 ((sb2.2 a hra).trans hoa) (Rb1.at fun u e => (sb2.2 b hrb).trans e) R2 (by rw [Array.length_toList, gl4]; unfold scanBound; omega) fun h3 c sb3 R3 => ?_)
    · intro e s0 S0 n0 Q0 ge ho0 Rq0 R0 room q0
      obtain ⟨k, tk, e1, e2⟩ := ge
      obtain ⟨eh, ev⟩ := e
      dsimp only at e1 e2
      subst e1
      subst e2
      refine wpAny_bind (both_one Rq0 R0 room fun h' m' hm' sb' R' => ?_)
      refine wpAny_bind ?_
      unfold Builtin.Frozenset.unchanged
      refine wpAny_bind (wpAny_setEpoch_of ((sb'.2 a hra).trans ho0) hda hfa ?_)
      refine wp_if_neg (by simp) ?_
      exact wpAny_pure (wpAny_pure (q0 h' m' hm' sb' R'))
    refine wpAny_pure (wpAny_pure (wpAny_pure ⟨_, rfl, ?_⟩))
    have Rf : SetR w h3 r (fun k => S k && T k) c := R3.congr fun k => by
      have : S k = decide (k ∈ l.toList.map keyOf) := by
        cases h : S k with
        | true => rw [decide_eq_true ((gl3 k).1 h)]
        | false =>
          have : k ∉ l.toList.map keyOf := fun z => by
            have := (gl3 k).2 z
            rw [h] at this
            cases this
          rw [decide_eq_false this]
      rw [this]
      show _ = (false || _)
      rw [Bool.false_or]
      exact Bool.and_comm _ _
    refine hQ h3 c (fun x u e => ?_) Rf
    have hxr : x ≠ r := by
      rw [← hr]
      exact Nat.ne_of_lt (Heap.lt_size e)
    exact (sb3.2 x hxr).trans ((sb2.2 x hxr).trans (keep x u e))
  · dsimp only
    refine wpAny_bind (wpAny_setEpoch_of hob hdb hfb ?_)
    refine wpAny_bind (walk_unseen (s := { s with heap := g }) (f := r) Rb1 (fun x hx => by
      rcases List.mem_cons.mp hx with z | z
      · rw [z]
        exact ⟨_, _, Ra1⟩
      · rw [List.mem_singleton.mp z]
        exact ⟨_, _, fr⟩) fr fun l h2 sb2 R2 gl => ?_)
    obtain ⟨gl1, gl2, gl3, gl4⟩ := gl
    rw [← Array.forIn_toList]
    refine wpAny_bind (both_all (a := r) (o := b) (q := a) (oo := ob) hrb hra ?_ l.toList { s with heap := h2 } (fun _ => false) 0 _ gl1 ((sb2.2 b hrb).trans hob) (Ra1.at fun u e => (sb2.2 a hra).trans e) R2 (by rw [Array.length_toList, gl4]; unfold scanBound; omega) fun h3 c sb3 R3 => ?_)
    · intro e s0 S0 n0 Q0 ge ho0 Rq0 R0 room q0
      obtain ⟨k, tk, e1, e2⟩ := ge
      obtain ⟨eh, ev⟩ := e
      dsimp only at e1 e2
      subst e1
      subst e2
      refine wpAny_bind (both_one Rq0 R0 room fun h' m' hm' sb' R' => ?_)
      refine wpAny_bind ?_
      unfold Builtin.Frozenset.unchanged
      refine wpAny_bind (wpAny_setEpoch_of ((sb'.2 b hrb).trans ho0) hdb hfb ?_)
      refine wp_if_neg (by simp) ?_
      exact wpAny_pure (wpAny_pure (q0 h' m' hm' sb' R'))
    refine wpAny_pure (wpAny_pure (wpAny_pure ⟨_, rfl, ?_⟩))
    have Rf : SetR w h3 r (fun k => S k && T k) c := R3.congr fun k => by
      have : T k = decide (k ∈ l.toList.map keyOf) := by
        cases h : T k with
        | true => rw [decide_eq_true ((gl3 k).1 h)]
        | false =>
          have : k ∉ l.toList.map keyOf := fun z => by
            have := (gl3 k).2 z
            rw [h] at this
            cases this
          rw [decide_eq_false this]
      rw [this]
      show _ = (false || _)
      rw [Bool.false_or]
      skip
    refine hQ h3 c (fun x u e => ?_) Rf
    have hxr : x ≠ r := by
      rw [← hr]
      exact Nat.ne_of_lt (Heap.lt_size e)
    exact (sb3.2 x hxr).trans ((sb2.2 x hxr).trans (keep x u e))
/-- len of a set -/
theorem cr_lenSet {X : Cx} : CallR X (.builtin "len") (fun vs H Q => ∃ (a : Addr) (S : Int → Bool) (n : Nat), vs = [.ref a] ∧ H a = some (SetO X.w a S n) ∧ n ≤ 4000 ∧ Q (.int (n : Nat)) H) := by
  intro pins s σ H vs us Q I r h
  obtain ⟨a, S, n, rfl, ha, hn, q⟩ := h
  rw [Vals.ref1 r]
  obtain ⟨o, es, ep, t, ho, hex, hd, _, _, _, _, hf, hz, _, _⟩ := setO_get I ha
  exact call_len_set ho hex hd hf (by rw [hz]; omega) ⟨.int (n : Nat), H, I.tok _, ⟨_, by rw [hz]⟩, q⟩
/-- one & other, sets of cells -/
def rAnd (w : World) : V → V → Hp → VK → Prop := fun x y H Q => ∃ (a b : Addr) (S T : Int → Bool) (n m : Nat), x = V.ref a ∧ y = V.ref b ∧ a ≠ b ∧ H a = some (SetO w a S n) ∧ H b = some (SetO w b T m) ∧
  (∀ k, S k = true → Cell k) ∧ (∀ k, T k = true → Cell k) ∧ ∀ p c, H p = none → (∀ L : List Int, L.Nodup → (∀ k, k ∈ L ↔ (S k && T k) = true) → c = L.length) → Q (.ref p) (upd H p (SetO w p (fun k => S k && T k) c))
theorem op_andS {X : Cx} : OpR X (binaryOp .BitAnd) (rAnd X.w) := by
  intro pins s σ H x y v u Q I rx ry h
  obtain ⟨a, b, S, T, n, m, rfl, rfl, nab, ha, hb, hS, hT, q⟩ := h
  cases rx
  cases ry
  have Ra := setO_get I ha
  have Rb := setO_get I hb
  refine wpAny_binaryOp_same (op := .BitAnd) (T := "set") (set_typ Ra) (set_typ Rb) F.fills_set_and F.slot_set_and ?_
  refine call_and Ra Rb nab hS hT fun h' c k R => ⟨by simp, ?_⟩
  exact ⟨.ref _, _, I.laid (t' := s.toks) k (Nat.le_refl _) (setO_new R), rfl, q _ c (I.hok.fresh (Nat.le_refl _)) fun L hn hm => SetR.count (s := { s with heap := h' }) R hn hm⟩
end
end Par
namespace Par
open PySem PySem.Spec PyProof.Rows L2
/-! ### max(t, default = d), t a tuple of ints -/
/-- M is the greatest of the first i numbers -/
def Top (val : Nat → Int) (i : Nat) (M : Int) : Prop := (∃ j, j < i ∧ val j = M) ∧ ∀ j, j < i → val j ≤ M
def Cur (val : Nat → Int) (i : Nat) : Option Value → Prop
  | none => i = 0
  | some v => ∃ M t, v = .int M t ∧ Top val i M
def pair2 : Option Value → Array Value
  | none => #[]
  | some v => #[v, v]
section
variable {prog : Program} {w : World} {A : Around} {E : Value → Shared → Prop} {R : Result → Shared → Prop} {I : Addr} {fp wr : List Addr} {n : Nat} {P : Nat → Value → Prop} {St : Nat → Heap → Prop}
theorem gt_two {a b : Int} {t u : Tok} {s : Shared} {Q : Value → Shared → Prop} (h : Q (.bool (decide (a > b))) s) : wpAny (model prog w) A (richCompare .Gt (.int a t) (.int b u)) Q E s :=
  (CmpOf.ints_gt (prog := prog) (w := w) (A := A) (P := fun i v => if i = 0 then v = .int a t else v = .int b u) (fun i => if i = 0 then a else b) (fun i v hv => by
    by_cases z : i = 0
    · rw [if_pos z] at hv ⊢
      exact ⟨t, hv⟩
    · rw [if_neg z] at hv ⊢
      exact ⟨u, hv⟩)) 0 1 _ _ s Q E rfl rfl h
theorem maxD_loop (W : Walks prog w A.in1 I fp wr n P St) (val : Nat → Int) (hval : ∀ i v, P i v → ∃ t, v = .int (val i) t) (S : Addr) (far : S ∉ fp) (d : Value) :
    ∀ (k i : Nat) (s : Shared) (cur : Option Value) (c : Nat), n - i = k → i ≤ n → St i s.heap → Cur val i cur →
    s.heap.get? S = some { cls := .type "list", dict := none, data := .seq (pair2 cur) c, slots := #[] } →
    (∀ v h' tk, (n = 0 → v = d) → (0 < n → ∃ M t, v = .int M t ∧ Top val n M) → (∀ b o, b ∉ wr → b ≠ S → s.heap.get? b = some o → h'.get? b = some o) → R (.ok (.ret v)) { s with heap := h', toks := tk }) →
    codeAny (model prog w) A (.builtin "max.loop" ⟨[.ref I, .none, .ref S], [("default", d)]⟩) R s := by
  have farw : S ∉ wr := fun h => far (W.sub _ h)
  have nm : (toString "max" ++ toString ".loop" : String) = "max.loop" := by decide
  intro k
  induction k with
  | zero =>
    intro i s cur c hk hi hst hc hS out
    have hin : i = n := by omega
    subst hin
    refine codeAny_builtin F.entry_max_loop ?_
    rw [Around.under_plainId F.plain_max_loop _]
    show wpAny _ A.in1 (seqItems? (.ref S) >>= _) _ _ s
    refine wpAny_bind (wpAny_seqItems hS rfl ?_)
    show wpAny _ A.in1 (tryCatch (pyNext (.ref I)) _ >>= _) _ _ s
    refine wpAny_bind (wpAny_tryCatch (W.done s _ _ hst fun h' tk kp => ?_))
    have hS2 := kp S _ farw hS
    cases cur with
    | none =>
      have h0 : i = 0 := hc
      refine wpAny_bind (wpAny_rule (wpAny_pure ?_))
      exact out d h' tk (fun _ => rfl) (fun z => absurd h0 (by omega)) fun b o hb _ e => kp b o hb e
    | some v =>
      obtain ⟨M, t, ev, top⟩ := hc
      show wpAny _ A.in1 (updateSeq S (fun _ => #[]) >>= _) _ _ _
      refine wpAny_bind ?_
      refine wpAny_updateSeq hS2 rfl (wpAny_bind (wpAny_letGo (wpAny_pure ?_))) (hz := by show 2 ≤ sizeLine; decide)
      have h0 : 0 < i := by
        obtain ⟨j, hj, _⟩ := top.1
        omega
      exact out v _ tk (fun z => absurd z (by omega)) (fun _ => ⟨M, t, ev, top⟩) fun b o hb nb e => (Heap.get?_update_other _ _ (Ne.symm nb)).trans (kp b o hb e)
  | succ k ih =>
    intro i s cur c hk hi hst hc hS out
    have hlt : i < n := by omega
    refine codeAny_builtin F.entry_max_loop ?_
    rw [Around.under_plainId F.plain_max_loop _]
    show wpAny _ A.in1 (seqItems? (.ref S) >>= _) _ _ s
    refine wpAny_bind (wpAny_seqItems hS rfl ?_)
    show wpAny _ A.in1 (tryCatch (pyNext (.ref I)) _ >>= _) _ _ s
    refine wpAny_bind (wpAny_tryCatch (W.item i s _ _ hlt hst fun v h' tk hP hst2 kp => ?_))
    have hS2 := kp S _ farw hS
    obtain ⟨u, rfl⟩ := hval i v hP
    have go : ∀ (nv : Value) (g : Heap) (c2 : Nat), g.get? S = some { cls := .type "list", dict := none, data := .seq #[nv, nv] c2, slots := #[] } → (∀ b o, b ≠ S → h'.get? b = some o → g.get? b = some o) →
        (∃ M t, nv = .int M t ∧ Top val (i + 1) M) → codeAny (model prog w) A (.builtin "max.loop" ⟨[.ref I, .none, .ref S], [("default", d)]⟩) R { s with heap := g, toks := tk } := by
      intro nv g c2 hg kg top
      refine ih (i + 1) { s with heap := g, toks := tk } (some nv) c2 (by omega) hlt (W.frame _ _ _ hst2 fun b hb o e => kg b o (fun z => far (z ▸ hb)) e) top hg fun v2 h2 tk2 z1 z2 k2 => ?_
      exact out v2 h2 tk2 z1 z2 fun b o hb nb e => k2 b o hb nb (kg b o nb (kp b o hb e))
    cases cur with
    | none =>
      have h0 : i = 0 := hc
      subst h0
      show wpAny _ A.in1 (updateSeq S (fun _ => #[Value.int (val 0) u, Value.int (val 0) u]) >>= _) _ _ _
      refine wpAny_bind ?_
      refine wpAny_updateSeq hS2 rfl ?_
      rw [nm]
      refine wpAny_pure ⟨plainId_quiet F.plain_max_loop _, go _ _ _ (Heap.get?_update_self _ hS2 rfl) (fun b o nb e => (Heap.get?_update_other _ _ (Ne.symm nb)).trans e) ⟨_, u, rfl, ⟨0, by omega, rfl⟩, fun j hj => ?_⟩⟩
      have : j = 0 := by omega
      rw [this]
      exact Int.le_refl _
    | some b0 =>
      obtain ⟨M, t, rfl, top⟩ := hc
      show wpAny _ A.in1 (tryCatch (holding [Value.int (val i) u, Value.int (val i) u] (richCompare .Gt (.int (val i) u) (.int M t) >>= _)) _ >>= _) _ _ _
      refine wpAny_bind (wpAny_tryCatch (wpAny_holding (wpAny_bind (gt_two ?_))))
      refine wpAny_bind (wpAny_holding (wpAny_truthy_bool ?_))
      refine wpAny_bind (wpAny_letGo (wpAny_pure ?_))
      by_cases hb : val i > M
      · rw [decide_eq_true hb]
        simp only [if_true]
        refine wpAny_bind ?_
        refine wpAny_updateSeq hS2 rfl (wpAny_bind (wpAny_letGo ?_)) (hz := by show 2 ≤ sizeLine; decide)
        rw [nm]
        refine wpAny_pure ⟨plainId_quiet F.plain_max_loop _, go _ _ _ (Heap.get?_update_self _ hS2 rfl) (fun b o nb e => (Heap.get?_update_other _ _ (Ne.symm nb)).trans e) ⟨_, u, rfl, ⟨i, by omega, rfl⟩, fun j hj => ?_⟩⟩
        rcases (show j < i ∨ j = i by omega) with z | z
        · have := top.2 j z
          omega
        · rw [z]
          exact Int.le_refl _
      · rw [decide_eq_false hb]
        simp only [Bool.false_eq_true, if_false]
        refine wpAny_bind (wpAny_letGo ?_)
        rw [nm]
        refine wpAny_pure ⟨plainId_quiet F.plain_max_loop _, go _ _ _ hS2 (fun b o nb e => e) ⟨M, t, rfl, ?_, fun j hj => ?_⟩⟩
        · obtain ⟨j, hj, e⟩ := top.1
          exact ⟨j, by omega, e⟩
        · rcases (show j < i ∨ j = i by omega) with z | z
          · exact top.2 j z
          · rw [z]
            omega
end
theorem args_maxD (a d : Value) : argsOk "max" ⟨[a], [("default", d)]⟩ := by
  unfold argsOk
  kernel_rfl
section
variable {prog : Program} {w : World} {A : Around} {E : Value → Shared → Prop} {s : Shared}
/-- a built-in function called with a keyword, its code going on in another one -/
theorem tree_kw {id : String} {b : Builtin} {us : List Value} {kw : List (Str × Value)} {Q : Value → Shared → Prop} (hk : builtinKind id = none) (hp : plainId id = true) (hb : entryFor table id = some b) (ok : argsOk id ⟨us, kw⟩)
    (run : wpAny (model prog w) A.in1 (b ⟨us, kw⟩) (fun fin s' => match fin with
      | .done f => (match (Except.ok f : Result) with | .ok (.ret v) => Q v s' | .ok _ => False | .error e => E e s')
      | .again c' => c'.quiet = true ∧ codeAny (model prog w) A c' (fun r s' => match r with | .ok (.ret v) => Q v s' | .ok _ => False | .error e => E e s') s') E s) :
    wpAny (model prog w) A (call (.builtin id) us kw) Q E s := by
  refine wpAny_call (codeAny_call_builtin hp hb ?_)
  simp only [checkBuiltinCall, hk]
  cases sg : Manifest.signature? id with
  | none => exact wpAny_pure run
  | some z =>
    simp only [argsOk, sg] at ok
    have ok2 : Bind.checkArgs id z ⟨us, kw⟩ = pure () := ok
    show wpAny _ A.in1 (Bind.checkArgs id z ⟨us, kw⟩) _ _ s
    rw [ok2]
    exact wpAny_pure run
theorem max_tupD {l : Addr} {its : List Value} {ns : List Int} {d : Value} {Q : Value → Shared → Prop} (hh : A.handled = none) (hl : s.heap.IsTuple l its.toArray) (hi : IntsAre its ns)
    (h : ∀ v h' tk, (ns = [] → v = d) → (ns ≠ [] → ∃ M t, v = .int M t ∧ M ∈ ns ∧ ∀ y ∈ ns, y ≤ M) → (∀ b o, s.heap.get? b = some o → h'.get? b = some o) → Q v { s with heap := h', toks := tk }) :
    wpAny (model prog w) A (call (.builtin "max") [.ref l] [("default", d)]) Q E s := by
  have nm : (toString "max" ++ toString ".loop" : String) = "max.loop" := by decide
  have len := IntsAre.length hi
  have lt : l < s.heap.objs.size := by
    obtain ⟨_, e, _⟩ := hl
    exact Heap.lt_size e
  refine tree_kw F.kind_max F.plain_max F.entry_max (args_maxD _ _) ?_
  show wpAny _ A.in1 (Builtin.Builtins.bindParams "max" ["key", "default"] 0 ⟨[], [("default", d)]⟩ >>= _) _ _ s
  refine wpAny_bind (wpAny_of_eq (show Builtin.Builtins.bindParams "max" ["key", "default"] 0 ⟨[], [("default", d)]⟩ = pure [none, some d] from rfl) ?_)
  refine wpAny_bind (wpAny_pure ?_)
  refine wpAny_bind (wpAny_pyIter_tuple hl ?_)
  refine wpAny_bind (wpAny_newObj_type ?_)
  rw [nm]
  have hne : l ≠ s.heap.objs.size := Nat.ne_of_lt lt
  have h1z : (s.heap.push { cls := .type "tuple_iterator", data := .fields #[.ref l, .int 0 0] }).objs.size = s.heap.objs.size + 1 := Heap.size_push ..
  have far : (s.heap.push { cls := .type "tuple_iterator", data := .fields #[.ref l, .int 0 0] }).objs.size ∉ [s.heap.objs.size, l] := by
    rw [h1z]
    intro z
    rcases List.mem_cons.mp z with z | z
    · exact absurd z (Nat.succ_ne_self _)
    · have z2 := List.mem_singleton.mp z
      rw [← z2] at lt
      exact Nat.lt_irrefl _ (Nat.lt_trans (Nat.lt_succ_self _) lt)
  refine wpAny_pure ⟨plainId_quiet F.plain_max_loop _, maxD_loop (W := Walks.tuple (A := A.in1) hh s.heap.objs.size l hne its.toArray) (fun i => ns.getD i 0) (fun i v hv => ?_) _ far d its.length 0 _ none 0 (by simp) (Nat.zero_le _) ⟨⟨_, Heap.get?_push_of_some _ (Heap.get?_push_size _ rfl), rfl, rfl⟩, (hl.push _).push _⟩ rfl (Heap.get?_push_size _ rfl) fun v h' tk z1 z2 kp => ?_⟩
  · obtain ⟨t, e⟩ := PyProof.Rows.IntsAre.int_at hi i v (by simpa using hv)
    exact ⟨t, e⟩
  · have esz : its.toArray.size = ns.length := by simpa using len
    rw [esz] at z1 z2
    refine h v h' tk (fun e => z1 (by rw [e]; rfl)) (fun ne => ?_) fun b o e => ?_
    · obtain ⟨M, t, ev, ⟨j, hj, ej⟩, up⟩ := z2 (List.length_pos_iff.mpr ne)
      refine ⟨M, t, ev, ?_, fun y hy => ?_⟩
      · have ej2 : ns.getD j 0 = M := ej
        rw [← ej2, List.getD_eq_getElem?_getD, List.getElem?_eq_getElem hj]
        exact List.getElem_mem hj
      · obtain ⟨k, hk, e⟩ := List.getElem_of_mem hy
        have : ns.getD k 0 ≤ M := up k hk
        rw [List.getD_eq_getElem?_getD, List.getElem?_eq_getElem hk] at this
        rw [← e]
        exact this
    · have lb := Heap.lt_size e
      refine kp b o (fun z => ?_) (fun z => ?_) (Heap.get?_push_of_some _ (Heap.get?_push_of_some _ e))
      · rw [List.mem_singleton.mp z] at lb
        exact Nat.lt_irrefl _ lb
      · rw [z, h1z] at lb
        exact Nat.lt_irrefl _ (Nat.lt_trans (Nat.lt_succ_self _) lb)
end
/-- max(t, default = d) -/
def rMaxD (K : PySem.W.Frag) : List V → List V → Hp → VK → Prop := fun xs zs H Q => ∃ (a : Addr) (ns : List Int) (d : Int), xs = [.ref a] ∧ zs = [.int d] ∧ SqT K H a (ns.map V.int) ∧
  ∀ M, (ns = [] → M = d) → (ns ≠ [] → M ∈ ns ∧ ∀ y ∈ ns, y ≤ M) → Q (.int M) H
theorem cr_maxD {X : Cx} (hc : X.calm = true) : CallRK X (.builtin "max") ["default"] (rMaxD X.K) := by
  intro pins s σ H xs zs us ws Q I r rz h
  obtain ⟨a, ns, d, rfl, rfl, hq, q⟩ := h
  obtain ⟨its, rv, tup, hz⟩ := I.tuple hq
  rw [Vals.ref1 r]
  cases rz with
  | cons r1 r2 =>
    cases r2
    obtain ⟨tk0, rfl⟩ := r1
    refine max_tupD (ns := ns) (d := .int d tk0) (I.ok.hd hc) tup (by simpa using numbers_of rv) fun v h' tk z1 z2 kp => ?_
    by_cases hn : ns = []
    · have ev := z1 hn
      subst ev
      exact ⟨.int d, H, I.kept kp, ⟨_, rfl⟩, q d (fun _ => rfl) (fun z => absurd hn z)⟩
    · obtain ⟨M, t, rfl, m1, m2⟩ := z2 hn
      exact ⟨.int M, H, I.kept kp, ⟨_, rfl⟩, q M (fun z => absurd z hn) (fun _ => ⟨m1, m2⟩)⟩
end Par
namespace K17
open PySem PySem.Spec PyProof.Rows L2 Par
/-- how many of the first stand in the second, too -/
def comm (ns ms : List Int) : List Int := ns.filter fun k => decide (k ∈ ms)
theorem mem_comm {ns ms : List Int} (k : Int) : k ∈ comm ns ms ↔ (decide (k ∈ ns) && decide (k ∈ ms)) = true := by
  unfold comm
  rw [List.mem_filter, Bool.and_eq_true, decide_eq_true_eq, decide_eq_true_eq]
theorem comm_perm {ns ns' ms ms' : List Int} (h1 : ns'.Perm ns) (h2 : ms'.Perm ms) : (comm ns' ms').length = (comm ns ms).length := by
  have e : (fun k => decide (k ∈ ms')) = (fun k => decide (k ∈ ms)) := funext fun k => by
    by_cases z : k ∈ ms
    · rw [decide_eq_true z, decide_eq_true (h2.mem_iff.mpr z)]
    · rw [decide_eq_false z, decide_eq_false (fun q => z (h2.mem_iff.mp q))]
  unfold comm
  rw [e]
  exact (h1.filter _).length_eq
section
variable {P : Program} {w : World} {K : PySem.W.Frag} {mg : Str → Option Value} {base : Heap}
/-- share_odd of two tuples of cells -/
def spShare (K : PySem.W.Frag) : Sp := fun vs H Q _ => ∃ (a b : Addr) (ns ms : List Int), vs = [.ref a, .ref b] ∧ SqT K H a (ns.map V.int) ∧ SqT K H b (ms.map V.int) ∧ ns.length ≤ 500 ∧ ms.length ≤ 500 ∧ (∀ k ∈ ns, Cell k) ∧ (∀ k ∈ ms, Cell k) ∧ ns.Nodup ∧
  ∀ H', Same H H' → Q (.bl (decide ((comm ns ms).length % 2 = 1))) H'
theorem scShare : FnScope ["one", "other"] ["one", "other"] (defScope sShare) := ⟨rfl, rfl, rfl, by decide +kernel, rfl, by decide +kernel, by decide +kernel⟩
theorem ok_share {f : Addr} {fd : FuncData} (F : Fun K "share_odd" "share_odd" sShare f fd) (B : Bl mg) : FnOk P w K mg base CX0 2 f fd ["one", "other"] (spShare K) := by
  refine F.ok scShare (fun vs H Q E h => ?_) (fun cdv A outer s H vs Q E hr h => ?_)
  · obtain ⟨a, b, ns, ms, rfl, _⟩ := h
    rfl
  · obtain ⟨a, b, ns, ms, rfl, ha, hb, l1, l2, c1, c2, nd, out⟩ := h
    refine ⟨_, pss_one (ps_ret (pe_cmpR op_eq (pe_op op_mod (pe_callB cr_lenSet (by rfl) B.len PySem.boot_len (pa_cons (pe_op op_andS (pe_callTy (cr_setTup rfl) (by rfl) B.set (by decide +kernel) (pa_cons (pv 0) pa_nil)) (pe_callTy (cr_setTup rfl) (by rfl) B.set (by decide +kernel) (pa_cons (pv 1) pa_nil))) pa_nil)) pe_int) pe_int (nomark _))), ?_⟩
    refine ⟨_, rfl, a, ns, rfl, ha, by omega, fun p1 n1 hp1 => ?_⟩
    have s1 := same_new (o := SetO w p1 (fun j => decide (j ∈ ns)) n1) hp1
    refine ⟨_, rfl, b, ms, rfl, same_sqt s1 hb, by omega, fun p2 n2 hp2 => ?_⟩
    have s2 := same_new (o := SetO w p2 (fun j => decide (j ∈ ms)) n2) hp2
    have ne : p1 ≠ p2 := fun z => by
      rw [← z, upd_same] at hp2
      cases hp2
    refine ⟨p1, p2, _, _, n1, n2, rfl, rfl, ne, s2 _ _ upd_same, upd_same, fun k hk => c1 k (of_decide_eq_true hk), fun k hk => c2 k (of_decide_eq_true hk), fun p3 c hp3 hc => ?_⟩
    have s3 := same_new (o := SetO w p3 (fun k => decide (k ∈ ns) && decide (k ∈ ms)) c) hp3
    have ec : c = (comm ns ms).length := hc _ (nd.sublist List.filter_sublist) mem_comm
    have lc : (comm ns ms).length ≤ ns.length := List.length_filter_le ..
    subst ec
    refine ⟨p3, _, _, rfl, upd_same, by omega, _, _, rfl, rfl, (by show (0 : Int) < 2; decide), rfl, ?_⟩
    have := out _ ((s1.trans s2).trans s3)
    have e : decide ((comm ns ms).length % 2 = 1) = decide (V.int ((((comm ns ms).length : Nat) : Int) % 2) = V.int 1) := by
      by_cases z : (comm ns ms).length % 2 = 1
      · rw [decide_eq_true z, decide_eq_true (by congr 1; omega)]
      · rw [decide_eq_false z, decide_eq_false (fun q => z (by injection q with q; omega))]
    rw [e] at this
    exact this
/-- a flip at f, with these cells -/
def Fp (C : Addr) (H : Hp) (f : Addr) (ts hs : List Int) : Prop := ∃ dx t1 t2, H f = some (.ins C dx [("tested_cells", .ref t1), ("toggled_cells", .ref t2)]) ∧ H t1 = some (.tup (ts.map V.int)) ∧ H t2 = some (.tup (hs.map V.int))
theorem Fp.same {C : Addr} {H H' : Hp} {f : Addr} {ts hs : List Int} (s : Same H H') (h : Fp C H f ts hs) : Fp C H' f ts hs := by
  obtain ⟨dx, t1, t2, h1, h2, h3⟩ := h
  exact ⟨dx, t1, t2, s _ _ h1, s _ _ h2, s _ _ h3⟩
structure FC (K : PySem.W.Frag) (mg : Str → Option Value) (C : Addr) : Prop where
  cl : Cls K C
  nT : NoAttr K C "tested_cells"
  nG : NoAttr K C "toggled_cells"
  mgC : mg "Flip" = some (.ref C)
theorem fld1 {v u : V} : ([("tested_cells", v), ("toggled_cells", u)] : List (Str × V)).lookup ("tested_cells" : Str) = some v := by
  simp [List.lookup]
theorem fld2 {v u : V} : ([("tested_cells", v), ("toggled_cells", u)] : List (Str × V)).lookup ("toggled_cells" : Str) = some u := by
  have e : (("toggled_cells" : Str) == ("tested_cells" : Str)) = false := by decide +kernel
  simp [List.lookup, e]
theorem no2 {m : Str} {v u : V} (h : (m == ("tested_cells" : Str)) = false) (h2 : (m == ("toggled_cells" : Str)) = false) : ([("tested_cells", v), ("toggled_cells", u)] : List (Str × V)).lookup m = none := by
  simp [List.lookup, h, h2]
theorem put2 {v u : V} : putF "toggled_cells" u ([("tested_cells", v)] : List (Str × V)) = ([("tested_cells", v), ("toggled_cells", u)] : List (Str × V)) := by
  have e : ¬ (("tested_cells" : Str) = "toggled_cells") := by decide +kernel
  show (if ("tested_cells" : Str) = "toggled_cells" then _ else (("tested_cells" : Str), v) :: putF "toggled_cells" u []) = _
  rw [if_neg e]
  rfl
def spTested (C : Addr) : Sp := fun vs H Q _ => ∃ (f : Addr) (ts hs : List Int), vs = [.ref f] ∧ Fp C H f ts hs ∧ ∀ t, H t = some (.tup (ts.map V.int)) → Q (.ref t) H
def spToggled (C : Addr) : Sp := fun vs H Q _ => ∃ (f : Addr) (ts hs : List Int), vs = [.ref f] ∧ Fp C H f ts hs ∧ ∀ t, H t = some (.tup (hs.map V.int)) → Q (.ref t) H
theorem scTested : FnScope ["self"] ["self"] (defScope gTested) := ⟨rfl, rfl, rfl, by decide +kernel, rfl, by decide +kernel, by decide +kernel⟩
theorem scToggled : FnScope ["self"] ["self"] (defScope gToggled) := ⟨rfl, rfl, rfl, by decide +kernel, rfl, by decide +kernel, by decide +kernel⟩
theorem ok_tested {f C : Addr} {fd : FuncData} (F : Fun K "tested" "Flip.tested" gTested f fd) (T : FC K mg C) : FnOk P w K mg base CX0 2 f fd ["self"] (spTested C) := by
  refine F.ok scTested (fun vs H Q E h => ?_) (fun cdv A outer s H vs Q E hr h => ?_)
  · obtain ⟨b, ts, hs, rfl, _⟩ := h
    rfl
  · obtain ⟨b, ts, hs, rfl, ⟨dx, t1, t2, h1, h2, h3⟩, out⟩ := h
    refine ⟨_, pss_one (ps_ret (pe_fld (pv 0) rfl)), ?_⟩
    exact ⟨_, rfl, b, C, dx, _, _, rfl, h1, T.cl, T.nT, fld1, out t1 h2⟩
theorem ok_toggled {f C : Addr} {fd : FuncData} (F : Fun K "toggled" "Flip.toggled" gToggled f fd) (T : FC K mg C) : FnOk P w K mg base CX0 2 f fd ["self"] (spToggled C) := by
  refine F.ok scToggled (fun vs H Q E h => ?_) (fun cdv A outer s H vs Q E hr h => ?_)
  · obtain ⟨b, ts, hs, rfl, _⟩ := h
    rfl
  · obtain ⟨b, ts, hs, rfl, ⟨dx, t1, t2, h1, h2, h3⟩, out⟩ := h
    refine ⟨_, pss_one (ps_ret (pe_fld (pv 0) rfl)), ?_⟩
    exact ⟨_, rfl, b, C, dx, _, _, rfl, h1, T.cl, T.nG, fld2, out t2 h3⟩
/-- cell_tuple, called with its default size -/
def HasD (P : Program) (w : World) (K : PySem.W.Frag) (mg : Str → Option Value) (base : Heap) (x : Str) (lv : Nat) (y : Str) (sp : Sp) : Prop :=
  ∃ f fd ds, FnOk P w K mg base CX0 lv f fd [y, "size"] sp ∧ mg x = some (.ref f) ∧ PySem.W.keepIn K (.ref f) = true ∧ Vals [V.int 40] ds ∧ Binds K fd [y, "size"] ds
theorem Sq.updI {C b dx v : Addr} {H : Hp} {fs : List (Str × V)} {xs : List V} {o : HO} (hb : H b = some (.ins C dx fs)) (h : Sq K H v xs) : Sq K (upd H b o) v xs := by
  have ne : ∀ {u : HO}, H v = some u → (∀ C dx fs, u ≠ .ins C dx fs) → v ≠ b := fun {u} e n z => by
    rw [z, hb] at e
    exact n _ _ _ (Option.some.inj e).symm
  rcases h with (h | ⟨o2, h⟩) | (h | ⟨o2, h⟩)
  · rcases (show H v = some (.lst xs) ∨ ∃ o', H v = some (.frz o' (.lst xs)) from by first | exact .inl h | exact h) with h | ⟨o', h⟩
    · exact .inl (.inl (.inl (by rw [upd_ne (ne h (fun _ _ _ z => by cases z))]; exact h)))
    · exact .inl (.inl (.inr ⟨o', by rw [upd_ne (ne h (fun _ _ _ z => by cases z))]; exact h⟩))
  · exact .inl (.inr ⟨o2, h⟩)
  · rcases (show H v = some (.tup xs) ∨ ∃ o', H v = some (.frz o' (.tup xs)) from by first | exact .inl h | exact h) with h | ⟨o', h⟩
    · exact .inr (.inl (.inl (by rw [upd_ne (ne h (fun _ _ _ z => by cases z))]; exact h)))
    · exact .inr (.inl (.inr ⟨o', by rw [upd_ne (ne h (fun _ _ _ z => by cases z))]; exact h⟩))
  · exact .inr (.inr ⟨o2, h⟩)
/-- __init__ of a flip that can be made -/
def spFInit (K : PySem.W.Frag) (C : Addr) : Sp := fun vs H Q _ => ∃ (b dx u v : Addr) (ts hs : List Int), vs = [.ref b, .ref u, .ref v] ∧ H b = some (.ins C dx []) ∧ Sq K H u (ts.map V.int) ∧ Sq K H v (hs.map V.int) ∧ ts.length ≤ 500 ∧ hs.length ≤ 500 ∧
  (∀ k ∈ ts, 0 ≤ k ∧ k < 40) ∧ (∀ k ∈ hs, 1 ≤ k ∧ k < 40) ∧ ts.Nodup ∧ hs.Nodup ∧ (comm ts hs).length % 2 = 0 ∧
  ∀ H' (ts' hs' : List Int), But b H H' → ts'.Perm ts → hs'.Perm hs → ts'.Pairwise (· ≤ ·) → hs'.Pairwise (· ≤ ·) → Fp C H' b ts' hs' → Q .non H'
theorem scFInit : FnScope ["self", "tested", "toggled"] ["self", "tested", "toggled"] (defScope gInit) := ⟨rfl, rfl, rfl, by decide +kernel, rfl, by decide +kernel, by decide +kernel⟩
theorem ok_finit {f C : Addr} {fd : FuncData} (F : Fun K "__init__" "Flip.__init__" gInit f fd) (B : Bl mg) (T : FC K mg C) (DC : HasD P w K mg base "cell_tuple" 5 "things" (spCells K)) (DO : Has P w K mg base "share_odd" 2 ["one", "other"] (spShare K)) :
    FnOk P w K mg base CX0 6 f fd ["self", "tested", "toggled"] (spFInit K C) := by
  obtain ⟨fD, fdD, dsD, GD, mD, kD, hdD, bD⟩ := DC
  obtain ⟨fO, fdO, GO, mO, kO, bO⟩ := DO
  refine F.ok scFInit (fun vs H Q E h => ?_) (fun cdv A outer s H vs Q E hr h => ?_)
  · obtain ⟨b, dx, u, v, ts, hs, rfl, _⟩ := h
    rfl
  · obtain ⟨b, dx, u, v, ts, hs, rfl, hb, hu, hv, l1, l2, c1, c2, n1, n2, ev, out⟩ := h
    have r1 : Room 2 _ := hr.mono (by decide)
    refine ⟨_, pss_cons (ps_fld (pv 0) (pe_call GD hr (by rfl) mD kD bD hdD pass0 (pa_cons (pv 1) pa_nil)) rfl)
      (pss_cons (ps_fld (pv 0) (pe_call GD hr (by rfl) mD kD bD hdD pass0 (pa_cons (pv 2) pa_nil)) rfl)
      (pss_cons (ps_if (pt_cmpR op_in_seq pe_int (pe_fld (pv 0) rfl) (by rfl)) (pss_one ps_off) pss_nil)
      (pss_one (ps_if (pt_val (pe_call GO r1 (by rfl) mO kO bO .nil pass0 (pa_cons (pe_fld (pv 0) rfl) (pa_cons (pe_fld (pv 0) rfl) pa_nil)))) (pss_one ps_off) pss_nil)))), ?_⟩
    refine ⟨_, rfl, u, 40, ts, rfl, hu, l1, c1, n1, fun t1 ts' H1 ht1 s1 p1 w1 e1 => ?_⟩
    have nb1 : t1 ≠ b := fun z => by rw [z, hb] at ht1; cases ht1
    refine ⟨_, rfl, b, C, dx, [], rfl, s1 _ _ hb, T.cl, T.nT, (by show 0 < 1000; decide), ?_⟩
    have k2 : But b H (upd H1 b (.ins C dx [("tested_cells", .ref t1)])) := fun x o nx e => by
      rw [upd_ne nx]
      exact s1 _ _ e
    have hv2 : Sq K (upd H1 b (.ins C dx [("tested_cells", .ref t1)])) v (hs.map V.int) := (hv.same s1).updI (s1 _ _ hb)
    refine ⟨_, rfl, v, 40, hs, rfl, hv2, l2, fun k hk => by have := c2 k hk; omega, n2, fun t2 hs' H3 ht2 s3 p2 w2 e2 => ?_⟩
    have nb2 : t2 ≠ b := fun z => by rw [z, upd_same] at ht2; cases ht2
    have e13 : H3 t1 = some (.tup (ts'.map V.int)) := s3 _ _ (by rw [upd_ne nb1]; exact e1)
    refine ⟨_, rfl, b, C, dx, _, rfl, s3 _ _ upd_same, T.cl, T.nG, (by show 1 < 1000; decide), ?_⟩
    rw [show putF "toggled_cells" (V.ref t2) (putF "tested_cells" (V.ref t1) []) = ([("tested_cells", V.ref t1), ("toggled_cells", V.ref t2)] : List (Str × V)) from put2]
    have f1 : (upd H3 b (.ins C dx [("tested_cells", .ref t1), ("toggled_cells", .ref t2)])) t1 = some (.tup (ts'.map V.int)) := by
      rw [upd_ne nb1]
      exact e13
    have f2 : (upd H3 b (.ins C dx [("tested_cells", .ref t1), ("toggled_cells", .ref t2)])) t2 = some (.tup (hs'.map V.int)) := by
      rw [upd_ne nb2]
      exact e2
    refine ⟨_, rfl, b, C, dx, _, _, rfl, upd_same, T.cl, T.nG, fld2, t2, _, rfl, .inr (SqT.of f2), rfl, flat_ints _, _, rfl, ?_⟩
    have h0 : ¬ (0 : Int) ∈ hs' := fun z => by
      have := c2 0 (p2.mem_iff.mp z)
      omega
    show if inV (V.int 0) (hs'.map V.int) = true then _ else _
    rw [in_ints, decide_eq_false h0]
    refine iteF ?_
    refine ⟨_, rfl, b, C, dx, _, _, rfl, upd_same, T.cl, T.nT, fld1, _, rfl, b, C, dx, _, _, rfl, upd_same, T.cl, T.nG, fld2, t1, t2, ts', hs', rfl, SqT.of f1, SqT.of f2, by rw [p1.length_eq]; exact l1, by rw [p2.length_eq]; exact l2, ?_, ?_, p1.nodup_iff.mpr n1, fun H5 s5 => ⟨_, rfl, ?_⟩⟩
    · intro k hk
      have := c1 k (p1.mem_iff.mp hk)
      exact ⟨by omega, by omega⟩
    · intro k hk
      have := c2 k (p2.mem_iff.mp hk)
      exact ⟨by omega, by omega⟩
    have eo : decide ((comm ts' hs').length % 2 = 1) = false := decide_eq_false (by rw [comm_perm p1 p2]; omega)
    rw [eo]
    refine iteF ?_
    refine out H5 ts' hs' (fun x o nx e => ?_) p1 p2 w1 w2 ⟨dx, t1, t2, s5 _ _ upd_same, s5 _ _ f1, s5 _ _ f2⟩
    refine s5 _ _ ?_
    rw [upd_ne nx]
    exact s3 _ _ (k2 x o nx e)
end
end K17
namespace Par
open PySem PySem.Spec PyProof.Rows L2
/-- one + other, any two tuples: some tuple of all items, one of the two or a new one -/
def rCatB (K : PySem.W.Frag) : R2 := fun x y H Q => ∃ a b xs ys, x = .ref a ∧ y = .ref b ∧ SqT K H a xs ∧ SqT K H b ys ∧ xs.length + ys.length ≤ sizeLine ∧
  ∀ c H', Same H H' → SqT K H' c (xs ++ ys) → Q (.ref c) H'
theorem op_catB {X : Cx} : OpR X (binaryOp .Add) (rCatB X.K) := by
  intro pins s σ H x y v u Q I rx ry h
  obtain ⟨a, b, xs, ys, rfl, rfl, ha, hb, hz, q⟩ := h
  by_cases hx : xs = []
  · subst hx
    cases rx
    cases ry
    obtain ⟨its, r1, p1, _⟩ := I.tuple ha
    obtain ⟨its2, r2, p2, _⟩ := I.tuple hb
    cases r1
    obtain ⟨⟨c1, d1, da1, sl1⟩, ho, hc, n, hd⟩ := id p1
    obtain ⟨⟨c2, d2, da2, sl2⟩, ho2, hc2, n2, hd2⟩ := id p2
    simp only at hc hd hc2 hd2
    subst hc hd hc2 hd2
    exact concat_meets ⟨_, ho, rfl⟩ ⟨_, ho2, rfl⟩ noFill_tuple_add seq_tuple_add PySem.F.slot_tuple_add PySem.F.entry_tuple_add (PySem.F.args_tuple_add_2 _ _)
      (tuple_addW0 a b _ its2.toArray n n2 d1 d2 sl1 sl2 rfl) ⟨ho, ho2, ⟨.ref b, H, I, rfl, q b H (fun _ _ e => e) hb⟩⟩
  · refine op_catT pins s σ H (.ref a) (.ref b) v u Q I rx ry ⟨a, b, xs, ys, rfl, rfl, ha, hb, hx, hz, fun e => ?_, fun e p hp => ?_⟩
    · subst e
      exact q a H (fun _ _ e => e) (by rw [List.append_nil]; exact ha)
    · exact q p _ (fun z o e2 => by rw [upd_ne (ne_of_none e2 hp)]; exact e2) (SqT.of upd_same)
end Par
namespace K17
open PySem PySem.Spec PyProof.Rows L2 Par
section
variable {P : Program} {w : World} {K : PySem.W.Frag} {mg : Str → Option Value} {base : Heap}
/-- the least size that these cells fit -/
def Fits (ts hs : List Int) (M : Int) : Prop := (∀ k, k ∈ ts ∨ k ∈ hs → k < M) ∧ 1 ≤ M ∧ (M = 1 ∨ (M - 1) ∈ ts ∨ (M - 1) ∈ hs)
theorem Fits.one {ts hs : List Int} {M N : Int} (h1 : Fits ts hs M) (h2 : Fits ts hs N) : M = N := by
  have le : ∀ {M N : Int}, Fits ts hs M → Fits ts hs N → M ≤ N := fun {M N} a b => by
    rcases a.2.2 with z | z
    · have := b.2.1
      omega
    · have := b.1 _ z
      omega
  exact Int.le_antisymm (le h1 h2) (le h2 h1)
def spFWidth (C : Addr) : Sp := fun vs H Q _ => ∃ (f : Addr) (ts hs : List Int), vs = [.ref f] ∧ Fp C H f ts hs ∧ ts.length ≤ 500 ∧ hs.length ≤ 500 ∧ (∀ k ∈ ts, 0 ≤ k) ∧ (∀ k ∈ hs, 0 ≤ k) ∧ ∀ M H', Same H H' → Fits ts hs M → Q (.int M) H'
theorem scFWidth : FnScope ["self"] ["self"] (defScope gWidth) := ⟨rfl, rfl, rfl, by decide +kernel, rfl, by decide +kernel, by decide +kernel⟩
theorem ok_fwidth {f C : Addr} {fd : FuncData} (F : Fun K "width" "Flip.width" gWidth f fd) (B : Bl mg) (T : FC K mg C) : FnOk P w K mg base CX0 2 f fd ["self"] (spFWidth C) := by
  refine F.ok scFWidth (fun vs H Q E h => ?_) (fun cdv A outer s H vs Q E hr h => ?_)
  · obtain ⟨b, ts, hs, rfl, _⟩ := h
    rfl
  · obtain ⟨b, ts, hs, rfl, ⟨dx, t1, t2, h1, h2, h3⟩, l1, l2, p1, p2, out⟩ := h
    refine ⟨_, pss_one (ps_ret (pe_op op_add (pe_callBK (ks := ["default"]) (cr_maxD rfl) (by rfl) B.max (by decide +kernel) (pa_cons (pe_op op_catB (pe_fld (pv 0) rfl) (pe_fld (pv 0) rfl)) pa_nil) (pk_cons pe_int pk_nil)) pe_int)), ?_⟩
    refine ⟨_, rfl, b, C, dx, _, _, rfl, h1, T.cl, T.nT, fld1, _, rfl, b, C, dx, _, _, rfl, h1, T.cl, T.nG, fld2, t1, t2, _, _, rfl, rfl, SqT.of h2, SqT.of h3, (by rw [List.length_map, List.length_map, sizeLine_eq]; omega), fun c H1 s1 hc => ?_⟩
    rw [← List.map_append] at hc
    refine ⟨c, ts ++ hs, 0, rfl, rfl, hc, fun M m1 m2 => ⟨M, 1, rfl, rfl, out (M + 1) H1 s1 ?_⟩⟩
    by_cases hn : ts ++ hs = []
    · have e := m1 hn
      subst e
      refine ⟨fun k hk => ?_, by omega, .inl (by omega)⟩
      have : k ∈ ts ++ hs := List.mem_append.mpr hk
      rw [hn] at this
      cases this
    · obtain ⟨mm, up⟩ := m2 hn
      have m0 : 0 ≤ M := by
        rcases List.mem_append.mp mm with z | z
        · exact p1 M z
        · exact p2 M z
      refine ⟨fun k hk => ?_, by omega, .inr ?_⟩
      · have := up k (List.mem_append.mpr hk)
        omega
      · rw [show M + 1 - 1 = M by omega]
        exact List.mem_append.mp mm
end
end K17
namespace Par
open PySem PySem.Spec PyProof.Rows L2
/-- f(e, .., k = v, ..), what is raised wished for at the slots -/
def tCallNS (n m : Nat) (sp : Sp) (gV : List V → List V → List V) (E : L2.St → XK) (t tk : TA) : TE := fun σ H Q =>
  t σ H fun vs H1 => tk σ H1 fun zs H2 => vs.length = n ∧ zs.length = m ∧ sp (gV vs zs) H2 Q (E σ)
section
variable {X : Cx} {CX : CXT} {k n : Nat} {f : Addr} {fd : FuncData} {ps ks : List Str} {sp : Sp} {E : L2.St → XK} {x : Str} {p pos : Pos} {e : Expr} {es : List Expr} {kws : List Keyword} {t tk : TA}
  {g : List Value → List Value → List Value} {gV : List V → List V → List V}
theorem pe_callNS (F : FnOk X.prog X.w X.K X.mg X.base CX k f fd ps sp) (hr : Room k X.A) (hg : Gl X x) (hm : X.mg x = some (.ref f)) (hk : PySem.W.keepIn X.K (.ref f) = true)
    (hb : KBn X.K fd ps n ks g gV) (hx : ∀ σ, PassesAt CX X σ (E σ)) (ha : PA X (e :: es) t) (hkw : PK X kws tk)
    (hall : (backToKw pos (keywordEach kws X.env)).all (·.1.isSome) = true := by rfl)
    (hks : (backToKw pos (keywordEach kws X.env)).filterMap (·.1) = ks := by rfl)
    (hdb : (x == ("__debug__" : Str)) = false := by decide)
    (he : starEach (e :: es) X.env = (false, eval e X.env) :: starEach es X.env := by rfl)
    (hpl : ((backTo pos (starEach (e :: es) X.env)).any (·.1) || (backToKw pos (keywordEach kws X.env)).any (·.1.isNone)) = false := by rfl) :
    PE X (.Call (.Name x p) (e :: es) kws pos) (tCallNS n ks.length sp gV E t tk) := by
  constructor
  intro pins s σ H Q I h
  refine wpAny_Call_Name_kw (ld_glob I hg hm ?_ hdb)
  refine PySem.W.callWith_KW (h₀ := X.base) I.ok.mod.kin hk hall (thn (ha.run pos pins s σ H _ I h) ?_) hpl he
  rintro us s1 ⟨vs, H1, I1, r, q⟩
  refine thn (hkw.run pos pins s1 σ H1 _ I1 q) ?_
  rintro ws s2 ⟨zs, H2, I2, rz, l1, l2, q2⟩
  refine ⟨I2.kIn, ?_⟩
  rw [hks]
  refine wpAny_call (codeAny_mono (F.run X.A X.stack s2 H2 ⟨us, ks.zip ws⟩ (g us ws) (gV vs zs) Q (E σ) hr I2.env0
    (hb.to s2 us ws I2.kIn (r.length.symm.trans l1) (rz.length.symm.trans l2)) (hb.rel r rz) q2) ?_)
  intro res s3 hq
  cases res with
  | error er => exact hx σ pins H2 s2 er s3 I2 hq
  | ok fl =>
    cases fl with
    | ret u => exact I2.after hq
    | next => exact False.elim hq
    | brk => exact False.elim hq
    | cont => exact False.elim hq
end
section
variable {X : Cx} {a D : Addr} {oe : Obj} {cls : Value} {d : Option Addr} {pn : List (Addr × Obj)}
theorem held_inst {pins : List (Addr × Obj)} {σ : L2.St} {H : Hp} {s : Shared} {dd : Addr} {fs : List (Str × V)} (hz : Zc cls d oe) (hf : ∃ vs, oe.data = .fields vs)
    (I : L2.Inv (X.suite a ((a, oe) :: pn)) pins σ H s) (ec : cls = .ref D) (ed : d = some dd) (ea : H dd = some (.xd fs)) : ∃ od, PySem.W.InstAt s.heap a oe D (some od) := by
  subst ec ed
  have ha := (I.pin (a, oe) (List.mem_append_left _ List.mem_cons_self)).1
  obtain ⟨vs, hd⟩ := hf
  obtain ⟨mA, hns, hr⟩ := (show ObjOk X.prog X.w H s.heap dd (.xd fs) from I.hok dd _ ea)
  obtain ⟨od, ho, hl⟩ := lookIn_ns hns
  exact ⟨od, ha, hz.1, by unfold PySem.W.notCls; rw [hd] <;> rfl, by rw [hz.2]; exact ho⟩
theorem kit_held (C : ExcC X.K D) {od : Option Obj} : PySem.W.KitX X.K (.ref a) (.ref D) (fun h => PySem.W.InstAt h a oe D od) := by
  refine PySem.W.kitx_exc ?_ C.hg C.hk C.hs C.ha C.hn C.ht C.hm
  obtain ⟨cd, hc, _⟩ := PySem.W.any_some C.hd
  rw [hc]
  rfl
/-- isinstance(e, c), e the error that the suite holds, with its own dict -/
theorem call_isX (C : ExcC X.K D) (hz : Zc cls d oe) (hf : ∃ vs, oe.data = .fields vs) : CallR (X.suite a ((a, oe) :: pn)) (.builtin "isinstance")
    (fun xs H Q => ∃ (c : V) (u : Value) (b : Bool) (dd : Addr) (fs : List (Str × V)), xs = [.ref a, c] ∧ cls = .ref D ∧ d = some dd ∧ H dd = some (.xd fs) ∧ ClsV c u ∧ PySem.W.kitOne X.K (.ref D) u = some b ∧ Q (.bl b) H) := by
  intro pins s σ H xs us Q I r h
  obtain ⟨c, u, b, dd, fs, rfl, ec, ed, ea, k, e, q⟩ := h
  obtain ⟨u1, u2, rfl, r1, r2⟩ := vals2 r
  cases (show u1 = Value.ref a from r1)
  have e2 := k.eq r2
  subst e2
  obtain ⟨od, J⟩ := held_inst hz hf I ec ed ea
  exact PySem.W.kia_one (kit_held C) I.kIn J e (fun z => nomatch z) fun tk => ⟨.bl b, H, I.tok tk, rfl, q⟩
theorem call_isXT (C : ExcC X.K D) (hz : Zc cls d oe) (hf : ∃ vs, oe.data = .fields vs) : CallR (X.suite a ((a, oe) :: pn)) (.builtin "isinstance")
    (fun xs H Q => ∃ (tp : Addr) (cs : List V) (ws : List Value) (b : Bool) (dd : Addr) (fs : List (Str × V)), xs = [.ref a, .ref tp] ∧ H tp = some (.tup cs) ∧ Paired ClsV cs ws ∧ cls = .ref D ∧ d = some dd ∧ H dd = some (.xd fs) ∧
      PySem.W.kitAny X.K (.ref D) ws = some b ∧ Q (.bl b) H) := by
  intro pins s σ H xs us Q I r h
  obtain ⟨tp, cs, ws, b, dd, fs, rfl, hT, k, ec, ed, ea, e, q⟩ := h
  obtain ⟨u1, u2, rfl, r1, r2⟩ := vals2 r
  cases (show u1 = Value.ref a from r1)
  cases (show u2 = Value.ref tp from r2)
  obtain ⟨od, J⟩ := held_inst hz hf I ec ed ea
  obtain ⟨_, its, rv, o, h1, h2, n, h3⟩ := (show ObjOk X.prog X.w H s.heap tp (.tup cs) from I.hok tp _ hT)
  have e3 := ClsV.all k rv
  subst e3
  obtain ⟨oc, ood, dt, sl⟩ := o
  simp only at h2 h3
  subst h2 h3
  exact PySem.W.kia_tup (kit_held C) I.kIn J h1 e (fun z => nomatch z) fun tk => ⟨.bl b, H, I.tok tk, rfl, q⟩
end
end Par
namespace Par
open PySem PySem.Spec PyProof.Rows L2
/-! ### errors over any built-in base -/
/-- own classes, then the base's own line -/
def Over (tail l : List Value) : Prop := tail ≠ [] ∧ ∃ cs : List Addr, l = cs.map Value.ref ++ tail
theorem Over.cons {tail l : List Value} (h : Over tail l) (c : Addr) : Over tail (.ref c :: l) := by
  obtain ⟨h1, cs, e⟩ := h
  exact ⟨h1, c :: cs, by rw [e]; rfl⟩
theorem Over.nonempty {tail l : List Value} (h : Over tail l) : l.isEmpty = false := by
  obtain ⟨h1, cs, e⟩ := h
  subst e
  cases cs with
  | cons c cs => rfl
  | nil =>
    cases tail with
    | nil => exact absurd rfl h1
    | cons _ _ => rfl
theorem Over.has {tail l : List Value} (h : Over tail l) (T : String) : l.contains (.type T) = tail.contains (.type T) := by
  obtain ⟨_, cs, e⟩ := h
  subst e
  induction cs with
  | nil => rfl
  | cons c cs ih =>
    show ((Value.type T == Value.ref c) || _) = _
    rw [show (Value.type T == Value.ref c) = false from rfl, Bool.false_or]
    exact ih
theorem Over.lets {tail l : List Value} (h : Over tail l) (ok : ∀ self, refuseLoop self "__setattr__" tail = pure ()) (self : Value) : refuseLoop self "__setattr__" l = pure () := by
  obtain ⟨_, cs, e⟩ := h
  subst e
  induction cs with
  | nil => exact ok self
  | cons c cs ih =>
    show refuseLoop self "__setattr__" (Value.ref c :: (cs.map Value.ref ++ tail)) = pure ()
    rw [refuseLoop_ref]
    exact ih
section
variable {prog : Program} {w : World} {A : Around} {R : Result → Shared → Prop} {hp : Heap} {g : Array GenState} {d : Drawn} {t : Nat} {os : OsState}
open Builtin Builtin.ObjectAttr PySem.W PySem.HandSPX in
/-- the first field of an error -/
theorem first_field {K : PySem.W.Frag} {fld : Str} {tk : Tok} {v : Value} {x C : Addr} {fv : Array Value} {cd : ClassData} {tail : List Value} (X : K.In hp)
    (at_ : hp.get? x = some { cls := .ref C, data := .fields fv }) (isC : clsIn K C = some cd) (ov : Over tail cd.mro) (objd : tail.contains (.type "object") = true)
    (ok : ∀ self, refuseLoop self "__setattr__" tail = pure ()) (own : cd.hasDict = true) (no : findIn K (.ref C) fld = some none)
    (out : ∀ h' tk' dx, (∀ b o, b ≠ x → hp.get? b = some o → h'.get? b = some o) → hp.objs.size ≤ dx → dx ≠ x → h'.get? x = some { cls := .ref C, dict := some dx, data := .fields fv } →
      h'.Ns1 dx (fun y => if y = fld then some v else none) → R (.ok (.ret .none)) ⟨h', g, d, tk', os⟩) :
    codeAny (model prog w) A (.call (.builtin "object.__setattr__") ⟨[.ref x, .str fld tk, v], []⟩) R ⟨hp, g, d, t, os⟩ := by
  have inst : InstAt hp x { cls := .ref C, data := .fields fv } C none := ⟨at_, rfl, rfl, trivial⟩
  have st := F.store_object
  have hObj : cd.mro.contains (.type "object") = true := (ov.has "object").trans objd
  have far : x ≠ hp.objs.size := Nat.ne_of_lt (Heap.lt_size at_)
  have isObj : Looks (model prog w) hp (isInstance (.ref x) (.type "object")) true :=
    inst.type.andThen (looks_mroIn X (by unfold mroIn; rw [isC, Option.bind_some, if_neg (by rw [ov.nonempty]; decide), hObj]))
  refine codeAny_call_builtin st.slot.plain st.entry (@check_slot (model prog w) _ _ ⟨hp, g, d, t, os⟩ "object.__setattr__" "object" "__setattr__"
    (.ref x) [.str fld tk, v] [] _ st.kind st.split isObj (st.args (.ref x) (.str fld tk) v) ?_)
  have lm : Looks (model prog w) hp (mroOf (.ref C)) cd.mro := (looks_clsIn X isC).andThen .now
  have ln : Looks (model prog w) hp (storeTaker? none) none := .now
  have lc : Looks (model prog w) hp (classData C) cd := looks_clsIn X isC
  rw [osa_eq, refuse_eq]
  refine wpAny_bind (wpAny_bind (inst.type.at (wpAny_bind (lm.at ?_))))
  rw [ov.lets ok]
  refine wpAny_pure (wpAny_bind (inst.type.at (wpAny_bind ((looks_findIn X no).at (wpAny_bind (ln.at ?_))))))
  show wpAny _ _ (storeInOwnDict (.ref x) (.ref C) (.str fld tk) fld v false) _ _ _
  obtain ⟨nm, bs, mro, ns, qn, hd, sn, sb, ab, col, dl⟩ := cd
  dsimp only at own
  subst own
  unfold storeInOwnDict ownDictForStores
  repeat (first | with_reducible refine store_in_new ?_ ?_ | with_reducible refine wpAny_loadPart_at at_ ?_ | with_reducible refine lc.at ?_ | wp_step)
  · exact ⟨_, #[], _, (Heap.get?_update_ne _ _ _ _ far.symm).trans (Heap.get?_push_at rfl rfl), rfl, fun e z => absurd z (by simp), fun _ => rfl⟩
  · intro h' tk' made kept
    have old : (hp.push { cls := .type "dict", data := .dict #[] }).get? x = some { cls := .ref C, data := .fields fv } := Heap.get?_push_of_some _ at_
    refine out h' tk' hp.objs.size (fun b o nb e => ?_) (Nat.le_refl _) far.symm ?_ made
    · exact (kept.2 b (Nat.ne_of_lt (Heap.lt_size e))).trans ((Heap.get?_update_ne _ _ _ _ nb).trans (Heap.get?_push_of_some _ e))
    · exact (kept.2 x far).trans (Heap.get?_update_self _ old rfl)
open Builtin Builtin.ObjectAttr PySem.W PySem.HandSPX PySem.OEX in
/-- a further field of an error -/
theorem more_field {K : PySem.W.Frag} {fld : Str} {tk : Tok} {v : Value} {x C dx : Addr} {fv : Array Value} {cd : ClassData} {tail : List Value} {m0 : Str → Option Value} {nl : List Str} (X : K.In hp)
    (at_ : hp.get? x = some { cls := .ref C, dict := some dx, data := .fields fv }) (names : hp.Ns1 dx m0) (win : Within m0 nl) (few : nl.length ≤ 1000) (isC : clsIn K C = some cd) (ov : Over tail cd.mro)
    (objd : tail.contains (.type "object") = true) (ok : ∀ self, refuseLoop self "__setattr__" tail = pure ()) (own : cd.hasDict = true) (no : findIn K (.ref C) fld = some none)
    (out : ∀ h' tk', (∀ b o, b ≠ dx → hp.get? b = some o → h'.get? b = some o) → h'.Ns1 dx (fun y => if y = fld then some v else m0 y) → R (.ok (.ret .none)) ⟨h', g, d, tk', os⟩) :
    codeAny (model prog w) A (.call (.builtin "object.__setattr__") ⟨[.ref x, .str fld tk, v], []⟩) R ⟨hp, g, d, t, os⟩ := by
  obtain ⟨od, esd, epd, atD, dtD, _⟩ := names.count win
  have inst : InstAt hp x { cls := .ref C, dict := some dx, data := .fields fv } C (some od) := ⟨at_, rfl, rfl, atD⟩
  have st := F.store_object
  have hObj : cd.mro.contains (.type "object") = true := (ov.has "object").trans objd
  have isObj : Looks (model prog w) hp (isInstance (.ref x) (.type "object")) true :=
    inst.type.andThen (looks_mroIn X (by unfold mroIn; rw [isC, Option.bind_some, if_neg (by rw [ov.nonempty]; decide), hObj]))
  refine codeAny_call_builtin st.slot.plain st.entry (@check_slot (model prog w) _ _ ⟨hp, g, d, t, os⟩ "object.__setattr__" "object" "__setattr__"
    (.ref x) [.str fld tk, v] [] _ st.kind st.split isObj (st.args (.ref x) (.str fld tk) v) ?_)
  have lm : Looks (model prog w) hp (mroOf (.ref C)) cd.mro := (looks_clsIn X isC).andThen .now
  have ln : Looks (model prog w) hp (storeTaker? none) none := .now
  have lc : Looks (model prog w) hp (classData C) cd := looks_clsIn X isC
  rw [osa_eq, refuse_eq]
  refine wpAny_bind (wpAny_bind (inst.type.at (wpAny_bind (lm.at ?_))))
  rw [ov.lets ok]
  refine wpAny_pure (wpAny_bind (inst.type.at (wpAny_bind ((looks_findIn X no).at (wpAny_bind (ln.at ?_))))))
  show wpAny _ _ (storeInOwnDict (.ref x) (.ref C) (.str fld tk) fld v false) _ _ _
  obtain ⟨nm, bs, mro, ns, qn, hd, sn, sb, ab, col, dl⟩ := cd
  dsimp only at own
  subst own
  unfold storeInOwnDict ownDictForStores
  repeat (first | with_reducible refine store_in_old names win few ?_ | with_reducible refine wpAny_loadPart_at at_ ?_ | with_reducible refine lc.at ?_ | wp_step)
  intro h' tk' made kept
  exact out h' tk' (fun b o nb e => (kept.2 b nb).trans e) made
end
/-- what is known of a built-in base -/
structure Bas (newId : String) (tail : List Value) : Prop where
  base : ∃ B initId, ExcBaseFacts B newId initId tail
  full : tail ≠ []
  objd : tail.contains (.type "object") = true
  lets : ∀ self, refuseLoop self "__setattr__" tail = pure ()
theorem bas_value : Bas "ValueError.__new__" [.type "ValueError", .type "Exception", .type "BaseException", .type "object"] := ⟨⟨_, _, F.excBase_ValueError⟩, by simp, by decide +kernel, F.store_ValueError.passes⟩
theorem bas_lookup : Bas "LookupError.__new__" [.type "LookupError", .type "Exception", .type "BaseException", .type "object"] := ⟨⟨_, _, F.excBase_LookupError⟩, by simp, by decide +kernel, F.store_LookupError.passes⟩
theorem bas_runtime : Bas "RuntimeError.__new__" [.type "RuntimeError", .type "Exception", .type "BaseException", .type "object"] := ⟨⟨_, _, F.excBase_RuntimeError⟩, by simp, by decide +kernel, F.store_RuntimeError.passes⟩
theorem bas_arith : Bas "ArithmeticError.__new__" [.type "ArithmeticError", .type "Exception", .type "BaseException", .type "object"] := ⟨⟨_, _, F.excBase_ArithmeticError⟩, by simp, by decide +kernel, F.store_ArithmeticError.passes⟩
/-- an own class of errors over such a base -/
structure ErrC (K : PySem.W.Frag) (C : Addr) : Prop where
  is : ∃ newId tail nm q N bs bm sn sub ab col dd k0 k1 k2 k3 k5, Bas newId tail ∧ K.lookup C = some (excClassObj nm q C N bs bm true sn sub ab col dd k0 k1 k2 k3 k5 newId) ∧ ∃ cs : List Addr, bm = cs.map Value.ref ++ tail
  sets : PySem.W.findIn K (.ref C) "__setattr__" = some (some (.builtin "object.__setattr__"))
  exc : PySem.W.subIn K (.ref C) (.type "BaseException") = some true
  typ : PySem.W.typeIn K (.ref C) = some (.type "type")
  kept : PySem.W.keepIn K (.ref C) = true
section
variable {X : Cx} {pins : List (Addr × Obj)} {σ : L2.St} {H : Hp} {s : Shared} {a C dx : Addr} {f : Str} {y : V} {u : Value} {fs : List (Str × V)} {Q : Unit → Shared → Prop} {E : Value → Shared → Prop} {A : Around}
theorem err_first (T : ErrC X.K C) (I : L2.Inv X pins σ H s) (e : H a = some (exo a C none)) (no : PySem.W.findIn X.K (.ref C) f = some none) (ry : RelV y u)
    (out : ∀ dx s', H dx = none → dx ≠ a → L2.Inv X pins σ (upd (upd H dx (exd dx [(f, y)])) a (exo a C (some dx))) s' → Q () s') : wpAny (model X.prog X.w) A (setAttr (.ref a) f u) Q E s := by
  obtain ⟨newId, tail, nm, q, N, bs, bm, sn, sub, ab, col, dd, k0, k1, k2, k3, k5, bas, atC, cs, ebm⟩ := T.is
  have isC : PySem.W.clsIn X.K C = some { name := nm, bases := bs, mro := .ref C :: bm, ns := N, qualname := q, hasDict := true, slotNames := sn, subclasses := sub, abstract := ab, collection := col, hasDel := false } := by
    unfold PySem.W.clsIn
    rw [atC]
  have ov : Over tail (.ref C :: bm) := Over.cons ⟨bas.full, cs, ebm⟩ C
  obtain ⟨t1, ho⟩ := exo_at I.hok e
  obtain ⟨hp, g, d, t, os⟩ := s
  refine PySem.W.set_plain I.kIn (ox := { cls := .ref C, dict := none, data := .fields #[.ref t1, .none, .none, .none, .bool false, .none] }) (od := none) ⟨ho, rfl, rfl, trivial⟩ T.sets ?_
  refine first_field I.kIn ho isC ov bas.objd bas.lets rfl no fun h' tk' dx k dn dne hx hn => ?_
  have free : H dx = none := I.hok.fresh dn
  have apart : ∀ {b : Addr} {o : Obj}, hp.get? b = some o → b ≠ dx := fun {b o} z => Nat.ne_of_lt (Nat.lt_of_lt_of_le (Heap.lt_size z) dn)
  have else_ : ∀ {b : Addr}, H b = none → b ≠ a := fun {b} n z => by
    rw [z, e] at n
    cases n
  have un : Un X.fs [] H (upd (upd H dx (exd dx [(f, y)])) a (exo a C (some dx))) hp h' := {
    keep := fun b o z n _ _ => k b o (else_ n) z
    slot := fun b o z n _ _ => ⟨o.slots, k b o (else_ n) z⟩
    free := fun b o z n _ => by
      rw [upd_ne (else_ n), upd_ne (apart z)]
      exact n
    there := fun b o z _ => by
      by_cases hb : b = a
      · exact ⟨_, by rw [hb]; exact hx⟩
      · exact ⟨o, k b o hb z⟩
    tups := fun b xs z => by
      rw [upd_ne (at_ne e z exo_tup), upd_ne (ne_of_none z free)]
      exact z
    frzs := fun b o v z => by
      rw [upd_ne (at_ne e z exo_frz), upd_ne (ne_of_none z free)]
      exact z
    tbls := fun b ps z => ⟨#[], by
      rw [upd_ne (at_ne e z exo_tbl), upd_ne (ne_of_none z free), z]
      simp⟩ }
  refine out dx _ free dne (I.un (t' := tk') un fun b o z => ?_)
  by_cases hb : b = a
  · subst hb
    rw [upd_same] at z
    cases z
    exact exo_ok hx
  · rw [upd_ne hb] at z
    by_cases hd : b = dx
    · subst hd
      rw [upd_same] at z
      cases z
      exact exd_ok hn (relO_put (fs := []) ry fun g => True.intro)
    · rw [upd_ne hd] at z
      refine (I.hok b o z).stay (fun c v hc z2 => k c v ?_ z2) (fun c hc => ?_) (fun c xs hc => ?_)
      · rcases hc with hc | hc
        · rw [hc]
          exact hb
        · exact at_ne e hc exo_own
      · rw [upd_ne (at_ne e hc exo_own), upd_ne (ne_of_none hc free)]
        exact hc
      · rw [upd_ne (at_ne e hc exo_tup), upd_ne (ne_of_none hc free)]
        exact hc
theorem err_more (T : ErrC X.K C) (I : L2.Inv X pins σ H s) (e : H a = some (exo a C (some dx))) (ed : H dx = some (exd dx fs)) (few : fs.length ≤ 900) (no : PySem.W.findIn X.K (.ref C) f = some none) (ry : RelV y u)
    (out : ∀ s', L2.Inv X pins σ (upd H dx (exd dx ((f, y) :: fs))) s' → Q () s') : wpAny (model X.prog X.w) A (setAttr (.ref a) f u) Q E s := by
  obtain ⟨newId, tail, nm, q, N, bs, bm, sn, sub, ab, col, dd, k0, k1, k2, k3, k5, bas, atC, cs, ebm⟩ := T.is
  have isC : PySem.W.clsIn X.K C = some { name := nm, bases := bs, mro := .ref C :: bm, ns := N, qualname := q, hasDict := true, slotNames := sn, subclasses := sub, abstract := ab, collection := col, hasDel := false } := by
    unfold PySem.W.clsIn
    rw [atC]
  have ov : Over tail (.ref C :: bm) := Over.cons ⟨bas.full, cs, ebm⟩ C
  obtain ⟨t1, ho⟩ := exo_at I.hok e
  obtain ⟨mA, names, rel⟩ := exd_at I.hok ed
  have win := within_of rel
  obtain ⟨hp, g, d, t, os⟩ := s
  obtain ⟨oD, _, _, atD, _, _⟩ := names.count win
  refine PySem.W.set_plain I.kIn (ox := { cls := .ref C, dict := some dx, data := .fields #[.ref t1, .none, .none, .none, .bool false, .none] }) (od := some oD) ⟨ho, rfl, rfl, atD⟩ T.sets ?_
  refine more_field I.kIn ho names win (by rw [List.length_map]; omega) isC ov bas.objd bas.lets rfl no fun h' tk' k hn => ?_
  have stands : ∃ o, h'.get? dx = some o := by
    obtain ⟨o, _, _, z, _⟩ := hn
    exact ⟨o, z⟩
  exact out _ (I.write (t' := tk') (x := dx) (e := dx) (o := exd dx ((f, y) :: fs)) (by rw [ed]; exact True.intro) (.inl rfl) k stands (exd_ok hn (relO_put ry rel)))
end
/-- self.f = e in an error's __init__ -/
def tErrS (K : PySem.W.Frag) (f : Str) (to te : TE) : TS := fun D σ H => te σ H fun y H1 => to σ H1 fun x H2 => ∃ a C : Addr, x = .ref a ∧ ErrC K C ∧ PySem.W.findIn K (.ref C) f = some none ∧
  ((H2 a = some (exo a C none) ∧ ∀ dx, H2 dx = none → dx ≠ a → D.nx σ (upd (upd H2 dx (exd dx [(f, y)])) a (exo a C (some dx)))) ∨
    ∃ (dx : Addr) (fs : List (Str × V)), H2 a = some (exo a C (some dx)) ∧ H2 dx = some (exd dx fs) ∧ fs.length ≤ 900 ∧ D.nx σ (upd H2 dx (exd dx ((f, y) :: fs))))
section
variable {X : Cx} {o e : Expr} {es : List Expr} {to te : TE} {ta : TA} {f : Str} {p p' pos : Pos}
theorem ps_errS (ho : PE X o to) (he : PE X e te) (hs : swapsWith e (some (.Attribute o f p')) pos.line X.env = pure false := by rfl) : PS X (.Assign [.Attribute o f p'] e pos) (tErrS X.K f to te) := by
  refine ⟨fun pins s σ H D I h => ?_⟩
  refine plainObj_wpAny_Assign_Attribute (thn (he.run pins s σ H _ I h) ?_) hs
  rintro v s1 ⟨y, H1, I1, r1, q1⟩
  refine thn (ho.run pins s1 σ H1 _ I1 q1) ?_
  rintro u s2 ⟨x, H2, I2, r2, a, C, ex, T, no, q⟩
  subst ex
  obtain rfl : u = Value.ref a := r2
  rcases q with ⟨ea, q⟩ | ⟨dx, fs, ea, ed, few, q⟩
  · exact err_first T I2 ea no r1 fun dx s' n ne J => ⟨σ, _, J, q dx n ne⟩
  · exact err_more T I2 ea ed few no r1 fun s' J => ⟨σ, _, J, q⟩
/-- C(e, ..) of an error whose own __init__ keeps its promise -/
theorem pmk_err {CX : CXT} {x : Str} {C fI : Addr} {k : Nat} {fd : FuncData} {ps : List Str} {sp : Sp} {ds : List Value} {dvs : List V} (T : ErrC X.K C) (ini : PySem.W.findIn X.K (.ref C) "__init__" = some (some (.ref fI)))
    (isF : PySem.W.typeIn X.K (.ref fI) = some (.type "function")) (G : FnOk X.prog X.w X.K X.mg X.base CX k fI fd ps sp) (hr : Room (k + 1) X.A) (hb : Binds X.K fd ps ds) (hd : Vals dvs ds) (hx : Passes CX X (fun _ _ _ => False))
    (hg : Gl X x) (hm : X.mg x = some (.ref C)) (ha : PA X (e :: es) ta)
    (hdb : (x == ("__debug__" : Str)) = false := by decide) (he : starEach (e :: es) X.env = (false, eval e X.env) :: starEach es X.env := by rfl) (hpl : (backTo pos (starEach es X.env)).any (·.1) = false := by rfl) :
    PMk X (.Call (.Name x p) (e :: es) [] pos) (tMkO C sp dvs ta) := by
  intro pins s σ H Q I h
  obtain ⟨newId, tail, nm, q, N, bs, bm, sn, sub, ab, col, dd, k0, k1, k2, k3, k5, bas, atC, cs, ebm⟩ := T.is
  obtain ⟨B, initId, facts⟩ := bas.base
  have ov : Over tail bm := ⟨bas.full, cs, ebm⟩
  refine wpAny_Call_Name_kw (ld_glob I hg hm ?_ hdb)
  refine PySem.W.callWith_K (h₀ := X.base) I.ok.mod.kin T.kept (thn (ha.run pos pins s σ H _ I h) ?_) he hpl
  rintro us s1 ⟨vs, H1, I1, r1, few, q1⟩
  refine ⟨I1.kIn, ?_⟩
  show wpAny _ _ (call (.ref C) us) _ _ _
  obtain ⟨hp, g, dr, tk, os⟩ := s1
  have up : hp.objs.size ≤ hp.objs.size + 1 := Nat.le_succ _
  have want := q1 (hp.objs.size + 1) (I1.hok.fresh up)
  have old : ∀ b o, hp.get? b = some o → ((hp.push (PySem.W.kdv_tup us)).push (PySem.HandSPX.excO C hp.objs.size)).get? b = some o := fun b o z => Heap.get?_push_of_some _ (Heap.get?_push_of_some _ z)
  have made : ((hp.push (PySem.W.kdv_tup us)).push (PySem.HandSPX.excO C hp.objs.size)).get? (hp.objs.size + 1) = some (PySem.HandSPX.excO C hp.objs.size) := by heap_get
  have I2 : L2.Inv X pins σ (upd H1 (hp.objs.size + 1) (exo (hp.objs.size + 1) C none)) ⟨(hp.push (PySem.W.kdv_tup us)).push (PySem.HandSPX.excO C hp.objs.size), g, dr, tk, os⟩ :=
    I1.laid (t' := tk) (a := hp.objs.size + 1) (o := exo (hp.objs.size + 1) C none) (h' := (hp.push (PySem.W.kdv_tup us)).push (PySem.HandSPX.excO C hp.objs.size)) old up (exo_ok made)
  have rel : Vals (V.ref (hp.objs.size + 1) :: (vs ++ dvs)) (Value.ref (hp.objs.size + 1) :: (us ++ ds)) := .cons rfl (r1.append hd)
  have len : (Value.ref (hp.objs.size + 1) :: us ++ ds).length = ps.length := by
    have z := rel.length
    rw [G.len _ _ _ _ want] at z
    exact z.symm
  have short : us.length ≤ sizeLine := by
    rw [← Paired.length r1, sizeLine_eq]
    omega
  refine wpAny_call (PySem.HandSPX.call_own facts (fun Y => ov.has Y) (I1.kIn _ _ atC) (PySem.W.looks_findIn I1.kIn ini) (fun self => PySem.W.bind_fn I1.kIn self isF) short (codeAny_mono
    (G.run _ X.stack _ _ ⟨Value.ref (hp.objs.size + 1) :: us, []⟩ (Value.ref (hp.objs.size + 1) :: (us ++ ds)) _ _ (fun _ _ _ => False) (hr.make C us []) (I2.env0.make C us []) (hb _ (Value.ref (hp.objs.size + 1) :: us) I2.kIn len) rel want) ?_))
  intro r s' z
  cases r with
  | error er => exact hx pins σ _ _ er s' I2 z
  | ok fl =>
    cases fl with
    | next => exact False.elim z
    | brk => exact False.elim z
    | cont => exact False.elim z
    | ret u =>
      obtain ⟨v, H2, os2, bare2, un2, hok2, rv, ev, d, fs, ea, ed, hd1, q2⟩ := z
      subst ev
      obtain ⟨h2, g2, d2, t2, os'⟩ := s'
      exact ⟨rv, mk_end (raises_own T.exc T.typ) I1 up old un2 hok2 os2 bare2 ea ed hd1 q2⟩
end
end Par
namespace K17
open PySem PySem.Spec PyProof.Rows L2 Par
/-- what the module says of TooWide -/
structure WC (K : PySem.W.Frag) (mg : Str → Option Value) (C : Addr) : Prop where
  gC : mg "TooWide" = some (.ref C)
  err : ErrC K C
  no : PySem.W.findIn K (.ref C) "needed" = some none
section
variable {P : Program} {w : World} {K : PySem.W.Frag} {mg : Str → Option Value} {base : Heap}
def spWIni (C : Addr) : Sp := fun vs H Q _ => ∃ (a : Addr) (v : V), vs = [.ref a, v] ∧ H a = some (exo a C none) ∧
  ∀ dx, H dx = none → dx ≠ a → Q .non (upd (upd H dx (exd dx [("needed", v)])) a (exo a C (some dx)))
theorem scWIni : FnScope ["self", "needed"] ["self", "needed"] (defScope sWIni) := ⟨rfl, rfl, rfl, by decide +kernel, rfl, by decide +kernel, by decide +kernel⟩
theorem ok_wini {f C : Addr} {fd : FuncData} (F : Fun K "__init__" "TooWide.__init__" sWIni f fd) (T : WC K mg C) : FnOk P w K mg base CX0 2 f fd ["self", "needed"] (spWIni C) := by
  refine F.ok scWIni (fun vs H Q E h => ?_) (fun cdv A outer s H vs Q E hr h => ?_)
  · obtain ⟨a, v, rfl, _⟩ := h
    rfl
  · obtain ⟨a, v, rfl, ha, out⟩ := h
    refine ⟨_, pss_one (ps_errS (pv 0) (pv 1)), ?_⟩
    exact ⟨_, rfl, _, rfl, a, C, rfl, T.err, T.no, .inl ⟨ha, out⟩⟩
def HasW (P : Program) (w : World) (K : PySem.W.Frag) (mg : Str → Option Value) (base : Heap) (C : Addr) : Prop :=
  ∃ f fd, FnOk P w K mg base CX0 2 f fd ["self", "needed"] (spWIni C) ∧ PySem.W.findIn K (.ref C) "__init__" = some (some (.ref f)) ∧ PySem.W.typeIn K (.ref f) = some (.type "function") ∧ Binds K fd ["self", "needed"] []
/-- what raise TooWide(v) leads to -/
theorem made_wide {C : Addr} {H : Hp} {v : V} {W : Value → Option Addr → Hp → Prop} (h : ∀ d H', H d = none → Same H H' → H' d = some (.xd [("needed", v)]) → W (.ref C) (some d) H') :
    ∀ a, H a = none → spWIni C (.ref a :: ([v] ++ [])) (upd H a (exo a C none)) (fun u H2 => u = .non ∧ ∃ (d : Addr) (fs : List (Str × V)), H2 a = some (exo a C (some d)) ∧ H2 d = some (exd d fs) ∧ H d = none ∧
      W (.ref C) (some d) (upd (del H2 a) d (.xd fs))) (fun _ _ _ => False) := by
  intro a ha
  refine ⟨a, v, rfl, upd_same, fun dx hd ne => ?_⟩
  rw [upd_ne ne] at hd
  refine ⟨rfl, dx, [("needed", v)], upd_same, by rw [upd_ne ne, upd_same], hd, ?_⟩
  refine h dx _ hd (fun b o e => ?_) upd_same
  have n1 := ne_of_none e hd
  have n2 := ne_of_none e ha
  rw [upd_ne n1, del_ne n2, upd_ne n2, upd_ne n1, upd_ne n2]
  exact e
/-- cells that a flip may have -/
def OkF (ts hs : List Int) : Prop := (∀ k ∈ ts, 0 ≤ k ∧ k < 40) ∧ (∀ k ∈ hs, 1 ≤ k ∧ k < 40) ∧ ts.Nodup ∧ hs.Nodup ∧ ts.length ≤ 40 ∧ hs.length ≤ 40
def aftB (bs ts hs : List Int) : List Int := if decide (parB bs ts = 1) = true then flipB bs hs else bs
/-- check_fit -/
def spFit (CF CW : Addr) : Sp := fun vs H Q E => ∃ (f : Addr) (ts hs : List Int) (n : Int), vs = [.ref f, .int n] ∧ Fp CF H f ts hs ∧ OkF ts hs ∧
  (∀ M, Fits ts hs M → M ≤ n → ∀ H', Same H H' → Q .non H') ∧
  (∀ M, Fits ts hs M → n < M → ∀ d H', H d = none → Same H H' → H' d = some (.xd [("needed", .int M)]) → E (.ref CW) (some d) H')
theorem scFit : FnScope ["flip", "size"] ["flip", "size"] (defScope sFit) := ⟨rfl, rfl, rfl, by decide +kernel, rfl, by decide +kernel, by decide +kernel⟩
theorem ok_fit {f CF CW : Addr} {fd : FuncData} (F : Fun K "check_fit" "check_fit" sFit f fd) (TF : FC K mg CF) (TW : WC K mg CW) (DW : HasM P w K mg base CF "width" 2 ["self"] (spFWidth CF)) (DI : HasW P w K mg base CW) :
    FnOk P w K mg base (L2.CX P w) 4 f fd ["flip", "size"] (spFit CF CW) := by
  obtain ⟨fW, fdW, GW, mW, bW⟩ := DW
  obtain ⟨fI, fdI, GI, iI, tI, bI⟩ := DI
  refine F.okX scFit (fun vs H Q E h => ?_) (fun cdv A outer s H vs Q E hr h => ?_)
  · obtain ⟨g, ts, hs, n, rfl, _⟩ := h
    rfl
  · obtain ⟨g, ts, hs, n, rfl, hF, hK, good, bad⟩ := h
    obtain ⟨k1, k2, k3, k4, k5, k6⟩ := id hK
    have r1 : Room 2 _ := hr.mono (by decide)
    obtain ⟨dg, t1, t2, f1, f2, f3⟩ := id hF
    refine ⟨_, pss_one (ps_if (pt_cmpR op_gt (pe_meth0 (pv 0) TF.cl mW GW r1 bW .nil pass0) (pv 1) (nomark _)) (pss_one (ps_raise rfl (takes_of rfl rfl rfl rfl) (pmk_err TW.err iI tI GI hr bI .nil pass0 (by rfl) TW.gC (pa_cons (pe_meth0 (pv 0) TF.cl mW GW r1 bW .nil pass0) pa_nil)))) pss_nil), ?_⟩
    have n1 := no2 (v := V.ref t1) (u := V.ref t2) (m := "width") (by decide +kernel) (by decide +kernel)
    refine ⟨_, rfl, g, dg, _, rfl, f1, n1, g, ts, hs, rfl, hF, by omega, by omega, fun k hk => (k1 k hk).1, fun k hk => by have := k2 k hk; omega, fun M H1 s1 fit => ?_⟩
    refine ⟨_, rfl, M, n, rfl, rfl, _, rfl, ite2 (fun hgt => ?_) (fun hle => ?_)⟩
    · have gt : n < M := of_decide_eq_true hgt
      refine ⟨_, rfl, g, dg, _, rfl, s1 _ _ f1, n1, g, ts, hs, rfl, hF.same s1, by omega, by omega, fun k hk => (k1 k hk).1, fun k hk => by have := k2 k hk; omega, fun M2 H2 s2 fit2 => ?_⟩
      have e := fit.one fit2
      subst e
      refine ⟨(by show 1 ≤ 1000; decide), made_wide fun d H' hd sm ed => ?_⟩
      exact bad M fit gt d H' ((s1.trans s2).free hd) ((s1.trans s2).trans sm) ed
    · have le : M ≤ n := by
        have : ¬ (M > n) := fun z => hle (decide_eq_true z)
        omega
      exact good M fit le H1 s1
def HasFit (P : Program) (w : World) (K : PySem.W.Frag) (mg : Str → Option Value) (base : Heap) (CF CW : Addr) : Prop :=
  ∃ f fd, FnOk P w K mg base (L2.CX P w) 4 f fd ["flip", "size"] (spFit CF CW) ∧ mg "check_fit" = some (.ref f) ∧ PySem.W.keepIn K (.ref f) = true ∧ Binds K fd ["flip", "size"] []
def spApply (C CF CW : Addr) : Sp := fun vs H Q E => ∃ (b f : Addr) (bs ts hs : List Int), vs = [.ref b, .ref f] ∧ Bd C H b bs ∧ OkB bs ∧ Fp CF H f ts hs ∧ OkF ts hs ∧
  (∀ M, Fits ts hs M → M ≤ bs.length → ∀ q H', H q = none → Same H H' → Bd C H' q (aftB bs ts hs) → Q (.ref q) H') ∧
  (∀ M, Fits ts hs M → bs.length < M → ∀ d H', H d = none → Same H H' → H' d = some (.xd [("needed", .int M)]) → E (.ref CW) (some d) H')
theorem flip_nil (bs : List Int) : flipB bs [] = bs := by
  refine List.ext_getElem (by rw [flipB_len]) fun i h1 h2 => ?_
  unfold flipB
  simp [List.getElem?_eq_getElem h2]
abbrev nApply : List Str := ["board", "flip", "changed"]
theorem scApply : FnScope nApply ["board", "flip"] (defScope sApply) := ⟨rfl, rfl, rfl, by decide +kernel, rfl, by decide +kernel, by decide +kernel⟩
theorem ok_apply {f C CF CW : Addr} {fd : FuncData} (F : Fun K "apply_flip" "apply_flip" sApply f fd) (T : BC K mg C) (TF : FC K mg CF) (TW : WC K mg CW) (DS : HasM P w K mg base C "size" 2 ["self"] (spSize C)) (DP : HasM P w K mg base C "parity" 6 ["self", "cells"] (spPar K C))
    (DT : HasM P w K mg base C "toggled" 8 ["self", "cells"] (spTog K C)) (DA : HasM P w K mg base CF "tested" 2 ["self"] (spTested CF)) (DB : HasM P w K mg base CF "toggled" 2 ["self"] (spToggled CF))
    (DI : HasFit P w K mg base CF CW) : FnOk P w K mg base (L2.CX P w) 9 f fd ["board", "flip"] (spApply C CF CW) := by
  obtain ⟨fS, fdS, GS, mS, bS⟩ := DS
  obtain ⟨fP, fdP, GP, mP, bP⟩ := DP
  obtain ⟨fT, fdT, GT, mT, bT⟩ := DT
  obtain ⟨fA, fdA, GA, mA, bA⟩ := DA
  obtain ⟨fB, fdB, GB, mB, bB⟩ := DB
  obtain ⟨fI, fdI, GI, mI, kI, bI⟩ := DI
  refine F.okX scApply (fun vs H Q E h => ?_) (fun cdv A outer s H vs Q E hr h => ?_)
  · obtain ⟨b, g, bs, ts, hs, rfl, _⟩ := h
    rfl
  · obtain ⟨b, g, bs, ts, hs, rfl, hB, hO, hF, hK, good, bad⟩ := h
    obtain ⟨k1, k2, k3, k4, k5, k6⟩ := id hK
    have r1 : Room 2 _ := hr.mono (by decide)
    have r3 : Room 4 _ := hr.mono (by decide)
    have r4 : Room 6 _ := hr.mono (by decide)
    obtain ⟨dx, t, b1, b2⟩ := id hB
    obtain ⟨dg, t1, t2, f1, f2, f3⟩ := id hF
    have hin : ∀ {M : Int}, Fits ts hs M → M ≤ bs.length → (∀ k ∈ ts, 0 ≤ k ∧ k < bs.length) ∧ ∀ k ∈ hs, 1 ≤ k ∧ k < bs.length := fun {M} fit le => ⟨fun k hk => by
      have := fit.1 k (.inl hk)
      have := (k1 k hk).1
      omega, fun k hk => by
      have := fit.1 k (.inr hk)
      have := (k2 k hk).1
      omega⟩
    refine ⟨_, pss_cons (ps_expr (pe_callS GI r3 (by rfl) mI kI bI (fun σ => passAt (takes_of rfl rfl rfl rfl) σ) (pa_cons (pv 1) (pa_cons (pe_meth0 (pv 0) T.cl mS GS r1 bS .nil pass0) pa_nil))))
      (pss_cons (ps_set (i := 2) scApply.nd rfl (Or.inl rfl) (pe_ifExp (pt_cmpR op_eq (pe_meth (pv 0) T.cl mP GP r4 bP .nil pass0 (pa_cons (pe_meth0 (pv 1) TF.cl mA GA r1 bA .nil pass0) pa_nil)) pe_int (nomark _)) (pe_meth0 (pv 1) TF.cl mB GB r1 bB .nil pass0) (pe_tup pa_nil)))
      (pss_one (ps_ret (pe_meth (pv 0) T.cl mT GT hr bT .nil pass0 (pa_cons (pv 2) pa_nil))))), ?_⟩
    refine ⟨_, rfl, _, rfl, b, dx, _, rfl, b1, no_fld (by decide +kernel), b, bs, rfl, hB, g, ts, hs, (bs.length : Nat), rfl, hF, hK, ?_, ?_⟩
    rotate_left
    · intro M fit gt d H' hd sm ed
      exact bad M fit gt d H' hd sm ed
    · intro M fit le H1 s1
      have hB1 := hB.same s1
      obtain ⟨i1, i2⟩ := hin fit le
      refine ⟨_, rfl, b, dx, _, rfl, s1 _ _ b1, no_fld (by decide +kernel), _, rfl, g, dg, _, rfl, s1 _ _ f1, no2 (by decide +kernel) (by decide +kernel), g, ts, hs, rfl, hF.same s1, fun u hu => ?_⟩
      refine ⟨b, u, bs, ts, rfl, hB1, .inr (SqT.of hu), by omega, i1, k3, fun H2 s2 => ?_⟩
      have s12 := s1.trans s2
      refine ⟨rfl, _, rfl, ite2 (fun hp => ?_) (fun hp => ?_)⟩
      · have odd : parB bs ts = 1 := by
          have z := of_decide_eq_true hp
          injection z
        refine ⟨_, rfl, g, dg, _, rfl, s12 _ _ f1, no2 (by decide +kernel) (by decide +kernel), g, ts, hs, rfl, hF.same s12, fun v hv => ?_⟩
        refine ⟨_, rfl, b, dx, _, rfl, s12 _ _ b1, no_fld (by decide +kernel), _, rfl, b, v, bs, hs, rfl, hB.same s12, hO, .inr (SqT.of hv), by omega, i2, k4, fun q H3 hq s3 hq3 => ?_⟩
        refine good M fit le q H3 (s12.free hq) (s12.trans s3) ?_
        unfold aftB
        rw [decide_eq_true odd, if_pos rfl]
        exact hq3
      · have even : ¬ parB bs ts = 1 := fun z => hp (decide_eq_true (by rw [← z]; rfl))
        refine ⟨by decide, fun v hv => ?_⟩
        have sv := same_new (o := .tup []) hv
        refine ⟨_, rfl, b, dx, _, rfl, sv _ _ (s12 _ _ b1), no_fld (by decide +kernel), _, rfl, b, v, bs, [], rfl, (hB.same s12).same sv, hO, .inr (SqT.of upd_same), by decide, (fun k hk => nomatch hk), List.nodup_nil, fun q H3 hq s3 hq3 => ?_⟩
        rw [flip_nil] at hq3
        have s13 := s12.trans sv
        refine good M fit le q H3 (s13.free hq) (s13.trans s3) ?_
        unfold aftB
        rw [decide_eq_false even, if_neg Bool.false_ne_true]
        exact hq3
end
end K17
namespace K17
open PySem PySem.Spec PyProof.Rows L2 Par
theorem up_cons {bs : List Int} (h : OkB bs) : ∃ t, bs = 1 :: t ∧ upF 0 bs = 0 :: upF 1 t := by
  cases bs with
  | nil => cases h.2.1
  | cons b t =>
    have e : b = 1 := by simpa using h.2.1
    subst e
    exact ⟨t, rfl, rfl⟩
theorem mk_all {bs : List Int} (h : OkB bs) : (mkB bs.length fun k => decide (k ∈ upF 0 bs)) = bs := by
  refine List.ext_getElem (mkB_len _ _) fun i h1 h2 => ?_
  have e : (mkB bs.length fun k => decide (k ∈ upF 0 bs))[i] = if (decide (i = 0) || decide ((i : Int) ∈ upF 0 bs)) = true then 1 else 0 := by
    unfold mkB
    simp
  rw [e]
  have g : bs.getD i 0 = bs[i] := by
    rw [List.getD_eq_getElem?_getD, List.getElem?_eq_getElem h2]
    rfl
  by_cases z : i = 0
  · subst z
    rw [decide_eq_true rfl, Bool.true_or, if_pos rfl, ← g, List.getD_eq_getElem?_getD, h.2.1]
    rfl
  · rw [decide_eq_false z, Bool.false_or]
    by_cases u : (i : Int) ∈ upF 0 bs
    · rw [decide_eq_true u, if_pos rfl, ← g]
      exact ((up_iff i h2).mp u).symm
    · rw [decide_eq_false u, if_neg Bool.false_ne_true, ← g]
      exact ((bit_at h h2).resolve_right fun q => u ((up_iff i h2).mpr q)).symm
theorem parB_perm {bs ns ms : List Int} (h : ns.Perm ms) : parB bs ns = parB bs ms := by
  unfold parB
  rw [perm_sum (h.map _)]
theorem flip_perm {bs ns ms : List Int} (h : ns.Perm ms) : flipB bs ns = flipB bs ms := by
  unfold flipB
  refine List.map_congr_left fun i _ => ?_
  have e : decide ((i : Int) ∈ ns) = decide ((i : Int) ∈ ms) := by
    by_cases z : (i : Int) ∈ ms
    · rw [decide_eq_true z, decide_eq_true (h.mem_iff.mpr z)]
    · rw [decide_eq_false z, decide_eq_false (fun q => z (h.mem_iff.mp q))]
  rw [e]
theorem aft_perm {bs ts hs ts' hs' : List Int} (h1 : ts'.Perm ts) (h2 : hs'.Perm hs) : aftB bs ts' hs' = aftB bs ts hs := by
  unfold aftB
  rw [parB_perm h1, flip_perm h2]
section
variable {P : Program} {w : World} {K : PySem.W.Frag} {mg : Str → Option Value} {base : Heap}
/-- a board of these bits -/
def spMade (C : Addr) : Sp := fun vs H Q _ => ∃ (a : Addr) (bs : List Int), vs = [.ref a] ∧ H a = some (.lst (bs.map V.int)) ∧ OkB bs ∧ ∀ q H', H q = none → Same H H' → Bd C H' q bs → Q (.ref q) H'
theorem scMade : FnScope ["_law_bits_here"] ["_law_bits_here"] (defScope sMade) := ⟨rfl, rfl, rfl, by decide +kernel, rfl, by decide +kernel, by decide +kernel⟩
theorem ok_made {f C : Addr} {fd : FuncData} (F : Fun K "_law_made" "_law_made" sMade f fd) (B : Bl mg) (T : BC K mg C) (DV : Has P w K mg base "_law_up" 2 ["_law_bits_here"] (spUpL K)) (DI : HasIni P w K mg base C) : FnOk P w K mg base CX0 8 f fd ["_law_bits_here"] (spMade C) := by
  obtain ⟨fV, fdV, GV, mV, kV, bV⟩ := DV
  obtain ⟨fI, fdI, GI, MI, kb2, _⟩ := DI
  refine F.ok scMade (fun vs H Q E h => ?_) (fun cdv A outer s H vs Q E hr h => ?_)
  · obtain ⟨a, bs, rfl, _⟩ := h
    rfl
  · obtain ⟨a, bs, rfl, ha, hO, out⟩ := h
    have r1 : Room 2 _ := hr.mono (by decide)
    have h40 := hO.2.2
    refine ⟨_, pss_one (ps_ret (pe_makeN (n := 1) (ks := ["up"]) (E := E0) MI GI hr (by rfl) T.mgC kb2 pass0 (pa_cons (pe_callB call_len_seq (by rfl) B.len PySem.boot_len (pa_cons (pv 0) pa_nil)) pa_nil) (pk_cons (pe_call GV r1 (by rfl) mV kV bV .nil pass0 (pa_cons (pv 0) pa_nil)) pk_nil))), ?_⟩
    refine ⟨_, rfl, a, _, rfl, .inl (SqL.of ha), ?_⟩
    rw [List.length_map]
    refine ⟨_, rfl, a, bs, rfl, ha, h40, fun u H1 hu s1 hu1 => ?_⟩
    have hl := upF_len 0 bs
    have h1 : 1 ≤ bs.length := by
      have := (List.getElem?_eq_some_iff.mp hO.2.1).1
      omega
    refine ⟨rfl, rfl, made_board (n := bs.length) (ns := upF 0 bs) (.inl (SqL.of hu1)) (by omega) h1 h40 (fun k hk => upF_in hk) (nodup_lt_ (upF_up 0 bs)) fun x H2 hx s2 hB => ?_⟩
    rw [mk_all hO] at hB
    exact out x H2 (s1.free hx) (s1.trans s2) hB
/-- two lists of cells that make a flip, in a tuple -/
def Pr (K : PySem.W.Frag) (H : Hp) (p : Addr) (ts hs : List Int) : Prop := ∃ t h, SqT K H p [.ref t, .ref h] ∧ H t = some (.lst (ts.map V.int)) ∧ H h = some (.lst (hs.map V.int))
theorem Pr.same {H H' : Hp} {p : Addr} {ts hs : List Int} (s : Same H H') (h : Pr K H p ts hs) : Pr K H' p ts hs := by
  obtain ⟨t, g, h1, h2, h3⟩ := h
  exact ⟨t, g, same_sqt s h1, s _ _ h2, s _ _ h3⟩
/-- Flip as a class whose __init__ keeps its promise -/
def HasFI (P : Program) (w : World) (K : PySem.W.Frag) (mg : Str → Option Value) (base : Heap) (C : Addr) : Prop :=
  ∃ f fd, FnOk P w K mg base CX0 6 f fd ["self", "tested", "toggled"] (spFInit K C) ∧ Mk K C f ∧ Binds K fd ["self", "tested", "toggled"] []
end
end K17
namespace Par
open PySem PySem.Spec PyProof.Rows L2
/-! ### repr of a list of things, each of which can be shown by itself -/
inductive DxAll (K : PySem.W.Frag) (H : Hp) : List V → List PyData → Prop
  | nil : DxAll K H [] []
  | cons {v : V} {vs : List V} {d : PyData} {ds : List PyData} : Dx K H v d → DxAll K H vs ds → DxAll K H (v :: vs) (d :: ds)
/-- each item can be read by itself -/
inductive Each (h : Heap) : List Value → List PyData → Prop
  | nil : Each h [] []
  | cons {v : Value} {vs : List Value} {d : PyData} {ds : List PyData} {as : List Addr} : Reads h v d as → (d.hasDict = true → sysModules ∉ as) → Each h vs ds → Each h (v :: vs) (d :: ds)
theorem each_of {X : Cx} {pins : List (Addr × Obj)} {σ : L2.St} {H : Hp} {s : Shared} (I : L2.Inv X pins σ H s) : ∀ {vs : List V} {ds : List PyData} {us : List Value}, DxAll X.K H vs ds → Vals vs us → Each s.heap us ds
  | _, _, _, .nil, .nil => .nil
  | _, _, _, .cons h1 h2, .cons r1 r2 => by
    obtain ⟨as, q, n⟩ := dx_reads I h1 r1
    exact .cons q n (each_of I h2 r2)
theorem each_reads {h : Heap} : ∀ {vs : List Value} {ds : List PyData}, Each h vs ds → ∃ as, ReadsAll h vs ds as
  | _, _, .nil => ⟨_, ReadsAll.nil⟩
  | _, _, .cons q _ r => by
    obtain ⟨as, q2⟩ := each_reads r
    exact ⟨_, ReadsAll.cons q q2⟩
theorem each_shown {prog : Program} {w : World} {h : Heap} : ∀ {vs : List Value} {ds : List PyData}, Each h vs ds → PyData.showableAll ds = true → (∀ t ∈ PyData.shownAll ds, t.length ≤ sizeLine) →
    ∃ bs, ReadAtMost h (PyData.depthAll ds) bs ∧ ReprAllK prog w bs h (PyData.depthAll ds) vs (PyData.shownAll ds)
  | _, _, .nil, _, _ => ⟨[], (fun _ z => nomatch z), .nil⟩
  | _, _, .cons (d := d) (ds := ds) q n r, sh, hz => by
    have both : d.showable = true ∧ PyData.showableAll ds = true := by simpa [PyData.showableAll] using sh
    obtain ⟨b1, m1, k1⟩ := ReprK.of_reads (prog := prog) (w := w) q both.1 n (hz _ (by simp only [PyData.shownAll]; exact List.mem_cons_self ..))
    obtain ⟨b2, m2, k2⟩ := each_shown (prog := prog) (w := w) r both.2 fun t ht => hz t (by simp only [PyData.shownAll]; exact List.mem_cons_of_mem _ ht)
    have l1 : d.depth ≤ PyData.depthAll (d :: ds) := by simp only [PyData.depthAll]; omega
    have l2 : PyData.depthAll ds ≤ PyData.depthAll (d :: ds) := by simp only [PyData.depthAll]; omega
    refine ⟨b1 ++ b2, (m1.mono l1).append (m2.mono l2), ?_⟩
    simp only [PyData.shownAll]
    exact .cons ((k1.more fun b hb => List.mem_append_left _ hb).level_le l1) (k2.more_le (fun b hb => List.mem_append_right _ hb) l2)
section
variable {X : Cx}
/-- repr([..]), each item a thing that can be shown -/
def rReprL (K : PySem.W.Frag) : List V → Hp → VK → Prop := fun xs H Q => ∃ (a : Addr) (vs : List V) (ds : List PyData), xs = [.ref a] ∧ H a = some (.lst vs) ∧ DxAll K H vs ds ∧ vs ≠ [] ∧
  (PyData.list ds).showable = true ∧ (PyData.list ds).depth ≤ 40 ∧ (PyData.list ds).shown.length ≤ sizeLine ∧ Q (.str (PyData.list ds).shown) H
theorem cr_reprL (gs : X.A.guards = some []) (hu : X.A.units + 64 < cLine) : CallR X (.builtin "repr") (rReprL X.K) := by
  intro pins s σ H xs us Q I r h
  obtain ⟨a, vs, ds, rfl, e, hd, ne, sh, dep, len, q⟩ := h
  cases r with
  | @cons _ u _ _ r1 r2 =>
    cases r2
    cases r1
    obtain ⟨its, rv, ⟨o, n, ho, hc, _, hdt⟩, _⟩ := I.list (a := a) (xs := vs) (SqL.of e)
    have each := each_of I hd rv
    obtain ⟨as, all⟩ := each_reads each
    have len' : (listText (PyData.shownAll ds)).length ≤ sizeLine := by simpa only [PyData.shown] using len
    obtain ⟨bs, most, shows⟩ := each_shown (prog := X.prog) (w := X.w) each (by simpa [PyData.showable] using sh) fun t ht => Nat.le_trans (listText_mem_le ht) len'
    have out : a ∉ bs := not_mem_of_deeper (.list ho hc hdt all) (by simp only [PyData.depth]; omega) most
    simp only [PyData.depth] at dep
    have fin : ∀ (h' : Heap) (tk u' : Nat), (∀ b o, s.heap.get? b = some o → h'.get? b = some o) → EP X pins σ Q (.str (PyData.list ds).shown u') { s with heap := h', toks := tk } :=
      fun h' tk u' k => ⟨.str (PyData.list ds).shown, H, I.un (t' := tk) (Un.kept k) (I.hok.kept k), ⟨_, rfl⟩, q⟩
    cases its with
    | nil =>
      cases rv
      exact absurd rfl ne
    | cons x l =>
      refine call_repr_slot (by omega) ⟨o, ho, hc⟩ F.slot_list_repr.toG ?_
      refine call_list_reprK ho hc hdt out (by simpa using shows.length_eq) (fun i y ey => shows.item i y (by simpa using ey)) gs (fun b _ => Clear.nil b) (by show X.A.units + 1 + _ < cLine; omega) (fun _ _ z => z) ?_ len'
      intro h' u tk k
      exact ⟨_, _, rfl, by simpa only [PyData.shown] using fin h' tk u k⟩
end
/-- list != list: unlike lengths -/
def rNeLen : R2 := fun x y H Q => ∃ a b xs ys, x = .ref a ∧ y = .ref b ∧ H a = some (.lst xs) ∧ H b = some (.lst ys) ∧ xs.length ≠ ys.length ∧ Q (.bl true) H
theorem op_neLen {X : Cx} (hu : X.A.units < cLine) : OpR X (compareOp .NotEq) rNeLen := by
  intro pins s σ H x y v u Q I rx ry h
  obtain ⟨a, b, xs, ys, rfl, rfl, ha, hb, ne, q⟩ := h
  cases rx
  cases ry
  obtain ⟨its, rv, p1, _⟩ := I.list (a := a) (xs := xs) (SqL.of ha)
  obtain ⟨its2, rv2, p2, _⟩ := I.list (a := b) (xs := ys) (SqL.of hb)
  refine SeqAt.RcNeAt.lists_lengths p1.isList p2.isList ?_ hu X.prog X.w X.xe _ ⟨.bl true, H, I, rfl, q⟩
  have l1 := rv.length
  have l2 := rv2.length
  simp only [List.size_toArray, bne_iff_ne]
  omega
theorem opR_or {X : Cx} {f : Value → Value → Sem Value} {r1 r2 : R2} (h1 : OpR X f r1) (h2 : OpR X f r2) : OpR X f (fun x y H Q => r1 x y H Q ∨ r2 x y H Q) := by
  intro pins s σ H x y v u Q I rx ry h
  rcases h with h | h
  · exact h1 pins s σ H x y v u Q I rx ry h
  · exact h2 pins s σ H x y v u Q I rx ry h
end Par
namespace K17
open PySem PySem.Spec PyProof.Rows L2 Par
/-- is it a whole number from lo to hi -/
def isV (v : V) (lo hi : Int) : Bool := match v with
  | .int i => decide (lo ≤ i) && decide (i ≤ hi)
  | _ => false
/-- its type is known, and tells whether it is a bool, an int -/
def Typed (K : PySem.W.Frag) (H : Hp) (v : V) : Prop := (∃ b, v = .bl b) ∨ (∃ i, v = .int i) ∨
  (∃ n, TyX K H v (.type n) ∧ (n = "NoneType" ∨ n = "str" ∨ n = "list" ∨ n = "tuple" ∨ n = "dict") ∧ (∀ b, v ≠ .bl b) ∧ ∀ i, v ≠ .int i)
theorem isV_other {v : V} {lo hi : Int} (h : ∀ i, v ≠ .int i) : isV v lo hi = false := by
  unfold isV
  split
  · rename_i i
    exact absurd rfl (h i)
  · rfl
theorem sqA_ty {K : PySem.W.Frag} {H : Hp} {a : Addr} {xs : List V} (h : SqL K H a xs) : TyX K H (.ref a) (.type "list") := by
  rcases h with (h | ⟨o, h⟩) | ⟨o, its, n, hk, hc, _⟩
  · exact .base (.lst h)
  · exact .base (.frz h)
  · exact .kList hk hc
theorem sqtA_ty {K : PySem.W.Frag} {H : Hp} {a : Addr} {xs : List V} (h : SqT K H a xs) : TyX K H (.ref a) (.type "tuple") := by
  rcases h with (h | ⟨o, h⟩) | ⟨o, its, n, hk, hc, _⟩
  · exact .base (.tup h)
  · exact .fTuple h
  · exact .kTuple hk hc
theorem typed_dp {K : PySem.W.Frag} {H : Hp} {v : V} {d : PyData} (h : Dp K H v d) : Typed K H v := by
  cases h with
  | non => exact .inr (.inr ⟨_, .base .non, .inl rfl, by simp, by simp⟩)
  | bl b => exact .inl ⟨b, rfl⟩
  | int i => exact .inr (.inl ⟨i, rfl⟩)
  | str x => exact .inr (.inr ⟨_, .base (.str x), .inr (.inl rfl), by simp, by simp⟩)
  | lst hs _ => exact .inr (.inr ⟨_, sqA_ty hs, by simp, by simp, by simp⟩)
  | tup hs _ => exact .inr (.inr ⟨_, sqtA_ty hs, by simp, by simp, by simp⟩)
theorem typed_fl {K : PySem.W.Frag} {H : Hp} {v : V} {d : PyData} (h : Fl H v d) : Typed K H v := by
  cases h with
  | non => exact .inr (.inr ⟨_, .base .non, .inl rfl, by simp, by simp⟩)
  | bl b => exact .inl ⟨b, rfl⟩
  | int i => exact .inr (.inl ⟨i, rfl⟩)
  | str x => exact .inr (.inr ⟨_, .base (.str x), .inr (.inl rfl), by simp, by simp⟩)
  | dic0 e => exact .inr (.inr ⟨_, .base (.dK e), by simp, by simp, by simp⟩)
  | dic1 e => exact .inr (.inr ⟨_, .base (.dK e), by simp, by simp, by simp⟩)
section
variable {P : Program} {w : World} {K : PySem.W.Frag} {mg : Str → Option Value} {base : Heap}
theorem kit_bool {n : String} (h : n = "NoneType" ∨ n = "str" ∨ n = "list" ∨ n = "tuple" ∨ n = "dict") : PySem.W.kitOne K (.type n) (.type "bool") = some false := by
  rcases h with rfl | rfl | rfl | rfl | rfl <;> exact kit_ty (by decide +kernel)
theorem kit_int {n : String} (h : n = "NoneType" ∨ n = "str" ∨ n = "list" ∨ n = "tuple" ∨ n = "dict") : PySem.W.kitOne K (.type n) (.type "int") = some false := by
  rcases h with rfl | rfl | rfl | rfl | rfl <;> exact kit_ty (by decide +kernel)
/-- a whole number and no bool -/
def wholeV : V → Bool
  | .int _ => true
  | _ => false
theorem wholeV_other {v : V} (h : ∀ i, v ≠ .int i) : wholeV v = false := by
  cases v <;> first | rfl | exact absurd rfl (h _)
/-- is_integer -/
def spIntegerA (K : PySem.W.Frag) : Sp := fun vs H Q _ => ∃ v : V, vs = [v] ∧ Typed K H v ∧ Q (.bl (wholeV v)) H
theorem scIntegerA : FnScope ["thing"] ["thing"] (defScope sInteger) := ⟨rfl, rfl, rfl, by decide +kernel, rfl, by decide +kernel, by decide +kernel⟩
theorem ok_integerA {f : Addr} {fd : FuncData} (F : Fun K "is_integer" "is_integer" sInteger f fd) (B : Bl mg) : FnOk P w K mg base CX0 1 f fd ["thing"] (spIntegerA K) := by
  refine F.ok scIntegerA (fun vs H Q E h => ?_) (fun cdv A outer s H vs Q E hr h => ?_)
  · obtain ⟨v, rfl, _⟩ := h
    rfl
  · obtain ⟨v, rfl, hT, out⟩ := h
    refine ⟨_, pss_one (ps_ret (pe_and (pe_callB call_isi (by rfl) B.isinstance (by decide +kernel) (pa_cons (pv 0) (pa_cons (pe_bltn (v := .ty "int") (by rfl) B.int (by decide +kernel) rfl) pa_nil))) (pe_one (pe_not (pe_callB call_isi (by rfl) B.isinstance (by decide +kernel) (pa_cons (pv 0) (pa_cons (pe_bltn (v := .ty "bool") (by rfl) B.bool (by decide +kernel) rfl) pa_nil))))))), ?_⟩
    rcases hT with ⟨b, rfl⟩ | ⟨i, rfl⟩ | ⟨n, ty, hn, nb, ni⟩
    · refine ⟨_, rfl, _, _, _, _, true, rfl, .ty "int", .base (.bl b), kit_ty (by decide +kernel), _, rfl, iteT ?_⟩
      exact ⟨_, rfl, _, _, _, _, true, rfl, .ty "bool", .base (.bl b), kit_ty (by decide +kernel), _, rfl, out⟩
    · refine ⟨_, rfl, _, _, _, _, true, rfl, .ty "int", .base (.int i), kit_ty (by decide +kernel), _, rfl, iteT ?_⟩
      exact ⟨_, rfl, _, _, _, _, false, rfl, .ty "bool", .base (.int i), kit_ty (by decide +kernel), _, rfl, out⟩
    · rw [wholeV_other ni] at out
      refine ⟨_, rfl, _, _, _, _, false, rfl, .ty "int", ty, kit_int hn, _, rfl, iteF ?_⟩
      exact out
/-- is_integer_between -/
def spBetA (K : PySem.W.Frag) : Sp := fun vs H Q _ => ∃ (v : V) (lo hi : Int), vs = [v, .int lo, .int hi] ∧ Typed K H v ∧ Q (.bl (isV v lo hi)) H
theorem scBetA : FnScope ["thing", "low", "high"] ["thing", "low", "high"] (defScope sBetween) := ⟨rfl, rfl, rfl, by decide +kernel, rfl, by decide +kernel, by decide +kernel⟩
theorem ok_betA {f : Addr} {fd : FuncData} (F : Fun K "is_integer_between" "is_integer_between" sBetween f fd) (B : Bl mg) (D : Has P w K mg base "is_integer" 1 ["thing"] (spIntegerA K)) : FnOk P w K mg base CX0 2 f fd ["thing", "low", "high"] (spBetA K) := by
  obtain ⟨fD, fdD, GD, mD, kD, bD⟩ := D
  refine F.ok scBetA (fun vs H Q E h => ?_) (fun cdv A outer s H vs Q E hr h => ?_)
  · obtain ⟨v, lo, hi, rfl, _⟩ := h
    rfl
  · obtain ⟨v, lo, hi, rfl, hT, out⟩ := h
    refine ⟨_, pss_one (ps_ret (pe_and (pe_call GD hr (by rfl) mD kD bD .nil pass0 (pa_cons (pv 0) pa_nil)) (pe_one (pe_chain op_le op_le (pv 1) (pv 0) (pv 2))))), ?_⟩
    have hT0 := hT
    rcases hT with ⟨b, rfl⟩ | ⟨i, rfl⟩ | ⟨n, ty, hn, nb, ni⟩
    · exact ⟨_, rfl, _, rfl, hT0, _, rfl, iteF out⟩
    · refine ⟨_, rfl, _, rfl, hT0, _, rfl, iteT ?_⟩
      refine ⟨_, rfl, _, rfl, lo, i, rfl, rfl, _, rfl, ite2 (fun h1 => ?_) (fun h1 => ?_)⟩
      · refine ⟨_, rfl, i, hi, rfl, rfl, ?_⟩
        have e : isV (.int i) lo hi = decide (i ≤ hi) := by
          show (decide (lo ≤ i) && decide (i ≤ hi)) = _
          rw [h1]
          rfl
        rw [e] at out
        exact out
      · have e : isV (.int i) lo hi = false := by
          show (decide (lo ≤ i) && decide (i ≤ hi)) = _
          rw [show decide (lo ≤ i) = false by simpa using h1]
          rfl
        rw [e] at out
        exact out
    · rw [isV_other ni] at out
      refine ⟨_, rfl, _, rfl, hT0, ?_⟩
      rw [wholeV_other ni]
      exact ⟨_, rfl, iteF out⟩
/-- _law_is_int -/
theorem scIsInt : FnScope ["_law_item", "_law_low", "_law_high"] ["_law_item", "_law_low", "_law_high"] (defScope slIsInt) := ⟨rfl, rfl, rfl, by decide +kernel, rfl, by decide +kernel, by decide +kernel⟩
theorem ok_isint {f : Addr} {fd : FuncData} (F : Fun K "_law_is_int" "_law_is_int" slIsInt f fd) (B : Bl mg) : FnOk P w K mg base CX0 2 f fd ["_law_item", "_law_low", "_law_high"] (spBetA K) := by
  refine F.ok scIsInt (fun vs H Q E h => ?_) (fun cdv A outer s H vs Q E hr h => ?_)
  · obtain ⟨v, lo, hi, rfl, _⟩ := h
    rfl
  · obtain ⟨v, lo, hi, rfl, hT, out⟩ := h
    refine ⟨_, pss_one (ps_ret (pe_and (pe_callB call_isi (by rfl) B.isinstance (by decide +kernel) (pa_cons (pv 0) (pa_cons (pe_bltn (v := .ty "int") (by rfl) B.int (by decide +kernel) rfl) pa_nil)))
        (pe_and (pe_not (pe_callB call_isi (by rfl) B.isinstance (by decide +kernel) (pa_cons (pv 0) (pa_cons (pe_bltn (v := .ty "bool") (by rfl) B.bool (by decide +kernel) rfl) pa_nil))))
        (pe_one (pe_chain op_le op_le (pv 1) (pv 0) (pv 2)))))), ?_⟩
    rcases hT with ⟨b, rfl⟩ | ⟨i, rfl⟩ | ⟨n, ty, hn, nb, ni⟩
    · refine ⟨_, rfl, _, _, _, _, true, rfl, .ty "int", .base (.bl b), kit_ty (by decide +kernel), _, rfl, iteT ?_⟩
      refine ⟨_, rfl, _, _, _, _, true, rfl, .ty "bool", .base (.bl b), kit_ty (by decide +kernel), _, rfl, _, rfl, iteF ?_⟩
      exact out
    · refine ⟨_, rfl, _, _, _, _, true, rfl, .ty "int", .base (.int i), kit_ty (by decide +kernel), _, rfl, iteT ?_⟩
      refine ⟨_, rfl, _, _, _, _, false, rfl, .ty "bool", .base (.int i), kit_ty (by decide +kernel), _, rfl, _, rfl, iteT ?_⟩
      refine ⟨_, rfl, _, rfl, lo, i, rfl, rfl, _, rfl, ite2 (fun h1 => ?_) (fun h1 => ?_)⟩
      · refine ⟨_, rfl, i, hi, rfl, rfl, ?_⟩
        have e : isV (.int i) lo hi = decide (i ≤ hi) := by
          show (decide (lo ≤ i) && decide (i ≤ hi)) = _
          rw [h1]
          rfl
        rw [e] at out
        exact out
      · have e : isV (.int i) lo hi = false := by
          show (decide (lo ≤ i) && decide (i ≤ hi)) = _
          rw [show decide (lo ≤ i) = false by simpa using h1]
          rfl
        rw [e] at out
        exact out
    · rw [isV_other ni] at out
      refine ⟨_, rfl, _, _, _, _, false, rfl, .ty "int", ty, kit_int hn, _, rfl, iteF ?_⟩
      exact out
/-- is_cell -/
def spCellA (K : PySem.W.Frag) : Sp := fun vs H Q _ => ∃ (v : V) (n : Int), vs = [v, .int n] ∧ Typed K H v ∧ Q (.bl (isV v 0 (n - 1))) H
theorem scCellA : FnScope ["thing", "size"] ["thing", "size"] (defScope sIsCell) := ⟨rfl, rfl, rfl, by decide +kernel, rfl, by decide +kernel, by decide +kernel⟩
theorem ok_cellA {f : Addr} {fd : FuncData} (F : FunD K "is_cell" "is_cell" (defArgs sIsCell) (defBody sIsCell) (defScope sIsCell) [] [("size", .int 40)] f fd)
    (D : Has P w K mg base "is_integer_between" 2 ["thing", "low", "high"] (spBetA K)) : FnOk P w K mg base CX0 3 f fd ["thing", "size"] (spCellA K) := by
  obtain ⟨fD, fdD, GD, mD, kD, bD⟩ := D
  refine F.ok scCellA (fun vs H Q E h => ?_) (fun cdv A outer s H vs Q E hr h => ?_)
  · obtain ⟨v, n, rfl, _⟩ := h
    rfl
  · obtain ⟨v, n, rfl, hT, out⟩ := h
    refine ⟨_, pss_one (ps_ret (pe_call GD hr (by rfl) mD kD bD .nil pass0 (pa_cons (pv 0) (pa_cons pe_int (pa_cons (pe_op op_sub (pv 1) pe_int) pa_nil))))), ?_⟩
    refine ⟨_, rfl, _, rfl, n, 1, rfl, rfl, v, 0, n - 1, rfl, hT, out⟩
end
/-- all but p and the tables of code objects -/
def dl (H : Hp) (p : Addr) : Hp := fun b => if b = p then none else match H b with
  | some (.tbl _) => none
  | o => o
theorem dl_is {H : Hp} {p b : Addr} {o : HO} (e : dl H p b = some o) : b ≠ p ∧ H b = some o ∧ ∀ ps, o ≠ .tbl ps := by
  unfold dl at e
  by_cases z : b = p
  · rw [if_pos z] at e
    cases e
  · rw [if_neg z] at e
    split at e
    · cases e
    · rename_i no
      refine ⟨z, e, fun ps y => ?_⟩
      rw [y] at e
      exact no ps e
theorem dl_at {H : Hp} {p b : Addr} {o : HO} (n : b ≠ p) (e : H b = some o) (h : ∀ ps, o ≠ .tbl ps := by intro _ z; cases z) : dl H p b = some o := by
  unfold dl
  rw [if_neg n, e]
  split
  · rename_i ps y
    exact absurd (Option.some.inj y) (h ps)
  · rfl
/-- all but p and the tables stay -/
def ExtP (p : Addr) (H H' : Hp) : Prop := ∀ b o, b ≠ p → H b = some o → (∀ ps, o ≠ .tbl ps) → H' b = some o
theorem ExtP.but {p : Addr} {H H' : Hp} (h : But p H H') : ExtP p H H' := fun b o n e _ => h b o n e
theorem ExtP.same {p : Addr} {H H' : Hp} (h : Same H H') : ExtP p H H' := fun b o _ e _ => h b o e
theorem ExtP.trans {p : Addr} {H H1 H2 : Hp} (a : ExtP p H H1) (b : ExtP p H1 H2) : ExtP p H H2 := fun c o n e t => b c o n (a c o n e t) t
theorem dl_ext {H H' : Hp} {p : Addr} (h : ExtP p H H') : Same (dl H p) (dl H' p) := fun b o e => by
  obtain ⟨n, e1, t⟩ := dl_is e
  exact dl_at n (h b o n e1 t) t
theorem del_same' {H H' : Hp} {p : Addr} (h : But p H H') : Same (dl H p) (dl H' p) := dl_ext (ExtP.but h)
theorem del_sub (H : Hp) (p : Addr) : Same (dl H p) H := fun b o e => (dl_is e).2.1
def things (far : Int) (p1 p2 p3 p4 p5 p6 : Addr) : List V := [.non, .bl true, .bl false, .int (-1), .int 0, .int 1, .int 39, .int 40, .int 41, .int far, .int (-far), .str "", .str "1", .str "a", .str "ab",
  .ref p1, .ref p2, .ref p3, .ref p4, .ref p5, .ref p6]
theorem things_len (far : Int) (p1 p2 p3 p4 p5 p6 : Addr) : (things far p1 p2 p3 p4 p5 p6).length = 21 := rfl
theorem things_giv {K : PySem.W.Frag} {H : Hp} {far : Int} {p1 p2 p3 p4 p5 p6 : Addr} (hf : far.natAbs < 2 ^ 100) (h1 : H p1 = some (.tup [])) (h2 : H p2 = some (.lst [])) (h3 : H p3 = some (.dK []))
    (h4 : H p4 = some (.lst [.int 0])) (h5 : H p5 = some (.tup [.int 1])) (h6 : H p6 = some (.dK [(Sum.inl 1, .int 2)])) : ∀ v ∈ things far p1 p2 p3 p4 p5 p6, ∃ d, Giv K H v d ∧ good d := by
  have int : ∀ i : Int, i.natAbs < 2 ^ 100 → ∃ d, Giv K H (.int i) d ∧ good d := fun i hi => ⟨.int i, .fl (.int i), small_good (small_int hi)⟩
  intro v hv
  unfold things at hv
  simp only [List.mem_cons, List.not_mem_nil, or_false] at hv
  rcases hv with rfl | rfl | rfl | rfl | rfl | rfl | rfl | rfl | rfl | rfl | rfl | rfl | rfl | rfl | rfl | rfl | rfl | rfl | rfl | rfl | rfl
  · exact ⟨.none, .fl .non, ⟨by decide, by decide, by decide +kernel⟩⟩
  · exact ⟨_, .fl (.bl true), small_good (small_bool _)⟩
  · exact ⟨_, .fl (.bl false), small_good (small_bool _)⟩
  · exact int _ (by decide)
  · exact int _ (by decide)
  · exact int _ (by decide)
  · exact int _ (by decide)
  · exact int _ (by decide)
  · exact int _ (by decide)
  · exact int _ hf
  · exact int _ (by rw [Int.natAbs_neg]; exact hf)
  · exact ⟨_, .fl (.str _), ⟨by decide, by decide, by decide +kernel⟩⟩
  · exact ⟨_, .fl (.str _), ⟨by decide, by decide, by decide +kernel⟩⟩
  · exact ⟨_, .fl (.str _), ⟨by decide, by decide, by decide +kernel⟩⟩
  · exact ⟨_, .fl (.str _), ⟨by decide, by decide, by decide +kernel⟩⟩
  · exact ⟨_, .tup h1 .nil (by decide), good_tuple (fun d hd => by cases hd) (by decide)⟩
  · exact ⟨_, .lst h2 .nil (by decide), good_list (fun d hd => by cases hd) (by decide)⟩
  · exact ⟨_, .fl (.dic0 h3), ⟨by decide, by decide, by decide +kernel⟩⟩
  · exact ⟨_, .lst h4 (.cons (.int 0) .nil) (by decide), good_list (fun d hd => by rw [List.mem_singleton.mp hd]; exact small_int (by decide)) (by decide)⟩
  · exact ⟨_, .tup h5 (.cons (.int 1) .nil) (by decide), good_tuple (fun d hd => by rw [List.mem_singleton.mp hd]; exact small_int (by decide)) (by decide)⟩
  · exact ⟨_, .fl (.dic1 h6), ⟨by decide +kernel, by decide, by decide +kernel⟩⟩
section
variable {P : Program} {w : World} {K : PySem.W.Frag} {mg : Str → Option Value} {base : Heap}
def spAny (K : PySem.W.Frag) : Sp := fun vs H Q _ => ∃ p : Addr, vs = [.ref p] ∧ PotAt H p ∧
  ∀ v d H', But p H H' → PotAt H' p → Giv K (dl H' p) v d → good d → Q v H'
theorem scAny : FnScope ["_law_pot_here", "_law_far", "_law_some"] ["_law_pot_here"] (defScope slAnyThing) := ⟨rfl, rfl, rfl, by decide +kernel, rfl, by decide +kernel, by decide +kernel⟩
theorem pot_ne {H : Hp} {p q : Addr} (hp : PotAt H p) (hq : H q = none) : q ≠ p := fun z => by
  subst z
  obtain ⟨_, _, e, _⟩ := hp
  rw [hq] at e
  cases e
theorem ok_any {f : Addr} {fd : FuncData} (F : Fun K "_law_any_thing" "_law_any_thing" slAnyThing f fd) (B : Bl mg) (D : Has P w K mg base "_law_draw" 2 ["_law_pot_here", "_law_many"] spDraw) :
    FnOk P w K mg base CX0 3 f fd ["_law_pot_here"] (spAny K) := by
  obtain ⟨fD, fdD, GD, mD, kD, bD⟩ := D
  refine F.ok scAny (fun vs H Q E h => ?_) (fun cdv A outer s H vs Q E hr h => ?_)
  · obtain ⟨p, rfl, _⟩ := h
    rfl
  · obtain ⟨p, rfl, hp, out⟩ := h
    refine ⟨_, pss_cons (ps_set (i := 1) scAny.nd rfl (Or.inl rfl) (pe_op op_add (pe_op op_pow pe_int pe_int) (pe_call GD hr (by rfl) mD kD bD .nil pass0 (pa_cons (pv 0) (pa_cons (pe_op op_pow pe_int pe_int) pa_nil)))))
      (pss_cons (ps_set (i := 2) scAny.nd rfl (Or.inl rfl) (pe_lst (pa_cons pe_non (pa_cons pe_bl (pa_cons pe_bl (pa_cons (pe_un un_neg pe_int) (pa_cons pe_int (pa_cons pe_int (pa_cons pe_int (pa_cons pe_int (pa_cons pe_int
        (pa_cons (pv 1) (pa_cons (pe_un un_neg (pv 1)) (pa_cons pe_str (pa_cons pe_str (pa_cons pe_str (pa_cons pe_str (pa_cons (pe_tup pa_nil) (pa_cons (pe_lst pa_nil) (pa_cons pe_dnewK (pa_cons (pe_lst (pa_cons pe_int pa_nil)) (pa_cons (pe_tup (pa_cons pe_int pa_nil))
        (pa_cons (pe_disp (pps_cons pe_int pe_int pps_nil) (by rfl) (by rfl) (fun z => by cases z) (by decide)) pa_nil)))))))))))))))))))))))
      (pss_one (ps_ret (pe_ix ix_list (pv 2) (pe_call GD hr (by rfl) mD kD bD .nil pass0 (pa_cons (pv 0) (pa_cons (pe_callB call_len_seq (by rfl) B.len PySem.boot_len (pa_cons (pv 2) pa_nil)) pa_nil))) (fun _ _ => rfl))))), ?_⟩
    refine ⟨10, 20, rfl, rfl, ⟨by decide, by decide, by decide⟩, _, rfl, 10, 9, rfl, rfl, ⟨by decide, by decide, by decide⟩, p, _, rfl, hp, by decide, by decide, ?_⟩
    intro d1 H1 d0 dlt b1 hp1
    refine ⟨_, _, rfl, rfl, ?_⟩
    refine ⟨1, rfl, _, rfl, _, rfl, _, rfl, ?_⟩
    refine ⟨by decide, fun p1 h1 => ⟨by decide, fun p2 h2 p3 h3 => ⟨by decide, fun p4 h4 => ⟨by decide, fun p5 h5 p6 h6 => ?_⟩⟩⟩⟩
    refine ⟨upd_same, [(Sum.inl 1, .int 2)], rfl, by decide, (by show 21 ≤ sizeLine; decide), fun L hL => ?_⟩
    rw [upd_upd] at hL ⊢
    have s1 := same_new (o := .tup []) h1
    have s2 := same_new (o := .lst []) h2
    have s3 := same_new (o := .dK []) h3
    have s4 := same_new (o := .lst [.int 0]) h4
    have s5 := same_new (o := .tup [.int 1]) h5
    have s6 := same_new (o := .dK (mergeK [] [(Sum.inl 1, .int 2)])) h6
    have s7 := same_new (o := .lst (things (10 ^ 20 + d1) p1 p2 p3 p4 p5 p6)) hL
    have t6 := s6.trans s7
    have t5 := s5.trans t6
    have t4 := s4.trans t5
    have t3 := s3.trans t4
    have t2 := s2.trans t3
    have g1 := t2 _ _ (upd_same (H := H1) (a := p1) (o := .tup []))
    have g2 := t3 _ _ (upd_same (a := p2) (o := .lst []))
    have g3 := t4 _ _ (upd_same (a := p3) (o := .dK []))
    have g4 := t5 _ _ (upd_same (a := p4) (o := .lst [.int 0]))
    have g5 := t6 _ _ (upd_same (a := p5) (o := .tup [.int 1]))
    have g6 := s7 _ _ (upd_same (a := p6) (o := .dK (mergeK [] [(Sum.inl 1, .int 2)])))
    have sAll := s1.trans t2
    have hpG := hp1.same sAll
    have n1 : p1 ≠ p := pot_ne hp1 h1
    have n2 : p2 ≠ p := pot_ne (hp1.same s1) h2
    have n3 : p3 ≠ p := pot_ne (hp1.same (s1.trans s2)) h3
    have n4 : p4 ≠ p := pot_ne (hp1.same (s1.trans (s2.trans s3))) h4
    have n5 : p5 ≠ p := pot_ne (hp1.same (s1.trans (s2.trans (s3.trans s4)))) h5
    have n6 : p6 ≠ p := pot_ne (hp1.same (s1.trans (s2.trans (s3.trans (s4.trans s5))))) h6
    have nL : L ≠ p := pot_ne (hp1.same (s1.trans (s2.trans (s3.trans (s4.trans (s5.trans s6)))))) hL
    refine ⟨_, rfl, _, rfl, _, rfl, L, things (10 ^ 20 + d1) p1 p2 p3 p4 p5 p6, rfl, .inl (SqL.of upd_same), p, 21, rfl, hpG, by decide, by decide, ?_⟩
    intro d2 H9 e0 e1 b9 hp9
    have hk : d2.toNat < (things (10 ^ 20 + d1) p1 p2 p3 p4 p5 p6).length := by
      rw [things_len]
      omega
    have hx : (things (10 ^ 20 + d1) p1 p2 p3 p4 p5 p6)[d2.toNat]? = some (things (10 ^ 20 + d1) p1 p2 p3 p4 p5 p6)[d2.toNat] := by simp [hk]
    have hat : atI (things (10 ^ 20 + d1) p1 p2 p3 p4 p5 p6) d2 = some (things (10 ^ 20 + d1) p1 p2 p3 p4 p5 p6)[d2.toNat] := by
      have q := atI_nat hx
      rw [show ((d2.toNat : Nat) : Int) = d2 by omega] at q
      exact q
    refine ⟨L, _, d2, _, rfl, rfl, SqL.of (b9 L _ nL upd_same), hat, ?_⟩
    have hfar : ((10 : Int) ^ 20 + d1).natAbs < 2 ^ 100 := by
      have q : d1 < 1000000000 := dlt
      have q2 : ((10 : Int) ^ 20) = 100000000000000000000 := by decide
      rw [q2, show (2 : Nat) ^ 100 = 1267650600228229401496703205376 by decide]
      omega
    obtain ⟨d, hd, hg⟩ := things_giv (K := K) (H := dl H9 p) hfar (dl_at n1 (b9 _ _ n1 g1)) (dl_at n2 (b9 _ _ n2 g2)) (dl_at n3 (b9 _ _ n3 g3)) (dl_at n4 (b9 _ _ n4 g4)) (dl_at n5 (b9 _ _ n5 g5)) (dl_at n6 (b9 _ _ n6 g6)) _ (List.getElem_mem hk)
    exact out _ d H9 ((b1.trans (But.same sAll)).trans b9) hp9 hd hg
end
end K17
namespace Par
open PySem PySem.Spec PyProof.Rows L2
/-- a class of the text's own with an own ==, no own != -/
structure EqC (K : PySem.W.Frag) (C f : Addr) : Prop where
  is : ∃ nm q N bs hd sn sub ab col dd k0 k1 k2 k3 k5 newId, K.lookup C = some (excClassObj nm q C N bs [.type "object"] hd sn sub ab col dd k0 k1 k2 k3 k5 newId) ∧ PySem.W.nsOkIn K N = true ∧ PySem.W.nsIn K N "__eq__" = some (some (.ref f)) ∧ PySem.W.nsIn K N "__ne__" = some none
  eq : PySem.W.findIn K (.ref C) "__eq__" = some (some (.ref f))
  fn : PySem.W.isFn K (.ref f) = true
theorem look_eq : typeLookup (.type "object") "__eq__" = pure (some (.builtin "object.__eq__")) := by
  rw [typeLookup_type, builtinLookup_eq_fast]
  kernel_rfl
theorem ns_some_of {K : PySem.W.Frag} {h : Heap} {N : Addr} {mg : Str → Option Value} {n : Str} {v : Value} (X : K.In h) (G : h.Ns N mg) (e : PySem.W.nsIn K N n = some (some v)) : mg n = some v := by
  obtain ⟨o, es, ep, ho, hd, _, hf⟩ := G
  unfold PySem.W.nsIn at e
  split at e
  · rename_i c d es' n' sl q
    have := X _ _ q
    rw [ho] at this
    cases this
    cases hd
    split at e
    · rename_i x he
      rw [← hf]
      unfold nsFind findBy
      rw [← Array.find?_toList, he]
      simpa using e
    · split at e <;> cases e
  · cases e
theorem fn_at {K : PySem.W.Frag} {h : Heap} {f : Addr} (X : K.In h) (e : PySem.W.isFn K (.ref f) = true) : ∃ o : Obj, h.get? f = some o ∧ o.cls = .type "function" := by
  unfold PySem.W.isFn PySem.W.typeIn at e
  cases q : K.lookup f with
  | none => simp [q] at e
  | some o =>
    simp [q] at e
    exact ⟨o, X _ _ q, e⟩
section
variable {X : Cx} {C f : Addr} {CX : CXT} {n : Nat} {fd : FuncData} {ps : List Str} {sp : Sp} {E : XK}
/-- the own ==, or !=, of two instances of the class -/
def rOwn (C : Addr) (sp : Sp) (E : XK) (neg : Bool) : R2 := fun x y H Q => ∃ a b dx dy fs gs, x = .ref a ∧ y = .ref b ∧ H a = some (.ins C dx fs) ∧ H b = some (.ins C dy gs) ∧
  sp [.ref a, .ref b] H (fun v H' => ∃ r : Bool, v = .bl r ∧ Q (.bl (xor neg r)) H') E
theorem own_call {pins : List (Addr × Obj)} {s : Shared} {σ : L2.St} {H : Hp} {a b : Addr} {A : Around} {Q : V → Hp → Prop} (I : Inv X pins σ H s) (F : FnOk X.prog X.w X.K X.mg X.base CX n f fd ps sp) (hr : Room n A) (hA : A.frames = X.A.frames) (hb : Binds X.K fd ps []) (hx : Passes CX X E)
    (h : sp [.ref a, .ref b] H Q E) : wpAny (model X.prog X.w) A (call (.ref f) [.ref a, .ref b]) (fun v s' => ∃ u H', Inv X pins σ H' s' ∧ RelV u v ∧ Q u H') X.xe s := by
  have e0 : Env0 X.prog X.w X.K X.mg X.base A X.stack s H := by
    have e := I.env0
    exact ⟨by rw [hA]; exact e.frames, e.mod, e.bs, e.bsz, e.funs, e.frf, e.hok, e.bare⟩
  have hl := F.len _ _ _ _ h
  have r2 : Vals [V.ref a, V.ref b] [Value.ref a, Value.ref b] := .cons rfl (.cons rfl .nil)
  refine wpAny_call (codeAny_mono (F.run A X.stack s H ⟨[.ref a, .ref b], []⟩ [.ref a, .ref b] [.ref a, .ref b] Q E hr e0 (by
    have := hb s [.ref a, .ref b] I.kIn (by simpa using hl)
    simpa using this) r2 h) fun r s' hq => ?_)
  cases r with
  | error e => exact hx pins σ H s e s' I hq
  | ok fl =>
    cases fl with
    | ret w =>
      obtain ⟨z, H', I', rz, q⟩ := I.after hq
      exact ⟨z, H', I', rz, q⟩
    | next => exact False.elim hq
    | brk => exact False.elim hq
    | cont => exact False.elim hq
theorem op_ownNe (T : EqC X.K C f) (F : FnOk X.prog X.w X.K X.mg X.base CX n f fd ps sp) (hr : Room (n + 1) X.A) (hb : Binds X.K fd ps []) (hx : Passes CX X E) : OpR X (compareOp .NotEq) (rOwn C sp E true) := by
  intro pins s σ H x y v u Q I rx ry h
  obtain ⟨a, b, dx, dy, fs, gs, rfl, rfl, ha, hb', h⟩ := h
  cases rx
  cases ry
  obtain ⟨mA, J, _⟩ := ins_get I.hok ha
  obtain ⟨mB, J', _⟩ := ins_get I.hok hb'
  obtain ⟨oda, Ja, _⟩ := J.look
  obtain ⟨odb, Jb, _⟩ := J'.look
  obtain ⟨nm, q, N, bs, hd, sn, sub, ab, col, dd, k0, k1, k2, k3, k5, newId, hC, hN, hE, hNe⟩ := T.is
  obtain ⟨of, h1, h2⟩ := fn_at I.kIn T.fn
  have G : s.heap.Ns N (s.heap.nsMap N) := .of_isNs (PySem.W.isNs_of_in I.kIn hN)
  have O : s.heap.OwnEqNoNe a C f "object" [.type "object"] := ⟨_, of, nm, q, N, bs, hd, sn, sub, ab, col, dd, k0, k1, k2, k3, k5, newId, _, _, Ja.at_, Ja.cls, I.kIn _ _ hC, G, ns_some_of I.kIn G hE, h1, h2, PySem.F.cmp_object.mro, look_eq, PySem.W.ns_none_of I.kIn G hNe⟩
  refine compareOp_ne_ownEq PySem.F.cmp_object O Jb.at_ Jb.cls (by have := hr.units; omega) ?_
  refine wpAny_mono (own_call I F hr.in1 rfl hb hx h) (fun v s' hv => ?_) fun _ _ e => e
  obtain ⟨z, H', I', rz, r, rfl, q⟩ := hv
  cases rz
  exact ⟨r, rfl, .bl (!r), H', I', rfl, by simpa using q⟩
theorem op_ownEq (T : EqC X.K C f) (F : FnOk X.prog X.w X.K X.mg X.base CX n f fd ps sp) (hr : Room n X.A) (hb : Binds X.K fd ps []) (hx : Passes CX X E) : OpR X (compareOp .Eq) (rOwn C sp E false) := by
  intro pins s σ H x y v u Q I rx ry h
  obtain ⟨a, b, dx, dy, fs, gs, rfl, rfl, ha, hb', h⟩ := h
  cases rx
  cases ry
  obtain ⟨mA, J, _⟩ := ins_get I.hok ha
  obtain ⟨mB, J', _⟩ := ins_get I.hok hb'
  obtain ⟨oda, Ja, _⟩ := J.look
  obtain ⟨odb, Jb, _⟩ := J'.look
  obtain ⟨m, hF⟩ := I.fr
  show wpAny (model X.prog X.w) X.A (richCompare .Eq (.ref a) (.ref b)) (EP X pins σ Q) X.xe s
  refine PySem.W.cmp_K (op := .Eq) (tb := .ref C) hr.units0 hF I.ok.mod.kin Ja Jb.type (by simp [PySem.W.notFirst]) T.eq T.fn ?_
  refine wpAny_mono (own_call I F hr rfl hb hx h) (fun v s' hv => ?_) fun _ _ e => e
  obtain ⟨z, H', I', rz, r, rfl, q⟩ := hv
  cases rz
  exact ⟨.bl r, H', I', rfl, by simpa using q⟩
end
end Par
namespace Par
open PySem PySem.Spec PyProof.Rows L2
section
variable {X : Cx} {C f : Addr} {CX : CXT} {n : Nat} {fd : FuncData} {ps : List Str} {sp : Sp} {E : XK}
/-- str(o), repr(o): by the own method -/
def rTxtOwn (C : Addr) (sp : Sp) (E : XK) : List V → Hp → VK → Prop := fun xs H Q => ∃ a dx fs, xs = [.ref a] ∧ H a = some (.ins C dx fs) ∧ sp [.ref a] H (fun v H' => ∃ t : Str, v = .str t ∧ Q (.str t) H') E
theorem one_call {pins : List (Addr × Obj)} {s : Shared} {σ : L2.St} {H : Hp} {a : Addr} {A : Around} {Q : V → Hp → Prop} (I : Inv X pins σ H s) (F : FnOk X.prog X.w X.K X.mg X.base CX n f fd ps sp) (hr : Room n A) (hA : A.frames = X.A.frames) (hb : Binds X.K fd ps []) (hx : Passes CX X E)
    (h : sp [.ref a] H Q E) : wpAny (model X.prog X.w) A (call (.ref f) [.ref a]) (fun v s' => ∃ u H', Inv X pins σ H' s' ∧ RelV u v ∧ Q u H') X.xe s := by
  have e0 : Env0 X.prog X.w X.K X.mg X.base A X.stack s H := by
    have e := I.env0
    exact ⟨by rw [hA]; exact e.frames, e.mod, e.bs, e.bsz, e.funs, e.frf, e.hok, e.bare⟩
  have hl := F.len _ _ _ _ h
  refine wpAny_call (codeAny_mono (F.run A X.stack s H ⟨[.ref a], []⟩ [.ref a] [.ref a] Q E hr e0 (by
    have := hb s [.ref a] I.kIn (by simpa using hl)
    simpa using this) (.cons rfl .nil) h) fun r s' hq => ?_)
  cases r with
  | error e => exact hx pins σ H s e s' I hq
  | ok fl =>
    cases fl with
    | ret w =>
      obtain ⟨z, H', I', rz, q⟩ := I.after hq
      exact ⟨z, H', I', rz, q⟩
    | next => exact False.elim hq
    | brk => exact False.elim hq
    | cont => exact False.elim hq
theorem one_callG {pins : List (Addr × Obj)} {s : Shared} {σ : L2.St} {H : Hp} {a : Addr} {A : Around} {Q : V → Hp → Prop} (I : Inv X pins σ H s) (F : FnG X.prog X.w X.K X.mg X.base CX n f fd ps sp) (gs : A.guards = some []) (hr : Room n A) (hA : A.frames = X.A.frames) (hb : Binds X.K fd ps []) (hx : Passes CX X E)
    (h : sp [.ref a] H Q E) : wpAny (model X.prog X.w) A (call (.ref f) [.ref a]) (fun v s' => ∃ u H', Inv X pins σ H' s' ∧ RelV u v ∧ Q u H') X.xe s := by
  have e0 : Env0 X.prog X.w X.K X.mg X.base A X.stack s H := by
    have e := I.env0
    exact ⟨by rw [hA]; exact e.frames, e.mod, e.bs, e.bsz, e.funs, e.frf, e.hok, e.bare⟩
  have hl := F.arity _ _ _ _ h
  refine wpAny_call (codeAny_mono (F.go A X.stack s H ⟨[.ref a], []⟩ [.ref a] [.ref a] Q E gs hr e0 (by
    have := hb s [.ref a] I.kIn (by simpa using hl)
    simpa using this) (.cons rfl .nil) h) fun r s' hq => ?_)
  cases r with
  | error e => exact hx pins σ H s e s' I hq
  | ok fl =>
    cases fl with
    | ret w =>
      obtain ⟨z, H', I', rz, q⟩ := I.after hq
      exact ⟨z, H', I', rz, q⟩
    | next => exact False.elim hq
    | brk => exact False.elim hq
    | cont => exact False.elim hq
theorem cr_reprOwn (c : PySem.W.findIn X.K (.ref C) "__repr__" = some (some (.ref f))) (hf : PySem.W.isFn X.K (.ref f) = true) (F : FnG X.prog X.w X.K X.mg X.base CX n f fd ps sp) (gs : X.A.guards = some []) (hr : Room (n + 1) X.A) (hb : Binds X.K fd ps []) (hx : Passes CX X E) :
    CallR X (.builtin "repr") (rTxtOwn C sp E) := by
  intro pins s σ H xs us Q I r h
  obtain ⟨a, dx, fs, rfl, ha, h⟩ := h
  cases r with
  | @cons _ u _ _ r1 r2 =>
    cases r2
    cases r1
    obtain ⟨mA, J, _⟩ := ins_get I.hok ha
    obtain ⟨oda, Ja, _⟩ := J.look
    obtain ⟨m, hF⟩ := I.fr
    refine PySem.W.repr_K (hr.in1).units0 hF I.ok.mod.kin Ja c hf ?_
    refine wpAny_mono (one_callG I F gs hr.in1 rfl hb hx h) (fun v s' hv => ?_) fun _ _ e => e
    obtain ⟨z, H', I', rz, t, rfl, q⟩ := hv
    obtain ⟨tk, rfl⟩ := rz
    exact ⟨.str t, H', I', ⟨_, rfl⟩, q⟩
theorem cr_strOwn (c : PySem.W.findIn X.K (.ref C) "__str__" = some (some (.ref f))) (hf : PySem.W.isFn X.K (.ref f) = true) (F : FnOk X.prog X.w X.K X.mg X.base CX n f fd ps sp) (hr : Room (n + 2) X.A) (hb : Binds X.K fd ps []) (hx : Passes CX X E) :
    CallR X (.type "str") (rTxtOwn C sp E) := by
  intro pins s σ H xs us Q I r h
  obtain ⟨a, dx, fs, rfl, ha, h⟩ := h
  cases r with
  | @cons _ u _ _ r1 r2 =>
    cases r2
    cases r1
    obtain ⟨mA, J, _⟩ := ins_get I.hok ha
    obtain ⟨oda, Ja, _⟩ := J.look
    refine PySem.W.kso_call (hr.in1.in1).units0 I.kIn Ja c hf ?_
    refine wpAny_mono (one_call I F hr.in1.in1 rfl hb hx h) (fun v s' hv => ?_) fun _ _ e => e
    obtain ⟨z, H', I', rz, t, rfl, q⟩ := hv
    obtain ⟨tk, rfl⟩ := rz
    exact ⟨.str t, H', I', ⟨_, rfl⟩, q⟩
/-- {x!r}, x a list or tuple of data, where the guards are none -/
def tFmtD (K : PySem.W.Frag) (te : TE) : TE := fun σ H Q => te σ H fun x H1 => ∃ (a : Addr) (d : PyData), x = .ref a ∧ Dp K H1 x d ∧ d.showable = true ∧ d.depth ≤ 40 ∧ d.shown.length ≤ sizeLine ∧ Q (.str d.shown) H1
theorem pe_fmtD {e : Expr} {te : TE} {pos : Pos} (gs : X.A.guards = some []) (hu : X.A.units + 64 < cLine) (he : PE X e te) : PE X (.FormattedValue e 114 none pos) (tFmtD X.K te) := by
  refine ⟨fun pins s σ H Q I h => ?_⟩
  refine wpAny_FormattedValue_repr (thn (he.run pins s σ H _ I h) fun w1 t1 got => ?_)
  obtain ⟨x, H1, I1, r1, a, d, rfl, hd, sh, dep, len, q⟩ := got
  cases r1
  obtain ⟨as, rd⟩ := Dp.reads I1 d _ _ hd rfl
  refine pyReprObj_of_reads rd sh (fun z => by rw [dp_nodict d _ hd] at z; cases z) gs (by omega) (fun _ _ z => z) ?_ len
  intro h' tk u k
  exact wpAny_formatField_str ⟨.str d.shown, H1, I1.un (Un.kept k) (I1.hok.kept k), ⟨_, rfl⟩, q⟩ ⟨.str d.shown, H1, I1.un (Un.kept k) (I1.hok.kept k), ⟨_, rfl⟩, q⟩ len
end
end Par
namespace K17
open PySem PySem.Spec PyProof.Rows L2 Par
theorem flip_at {bs hs : List Int} {i : Nat} (hi : i < bs.length) : (flipB bs hs).getD i 0 = if decide ((i : Int) ∈ hs) = true then 1 - bs.getD i 0 else bs.getD i 0 := by
  rw [List.getD_eq_getElem?_getD]
  unfold flipB
  rw [List.getElem?_map, List.getElem?_range hi]
  rfl
theorem sum_flip {bs hs : List Int} : ∀ (ts : List Int), (∀ k ∈ ts, 0 ≤ k ∧ k < bs.length) →
    ((ts.map fun k => (flipB bs hs).getD k.toNat 0).sum - (ts.map fun k => bs.getD k.toNat 0).sum - ((comm ts hs).length : Int)) % 2 = 0
  | [], _ => by simp [comm]
  | k :: ts, h => by
    have ih := sum_flip (bs := bs) (hs := hs) ts fun x hx => h x (List.mem_cons_of_mem _ hx)
    obtain ⟨h0, h1⟩ := h k (List.mem_cons_self ..)
    have e := flip_at (bs := bs) (hs := hs) (i := k.toNat) (by omega)
    rw [Int.toNat_of_nonneg h0] at e
    rw [List.map_cons, List.map_cons, List.sum_cons, List.sum_cons, e]
    by_cases z : k ∈ hs
    · have ec : comm (k :: ts) hs = k :: comm ts hs := by
        unfold comm
        rw [List.filter_cons_of_pos (by simp [z])]
      rw [ec, List.length_cons, decide_eq_true z, if_pos rfl]
      omega
    · have ec : comm (k :: ts) hs = comm ts hs := by
        unfold comm
        rw [List.filter_cons_of_neg (by simp [z])]
      rw [ec, decide_eq_false z, if_neg Bool.false_ne_true]
      omega
theorem par_flip {bs ts hs : List Int} (h : ∀ k ∈ ts, 0 ≤ k ∧ k < bs.length) (ev : (comm ts hs).length % 2 = 0) : parB (flipB bs hs) ts = parB bs ts := by
  have := sum_flip (bs := bs) (hs := hs) ts h
  unfold parB
  omega
theorem aft_len (bs ts hs : List Int) : (aftB bs ts hs).length = bs.length := by
  unfold aftB
  split
  · exact flipB_len _ _
  · rfl
theorem aft_ok {bs ts hs : List Int} (h : OkB bs) (h0 : ∀ k ∈ hs, 1 ≤ k) : OkB (aftB bs ts hs) := by
  unfold aftB
  split
  · exact flip_ok h h0
  · exact h
theorem aft_par {bs ts hs : List Int} (h : ∀ k ∈ ts, 0 ≤ k ∧ k < bs.length) (ev : (comm ts hs).length % 2 = 0) : parB (aftB bs ts hs) ts = parB bs ts := by
  unfold aftB
  split
  · exact par_flip h ev
  · rfl
theorem aft_back {bs ts hs : List Int} (h : ∀ k ∈ ts, 0 ≤ k ∧ k < bs.length) (ev : (comm ts hs).length % 2 = 0) : aftB (aftB bs ts hs) ts hs = bs := by
  have e := aft_par h ev
  unfold aftB at e ⊢
  by_cases z : parB bs ts = 1
  · rw [decide_eq_true z, if_pos rfl] at e ⊢
    rw [e, decide_eq_true z, if_pos rfl]
    exact flip_flip
  · rw [decide_eq_false z, if_neg Bool.false_ne_true] at e ⊢
    rw [decide_eq_false z, if_neg Bool.false_ne_true]
theorem fits_le {ts hs : List Int} {M : Int} {n : Nat} (f : Fits ts hs M) (h1 : ∀ k ∈ ts, k < n) (h2 : ∀ k ∈ hs, k < n) (h3 : 1 ≤ n) : M ≤ n := by
  rcases f.2.2 with z | z | z
  · omega
  · have := h1 _ z
    omega
  · have := h2 _ z
    omega
theorem par01 (bs t : List Int) : parB bs t = 0 ∨ parB bs t = 1 := by
  unfold parB
  omega
theorem aft_at {bs t h : List Int} {i : Nat} (hi : i < bs.length) : (aftB bs t h).getD i 0 = if parB bs t = 1 ∧ (i : Int) ∈ h then 1 - bs.getD i 0 else bs.getD i 0 := by
  unfold aftB
  by_cases z : parB bs t = 1
  · rw [decide_eq_true z, if_pos rfl, flip_at hi]
    by_cases y : (i : Int) ∈ h
    · rw [decide_eq_true y, if_pos rfl, if_pos ⟨z, y⟩]
    · rw [decide_eq_false y, if_neg Bool.false_ne_true, if_neg fun q => y q.2]
  · rw [decide_eq_false z, if_neg Bool.false_ne_true, if_neg fun q => z q.1]
theorem par_aft {bs t1 h1 t2 : List Int} (h : ∀ k ∈ t2, 0 ≤ k ∧ k < bs.length) : parB (aftB bs t1 h1) t2 = if parB bs t1 = 1 ∧ (comm t2 h1).length % 2 = 1 then 1 - parB bs t2 else parB bs t2 := by
  have f := sum_flip (bs := bs) (hs := h1) t2 h
  have p := par01 bs t2
  unfold aftB
  by_cases z : parB bs t1 = 1
  · rw [decide_eq_true z, if_pos rfl]
    by_cases y : (comm t2 h1).length % 2 = 1
    · rw [if_pos ⟨z, y⟩]
      unfold parB at p ⊢
      omega
    · rw [if_neg fun q => y q.2]
      unfold parB at p ⊢
      omega
  · rw [decide_eq_false z, if_neg Bool.false_ne_true, if_neg fun q => z q.1]
theorem depth_ints : ∀ ns : List Int, PyData.depthAll (ns.map PyData.int) = 0
  | [] => rfl
  | n :: ns => by
    show max 0 (PyData.depthAll (ns.map PyData.int)) = 0
    rw [depth_ints ns]
    rfl
theorem lay_ints : ∀ ns : List Int, (PyData.list (ns.map PyData.int)).canLay0 = true := by
  intro ns
  induction ns with
  | nil => rfl
  | cons n ns ih => exact ih
theorem shaped_ints (ns : List Int) : SeqAt.shaped (.list (ns.map PyData.int)) = true := by
  unfold SeqAt.shaped
  rw [lay_ints]
  have : (PyData.list (ns.map PyData.int)).depth = 1 := by
    show PyData.depthAll (ns.map PyData.int) + 1 = 1
    rw [depth_ints]
  rw [this]
  rfl
theorem sort_same {ns ms : List Int} (h : ms.Perm ns) (w1 : ms.Pairwise (· ≤ ·)) (w2 : ns.Pairwise (· < ·)) : ms = ns :=
  List.Perm.eq_of_pairwise (fun a b _ _ h1 h2 => Int.le_antisymm h1 h2) w1 (w2.imp (fun h => by omega)) h
/-- what isinstance asks of an own class -/
structure IsC (K : PySem.W.Frag) (C : Addr) : Prop where
  ha : PySem.W.findIn K (.ref C) "__class__" = some (some (.builtin "object.__class__"))
  hn : PySem.W.specialIn K (.builtin "object.__class__") "__get__" = some (some (.builtin "getset_descriptor.__get__"))
  ht : PySem.W.takesIn K (.builtin "object.__class__") = some true
  hm : PySem.W.mroIn K C (.type "object") = some true
theorem kit_self {K : PySem.W.Frag} {C : Addr} : PySem.W.kitOne K (.ref C) (.ref C) = some true := by
  show (if (Value.ref C == Value.ref C) = true then some true else _) = some true
  rw [if_pos (by simp)]
/-- what stands in just one of both -/
def symm (ns ms : List Int) : List Int := (ns.filter fun k => !decide (k ∈ ms)) ++ (ms.filter fun k => !decide (k ∈ ns))
theorem mem_symm {ns ms : List Int} (k : Int) : k ∈ symm ns ms ↔ xor (decide (k ∈ ns)) (decide (k ∈ ms)) = true := by
  unfold symm
  by_cases a : k ∈ ns <;> by_cases b : k ∈ ms <;> simp [List.mem_append, List.mem_filter, a, b]
theorem symm_nodup {ns ms : List Int} (h1 : ns.Nodup) (h2 : ms.Nodup) : (symm ns ms).Nodup := by
  unfold symm
  refine List.nodup_append.mpr ⟨h1.sublist List.filter_sublist, h2.sublist List.filter_sublist, fun a ha b hb e => ?_⟩
  subst e
  have z := (List.mem_filter.mp ha).2
  have y := (List.mem_filter.mp hb).1
  simp [y] at z
/-- the cells moved past a flip -/
def moved (ns ts hs : List Int) : List Int := if (comm ns hs).length % 2 = 1 then symm ns ts else ns
theorem up_same {l m : List Int} (h1 : l.Pairwise (· < ·)) (h2 : m.Pairwise (· < ·)) (h : ∀ k, k ∈ l ↔ k ∈ m) : l = m := by
  have n1 : l.Nodup := nodup_lt_ h1
  have n2 : m.Nodup := nodup_lt_ h2
  exact List.Perm.eq_of_pairwise (fun a b _ _ h1 h2 => by omega) h1 h2 ((List.perm_ext_iff_of_nodup n1 n2).mpr h)
theorem sum_part (f : Int → Int) (p : Int → Bool) : ∀ l : List Int, ((l.filter p).map f).sum + ((l.filter fun k => !p k).map f).sum = (l.map f).sum
  | [] => rfl
  | a :: l => by
    have ih := sum_part f p l
    by_cases z : p a = true
    · rw [List.filter_cons_of_pos z, List.filter_cons_of_neg (by simp [z]), List.map_cons, List.map_cons, List.sum_cons, List.sum_cons]
      omega
    · rw [List.filter_cons_of_neg z, List.filter_cons_of_pos (by simp [z]), List.map_cons, List.map_cons, List.sum_cons, List.sum_cons]
      omega
theorem sum_symm (f : Int → Int) {ns ms : List Int} (h1 : ns.Nodup) (h2 : ms.Nodup) : ((symm ns ms).map f).sum % 2 = ((ns.map f).sum + (ms.map f).sum) % 2 := by
  have a := sum_part f (fun k => decide (k ∈ ms)) ns
  have b := sum_part f (fun k => decide (k ∈ ns)) ms
  have pm : (ns.filter fun k => decide (k ∈ ms)).Perm (ms.filter fun k => decide (k ∈ ns)) := by
    refine (List.perm_ext_iff_of_nodup (h1.sublist List.filter_sublist) (h2.sublist List.filter_sublist)).mpr fun k => ?_
    simp [List.mem_filter, and_comm]
  have c := perm_sum (pm.map f)
  unfold symm
  rw [List.map_append, List.sum_append]
  omega
theorem comm_sum (ns ms : List Int) : ((comm ns ms).length : Int) = (ns.map fun k => if k ∈ ms then (1 : Int) else 0).sum := by
  induction ns with
  | nil => rfl
  | cons a l ih =>
    unfold comm at ih ⊢
    rw [List.map_cons, List.sum_cons, ← ih]
    by_cases z : a ∈ ms
    · rw [List.filter_cons_of_pos (by simp [z]), List.length_cons, if_pos z]
      omega
    · rw [List.filter_cons_of_neg (by simp [z]), if_neg z]
      omega
theorem comm_swap {ns ms : List Int} (h1 : ns.Nodup) (h2 : ms.Nodup) : (comm ns ms).length = (comm ms ns).length := by
  have pm : (comm ns ms).Perm (comm ms ns) := by
    unfold comm
    refine (List.perm_ext_iff_of_nodup (h1.sublist List.filter_sublist) (h2.sublist List.filter_sublist)).mpr fun k => ?_
    simp [List.mem_filter, and_comm]
  exact pm.length_eq
theorem comm_symm_l {a b c : List Int} (h1 : a.Nodup) (h2 : b.Nodup) : (comm (symm a b) c).length % 2 = ((comm a c).length + (comm b c).length) % 2 := by
  have z := sum_symm (fun k => if k ∈ c then (1 : Int) else 0) h1 h2
  rw [← comm_sum, ← comm_sum, ← comm_sum] at z
  omega
theorem comm_symm_r {a b c : List Int} (h1 : a.Nodup) (h2 : b.Nodup) (h3 : c.Nodup) : (comm a (symm b c)).length % 2 = ((comm a b).length + (comm a c).length) % 2 := by
  rw [comm_swap h1 (symm_nodup h2 h3), comm_symm_l h2 h3, comm_swap h2 h1, comm_swap h3 h1]
theorem par_symm {bs ns ms : List Int} (h1 : ns.Nodup) (h2 : ms.Nodup) : parB bs (symm ns ms) = (parB bs ns + parB bs ms) % 2 := by
  have a := sum_part (fun k => bs.getD k.toNat 0) (fun k => decide (k ∈ ms)) ns
  have b := sum_part (fun k => bs.getD k.toNat 0) (fun k => decide (k ∈ ns)) ms
  have pm : (ns.filter fun k => decide (k ∈ ms)).Perm (ms.filter fun k => decide (k ∈ ns)) := by
    refine (List.perm_ext_iff_of_nodup (h1.sublist List.filter_sublist) (h2.sublist List.filter_sublist)).mpr fun k => ?_
    simp [List.mem_filter, and_comm]
  have c := perm_sum (pm.map fun k => bs.getD k.toNat 0)
  unfold parB symm
  rw [List.map_append, List.sum_append]
  omega
/-- the parity before is the parity of the moved cells after -/
theorem par_moved {bs ns ts hs : List Int} (h1 : ∀ k ∈ ns, 0 ≤ k ∧ k < bs.length) (h2 : ∀ k ∈ ts, 0 ≤ k ∧ k < bs.length) (n1 : ns.Nodup) (n2 : ts.Nodup) (ev : (comm ts hs).length % 2 = 0) : parB (aftB bs ts hs) (moved ns ts hs) = parB bs ns := by
  have a := par_aft (bs := bs) (t1 := ts) (h1 := hs) (t2 := ns) h1
  have b := aft_par (bs := bs) h2 ev
  have p := par01 bs ns
  have q := par01 bs ts
  unfold moved
  by_cases z : (comm ns hs).length % 2 = 1
  · rw [if_pos z, par_symm n1 n2, b]
    by_cases y : parB bs ts = 1
    · rw [if_pos ⟨y, z⟩] at a
      omega
    · rw [if_neg fun c => y c.1] at a
      omega
  · rw [if_neg z, a, if_neg fun c => z c.2]
theorem le_lt {l : List Int} (h : l.Pairwise (· ≤ ·)) (n : l.Nodup) : l.Pairwise (· < ·) := (h.and n).imp fun ⟨a, b⟩ => by omega
end K17
namespace K17
open PySem PySem.Spec PyProof.Rows L2 Par
abbrev sNIni : Stmt := inClass (topS 4) 0
abbrev sCan : Stmt := topS 23
abbrev sTurn : Stmt := topS 24
abbrev sAdd : Stmt := topS 25
abbrev sSwap : Stmt := topS 26
theorem isV_int {i lo hi : Int} : isV (.int i) lo hi = true ↔ lo ≤ i ∧ i ≤ hi := by
  show (decide (lo ≤ i) && decide (i ≤ hi)) = true ↔ _
  rw [Bool.and_eq_true, decide_eq_true_eq, decide_eq_true_eq]
theorem isV_is {v : V} {lo hi : Int} (h : isV v lo hi = true) : ∃ i, v = .int i ∧ lo ≤ i ∧ i ≤ hi := by
  unfold isV at h
  split at h
  · rename_i i
    exact ⟨i, rfl, isV_int.mp h⟩
  · cases h
theorem le_same {ns ms : List Int} (p : ns.Perm ms) (w1 : ns.Pairwise (· ≤ ·)) (w2 : ms.Pairwise (· ≤ ·)) : ns = ms := p.eq_of_pairwise (fun a b _ _ h1 h2 => Int.le_antisymm h1 h2) w1 w2
structure NC (K : PySem.W.Frag) (mg : Str → Option Value) (C : Addr) : Prop where
  gC : mg "NoCell" = some (.ref C)
  err : ErrC K C
  no : PySem.W.findIn K (.ref C) "cell" = some none
section
variable {P : Program} {w : World} {K : PySem.W.Frag} {mg : Str → Option Value} {base : Heap}
def spNIni (C : Addr) : Sp := fun vs H Q _ => ∃ (a : Addr) (v : V), vs = [.ref a, v] ∧ H a = some (exo a C none) ∧
  ∀ dx, H dx = none → dx ≠ a → Q .non (upd (upd H dx (exd dx [("cell", v)])) a (exo a C (some dx)))
theorem scNIni : FnScope ["self", "cell"] ["self", "cell"] (defScope sNIni) := ⟨rfl, rfl, rfl, by decide +kernel, rfl, by decide +kernel, by decide +kernel⟩
theorem ok_nini {f C : Addr} {fd : FuncData} (F : Fun K "__init__" "NoCell.__init__" sNIni f fd) (T : NC K mg C) : FnOk P w K mg base CX0 2 f fd ["self", "cell"] (spNIni C) := by
  refine F.ok scNIni (fun vs H Q E h => ?_) (fun cdv A outer s H vs Q E hr h => ?_)
  · obtain ⟨a, v, rfl, _⟩ := h
    rfl
  · obtain ⟨a, v, rfl, ha, out⟩ := h
    refine ⟨_, pss_one (ps_errS (pv 0) (pv 1)), ?_⟩
    exact ⟨_, rfl, _, rfl, a, C, rfl, T.err, T.no, .inl ⟨ha, out⟩⟩
def HasNo (P : Program) (w : World) (K : PySem.W.Frag) (mg : Str → Option Value) (base : Heap) (C : Addr) : Prop :=
  ∃ f fd, FnOk P w K mg base CX0 2 f fd ["self", "cell"] (spNIni C) ∧ PySem.W.findIn K (.ref C) "__init__" = some (some (.ref f)) ∧ PySem.W.typeIn K (.ref f) = some (.type "function") ∧ Binds K fd ["self", "cell"] []
theorem made_no {C : Addr} {H : Hp} {v : V} {W : Value → Option Addr → Hp → Prop} (h : ∀ d H', H d = none → Same H H' → H' d = some (.xd [("cell", v)]) → W (.ref C) (some d) H') :
    ∀ a, H a = none → spNIni C (.ref a :: ([v] ++ [])) (upd H a (exo a C none)) (fun u H2 => u = .non ∧ ∃ (d : Addr) (fs : List (Str × V)), H2 a = some (exo a C (some d)) ∧ H2 d = some (exd d fs) ∧ H d = none ∧
      W (.ref C) (some d) (upd (del H2 a) d (.xd fs))) (fun _ _ _ => False) := by
  intro a ha
  refine ⟨a, v, rfl, upd_same, fun dx hd ne => ?_⟩
  rw [upd_ne ne] at hd
  refine ⟨rfl, dx, [("cell", v)], upd_same, by rw [upd_ne ne, upd_same], hd, ?_⟩
  refine h dx _ hd (fun b o e => ?_) upd_same
  have n1 := ne_of_none e hd
  have n2 := ne_of_none e ha
  rw [upd_ne n1, del_ne n2, upd_ne n2, upd_ne n1, upd_ne n2]
  exact e
/-- Flip(a tuple, a tuple) -/
theorem make_flip {CF : Addr} {H : Hp} {l1 l2 x dx : Addr} {ts hs : List Int} {W : Hp → Prop} (h1 : Sq K H l1 (ts.map V.int)) (h2 : Sq K H l2 (hs.map V.int)) (ok : OkF ts hs) (ev : (comm ts hs).length % 2 = 0)
    (hx : H x = none) (hdx : H dx = none) (ne : dx ≠ x) (out : ∀ H' ks js, Same H H' → ks.Perm ts → js.Perm hs → ks.Pairwise (· ≤ ·) → js.Pairwise (· ≤ ·) → Fp CF H' x ks js → W H') :
      spFInit K CF (.ref x :: ([.ref l1, .ref l2] ++ [])) (upd (upd H dx (.own x)) x (.ins CF dx [])) (fun v H2 => v = .non ∧ W H2) E0 := by
  obtain ⟨k1, k2, k3, k4, k5, k6⟩ := ok
  have s3 : Same H (upd (upd H dx (.own x)) x (.ins CF dx [])) := fun z o e => by
    rw [upd_ne (ne_of_none e hx), upd_ne (ne_of_none e hdx)]
    exact e
  exact ⟨x, dx, l1, l2, ts, hs, rfl, upd_same, h1.same s3, h2.same s3, by omega, by omega, k1, k2, k3, k4, ev, fun H' ts' hs' bt p1 p2 y1 y2 fp => ⟨rfl, out H' ts' hs' (fun z o e => bt z o (ne_of_none e hx) (s3 _ _ e)) p1 p2 y1 y2 fp⟩⟩
/-- is_cell of anything, by its default -/
def HasCD (P : Program) (w : World) (K : PySem.W.Frag) (mg : Str → Option Value) (base : Heap) : Prop :=
  ∃ f fd, ∃ ds : List Value, FnOk P w K mg base CX0 3 f fd ["thing", "size"] (spCellA K) ∧ mg "is_cell" = some (.ref f) ∧ PySem.W.keepIn K (.ref f) = true ∧ Vals [V.int 40] ds ∧ Binds K fd ["thing", "size"] ds
def spCan (K : PySem.W.Frag) : Sp := fun vs H Q _ => ∃ v : V, vs = [v] ∧ Typed K H v ∧ Q (.bl (isV v 1 39)) H
theorem scCan : FnScope ["thing"] ["thing"] (defScope sCan) := ⟨rfl, rfl, rfl, by decide +kernel, rfl, by decide +kernel, by decide +kernel⟩
theorem ok_can {f : Addr} {fd : FuncData} (F : Fun K "can_toggle" "can_toggle" sCan f fd) (D : HasCD P w K mg base) : FnOk P w K mg base CX0 4 f fd ["thing"] (spCan K) := by
  obtain ⟨fD, fdD, ds, GD, mD, kD, hd, bD⟩ := D
  refine F.ok scCan (fun vs H Q E h => ?_) (fun cdv A outer s H vs Q E hr h => ?_)
  · obtain ⟨v, rfl, _⟩ := h
    rfl
  · obtain ⟨v, rfl, ty, out⟩ := h
    refine ⟨_, pss_one (ps_ret (pe_and (pe_call GD hr (by rfl) mD kD bD hd pass0 (pa_cons (pv 0) pa_nil)) (pe_one (pe_cmpR op_ne (pv 0) pe_int (nomark _))))), ?_⟩
    refine ⟨_, rfl, v, 40, rfl, ty, _, rfl, ite2 (fun z => ?_) (fun z => ?_)⟩
    · obtain ⟨i, rfl, i0, i1⟩ := isV_is z
      refine ⟨_, rfl, rfl, ?_⟩
      have e : isV (.int i) 1 39 = !decide (V.int i = V.int 0) := by
        by_cases q : i = 0
        · subst q
          rfl
        · rw [isV_int.mpr ⟨by omega, by omega⟩, decide_eq_false fun c => q (by injection c)]
          rfl
      rw [e] at out
      exact out
    · have e : isV v 1 39 = false := by
        cases q : isV v 1 39 with
        | false => rfl
        | true =>
          obtain ⟨i, rfl, i0, i1⟩ := isV_is q
          exact absurd (isV_int.mpr ⟨by omega, by omega⟩) z
      rw [e] at out
      exact out
/-- turn_flip -/
def NoC (CN : Addr) (H : Hp) (v : V) (E : XK) : Prop := ∀ d H', H d = none → Same H H' → H' d = some (.xd [("cell", v)]) → E (.ref CN) (some d) H'
def spTurn (K : PySem.W.Frag) (CF CN : Addr) : Sp := fun vs H Q E => ∃ v : V, vs = [v] ∧ Typed K H v ∧ (∀ i : Int, v = .int i → 1 ≤ i → i ≤ 39 → ∀ q H', H q = none → Same H H' → Fp CF H' q [0] [i] → Q (.ref q) H') ∧ (isV v 1 39 = false → NoC CN H v E)
theorem scTurn : FnScope ["cell"] ["cell"] (defScope sTurn) := ⟨rfl, rfl, rfl, by decide +kernel, rfl, by decide +kernel, by decide +kernel⟩
theorem nd1 {k : Int} : [k].Nodup := List.Pairwise.cons (fun b hb => nomatch hb) List.Pairwise.nil
theorem one_ok {i j : Int} (h1 : 0 ≤ i ∧ i ≤ 39) (h2 : 1 ≤ j ∧ j ≤ 39) (ne : i ≠ j) : OkF [i] [j] ∧ (comm [i] [j]).length % 2 = 0 := by
  refine ⟨⟨fun k hk => ?_, fun k hk => ?_, nd1, nd1, (by show 1 ≤ 40; decide), (by show 1 ≤ 40; decide)⟩, ?_⟩
  · rw [List.mem_singleton.mp hk]
    omega
  · rw [List.mem_singleton.mp hk]
    omega
  · simp [comm, ne]
theorem ok_turn {f CF CN : Addr} {fd : FuncData} (F : Fun K "turn_flip" "turn_flip" sTurn f fd) (TF : FC K mg CF) (TN : NC K mg CN) (DC : Has P w K mg base "can_toggle" 4 ["thing"] (spCan K)) (DN : HasNo P w K mg base CN) (DI : HasFI P w K mg base CF) :
    FnOk P w K mg base (L2.CX P w) 8 f fd ["cell"] (spTurn K CF CN) := by
  obtain ⟨fC, fdC, GC, mC, kC, bC⟩ := DC
  obtain ⟨fN, fdN, GN, iN, tN, bN⟩ := DN
  obtain ⟨fI, fdI, GI, MI, bI⟩ := DI
  refine F.okX scTurn (fun vs H Q E h => ?_) (fun cdv A outer s H vs Q E hr h => ?_)
  · obtain ⟨v, rfl, _⟩ := h
    rfl
  · obtain ⟨v, rfl, ty, good, bad⟩ := h
    have r3 : Room 3 _ := hr.mono (by decide)
    have r4 : Room 4 _ := hr.mono (by decide)
    refine ⟨_, pss_cons (ps_if (pt_not (pt_val (pe_call GC r4 (by rfl) mC kC bC .nil pass0 (pa_cons (pv 0) pa_nil)))) (pss_one (ps_raise rfl (takes_of rfl rfl rfl rfl) (pmk_err TN.err iN tN GN r3 bN .nil pass0 (by rfl) TN.gC (pa_cons (pv 0) pa_nil)))) pss_nil)
      (pss_one (ps_ret (pe_make (E := E0) MI GI hr (by rfl) TF.mgC bI .nil pass0 (pa_cons (pe_tup (pa_cons pe_int pa_nil)) (pa_cons (pe_tup (pa_cons (pv 0) pa_nil)) pa_nil))))), ?_⟩
    refine ⟨_, rfl, v, rfl, ty, _, rfl, ?_⟩
    cases z : isV v 1 39 with
    | false =>
      refine iteT ?_
      exact ⟨_, rfl, (by show 1 ≤ 1000; decide), made_no fun d H' hd sm e => bad z d H' hd sm e⟩
    | true =>
      obtain ⟨i, rfl, i0, i1⟩ := isV_is z
      refine iteF ?_
      refine ⟨(by show 1 ≤ sizeLine; decide), fun a1 h1 => ⟨_, rfl, (by show 1 ≤ sizeLine; decide), fun a2 h2 => ?_⟩⟩
      have s1 := same_new (o := .tup [V.int 0]) h1
      have s2 := same_new (o := .tup [V.int i]) h2
      intro q dx hq hdx ne
      obtain ⟨o1, o2⟩ := one_ok (i := 0) (j := i) (by decide) ⟨i0, i1⟩ (by omega)
      refine make_flip (ts := [0]) (hs := [i]) (.inr (SqT.of (s2 _ _ upd_same))) (.inr (SqT.of upd_same)) o1 o2 hq hdx ne fun H' ks js s3 p1 p2 w1 w2 fp => ?_
      rw [List.perm_singleton.mp p1, List.perm_singleton.mp p2] at fp
      exact good i rfl i0 i1 q H' ((s1.trans s2).free hq) ((s1.trans s2).trans s3) fp
/-- add_flip -/
def spAdd (K : PySem.W.Frag) (CF CN : Addr) : Sp := fun vs H Q E => ∃ v u : V, vs = [v, u] ∧ Typed K H v ∧ Typed K H u ∧ (∀ i j : Int, v = .int i → u = .int j → 0 ≤ i → i ≤ 39 → 1 ≤ j → j ≤ 39 → i ≠ j → ∀ q H', H q = none → Same H H' → Fp CF H' q [i] [j] → Q (.ref q) H') ∧
  (isV v 0 39 = false → NoC CN H v E) ∧ (isV v 0 39 = true → isV u 1 39 = false ∨ v = u → NoC CN H u E)
theorem scAdd : FnScope ["cell", "to"] ["cell", "to"] (defScope sAdd) := ⟨rfl, rfl, rfl, by decide +kernel, rfl, by decide +kernel, by decide +kernel⟩
theorem int_eq_iff {i j : Int} : (V.int j = V.int i) ↔ i = j := ⟨fun h => by injection h with h; exact h.symm, fun h => by rw [h]⟩
theorem ok_add {f CF CN : Addr} {fd : FuncData} (F : Fun K "add_flip" "add_flip" sAdd f fd) (TF : FC K mg CF) (TN : NC K mg CN) (DD : HasCD P w K mg base) (DC : Has P w K mg base "can_toggle" 4 ["thing"] (spCan K)) (DN : HasNo P w K mg base CN) (DI : HasFI P w K mg base CF) :
    FnOk P w K mg base (L2.CX P w) 8 f fd ["cell", "to"] (spAdd K CF CN) := by
  obtain ⟨fD, fdD, ds, GD, mD, kD, hds, bD⟩ := DD
  obtain ⟨fC, fdC, GC, mC, kC, bC⟩ := DC
  obtain ⟨fN, fdN, GN, iN, tN, bN⟩ := DN
  obtain ⟨fI, fdI, GI, MI, bI⟩ := DI
  refine F.okX scAdd (fun vs H Q E h => ?_) (fun cdv A outer s H vs Q E hr h => ?_)
  · obtain ⟨v, u, rfl, _⟩ := h
    rfl
  · obtain ⟨v, u, rfl, tv, tu, good, bad1, bad2⟩ := h
    have r3 : Room 3 _ := hr.mono (by decide)
    have r4 : Room 4 _ := hr.mono (by decide)
    refine ⟨_, pss_cons (ps_if (pt_not (pt_val (pe_call GD r3 (by rfl) mD kD bD hds pass0 (pa_cons (pv 0) pa_nil)))) (pss_one (ps_raise rfl (takes_of rfl rfl rfl rfl) (pmk_err TN.err iN tN GN r3 bN .nil pass0 (by rfl) TN.gC (pa_cons (pv 0) pa_nil)))) pss_nil)
      (pss_cons (ps_if (PW.pt (pw_or (pt_not (pt_val (pe_call GC r4 (by rfl) mC kC bC .nil pass0 (pa_cons (pv 1) pa_nil)))) (pw_or1 (pt_cmpR op_eq (pv 1) (pv 0) (nomark _))))) (pss_one (ps_raise rfl (takes_of rfl rfl rfl rfl) (pmk_err TN.err iN tN GN r3 bN .nil pass0 (by rfl) TN.gC (pa_cons (pv 1) pa_nil)))) pss_nil)
      (pss_one (ps_ret (pe_make (E := E0) MI GI hr (by rfl) TF.mgC bI .nil pass0 (pa_cons (pe_tup (pa_cons (pv 0) pa_nil)) (pa_cons (pe_tup (pa_cons (pv 1) pa_nil)) pa_nil)))))), ?_⟩
    refine ⟨_, rfl, v, 40, rfl, tv, _, rfl, ?_⟩
    show if (!isV v 0 39) = true then _ else _
    cases z : isV v 0 39 with
    | false =>
      refine iteT ?_
      exact ⟨_, rfl, (by show 1 ≤ 1000; decide), made_no fun d H' hd sm e => bad1 z d H' hd sm e⟩
    | true =>
      obtain ⟨i, rfl, i0, i1⟩ := isV_is z
      refine iteF ?_
      refine ⟨_, rfl, u, rfl, tu, _, rfl, ?_⟩
      cases y : isV u 1 39 with
      | false =>
        refine iteT (iteT ?_)
        exact ⟨_, rfl, (by show 1 ≤ 1000; decide), made_no fun d H' hd sm e => bad2 z (.inl y) d H' hd sm e⟩
      | true =>
        obtain ⟨j, rfl, j0, j1⟩ := isV_is y
        refine iteF ?_
        refine ⟨_, rfl, _, rfl, rfl, _, rfl, ?_⟩
        by_cases ij : i = j
        · rw [decide_eq_true (int_eq_iff.mpr ij)]
          refine iteT ?_
          exact ⟨_, rfl, (by show 1 ≤ 1000; decide), made_no fun d H' hd sm e => bad2 z (.inr (by rw [ij])) d H' hd sm e⟩
        · rw [decide_eq_false fun q => ij (int_eq_iff.mp q)]
          refine iteF ?_
          refine ⟨_, rfl, (by show 1 ≤ sizeLine; decide), fun a1 h1 => ⟨_, rfl, (by show 1 ≤ sizeLine; decide), fun a2 h2 => ?_⟩⟩
          have s1 := same_new (o := .tup [V.int i]) h1
          have s2 := same_new (o := .tup [V.int j]) h2
          intro q dx hq hdx ne
          obtain ⟨o1, o2⟩ := one_ok (i := i) (j := j) ⟨i0, i1⟩ ⟨j0, j1⟩ ij
          refine make_flip (ts := [i]) (hs := [j]) (.inr (SqT.of (s2 _ _ upd_same))) (.inr (SqT.of upd_same)) o1 o2 hq hdx ne fun H' ks js s3 p1 p2 w1 w2 fp => ?_
          rw [List.perm_singleton.mp p1, List.perm_singleton.mp p2] at fp
          exact good i j rfl rfl i0 i1 j0 j1 ij q H' ((s1.trans s2).free hq) ((s1.trans s2).trans s3) fp
/-- swap_flip -/
def spSwap (K : PySem.W.Frag) (CF CN : Addr) : Sp := fun vs H Q E => ∃ v u : V, vs = [v, u] ∧ Typed K H v ∧ Typed K H u ∧ (∀ i j : Int, v = .int i → u = .int j → 1 ≤ i → i ≤ 39 → 1 ≤ j → j ≤ 39 → i ≠ j → ∀ q ks H', H q = none → Same H H' → ks.Perm [i, j] → ks.Pairwise (· ≤ ·) → Fp CF H' q ks ks → Q (.ref q) H') ∧
  (isV v 1 39 = false → NoC CN H v E) ∧ (isV v 1 39 = true → isV u 1 39 = false ∨ v = u → NoC CN H u E)
theorem scSwap : FnScope ["one", "other"] ["one", "other"] (defScope sSwap) := ⟨rfl, rfl, rfl, by decide +kernel, rfl, by decide +kernel, by decide +kernel⟩
theorem two_ok {i j : Int} (h1 : 1 ≤ i ∧ i ≤ 39) (h2 : 1 ≤ j ∧ j ≤ 39) (ne : i ≠ j) : OkF [i, j] [i, j] ∧ (comm [i, j] [i, j]).length % 2 = 0 := by
  have mem : ∀ k ∈ [i, j], 1 ≤ k ∧ k < 40 := fun k hk => by
    simp only [List.mem_cons, List.not_mem_nil, or_false] at hk
    rcases hk with rfl | rfl <;> omega
  have nd : [i, j].Nodup := List.Pairwise.cons (fun b hb => by rw [List.mem_singleton.mp hb]; exact ne) nd1
  refine ⟨⟨fun k hk => ⟨by have := mem k hk; omega, (mem k hk).2⟩, mem, nd, nd, (by show 2 ≤ 40; decide), (by show 2 ≤ 40; decide)⟩, ?_⟩
  simp [comm]
theorem ok_swap {f CF CN : Addr} {fd : FuncData} (F : Fun K "swap_flip" "swap_flip" sSwap f fd) (TF : FC K mg CF) (TN : NC K mg CN) (DC : Has P w K mg base "can_toggle" 4 ["thing"] (spCan K)) (DN : HasNo P w K mg base CN) (DI : HasFI P w K mg base CF) :
    FnOk P w K mg base (L2.CX P w) 8 f fd ["one", "other"] (spSwap K CF CN) := by
  obtain ⟨fC, fdC, GC, mC, kC, bC⟩ := DC
  obtain ⟨fN, fdN, GN, iN, tN, bN⟩ := DN
  obtain ⟨fI, fdI, GI, MI, bI⟩ := DI
  refine F.okX scSwap (fun vs H Q E h => ?_) (fun cdv A outer s H vs Q E hr h => ?_)
  · obtain ⟨v, u, rfl, _⟩ := h
    rfl
  · obtain ⟨v, u, rfl, tv, tu, good, bad1, bad2⟩ := h
    have r3 : Room 3 _ := hr.mono (by decide)
    have r4 : Room 4 _ := hr.mono (by decide)
    refine ⟨_, pss_cons (ps_if (pt_not (pt_val (pe_call GC r4 (by rfl) mC kC bC .nil pass0 (pa_cons (pv 0) pa_nil)))) (pss_one (ps_raise rfl (takes_of rfl rfl rfl rfl) (pmk_err TN.err iN tN GN r3 bN .nil pass0 (by rfl) TN.gC (pa_cons (pv 0) pa_nil)))) pss_nil)
      (pss_cons (ps_if (PW.pt (pw_or (pt_not (pt_val (pe_call GC r4 (by rfl) mC kC bC .nil pass0 (pa_cons (pv 1) pa_nil)))) (pw_or1 (pt_cmpR op_eq (pv 0) (pv 1) (nomark _))))) (pss_one (ps_raise rfl (takes_of rfl rfl rfl rfl) (pmk_err TN.err iN tN GN r3 bN .nil pass0 (by rfl) TN.gC (pa_cons (pv 1) pa_nil)))) pss_nil)
      (pss_one (ps_ret (pe_make (E := E0) MI GI hr (by rfl) TF.mgC bI .nil pass0 (pa_cons (pe_tup (pa_cons (pv 0) (pa_cons (pv 1) pa_nil))) (pa_cons (pe_tup (pa_cons (pv 0) (pa_cons (pv 1) pa_nil))) pa_nil)))))), ?_⟩
    refine ⟨_, rfl, v, rfl, tv, _, rfl, ?_⟩
    cases z : isV v 1 39 with
    | false =>
      refine iteT ?_
      exact ⟨_, rfl, (by show 1 ≤ 1000; decide), made_no fun d H' hd sm e => bad1 z d H' hd sm e⟩
    | true =>
      obtain ⟨i, rfl, i0, i1⟩ := isV_is z
      refine iteF ?_
      refine ⟨_, rfl, u, rfl, tu, _, rfl, ?_⟩
      cases y : isV u 1 39 with
      | false =>
        refine iteT (iteT ?_)
        exact ⟨_, rfl, (by show 1 ≤ 1000; decide), made_no fun d H' hd sm e => bad2 z (.inl y) d H' hd sm e⟩
      | true =>
        obtain ⟨j, rfl, j0, j1⟩ := isV_is y
        refine iteF ?_
        refine ⟨_, rfl, _, rfl, rfl, _, rfl, ?_⟩
        by_cases ij : i = j
        · rw [decide_eq_true (int_eq_iff.mpr ij.symm)]
          refine iteT ?_
          exact ⟨_, rfl, (by show 1 ≤ 1000; decide), made_no fun d H' hd sm e => bad2 z (.inr (by rw [ij])) d H' hd sm e⟩
        · rw [decide_eq_false fun q => ij (int_eq_iff.mp q).symm]
          refine iteF ?_
          refine ⟨_, rfl, _, rfl, (by show 2 ≤ sizeLine; decide), fun a1 h1 => ⟨_, rfl, _, rfl, (by show 2 ≤ sizeLine; decide), fun a2 h2 => ?_⟩⟩
          have s1 := same_new (o := .tup [V.int i, V.int j]) h1
          have s2 := same_new (o := .tup [V.int i, V.int j]) h2
          intro q dx hq hdx ne
          obtain ⟨o1, o2⟩ := two_ok (i := i) (j := j) ⟨i0, i1⟩ ⟨j0, j1⟩ ij
          refine make_flip (ts := [i, j]) (hs := [i, j]) (.inr (SqT.of (s2 _ _ upd_same))) (.inr (SqT.of upd_same)) o1 o2 hq hdx ne fun H' ks js s3 p1 p2 w1 w2 fp => ?_
          rw [le_same (p2.trans p1.symm) w2 w1] at fp
          exact good i j rfl rfl i0 i1 j0 j1 ij q ks H' ((s1.trans s2).free hq) ((s1.trans s2).trans s3) p1 w1 fp
end
end K17
namespace K17
open PySem PySem.Spec PyProof.Rows L2 Par
section
variable {P : Program} {w : World} {K : PySem.W.Frag} {mg : Str → Option Value} {base : Heap}
/-- the board has these bits -/
def spIsSo (C : Addr) : Sp := fun vs H Q _ => ∃ (b a : Addr) (bs : List Int), vs = [.ref b, .ref a] ∧ Bd C H b bs ∧ bs.length ≤ 40 ∧ H a = some (.lst (bs.map V.int)) ∧ ∀ H', Same H H' → Q (.bl true) H'
theorem scIsSo : FnScope ["_law_found", "_law_bits_here"] ["_law_found", "_law_bits_here"] (defScope sIsSo) := ⟨rfl, rfl, rfl, by decide +kernel, rfl, by decide +kernel, by decide +kernel⟩
theorem ok_isSo {f C : Addr} {fd : FuncData} (F : Fun K "_law_is_so" "_law_is_so" sIsSo f fd) (B : Bl mg) (T : BC K mg C) (TI : IsC K C) (DS : HasM P w K mg base C "size" 2 ["self"] (spSize C)) (DU : HasM P w K mg base C "up" 2 ["self"] (spUps C))
    (DV : Has P w K mg base "_law_up" 2 ["_law_bits_here"] (spUpL K)) : FnOk P w K mg base CX0 3 f fd ["_law_found", "_law_bits_here"] (spIsSo C) := by
  obtain ⟨fS, fdS, GS, mS, bS⟩ := DS
  obtain ⟨fU, fdU, GU, mU, bU⟩ := DU
  obtain ⟨fV, fdV, GV, mV, kV, bV⟩ := DV
  refine F.ok scIsSo (fun vs H Q E h => ?_) (fun cdv A outer s H vs Q E hr h => ?_)
  · obtain ⟨b, a, bs, rfl, _⟩ := h
    rfl
  · obtain ⟨b, a, bs, rfl, hB, h40, ha, out⟩ := h
    obtain ⟨dx, t, h1, h2⟩ := id hB
    have hu := hr.units
    refine ⟨_, pss_one (ps_ret (pe_and (pe_callB call_isi (by rfl) B.isinstance (by decide +kernel) (pa_cons (pv 0) (pa_cons (pe_glob (v := .ref C) (by rfl) T.mgC rfl) pa_nil)))
      (pe_and (pe_cmpR (op_eqD hu) (pe_callB cr_sortedTup (by rfl) B.sorted (by decide +kernel) (pa_cons (pe_meth0 (pv 0) T.cl mU GU hr bU .nil pass0) pa_nil)) (pe_call GV hr (by rfl) mV kV bV .nil pass0 (pa_cons (pv 1) pa_nil)) (nomark _))
      (pe_one (pe_cmpR op_eq (pe_meth0 (pv 0) T.cl mS GS hr bS .nil pass0) (pe_callB call_len_seq (by rfl) B.len PySem.boot_len (pa_cons (pv 1) pa_nil)) (nomark _)))))), ?_⟩
    refine ⟨_, rfl, _, _, _, _, true, rfl, .own C, .base (.ins h1 T.cl TI.ha TI.hn TI.ht TI.hm), kit_self, _, rfl, iteT ?_⟩
    refine ⟨_, rfl, b, dx, _, rfl, h1, no_fld (by decide +kernel), b, bs, rfl, hB, h40, fun p H1 hp s1 hp1 => ?_⟩
    refine ⟨p, upF 0 bs, rfl, SqT.of hp1, fun ms q pm pw hq => ?_⟩
    have em := sort_same pm pw (upF_up 0 bs)
    subst em
    have s2 := same_new (o := .lst ((upF 0 bs).map V.int)) hq
    have s12 := s1.trans s2
    refine ⟨_, rfl, a, bs, rfl, s12 _ _ ha, h40, fun r H3 hr3 s3 hr3' => ?_⟩
    refine ⟨.list ((upF 0 bs).map PyData.int), .list ((upF 0 bs).map PyData.int), .lst (SqL.of (s3 _ _ upd_same)) (dps_ints _), .lst (SqL.of hr3') (dps_ints _), shaped_ints _, shaped_ints _, ?_⟩
    rw [SeqAt.eqv_refl _ (lay_ints _)]
    have s13 := s12.trans s3
    refine ⟨_, rfl, iteT ?_⟩
    refine ⟨_, rfl, b, dx, _, rfl, s13 _ _ h1, no_fld (by decide +kernel), b, bs, rfl, hB.same s13, _, rfl, a, _, rfl, .inl (SqL.of (s13 _ _ ha)), rfl, ?_⟩
    rw [List.length_map, decide_eq_true rfl]
    exact out H3 s13
end
end K17
namespace K17
open PySem PySem.Spec PyProof.Rows L2 Par
theorem giv_but {K : PySem.W.Frag} {H H' : Hp} {p : Addr} {v : V} {d : PyData} (b : But p H H') (h : Giv K (dl H p) v d) : Giv K (dl H' p) v d := giv_same (del_same' b) h
section
variable {P : Program} {w : World} {K : PySem.W.Frag} {mg : Str → Option Value} {base : Heap}
theorem scOne : FnScope ["_law_pot_here"] ["_law_pot_here"] (defScope slOne) := ⟨rfl, rfl, rfl, by decide +kernel, rfl, by decide +kernel, by decide +kernel⟩
theorem ok_one {f : Addr} {fd : FuncData} (F : Fun K "_law_one" "_law_one" slOne f fd) (D : Has P w K mg base "_law_draw" 2 ["_law_pot_here", "_law_many"] spDraw) (DA : Has P w K mg base "_law_any_thing" 3 ["_law_pot_here"] (spAny K)) :
    FnOk P w K mg base CX0 4 f fd ["_law_pot_here"] (spAny K) := by
  obtain ⟨fD, fdD, GD, mD, kD, bD⟩ := D
  obtain ⟨fA, fdA, GA, mA, kA, bA⟩ := DA
  refine F.ok scOne (fun vs H Q E h => ?_) (fun cdv A outer s H vs Q E hr h => ?_)
  · obtain ⟨p, rfl, _⟩ := h
    rfl
  · obtain ⟨p, rfl, hp, out⟩ := h
    have r2 : Room 2 _ := hr.mono (by decide)
    refine ⟨_, pss_one (ps_ret (pe_ix ix_list (pe_lst (pa_cons (pe_call GA hr (by rfl) mA kA bA .nil pass0 (pa_cons (pv 0) pa_nil)) (pa_cons (pe_op op_sub (pe_call GD r2 (by rfl) mD kD bD .nil pass0 (pa_cons (pv 0) (pa_cons pe_int pa_nil))) pe_int) (pa_cons (pe_call GD r2 (by rfl) mD kD bD .nil pass0 (pa_cons (pv 0) (pa_cons pe_int pa_nil))) pa_nil))))
      (pe_call GD r2 (by rfl) mD kD bD .nil pass0 (pa_cons (pv 0) (pa_cons pe_int pa_nil))) (fun _ _ => rfl))), ?_⟩
    refine ⟨_, rfl, p, rfl, hp, fun v d H1 b1 pot1 gv gd => ?_⟩
    refine ⟨_, rfl, p, 42, rfl, pot1, by decide, by decide, fun d1 H2 x0 x1 b2 pot2 => ⟨_, _, rfl, rfl, ?_⟩⟩
    refine ⟨_, rfl, p, 4, rfl, pot2, by decide, by decide, fun d2 H3 y0 y1 b3 pot3 => ?_⟩
    refine ⟨(by show 3 ≤ sizeLine; decide), fun L hL => ?_⟩
    have s4 := same_new (o := .lst [v, .int (d1 - 1), .int d2]) hL
    have nL := pot_ne pot3 hL
    refine ⟨_, rfl, p, 3, rfl, pot3.same s4, by decide, by decide, fun c H5 c0 c1 b5 pot5 => ?_⟩
    have b35 := (But.same s4 (p := p)).trans b5
    have b05 := ((b1.trans b2).trans b3).trans b35
    have eL := b5 _ _ nL upd_same
    rcases (show c = 0 ∨ c = 1 ∨ c = 2 by omega) with rfl | rfl | rfl
    · exact ⟨L, _, 0, v, rfl, rfl, SqL.of eL, rfl, out v d H5 b05 pot5 (giv_but ((b2.trans b3).trans b35) gv) gd⟩
    · exact ⟨L, _, 1, .int (d1 - 1), rfl, rfl, SqL.of eL, rfl, out _ (.int (d1 - 1)) H5 b05 pot5 (.fl (.int _)) (small_good (small_int (by omega)))⟩
    · exact ⟨L, _, 2, .int d2, rfl, rfl, SqL.of eL, rfl, out _ (.int d2) H5 b05 pot5 (.fl (.int _)) (small_good (small_int (by omega)))⟩
/-- _law_due: what must be told -/
def spDue (K : PySem.W.Frag) : Sp := fun vs H Q _ => ∃ (v u : V) (l : Int) (sw : Bool), vs = [v, u, .int l, .bl sw] ∧ Typed K H v ∧ Typed K H u ∧ 0 ≤ l ∧
  (isV v l 39 = false → ∀ L H', H L = none → Same H H' → H' L = some (.lst [.str "cell", v, .bl true]) → Q (.ref L) H') ∧
  (isV v l 39 = true → isV u 1 39 = false ∨ v = u → ∀ L H', H L = none → Same H H' → H' L = some (.lst [.str "cell", u, .bl true]) → Q (.ref L) H') ∧
  (∀ i j : Int, v = .int i → u = .int j → l ≤ i → i ≤ 39 → 1 ≤ j → j ≤ 39 → i ≠ j → ∀ L a b ts hs H', H L = none → Same H H' → H' L = some (.lst [.str "flip", .ref a, .ref b]) → H' a = some (.tup (ts.map V.int)) → H' b = some (.tup (hs.map V.int)) →
    (sw = true → ts.Perm [i, j] ∧ ts.Pairwise (· ≤ ·) ∧ hs = ts) → (sw = false → ts = [i] ∧ hs = [j]) → Q (.ref L) H')
abbrev nDue : List Str := ["_law_near", "_law_far", "_law_least", "_law_is_swap", "_law_both"]
theorem scDue : FnScope nDue ["_law_near", "_law_far", "_law_least", "_law_is_swap"] (defScope slDue) := ⟨rfl, rfl, rfl, by decide +kernel, rfl, by decide +kernel, by decide +kernel⟩
theorem ok_due {f : Addr} {fd : FuncData} (F : Fun K "_law_due" "_law_due" slDue f fd) (B : Bl mg) (D : Has P w K mg base "_law_is_int" 2 ["_law_item", "_law_low", "_law_high"] (spBetA K)) :
    FnOk P w K mg base CX0 3 f fd ["_law_near", "_law_far", "_law_least", "_law_is_swap"] (spDue K) := by
  obtain ⟨fD, fdD, GD, mD, kD, bD⟩ := D
  refine F.ok scDue (fun vs H Q E h => ?_) (fun cdv A outer s H vs Q E hr h => ?_)
  · obtain ⟨v, u, l, sw, rfl, _⟩ := h
    rfl
  · obtain ⟨v, u, l, sw, rfl, tv, tu, l0, no1, no2', yes⟩ := h
    refine ⟨_, pss_cons (ps_if (pt_not (pt_val (pe_call GD hr (by rfl) mD kD bD .nil pass0 (pa_cons (pv 0) (pa_cons (pv 2) (pa_cons pe_int pa_nil)))))) (pss_one (ps_ret (pe_lst (pa_cons pe_str (pa_cons (pv 0) (pa_cons pe_bl pa_nil)))))) pss_nil)
      (pss_cons (ps_if (PW.pt (pw_or (pt_not (pt_val (pe_call GD hr (by rfl) mD kD bD .nil pass0 (pa_cons (pv 1) (pa_cons pe_int (pa_cons pe_int pa_nil)))))) (pw_or1 (pt_cmpR op_eq (pv 0) (pv 1) (nomark _))))) (pss_one (ps_ret (pe_lst (pa_cons pe_str (pa_cons (pv 1) (pa_cons pe_bl pa_nil)))))) pss_nil)
      (pss_cons (ps_set (i := 4) scDue.nd rfl (Or.inl rfl) (pe_callTy call_tuple_of (by rfl) B.tuple (by decide +kernel) (pa_cons (pe_callB cr_sortedI (by rfl) B.sorted (by decide +kernel) (pa_cons (pe_lst (pa_cons (pv 0) (pa_cons (pv 1) pa_nil))) pa_nil)) pa_nil)))
      (pss_one (ps_ret (pe_ifExp (pt_val (pv 3)) (pe_lst (pa_cons pe_str (pa_cons (pv 4) (pa_cons (pv 4) pa_nil)))) (pe_lst (pa_cons pe_str (pa_cons (pe_tup (pa_cons (pv 0) pa_nil)) (pa_cons (pe_tup (pa_cons (pv 1) pa_nil)) pa_nil))))))))), ?_⟩
    refine ⟨_, rfl, _, rfl, v, l, 39, rfl, tv, _, rfl, ?_⟩
    cases z : isV v l 39 with
    | false =>
      refine iteT ?_
      exact ⟨_, rfl, (by show 3 ≤ sizeLine; decide), fun L hL => no1 z L _ hL (same_new hL) upd_same⟩
    | true =>
      obtain ⟨i, rfl, i0, i1⟩ := isV_is z
      refine iteF ?_
      refine ⟨_, rfl, u, 1, 39, rfl, tu, _, rfl, ?_⟩
      cases y : isV u 1 39 with
      | false =>
        refine iteT (iteT ?_)
        exact ⟨_, rfl, (by show 3 ≤ sizeLine; decide), fun L hL => no2' z (.inl y) L _ hL (same_new hL) upd_same⟩
      | true =>
        obtain ⟨j, rfl, j0, j1⟩ := isV_is y
        refine iteF ?_
        refine ⟨_, rfl, _, rfl, rfl, _, rfl, ?_⟩
        by_cases ij : i = j
        · rw [decide_eq_true (int_eq_iff.mpr ij.symm)]
          refine iteT ?_
          exact ⟨_, rfl, (by show 3 ≤ sizeLine; decide), fun L hL => no2' z (.inr (by rw [ij])) L _ hL (same_new hL) upd_same⟩
        · rw [decide_eq_false fun q => ij (int_eq_iff.mp q).symm]
          refine iteF ?_
          refine ⟨_, rfl, _, rfl, (by show 2 ≤ sizeLine; decide), fun L0 hL0 => ?_⟩
          have s1 := same_new (o := .lst [V.int i, V.int j]) hL0
          refine ⟨L0, [i, j], rfl, SqL.of upd_same, fun ks L1 pm pw hL1 => ?_⟩
          have s2 := same_new (o := .lst (ks.map V.int)) hL1
          refine ⟨L1, _, rfl, .inl ⟨SqL.of upd_same, fun tp htp => ?_⟩⟩
          have s3 := same_new (o := .tup (ks.map V.int)) htp
          have s03 := (s1.trans s2).trans s3
          refine ⟨_, rfl, _, rfl, ?_⟩
          cases sw with
          | true =>
            refine iteT ?_
            refine ⟨_, rfl, _, rfl, (by show 3 ≤ sizeLine; decide), fun L hL => ?_⟩
            have s4 := same_new (o := .lst [.str "flip", .ref tp, .ref tp]) hL
            exact yes i j rfl rfl i0 i1 j0 j1 ij L tp tp ks ks _ (s03.free hL) (s03.trans s4) upd_same (s4 _ _ upd_same) (s4 _ _ upd_same) (fun _ => ⟨pm, pw, rfl⟩) fun q => nomatch q
          | false =>
            refine iteF ?_
            refine ⟨_, rfl, (by show 1 ≤ sizeLine; decide), fun a1 h1 => ⟨_, rfl, (by show 1 ≤ sizeLine; decide), fun a2 h2 => ⟨(by show 3 ≤ sizeLine; decide), fun L hL => ?_⟩⟩⟩
            have s4 := same_new (o := .tup [V.int i]) h1
            have s5 := same_new (o := .tup [V.int j]) h2
            have s6 := same_new (o := .lst [.str "flip", .ref a1, .ref a2]) hL
            exact yes i j rfl rfl i0 i1 j0 j1 ij L a1 a2 [i] [j] _ (s03.free (s4.free (s5.free hL))) (((s03.trans s4).trans s5).trans s6) upd_same (s6 _ _ (s5 _ _ upd_same)) (s6 _ _ upd_same) (fun q => nomatch q) fun _ => ⟨rfl, rfl⟩
end
end K17
namespace K17
open PySem PySem.Spec PyProof.Rows L2 Par
theorem filter_one {l : List Int} {g : Int} (hn : l.Nodup) (hg : g ∈ l) : (l.filter fun k => decide (¬ k = g)).length + 1 = l.length := by
  induction l with
  | nil => cases hg
  | cons a l ih =>
    obtain ⟨h1, h2⟩ := List.nodup_cons.mp hn
    by_cases e : a = g
    · subst e
      have same : (l.filter fun k => decide (¬ k = a)) = l := List.filter_eq_self.mpr fun k hk => decide_eq_true fun z => h1 (z ▸ hk)
      rw [List.filter_cons_of_neg (by simp), same, List.length_cons]
    · have hg2 : g ∈ l := by
        rcases List.mem_cons.mp hg with z | z
        · exact absurd z.symm e
        · exact z
      rw [List.filter_cons_of_pos (by simp [e]), List.length_cons, List.length_cons, ih h2 hg2]
/-- 1, 2, .. -/
def rg (i : Nat) : List Int := (List.range i).map fun (j : Nat) => (1 : Int) + (j : Int)
theorem rg_step (i : Nat) : rg (i + 1) = rg i ++ [1 + (i : Int)] := by
  unfold rg
  rw [List.range_succ, List.map_append]
  rfl
theorem rg_len (i : Nat) : (rg i).length = i := by simp [rg]
theorem rg_nodup (i : Nat) : (rg i).Nodup := by
  unfold rg
  refine List.Pairwise.map _ (fun a b h => ?_) List.nodup_range
  show ¬ ((1 : Int) + (a : Int) = 1 + (b : Int))
  have h : ¬ a = b := h
  omega
theorem mem_rg {i : Nat} {k : Int} : k ∈ rg i ↔ 1 ≤ k ∧ k ≤ i := by
  unfold rg
  simp only [List.mem_map, List.mem_range]
  constructor
  · rintro ⟨j, h, rfl⟩
    omega
  · rintro ⟨h1, h2⟩
    exact ⟨(k - 1).toNat, by omega, by omega⟩
theorem ext_getD {l m : List Int} (hl : l.length = m.length) (h : ∀ i, i < m.length → l.getD i 0 = m.getD i 0) : l = m := by
  refine List.ext_getElem hl fun i h1 h2 => ?_
  have e := h i h2
  rw [List.getD_eq_getElem?_getD, List.getD_eq_getElem?_getD, List.getElem?_eq_getElem h1, List.getElem?_eq_getElem h2] at e
  exact e
theorem set_getD {l : List Int} {n i : Nat} {x : Int} (hn : n < l.length) : (l.set n x).getD i 0 = if i = n then x else l.getD i 0 := by
  rw [List.getD_eq_getElem?_getD, List.getElem?_set]
  by_cases z : n = i
  · subst z
    rw [if_pos rfl, if_pos hn, if_pos rfl]
    rfl
  · rw [if_neg z, if_neg (Ne.symm z), List.getD_eq_getElem?_getD]
theorem bit01 {bs : List Int} (h : OkB bs) {i : Nat} (hi : i < bs.length) : bs.getD i 0 = 0 ∨ bs.getD i 0 = 1 := by
  rw [List.getD_eq_getElem?_getD, List.getElem?_eq_getElem hi]
  exact h.1 _ (List.getElem_mem hi)
theorem par_one {bs : List Int} {i : Nat} : parB bs [(i : Int)] = bs.getD i 0 % 2 := by
  unfold parB
  rw [List.map_cons, List.map_nil, List.sum_cons, List.sum_nil, Int.toNat_natCast, Int.add_zero]
theorem par_two {bs : List Int} {i j : Nat} : parB bs [(i : Int), (j : Int)] = (bs.getD i 0 + bs.getD j 0) % 2 := by
  unfold parB
  rw [List.map_cons, List.map_cons, List.map_nil, List.sum_cons, List.sum_cons, List.sum_nil, Int.toNat_natCast, Int.toNat_natCast, Int.add_zero]
theorem aft_turn {bs : List Int} {n : Nat} (h : OkB bs) (hn : n < bs.length) : aftB bs [0] [(n : Int)] = bs.set n (1 - bs.getD n 0) := by
  refine ext_getD (by rw [aft_len, List.length_set]) fun i hi => ?_
  rw [List.length_set] at hi
  have b0 : bs.getD 0 0 = 1 := by
    rw [List.getD_eq_getElem?_getD, h.2.1]
    rfl
  have p : parB bs [0] = 1 := by
    have := par_one (bs := bs) (i := 0)
    rw [b0] at this
    exact this
  rw [aft_at hi, set_getD hn]
  by_cases z : i = n
  · subst z
    rw [if_pos ⟨p, List.mem_singleton.mpr rfl⟩, if_pos rfl]
  · rw [if_neg fun q => z (by have := List.mem_singleton.mp q.2; omega), if_neg z]
theorem aft_add {bs : List Int} {n f : Nat} (h : OkB bs) (hn : n < bs.length) (hf : f < bs.length) : aftB bs [(n : Int)] [(f : Int)] = bs.set f ((bs.getD n 0 + bs.getD f 0) % 2) := by
  refine ext_getD (by rw [aft_len, List.length_set]) fun i hi => ?_
  rw [List.length_set] at hi
  have b1 := bit01 h hn
  have b2 := bit01 h hf
  rw [aft_at hi, set_getD hf, par_one]
  by_cases z : i = f
  · subst z
    rw [if_pos rfl]
    split <;> rename_i q
    · omega
    · have : ¬ bs.getD n 0 % 2 = 1 := fun c => q ⟨c, List.mem_singleton.mpr rfl⟩
      omega
  · rw [if_neg fun q => z (by have := List.mem_singleton.mp q.2; omega), if_neg z]
theorem aft_swap {bs : List Int} {n f : Nat} (h : OkB bs) (hn : n < bs.length) (hf : f < bs.length) (nf : n ≠ f) : aftB bs [(n : Int), (f : Int)] [(n : Int), (f : Int)] = (bs.set n (bs.getD f 0)).set f (bs.getD n 0) := by
  refine ext_getD (by rw [aft_len, List.length_set, List.length_set]) fun i hi => ?_
  rw [List.length_set, List.length_set] at hi
  have b1 := bit01 h hn
  have b2 := bit01 h hf
  rw [aft_at hi, set_getD (by rw [List.length_set]; exact hf), set_getD hn, par_two]
  by_cases z : i = f
  · subst z
    rw [if_pos rfl]
    split <;> rename_i q
    · omega
    · have : ¬ (bs.getD n 0 + bs.getD i 0) % 2 = 1 := fun c => q ⟨c, by simp⟩
      omega
  · rw [if_neg z]
    by_cases y : i = n
    · subst y
      rw [if_pos rfl]
      split <;> rename_i q
      · omega
      · have : ¬ (bs.getD i 0 + bs.getD f 0) % 2 = 1 := fun c => q ⟨c, by simp⟩
        omega
    · rw [if_neg y, if_neg fun q => ?_]
      have := q.2
      simp only [List.mem_cons, List.not_mem_nil, or_false] at this
      omega
theorem map_setI (bs : List Int) (n : Nat) (x : Int) : (bs.map V.int).set n (V.int x) = (bs.set n x).map V.int := by rw [List.map_set]
theorem at_bits {bs : List Int} {n : Nat} (hn : n < bs.length) : atI (bs.map V.int) (n : Int) = some (V.int (bs.getD n 0)) := by
  refine atI_nat ?_
  rw [List.getElem?_map, List.getElem?_eq_getElem hn, List.getD_eq_getElem?_getD, List.getElem?_eq_getElem hn]
  rfl
theorem set_bits {H : Hp} {L : Addr} {bs : List Int} {n : Nat} {x : Int} {Q : Hp → Prop} (hL : H L = some (.lst (bs.map V.int))) (hn : n < bs.length) (h : ∀ H', (∀ b, b ≠ L → H' b = H b) → H' L = some (.lst ((bs.set n x).map V.int)) → Q H') :
    rSetL (.ref L) (.int (n : Int)) (.int x) H Q := by
  refine ⟨L, _, _, n, rfl, rfl, hL, by unfold ixN; rw [List.length_map, if_pos (by omega), if_pos (by omega), Int.toNat_natCast], ?_⟩
  rw [map_setI]
  exact h _ (fun b hb => upd_ne hb) upd_same
/-- the flips of the effects fit -/
theorem fits_in {ts hs : List Int} {M : Int} {n : Nat} (f : Fits ts hs M) (h1 : ∀ k ∈ ts, k < n) (h2 : ∀ k ∈ hs, k < n) (h3 : 1 ≤ n) : ¬ (n : Int) < M := fun z => by
  have := fits_le f h1 h2 h3
  omega
section
variable {P : Program} {w : World} {K : PySem.W.Frag} {mg : Str → Option Value} {base : Heap}
/-- a maker of a flip, called by place or by name -/
def HasE (P : Program) (w : World) (K : PySem.W.Frag) (mg : Str → Option Value) (base : Heap) (x : Str) (ps : List Str) (sp : Sp) : Prop :=
  ∃ f fd, FnOk P w K mg base (L2.CX P w) 8 f fd ps sp ∧ mg x = some (.ref f) ∧ PySem.W.keepIn K (.ref f) = true ∧ Binds K fd ps []
def spEff : Sp := fun vs H Q _ => ∃ p : Addr, vs = [.ref p] ∧ PotAt H p ∧ ∀ H', But p H H' → PotAt H' p → Q (.bl true) H'
abbrev nEff : List Str := ["_law_pot_here", "_law_width", "_law_bits_here", "_law_near", "_law_far", "_law_turned", "_law_added", "_law_swapped", "_law_board", "_law_spot"]
theorem scEff : FnScope nEff ["_law_pot_here"] (defScope slEffectsRight) := ⟨rfl, rfl, rfl, by decide +kernel, rfl, by decide +kernel, by decide +kernel⟩
theorem ok_eff {f C CF CN CW : Addr} {fd : FuncData} (F : Fun K "_law_effects_right" "_law_effects_right" slEffectsRight f fd) (B : Bl mg) (DD : Has P w K mg base "_law_draw" 2 ["_law_pot_here", "_law_many"] spDraw) (DB : Has P w K mg base "_law_bits" 3 ["_law_pot_here", "_law_width"] spBits)
    (DM : Has P w K mg base "_law_made" 8 ["_law_bits_here"] (spMade C)) (DS : Has P w K mg base "_law_is_so" 3 ["_law_found", "_law_bits_here"] (spIsSo C))
    (DA : ∃ f fd, FnOk P w K mg base (L2.CX P w) 9 f fd ["board", "flip"] (spApply C CF CW) ∧ mg "apply_flip" = some (.ref f) ∧ PySem.W.keepIn K (.ref f) = true ∧ Binds K fd ["board", "flip"] [])
    (DT : HasE P w K mg base "turn_flip" ["cell"] (spTurn K CF CN))
    (DE : ∃ f fd, FnOk P w K mg base (L2.CX P w) 8 f fd ["cell", "to"] (spAdd K CF CN) ∧ mg "add_flip" = some (.ref f) ∧ PySem.W.keepIn K (.ref f) = true ∧ KBn K fd ["cell", "to"] 0 ["to", "cell"] (fun us ws => us ++ ws.reverse) (fun vs zs => vs ++ zs.reverse))
    (DW : ∃ f fd, FnOk P w K mg base (L2.CX P w) 8 f fd ["one", "other"] (spSwap K CF CN) ∧ mg "swap_flip" = some (.ref f) ∧ PySem.W.keepIn K (.ref f) = true ∧ KBn K fd ["one", "other"] 0 ["other", "one"] (fun us ws => us ++ ws.reverse) (fun vs zs => vs ++ zs.reverse)) :
    FnOk P w K mg base CX0 10 f fd ["_law_pot_here"] spEff := by
  obtain ⟨fD, fdD, GD, mD, kD, bD⟩ := DD
  obtain ⟨fB, fdB, GB, mB, kB, bB⟩ := DB
  obtain ⟨fM, fdM, GM, mM, kM, bM⟩ := DM
  obtain ⟨fS, fdS, GS, mS, kS, bS⟩ := DS
  obtain ⟨fA, fdA, GA, mA, kA, bA⟩ := DA
  obtain ⟨fT, fdT, GT, mT, kT, bT⟩ := DT
  obtain ⟨fE, fdE, GE, mE, kE, kbE⟩ := DE
  obtain ⟨fW, fdW, GW, mW, kW, kbW⟩ := DW
  refine F.ok scEff (fun vs H Q E h => ?_) (fun cdv A outer s H vs Q E hr h => ?_)
  · obtain ⟨p, rfl, _⟩ := h
    rfl
  · obtain ⟨p, rfl, hp, out⟩ := h
    have r2 : Room 2 _ := hr.mono (by decide)
    have r3 : Room 3 _ := hr.mono (by decide)
    have r8 : Room 8 _ := hr.mono (by decide)
    refine ⟨_, pss_cons (ps_set (i := 1) scEff.nd rfl (Or.inl rfl) (pe_op op_add pe_int (pe_call GD r2 (by rfl) mD kD bD .nil pass0 (pa_cons (pv 0) (pa_cons pe_int pa_nil)))))
      (pss_cons (ps_set (i := 2) scEff.nd rfl (Or.inl rfl) (pe_call GB r3 (by rfl) mB kB bB .nil pass0 (pa_cons (pv 0) (pa_cons (pv 1) pa_nil))))
      (pss_cons (ps_set (i := 3) scEff.nd rfl (Or.inr rfl) (pe_op op_add pe_int (pe_call GD r2 (by rfl) mD kD bD .nil pass0 (pa_cons (pv 0) (pa_cons (pe_op op_sub (pv 1) pe_int) pa_nil)))))
      (pss_cons (ps_set (i := 4) scEff.nd rfl (Or.inl rfl) (pe_ix ix_list (pe_lc (own := [("_law_spot", 9)]) (g := gName 9) rfl scEff.nd (pi_range2 (by rfl) B.range (pa_cons pe_int (pa_cons (pv 1) pa_nil))) (blkOk_by (own := [("_law_spot", 9)]) (N := nEff) (sc := defScope slEffectsRight) (by decide +kernel)) (fun _ _ _ _ _ => pg_name (i := 9) scEff.nd rfl (Or.inl rfl)) (fun _ _ _ _ _ => pts_one (pt_cmpR op_ne (pv 9) (pv 3) (nomark _))) (fun _ _ _ _ _ => pv 9)) (pe_call GD r2 (by rfl) mD kD bD .nil pass0 (pa_cons (pv 0) (pa_cons (pe_op op_sub (pv 1) pe_int) pa_nil))) (fun _ _ => rfl)))
      (pss_cons (ps_par3 (i := 5) (j := 6) (l := 7) rfl scEff.nd rfl rfl rfl (by decide) (by decide) (by decide) rfl rfl rfl (pa_cons (pe_callTy call_list_of (by rfl) B.list (by decide +kernel) (pa_cons (pv 2) pa_nil)) (pa_cons (pe_callTy call_list_of (by rfl) B.list (by decide +kernel) (pa_cons (pv 2) pa_nil)) (pa_cons (pe_callTy call_list_of (by rfl) B.list (by decide +kernel) (pa_cons (pv 2) pa_nil)) pa_nil))) rfl)
      (pss_cons (ps_asg (pe_op op_sub pe_int (pe_ix ix_list (pv 2) (pv 3) (fun _ _ => rfl))) (pg_sub (pv 5) (pv 3) set_list))
      (pss_cons (ps_asg (pe_op op_mod (pe_op op_add (pe_ix ix_list (pv 2) (pv 3) (fun _ _ => rfl)) (pe_ix ix_list (pv 2) (pv 4) (fun _ _ => rfl))) pe_int) (pg_sub (pv 6) (pv 4) set_list))
      (pss_cons (ps_asg (pe_tup (pa_cons (pe_ix ix_list (pv 2) (pv 4) (fun _ _ => rfl)) (pa_cons (pe_ix ix_list (pv 2) (pv 3) (fun _ _ => rfl)) pa_nil))) (pg_tup rfl (pgs_cons (pg_sub (pv 7) (pv 3) set_list) (pgs_cons (pg_sub (pv 7) (pv 4) set_list) pgs_nil))))
      (pss_cons (ps_set (i := 8) scEff.nd rfl (Or.inl rfl) (pe_call GM r8 (by rfl) mM kM bM .nil pass0 (pa_cons (pv 2) pa_nil)))
      (pss_cons (ps_if (pt_not (pt_val (pe_call GS r3 (by rfl) mS kS bS .nil pass0 (pa_cons (pe_call (E := E0) GA hr (by rfl) mA kA bA .nil passL (pa_cons (pv 8) (pa_cons (pe_call (E := E0) GT r8 (by rfl) mT kT bT .nil passL (pa_cons (pv 3) pa_nil)) pa_nil))) (pa_cons (pv 5) pa_nil))))) (pss_one (ps_ret pe_bl)) pss_nil)
      (pss_cons (ps_if (pt_not (pt_val (pe_call GS r3 (by rfl) mS kS bS .nil pass0 (pa_cons (pe_call (E := E0) GA hr (by rfl) mA kA bA .nil passL (pa_cons (pv 8) (pa_cons (pe_callN0 (E := E0) (ks := ["to", "cell"]) GE r8 (by rfl) mE kE kbE passL (pk_cons (pv 4) (pk_cons (pv 3) pk_nil))) pa_nil))) (pa_cons (pv 6) pa_nil))))) (pss_one (ps_ret pe_bl)) pss_nil)
      (pss_one (ps_ret (pe_call GS r3 (by rfl) mS kS bS .nil pass0 (pa_cons (pe_call (E := E0) GA hr (by rfl) mA kA bA .nil passL (pa_cons (pv 8) (pa_cons (pe_callN0 (E := E0) (ks := ["other", "one"]) GW r8 (by rfl) mW kW kbW passL (pk_cons (pv 4) (pk_cons (pv 3) pk_nil))) pa_nil))) (pa_cons (pv 7) pa_nil))))))))))))))), ?_⟩
    refine ⟨_, rfl, p, 38, rfl, hp, by decide, by decide, fun d1 H1 x0 x1 b1 pot1 => ⟨_, _, rfl, rfl, ?_⟩⟩
    obtain ⟨m, em⟩ : ∃ m : Nat, 3 + d1 = (m : Int) := ⟨(3 + d1).toNat, by omega⟩
    dsimp only []
    rw [em]
    refine ⟨_, rfl, _, rfl, p, m, rfl, pot1, by omega, by omega, fun q bs H2 hq okb lb b2 pot2 eq2 => ?_⟩
    refine ⟨_, rfl, _, rfl, _, _, rfl, rfl, p, _, rfl, pot2, by omega, by omega, fun d2 H3 y0 y1 b3 pot3 => ⟨_, _, rfl, rfl, ?_⟩⟩
    obtain ⟨n, en⟩ : ∃ n : Nat, 1 + d2 = (n : Int) := ⟨(1 + d2).toNat, by omega⟩
    have nq := pot_ne pot1 hq
    dsimp only []
    rw [en]
    have eq3 := b3 _ _ nq eq2
    refine ⟨_, rfl, 1, (m : Int), rfl, ⟨by omega, by omega, by omega, by omega⟩, fun D hD => ?_⟩
    rw [show (m : Int) - 1 = ((m - 1 : Nat) : Int) by omega, Int.toNat_natCast]
    refine lc_range (lo := 1) (n := m - 1) (fun i H' => Same H3 H' ∧ H' D = some (.lst (((rg i).filter fun k => decide (¬ k = (n : Int))).map V.int))) ⟨same_new hD, upd_same⟩ ?_ ?_
    · rintro i H4 hi ⟨s4, hD4⟩
      refine ⟨rfl, _, rfl, _, rfl, rfl, _, rfl, ?_⟩
      have st : ((rg (i + 1)).filter fun k => decide (¬ k = (n : Int))) = ((rg i).filter fun k => decide (¬ k = (n : Int))) ++ (if 1 + (i : Int) = (n : Int) then [] else [1 + (i : Int)]) := by
        rw [rg_step, List.filter_append]
        congr 1
        by_cases z : 1 + (i : Int) = (n : Int)
        · simp [z]
        · simp [z]
      by_cases hm : 1 + (i : Int) = (n : Int)
      · rw [if_pos hm, List.append_nil] at st
        have hv : V.int (1 + (i : Int)) = V.int (n : Int) := by rw [hm]
        dsimp only []
        rw [decide_eq_true hv]
        refine iteF ⟨s4, ?_⟩
        rw [st]
        exact hD4
      · rw [if_neg hm] at st
        have hv : ¬ V.int (1 + (i : Int)) = V.int (n : Int) := fun z => hm (by injection z)
        dsimp only []
        rw [decide_eq_false hv]
        refine iteT ⟨_, rfl, _, hD4, ?_, ?_, ?_⟩
        · have := List.length_filter_le (fun k => decide (¬ k = (n : Int))) (rg i)
          rw [rg_len] at this
          rw [List.length_map]
          exact small1000 (by omega)
        · intro y o e
          rw [upd_ne (ne_of_none e hD)]
          exact s4 y o e
        · rw [upd_same, st, List.map_append]
          rfl
    rintro H4 ⟨s4, hD4⟩
    have pot4 := pot3.same s4
    have nD := pot_ne pot3 hD
    have len4 := filter_one (rg_nodup (m - 1)) (mem_rg.mpr ⟨by omega, by omega⟩ : (n : Int) ∈ rg (m - 1))
    rw [rg_len] at len4
    refine ⟨_, rfl, _, rfl, _, _, rfl, rfl, p, _, rfl, pot4, by omega, by omega, fun c H5 c0 c1 b5 pot5 => ?_⟩
    have cl : c.toNat < ((rg (m - 1)).filter fun k => decide (¬ k = (n : Int))).length := by omega
    obtain ⟨far, ef⟩ : ∃ far, ((rg (m - 1)).filter fun k => decide (¬ k = (n : Int)))[c.toNat]? = some far := ⟨_, List.getElem?_eq_getElem cl⟩
    have fm := List.mem_filter.mp (List.mem_of_getElem? ef)
    have fr := mem_rg.mp fm.1
    have fn : ¬ far = (n : Int) := of_decide_eq_true fm.2
    obtain ⟨g, rfl⟩ : ∃ g : Nat, far = (g : Int) := ⟨far.toNat, by omega⟩
    have hat : atI (((rg (m - 1)).filter fun k => decide (¬ k = (n : Int))).map V.int) c = some (.int (g : Int)) := by
      have z : atI (((rg (m - 1)).filter fun k => decide (¬ k = (n : Int))).map V.int) ((c.toNat : Nat) : Int) = some (.int (g : Int)) := atI_nat (by rw [List.getElem?_map, ef]; rfl)
      rwa [Int.toNat_of_nonneg c0] at z
    refine ⟨D, _, c, .int (g : Int), rfl, rfl, SqL.of (b5 D _ nD hD4), hat, ?_⟩
    have eq5 := b5 _ _ nq (s4 _ _ eq3)
    have b05 : But p H H5 := (((b1.trans b2).trans b3).trans (But.same s4)).trans b5
    have n1 : 1 ≤ n ∧ n < bs.length := ⟨by omega, by omega⟩
    have g1 : 1 ≤ g ∧ g < bs.length := ⟨by omega, by omega⟩
    have ng : n ≠ g := fun z => fn (by rw [z])
    have l40 : bs.length ≤ 40 := okb.2.2
    refine ⟨_, rfl, q, _, rfl, .inl (SqL.of eq5), fun L1 h1 => ?_⟩
    have t1 := same_new (o := .lst (bs.map V.int)) h1
    refine ⟨_, rfl, q, _, rfl, .inl (SqL.of (t1 _ _ eq5)), fun L2' h2 => ?_⟩
    have t2 := same_new (o := .lst (bs.map V.int)) h2
    refine ⟨_, rfl, q, _, rfl, .inl (SqL.of (t2 _ _ (t1 _ _ eq5))), fun L3 h3 => ⟨_, _, _, rfl, ?_⟩⟩
    have t3 := same_new (o := .lst (bs.map V.int)) h3
    have q1 := t3 _ _ (t2 _ _ (upd_same (H := H5) (a := L1) (o := .lst (bs.map V.int))))
    have q2 := t3 _ _ (upd_same (a := L2') (o := .lst (bs.map V.int)))
    have q3 : upd (upd (upd H5 L1 (.lst (bs.map V.int))) L2' (.lst (bs.map V.int))) L3 (.lst (bs.map V.int)) L3 = some (.lst (bs.map V.int)) := upd_same
    have n12 : L1 ≠ L2' := ne_of_none upd_same h2
    have n13 : L1 ≠ L3 := ne_of_none (t2 _ _ upd_same) h3
    have n23 : L2' ≠ L3 := ne_of_none upd_same h3
    have m1 : H5 L1 = none := h1
    have m2 : H5 L2' = none := t1.free h2
    have m3 : H5 L3 = none := t1.free (t2.free h3)
    have t6 := (t1.trans t2).trans t3
    generalize upd (upd (upd H5 L1 (.lst (bs.map V.int))) L2' (.lst (bs.map V.int))) L3 (.lst (bs.map V.int)) = H6 at q1 q2 q3 t6 ⊢
    clear t1 t2 t3 h1 h2 h3
    have e6 := t6 _ _ eq5
    have x1 := ne_of_none eq5 m1
    have x2 := ne_of_none eq5 m2
    have x3 := ne_of_none eq5 m3
    refine ⟨_, rfl, _, rfl, q, _, _, _, rfl, rfl, SqL.of e6, at_bits n1.2, _, _, rfl, rfl, _, rfl, _, rfl, set_bits q1 n1.2 fun H7 o7 w7 => ?_⟩
    have e7 := (o7 _ x1).trans e6
    refine ⟨_, rfl, _, rfl, q, _, _, _, rfl, rfl, SqL.of e7, at_bits n1.2, _, rfl, _, rfl, q, _, _, _, rfl, rfl, SqL.of e7, at_bits g1.2, _, _, rfl, rfl, _, _, rfl, rfl, (by show (0 : Int) < 2; decide), _, rfl, _, rfl, set_bits ((o7 _ n12.symm).trans q2) g1.2 fun H8 o8 w8 => ?_⟩
    have e8 := (o8 _ x2).trans e7
    refine ⟨_, rfl, _, rfl, q, _, _, _, rfl, rfl, SqL.of e8, at_bits g1.2, _, rfl, _, rfl, q, _, _, _, rfl, rfl, SqL.of e8, at_bits n1.2, (by show 2 ≤ sizeLine; decide), fun T hT => ⟨T, _, rfl, SqT.of upd_same, rfl, _, _, rfl, ?_⟩⟩
    have tT := same_new (o := .tup [V.int (bs.getD g 0), V.int (bs.getD n 0)]) hT
    have u3 : H8 L3 = some (.lst (bs.map V.int)) := (o8 _ n23.symm).trans ((o7 _ n13.symm).trans q3)
    refine ⟨_, rfl, _, rfl, set_bits (tT _ _ u3) n1.2 fun H9 o9 w9 => ?_⟩
    refine ⟨_, _, rfl, _, rfl, _, rfl, set_bits w9 (by rw [List.length_set]; exact g1.2) fun H10 o10 w10 => ⟨rfl, ?_⟩⟩
    have s8 : ∀ b o, b ≠ L3 → H8 b = some o → H10 b = some o := fun b o nb e => by rw [o10 b nb, o9 b nb]; exact tT _ _ e
    have s5 : Same H5 H10 := fun b o e => by
      have y1 := ne_of_none e m1
      have y2 := ne_of_none e m2
      have y3 := ne_of_none e m3
      exact s8 b o y3 ((o8 b y2).trans ((o7 b y1).trans (t6 _ _ e)))
    have v1 := s8 _ _ n13 ((o8 _ n12).trans w7)
    have v2 := s8 _ _ n23 w8
    have v3 := w10
    have e10 := s5 _ _ eq5
    clear s8 o7 o8 o9 o10 w7 w8 w9 w10 tT
    refine ⟨_, rfl, q, bs, rfl, e10, okb, fun bd H11 hbd s11 hB => ?_⟩
    have k1 : 1 ≤ (n : Int) ∧ (n : Int) ≤ 39 := ⟨by omega, by omega⟩
    have k2 : 1 ≤ (g : Int) ∧ (g : Int) ≤ 39 := ⟨by omega, by omega⟩
    have ngi : (n : Int) ≠ (g : Int) := by omega
    have tn : ∀ H', Typed K H' (.int (n : Int)) := fun _ => .inr (.inl ⟨_, rfl⟩)
    have tg : ∀ H', Typed K H' (.int (g : Int)) := fun _ => .inr (.inl ⟨_, rfl⟩)
    have yn : isV (.int (n : Int)) 1 39 = true := isV_int.mpr k1
    have yg : isV (.int (g : Int)) 1 39 = true := isV_int.mpr k2
    -- turn_flip
    refine ⟨_, rfl, _, rfl, _, rfl, tn _, fun i ei i0 i1 fq H12 hfq s12 fp => ?_, fun z => by rw [yn] at z; cases z⟩
    cases ei
    refine ⟨bd, fq, bs, _, _, rfl, hB.same s12, okb, fp, (one_ok (i := 0) (j := (n : Int)) (by decide) k1 (by omega)).1, fun M fit le bq H13 hbq s13 hbd3 => ?_, fun M fit gt => absurd gt (fits_in fit (fun k hk => by rw [List.mem_singleton.mp hk]; omega) (fun k hk => by rw [List.mem_singleton.mp hk]; omega) (by omega))⟩
    rw [aft_turn okb n1.2] at hbd3
    refine ⟨_, rfl, bq, L1, _, rfl, hbd3, by rw [List.length_set]; exact l40, (s11.trans (s12.trans s13)) _ _ v1, fun H14 s14 => ⟨_, rfl, iteF ?_⟩⟩
    have s1114 : Same H11 H14 := (s12.trans s13).trans s14
    clear hbd3 s12 s13 s14 fp hfq hbq fit le
    -- add_flip
    refine ⟨_, rfl, _, rfl, _, rfl, rfl, rfl, _, _, rfl, tn _, tg _, fun i j ei ej i0 i1 j0 j1 ij fq H15 hfq s15 fp => ?_, fun z => (by rw [isV_int.mpr ⟨by omega, k1.2⟩] at z; cases z), fun _ z => ?_⟩
    rotate_left
    · rcases z with z | z
      · rw [yg] at z
        cases z
      · exact absurd (by injection z) ngi
    cases ei
    cases ej
    refine ⟨bd, fq, bs, _, _, rfl, (hB.same s1114).same s15, okb, fp, (one_ok (i := (n : Int)) (j := (g : Int)) ⟨by omega, k1.2⟩ k2 ngi).1, fun M fit le bq H16 hbq s16 hbd3 => ?_, fun M fit gt => absurd gt (fits_in fit (fun k hk => by rw [List.mem_singleton.mp hk]; omega) (fun k hk => by rw [List.mem_singleton.mp hk]; omega) (by omega))⟩
    rw [aft_add okb n1.2 g1.2] at hbd3
    refine ⟨_, rfl, bq, L2', _, rfl, hbd3, by rw [List.length_set]; exact l40, (s11.trans (s1114.trans (s15.trans s16))) _ _ v2, fun H17 s17 => ⟨_, rfl, iteF ?_⟩⟩
    have s1117 : Same H11 H17 := s1114.trans ((s15.trans s16).trans s17)
    clear hbd3 s15 s16 s17 fp hfq hbq fit le
    -- swap_flip
    refine ⟨_, rfl, _, rfl, _, rfl, rfl, rfl, _, _, rfl, tn _, tg _, fun i j ei ej i0 i1 j0 j1 ij fq ks H18 hfq s18 pm pw fp => ?_, fun z => (by rw [yn] at z; cases z), fun _ z => ?_⟩
    rotate_left
    · rcases z with z | z
      · rw [yg] at z
        cases z
      · exact absurd (by injection z) ngi
    cases ei
    cases ej
    have mk : ∀ k ∈ ks, 1 ≤ k ∧ k < bs.length := fun k hk => by
      have := pm.mem_iff.mp hk
      simp only [List.mem_cons, List.not_mem_nil, or_false] at this
      omega
    have okk : OkF ks ks := by
      have nd : ks.Nodup := pm.nodup_iff.mpr (two_ok k1 k2 ngi).1.2.2.1
      have ln : ks.length = 2 := pm.length_eq
      exact ⟨fun k hk => by have := mk k hk; omega, fun k hk => by have := mk k hk; omega, nd, nd, by omega, by omega⟩
    refine ⟨bd, fq, bs, _, _, rfl, (hB.same s1117).same s18, okb, fp, okk, fun M fit le bq H19 hbq s19 hbd3 => ?_, fun M fit gt => absurd gt (fits_in fit (fun k hk => (mk k hk).2) (fun k hk => (mk k hk).2) (by omega))⟩
    rw [aft_perm pm pm, aft_swap okb n1.2 g1.2 ng] at hbd3
    refine ⟨_, rfl, bq, L3, _, rfl, hbd3, by rw [List.length_set, List.length_set]; exact l40, (s11.trans (s1117.trans (s18.trans s19))) _ _ v3, fun H20 s20 => ?_⟩
    have sE : Same H5 H20 := s5.trans (s11.trans (s1117.trans ((s18.trans s19).trans s20)))
    exact out H20 (b05.trans (But.same sE)) (pot5.same sE)
end
end K17
namespace Par
open PySem PySem.Spec PyProof.Rows L2
/-! ### a def that makes lambdas: its code object is known by its address -/
structure FunC (K : PySem.W.Frag) (x qual : Str) (st : Stmt) (f c : Addr) (fd : FuncData) : Prop where
  at_ : ∃ (oc : Value) (od : Option Addr) (kV doc pm : Value) (an : Option Addr) (ct : Value) (sl : Array (Option Value)),
    fd = PySem.W.fnOf x qual (defArgs st) (defBody st) (defScope st) .none kV doc pm an (.ref c) ct ∧ K.lookup f = some ⟨oc, od, .func fd, sl⟩ ∧ PySem.W.codeIn K (.ref c) qual = true
section
variable {P : Program} {w : World} {K : PySem.W.Frag} {mg : Str → Option Value} {base : Heap}
theorem fnG_ofC {k : Nat} {x qual : Str} {st : Stmt} {f c : Addr} {fd : FuncData} {N ps : List Str} {sp : Sp}
    (F : FunC K x qual st f c fd) (S : FnScope N ps (defScope st))
    (arity : ∀ vs H Q E, sp vs H Q E → vs.length = ps.length)
    (body : ∀ (A : Around) (outer : List Env) (s : Shared) (H : Hp) (vs : List V) (Q : VK) (E : XK),
      A.guards = some [] → Room k (A.deeper (envOfC qual (defScope st) s.heap.objs.size f (.ref c))) → sp vs H Q E →
      ∃ t, PSs (cxOf CX0 P w K mg base N qual (defScope st) f (.ref c) A outer s H E).nox (defBody st) t ∧
        t { nx := fun _ H' => Q .non H', rt := Q } (start N vs) H) :
    FnG P w K mg base CX0 (k + 1) f fd ps sp := by
  obtain ⟨oc, od, kV, doc, pm, an, ct, sl, efd, lk, hcd⟩ := F.at_
  subst efd
  constructor
  · exact arity
  intro A outer s H args us vs Q E gs room e0 bound rel hsp
  have lens := arity _ _ _ _ hsp
  have kin : K.In s.heap := e0.mod.kin.keeps (fun b o z => (e0.bs b o z).1)
  have nolim : s.heap.NoLimit := e0.mod.nolimit.keeps (fun b o z => (e0.bs b o z).1)
  have kinds : ∀ y ∈ ps.zip us, (defScope st).names.lookup y.1 = some .local ∨ ((defScope st).names.lookup y.1 = some .cell ∧
      ((cellsFrom (s.heap.objs.size + 1) (defScope st).names []).lookup y.1).isSome = true) := by
    rintro ⟨n, v⟩ hy
    cases S.par n (List.of_mem_zip hy).1 with
    | inl q => exact Or.inl q
    | inr q => exact Or.inr ⟨q, PySem.W.cellsFrom_some _ _ _ (Or.inl q)⟩
  refine codeAny_call_function room.depth (kin _ _ lk) rfl S.co S.gen rfl (PySem.W.codeRec_of kin hcd) (bound _ _ _ _ ?_)
  refine wpAny_newFunctionEnv_cells S.kind kinds ?_
  intro env he s1 x1
  subst he
  refine ⟨nolim.keeps x1.toInCall.keep, codeAny_func ?_⟩
  obtain ⟨t, ht, hq⟩ := body A outer s H vs Q E gs (room.deeper _) hsp
  have I := inv_start (CX := CX0) (E := E) (w := w) S room.hd e0 lens rel x1
  refine wpAny_mono (ht.nox.run [] s1 (start N vs) H _ I hq) ?_ (fun e s' hs => hs)
  intro fl s' hs
  cases fl with
  | ret u =>
    obtain ⟨v, σ1, H1, J, rv, q⟩ := hs
    exact ⟨v, H1, J.os, J.bare, J.base, J.hok, rv, q⟩
  | next =>
    obtain ⟨σ1, H1, J, q⟩ := hs
    exact ⟨V.non, H1, J.os, J.bare, J.base, J.hok, rfl, q⟩
  | brk => exact (let ⟨_, _, _, q⟩ := hs; False.elim q)
  | cont => exact (let ⟨_, _, _, q⟩ := hs; False.elim q)
end
/-! ### the law's end, with the tables of these code objects -/
section
variable {P : Program} {w : World} {K : PySem.W.Frag} {mg mb : Str → Option Value} {k : Nat} {fa a : Addr} {tt : List (Addr × Addr)} {fd : FuncData} {x : Str} {sp : Sp} {s1 : Shared} {vs : List Value} {ns : List Int}
/-- what the heap at the law's entry says -/
structure Entry (K : PySem.W.Frag) (mg mb : Str → Option Value) (tt : List (Addr × Addr)) (a : Addr) (vs : List Value) (s1 : Shared) : Prop where
  kin : K.In s1.heap
  glob : s1.heap.Ns mainGlobals mg
  blt : s1.heap.Ns builtinsNs mb
  boot : ∀ x : Str, x ≠ "__name__" → mb x = bootBuiltins x
  lim : s1.heap.NoLimit
  gens : s1.gens = #[]
  tab : ∀ p ∈ tt, PySem.W.CodeHd s1.heap p.1 p.2 ∧ s1.heap.get? p.2 = some (PySem.W.tabObj #[]) ∧ K.lookup p.2 = none
  bm : ∃ (bm : Addr) (ob : Obj), mg "__builtins__" = some (.ref bm) ∧ bm ≠ builtinsNs ∧ s1.heap.get? bm = some ob ∧ ob.cls = .type "module" ∧ ob.dict = some builtinsNs ∧ ob.data = .plain
  script : s1.heap.get? a = some { cls := .type "list", data := .seq vs.toArray }
def tabsOf (tt : List (Addr × Addr)) : List Addr := tt.map (·.2)
theorem Entry.at_tab (X : Entry K mg mb tt a vs s1) {b : Addr} (hb : b ∈ tabsOf tt) : s1.heap.get? b = some (PySem.W.tabObj #[]) := by
  obtain ⟨p, hp, rfl⟩ := List.mem_map.mp hb
  exact (X.tab p hp).2.1
theorem Entry.not_tab (X : Entry K mg mb tt a vs s1) : a ∉ tabsOf tt := by
  intro hb
  have e := X.at_tab hb
  rw [X.script] at e
  injection e with e
  injection e with _ _ d _
  cases d
/-- nothing is tracked but the script and the tables -/
structure Just (H : Hp) (K : PySem.W.Frag) (tt : List (Addr × Addr)) (a : Addr) : Prop where
  tabs : ∀ p ∈ tt, H p.2 = some (.tbl #[])
  kinds : ∀ b, H b = none ∨ b ∈ tabsOf tt ∨ ∃ o xs, H b = some (.frz o (.lst xs))
  dom : ∀ b, H b ≠ none → b = a ∨ b ∈ tabsOf tt
  out : H a ≠ none → K.lookup a = none
theorem Just.none_of {H : Hp} (X : Entry K mg mb tt a vs s1) (J : Just H K tt a) {b : Addr} {o : Obj} (e : s1.heap.get? b = some o) (n1 : ∀ xs n, o.data ≠ .seq xs n) (n2 : o.data ≠ .fields #[]) : H b = none := by
  cases q : H b with
  | none => rfl
  | some u =>
    rcases J.dom b (by rw [q]; simp) with z | z
    · rw [z, X.script] at e
      cases e
      exact absurd rfl (n1 _ _)
    · rw [X.at_tab z] at e
      cases e
      exact absurd rfl n2
theorem Just.names {H : Hp} (X : Entry K mg mb tt a vs s1) (J : Just H K tt a) {b : Addr} {m : Str → Option Value} (h : s1.heap.Ns b m) : (hidT s1.heap H).Ns b m := by
  obtain ⟨o, es, ep, e, d, r⟩ := h
  refine ⟨o, es, ep, hidT_get e (J.none_of X e (fun xs n z => ?_) fun z => ?_), d, r⟩
  · rw [d] at z
    cases z
  · rw [d] at z
    cases z
theorem Just.mod {H : Hp} (X : Entry K mg mb tt a vs s1) (J : Just H K tt a) : L2.Mod K mg (hidT s1.heap H) := by
  obtain ⟨mc, h1, h2⟩ := X.lim
  refine ⟨fun b o e => hidT_get (X.kin b o e) ?_, J.names X X.glob, ⟨mb, J.names X X.blt, X.boot⟩, ⟨mc, J.names X h1, h2⟩⟩
  cases q : H b with
  | none => rfl
  | some u =>
    have some_b : H b ≠ none := by rw [q]; simp
    rcases J.dom b some_b with z | z
    · rw [z] at e some_b
      rw [J.out some_b] at e
      cases e
    · obtain ⟨p, hp, rfl⟩ := List.mem_map.mp z
      rw [(X.tab p hp).2.2] at e
      cases e
theorem Just.tabB {H : Hp} (X : Entry K mg mb tt a vs s1) (J : Just H K tt a) {p : Addr × Addr} (hp : p ∈ tt) : LamX.TabB (hidT s1.heap H) mg p.1 p.2 := by
  obtain ⟨hC, hT, _⟩ := X.tab p hp
  constructor
  · obtain ⟨o, us, file, tf, flags, tg, inF, text, t2, e1, r1, r2, r3, r⟩ := hC
    refine ⟨o, us, file, tf, flags, tg, inF, text, t2, hidT_get e1 (J.none_of X e1 (fun xs n z => ?_) fun z => ?_), r1, r2, r3, r⟩
    · rw [r2] at z
      cases z
    · rw [r2] at z
      cases z
      simp at r3
  · obtain ⟨bm, ob, b1, b2, b3, b4, b5, b6⟩ := X.bm
    have g1 : bm ≠ mainGlobals := by
      rintro rfl
      obtain ⟨o, es, ep, e, d, _⟩ := X.glob
      rw [e] at b3
      cases b3
      rw [d] at b6
      cases b6
    have g2 : bm ≠ p.2 := by
      rintro rfl
      rw [hT] at b3
      cases b3
      cases b6
    refine ⟨bm, ob, b1, b2, g1, g2, hidT_get b3 (J.none_of X b3 (fun xs n z => ?_) fun z => ?_), b4, b5, b6⟩
    · rw [b6] at z
      cases z
    · rw [b6] at z
      cases z
  · intro z
    obtain ⟨o, es, ep, e, d, _⟩ := X.glob
    rw [z, hT] at e
    cases e
    cases d
theorem law_core {H : Hp} (X : Entry K mg mb tt a vs s1) (J : Just H K tt a) (ok : HOk P w H s1.heap) (sq : SqL K H a (ns.map V.int)) (hr : Room k callerA)
    (F : ∀ base : Heap, K.In base → base.Ns mainGlobals mg → (∀ p ∈ tt, LamX.TabB base mg p.1 p.2) → FnG P w K mg base CX0 k fa fd [x] sp) (hbind : ∀ (s : Shared) (u : Value), BindsTo s fd ⟨[u], []⟩ [(x, u)])
    (hsp : sp [.ref a] H (fun v _ => v = .bl true) fun _ _ _ => False) :
    codeAny (model P w) callerA (.call (.ref fa) ⟨[.ref a], []⟩) (fun r s' => r = .ok (.ret (.bool true)) ∧ OldK s1.heap s'.heap ∧ s'.os = s1.os ∧ AllBare s'.gens) s1 := by
  have md := J.mod X
  have e0 : Env0 P w K mg (hidT s1.heap H) callerA [] s1 H := by
    refine ⟨rfl, md, fun b o e => of_hidT e, Nat.le_of_eq (hidT_size _ _), trivial, ?_, ok, .of_eq X.gens⟩
    intro b z
    exact absurd (show b ∈ ([] : List Addr) from z) (by simp)
  refine codeAny_mono ((F _ md.kin md.glob fun p hp => J.tabB X hp).go callerA [] s1 H ⟨[.ref a], []⟩ [.ref a] [.ref a] _ _ rfl hr e0 (hbind s1 (.ref a)) (.cons rfl .nil) hsp) ?_
  intro r s' h
  cases r with
  | error e => exact False.elim h
  | ok fl =>
    cases fl with
    | next => exact False.elim h
    | brk => exact False.elim h
    | cont => exact False.elim h
    | ret u =>
      obtain ⟨v, H1, os, bare, un, ok1, rel, q⟩ := h
      have q' : v = .bl true := q
      subst q'
      obtain rfl : u = Value.bool true := rel
      have stays : ∀ b o, b ∉ tabsOf tt → s1.heap.get? b = some o → s'.heap.get? b = some o := by
        intro b o nb e
        cases q : H b with
        | none => exact un.keep b o e q (fun z => absurd (show b ∈ ([] : List Addr) from z) (by simp)) (by simp)
        | some u =>
          rcases J.kinds b with z | z | ⟨ob, xs, z⟩
          · rw [q] at z
            cases z
          · exact absurd z nb
          · have e1 := (ok b _ z).1
            have e2 := (ok1 b _ (un.frzs b ob _ z)).1
            rw [e] at e1
            cases e1
            exact e2
      have grows : ∀ b ∈ tabsOf tt, ∃ more : Array Value, s'.heap.get? b = some (PySem.W.tabObj more) := by
        intro b hb
        obtain ⟨p, hp, rfl⟩ := List.mem_map.mp hb
        obtain ⟨more, z⟩ := un.tbls p.2 #[] (J.tabs p hp)
        exact ⟨_, ok1 p.2 _ z⟩
      refine ⟨rfl, ⟨fun b o e => ?_, fun b o e => ?_⟩, os, bare⟩
      · by_cases hb : b ∈ tabsOf tt
        · obtain ⟨more, hm⟩ := grows b hb
          obtain ⟨p, hp, rfl⟩ := List.mem_map.mp hb
          obtain ⟨hC, hT, _⟩ := X.tab p hp
          rw [hT] at e
          cases e
          exact .inr (.inl ⟨(hC.tab hT).isCodeTable, rfl, #[], more, rfl, by rw [Array.empty_append]; exact hm⟩)
        · exact .inl (stays b o hb e)
      · by_cases hb : b ∈ tabsOf tt
        · obtain ⟨more, hm⟩ := grows b hb
          exact ⟨_, hm⟩
        · exact ⟨o, stays b o hb e⟩
theorem law_callTG (X : Entry K mg mb tt a vs s1) (hi : IntsAre vs ns) (hl : ns.length ≤ sizeLine) (hr : Room k callerA)
    (F : ∀ base : Heap, K.In base → base.Ns mainGlobals mg → (∀ p ∈ tt, LamX.TabB base mg p.1 p.2) → FnG P w K mg base CX0 k fa fd [x] sp) (hbind : ∀ (s : Shared) (u : Value), BindsTo s fd ⟨[u], []⟩ [(x, u)])
    (hsp : ∀ H : Hp, (∀ p ∈ tt, H p.2 = some (.tbl #[])) → SqL K H a (ns.map V.int) → sp [.ref a] H (fun v _ => v = .bl true) fun _ _ _ => False) :
    codeAny (model P w) callerA (.call (.ref fa) ⟨[.ref a], []⟩) (fun r s' => r = .ok (.ret (.bool true)) ∧ OldK s1.heap s'.heap ∧ s'.os = s1.os ∧ AllBare s'.gens) s1 := by
  have rv := vals_ints hi
  have lenV := hi.length
  have mem2 : ∀ p ∈ tt, p.2 ∈ tabsOf tt := fun p hp => List.mem_map.mpr ⟨p, hp, rfl⟩
  have na := X.not_tab
  cases hk : K.lookup a with
  | some o =>
    have e := X.kin a o hk
    rw [X.script] at e
    cases e
    have tabs : ∀ p ∈ tt, (fun b => if b ∈ tabsOf tt then some (HO.tbl #[]) else none) p.2 = some (HO.tbl #[]) := fun p hp => if_pos (mem2 p hp)
    have sq : SqL K (fun b => if b ∈ tabsOf tt then some (HO.tbl #[]) else none) a (ns.map V.int) := .inr ⟨_, vs.toArray, _, hk, rfl, rfl, rfl, by rw [List.size_toArray, lenV]; exact hl, by simpa using rv⟩
    refine law_core X ⟨tabs, fun b => ?_, fun b z => ?_, fun z => absurd (if_neg na) z⟩ (fun b u z => ?_) sq hr F hbind (hsp _ tabs sq)
    · by_cases hb : b ∈ tabsOf tt
      · exact .inr (.inl hb)
      · exact .inl (if_neg hb)
    · by_cases hb : b ∈ tabsOf tt
      · exact .inr hb
      · exact absurd (if_neg hb) z
    · by_cases hb : b ∈ tabsOf tt
      · have z1 := (if_pos hb).symm.trans z
        cases z1
        exact X.at_tab hb
      · have z1 := (if_neg hb).symm.trans z
        cases z1
  | none =>
    have tabs : ∀ p ∈ tt, (fun b => if b = a then some (HO.frz { cls := .type "list", data := .seq vs.toArray } (.lst (ns.map V.int))) else if b ∈ tabsOf tt then some (HO.tbl #[]) else none) p.2 = some (HO.tbl #[]) := fun p hp =>
      (if_neg (show ¬ p.2 = a from fun z => na (z ▸ mem2 p hp))).trans (if_pos (mem2 p hp))
    have sq : SqL K (fun b => if b = a then some (HO.frz { cls := .type "list", data := .seq vs.toArray } (.lst (ns.map V.int))) else if b ∈ tabsOf tt then some (HO.tbl #[]) else none) a (ns.map V.int) := .inl (.inr ⟨_, if_pos rfl⟩)
    refine law_core X ⟨tabs, fun b => ?_, fun b z => ?_, fun _ => hk⟩ (fun b u z => ?_) sq hr F hbind (hsp _ tabs sq)
    · by_cases h1 : b = a
      · exact .inr (.inr ⟨_, _, if_pos h1⟩)
      · by_cases h2 : b ∈ tabsOf tt
        · exact .inr (.inl h2)
        · exact .inl ((if_neg h1).trans (if_neg h2))
    · by_cases h1 : b = a
      · exact .inl h1
      · by_cases h2 : b ∈ tabsOf tt
        · exact .inr h2
        · exact absurd ((if_neg h1).trans (if_neg h2)) z
    · by_cases h1 : b = a
      · have z1 := (if_pos h1).symm.trans z
        cases z1
        rw [h1]
        exact ⟨X.script, by rw [List.length_map]; exact hl, vs, _, rv, X.script⟩
      · have z1 := (if_neg h1).symm.trans z
        by_cases h2 : b ∈ tabsOf tt
        · have z2 := (if_pos h2).symm.trans z1
          cases z2
          exact X.at_tab h2
        · have z2 := (if_neg h2).symm.trans z1
          cases z2
end
/-- the defs of these names make lambdas: where their code objects and tables stand -/
def TabNames (q : Program) (K : PySem.W.Frag) (tt : List (Addr × Addr)) : Prop := ∀ p ∈ tt, ∃ (y : Str) (d : DefRec), (recsOf q).find? (fun e => e.name == y) = some d ∧ PySem.W.tabIn K y = some p ∧ K.lookup p.2 = none
theorem walkTG {l : PySem.W.OpenLaw} {n k : Nat} {q : Program} {loose : List Str} {XP : (Str → Option Value) → Heap → Prop} {YP : World → Heap → Prop} {d : DefRec} {K : Params → PySem.W.Frag} {sp : PySem.W.Frag → List (Addr × Addr) → Sp} {x : Str}
    (hn : l.most = some n) (hn2 : n ≤ sizeLine) (hdf : d.params.defaults = []) (hr : Room k callerA) (hY : ∀ (w : World) (h : Heap), YP w h → (K w.params).In h)
    (F : ∀ (w : World) (mg : Str → Option Value) (fa : Addr) (h : Heap), (K w.params).In h → h.Ns mainGlobals mg → mg d.name = some (.ref fa) →
      ∃ (fd : FuncData) (tt : List (Addr × Addr)), TabNames q (K w.params) tt ∧ (∀ (s : Shared) (u : Value), BindsTo s fd ⟨[u], []⟩ [(x, u)]) ∧
        ∀ base : Heap, (K w.params).In base → base.Ns mainGlobals mg → (∀ p ∈ tt, LamX.TabB base mg p.1 p.2) → FnG l.prog w (K w.params) mg base CX0 k fa fd [x] (sp (K w.params) tt))
    (hsp : ∀ (K : PySem.W.Frag) (tt : List (Addr × Addr)) (H : Hp) (a : Addr) (ns : List Int), ns.length ≤ n → (∀ p ∈ tt, H p.2 = some (.tbl #[])) → SqL K H a (ns.map V.int) → sp K tt [.ref a] H (fun v _ => v = .bl true) fun _ _ _ => False) :
    PySem.W.WalkO q loose XP YP l.row.toRowW d [] (fun f vs => PySem.call f vs) := by
  refine Att.attach_call hn hdf ?_
  intro w s0 s1 mg mb fa o pm cd doc a vs ns G Y ho hd hcd hmg hobj hints hlen hg
  have KX := hY w _ Y
  obtain ⟨fd, tt, names, hb, hF⟩ := F w mg fa _ KX G.T.g hmg
  refine law_callTG (mb := mb) ⟨KX, G.T.g, G.T.b, G.T.builtins, G.T.nolimit, hg, fun p hp => ?_, G.T.bmain, hobj⟩ hints (Nat.le_trans hlen hn2) hr hF hb (fun H hH hS => hsp _ tt H a ns hlen hH hS)
  obtain ⟨y, dy, hfind, htab, hno⟩ := names p hp
  obtain ⟨h1, h2⟩ := PySem.W.tab_of G.T KX hfind htab
  exact ⟨h1, h2, hno⟩
end Par
namespace K17
open PySem PySem.Spec PyProof.Rows L2 Par
/-- the classes of errors beside NoCell, at N -/
structure ErrN (K : PySem.W.Frag) (mg : Str → Option Value) (N c1 c2 c4 : Addr) : Prop where
  cells : mg "NoCells" = some (.ref c1)
  flip : mg "NoFlip" = some (.ref c2)
  base : mg "CellError" = some (.ref c4)
  other : PySem.W.kitAny K (.ref N) [.ref c1, .ref c2] = some false
  isBase : PySem.W.kitOne K (.ref N) (.ref c4) = some true
  exc : ExcC K N
  xf : XfC K N
  te : PySem.W.exmOne K (.ref N) (.ref N) = some true
theorem takes_len {X : Cx} {W : WX} {n : Nat} (hn : X.N.length = n) (t : Takes X W) : Takes X (fun c d σ H => σ.length = n → W c d σ H) := fun u s' ⟨a, B, sI, pins, σ, H, cls, d, e, I, nb, up, sky, na, os, ag, w⟩ =>
  t u s' ⟨a, B, sI, pins, σ, H, cls, d, e, I, nb, up, sky, na, os, ag, w (I.len.trans hn)⟩
theorem four {σ : L2.St} (h : σ.length = 4) : ∃ a b c d, σ = [a, b, c, d] := by
  match σ, h with
  | [a, b, c, d], _ => exact ⟨a, b, c, d, rfl⟩
/-- what _law_met makes of a lambda's reading -/
def TTm (CF CN : Addr) : (XK → Hp → VK → Prop) → Hp → VK → Prop := fun tl H Q => ∀ (L0 : Addr) (Q' : VK) (E' : XK), H L0 = none →
  (∀ fq ts hs H1, Fp CF H1 fq ts hs → (∀ L t1 t2 H2, H1 L = none → Same H1 H2 → H2 L = some (.lst [.str "flip", .ref t1, .ref t2]) → H2 t1 = some (.tup (ts.map V.int)) → H2 t2 = some (.tup (hs.map V.int)) → Q (.ref L) H2) → Q' (.ref fq) H1) →
  (∀ d u H1, H1 d = some (.xd [("cell", u)]) → (∀ L H2, H1 L = none → Same H1 H2 → H2 L = some (.lst [.str "cell", u, .bl true]) → Q (.ref L) H2) → E' (.ref CN) (some d) H1) →
  tl E' (upd H L0 (.lst [.str "other"])) Q'
abbrev nMet : List Str := ["_law_call", "_law_told", "_law_flip", "e"]
theorem scMet : FnScope nMet ["_law_call"] (defScope sMet) := ⟨rfl, rfl, rfl, by decide +kernel, rfl, by decide +kernel, by decide +kernel⟩
theorem met_gives {X : Cx} {g CF CN c1 c2 c4 : Addr} {cdg : Value} {q : Str} (B : Bl X.mg) (TF : FC X.K X.mg CF) (TN : NC X.K X.mg CN) (R : ErrN X.K X.mg CN c1 c2 c4)
    (DA : HasM X.prog X.w X.K X.mg X.base CF "tested" 2 ["self"] (spTested CF)) (DB : HasM X.prog X.w X.K X.mg X.base CF "toggled" 2 ["self"] (spToggled CF)) (hr : Room 3 X.A) :
    LamX.GivesTo X nMet "_law_met" (defScope sMet) g cdg (defBody sMet) "_law_call" q (TTm CF CN) := by
  obtain ⟨fA, fdA, GA, mA, bA⟩ := DA
  obtain ⟨fB, fdB, GB, mB, bB⟩ := DB
  intro f c' s H Q tl act hc h
  have r2 : Room 2 (X.A.deeper (envOfC "_law_met" (defScope sMet) s.heap.objs.size g cdg)) := hr.deeper _
  refine ⟨_, pss_cons (ps_set (i := 1) scMet.nd rfl (Or.inl rfl) (pe_lst (pa_cons pe_str pa_nil)))
    (pss_cons (ps_try_as (i := 3) (tb := fun W D σ H => ∃ Ech : XK, (∀ cls d H', Ech cls d H' → ∀ σ' : L2.St, σ'.length = 4 → W cls d σ' H') ∧ σ.length = 4 ∧ σ[0]? = some (some (.ref f)) ∧ H c' = some (LamX.CodeO c' q) ∧
        ∀ Q' : VK, (∀ fq ts hs H1, Fp CF H1 fq ts hs → (∀ L t1 t2 H2, H1 L = none → Same H1 H2 → H2 L = some (.lst [.str "flip", .ref t1, .ref t2]) → H2 t1 = some (.tup (ts.map V.int)) → H2 t2 = some (.tup (hs.map V.int)) → D.nx ((σ.set 2 (some (.ref fq))).set 1 (some (.ref L))) H2) → Q' (.ref fq) H1) → tl Ech H Q')
        rfl rfl scMet.nd rfl rfl ⟨rfl, by decide, .inl TN.gC⟩ LamX.takes0
      (fun W pn xe tk _ => ?_)
      (fun a oe cls d pn hz hf => pss_one (ps_set (i := 1) scMet.nd rfl (Or.inl rfl) (pe_lst (pa_cons pe_str (pa_cons (pe_xf R.xf TN.no hz hf (pv 3)) (pa_cons
          (pe_and (pe_callB (call_isX R.exc hz hf) (by rfl) B.isinstance (by decide +kernel) (pa_cons (pv 3) (pa_cons (pe_glob (v := .ref c4) (by rfl) R.base rfl) pa_nil)))
          (pe_one (pe_not (pe_callB (call_isXT R.exc hz hf) (by rfl) B.isinstance (by decide +kernel) (pa_cons (pv 3) (pa_cons (pe_tup (pa_cons (pe_glob (v := .ref c1) (by rfl) R.cells rfl) (pa_cons (pe_glob (v := .ref c2) (by rfl) R.flip rfl) pa_nil))) pa_nil)))))) pa_nil)))))))
    (pss_one (ps_ret (pv 1)))), ?_⟩
  · refine ⟨fun pins s' σ H' D I h' => ?_⟩
    obtain ⟨Ech, hW, l4, h1, h2, h3⟩ := h'
    obtain ⟨x0, x1, x2, x3, rfl⟩ := four l4
    refine PSs.run (pss_cons (ps_set (i := 2) scMet.nd rfl (Or.inl rfl) (act (fun c d σ H => σ.length = 4 → W c d σ H) pn xe Ech _ _ (takes_len rfl tk) fun cls d σ' H' e l => hW cls d H' e σ' l))
      (pss_one (ps_set (i := 1) scMet.nd rfl (Or.inl rfl) (pe_lst (pa_cons pe_str (pa_cons (pe_meth0 (pv 2) TF.cl mA GA r2 bA .nil pass0) (pa_cons (pe_meth0 (pv 2) TF.cl mB GB r2 bB .nil pass0) pa_nil))))))) pins s' _ H' D I ⟨h1, h2, h3 _ fun fq ts hs H1 fp k => ?_⟩
    obtain ⟨dg, t1, t2, f1, f2, f3⟩ := id fp
    refine ⟨_, rfl, fq, dg, _, rfl, f1, no2 (by decide +kernel) (by decide +kernel), fq, ts, hs, rfl, fp, fun u hu => ?_⟩
    refine ⟨_, rfl, fq, dg, _, rfl, f1, no2 (by decide +kernel) (by decide +kernel), fq, ts, hs, rfl, fp, fun v hv => ?_⟩
    refine ⟨(by show 3 ≤ sizeLine; decide), fun L hL => ?_⟩
    have sL := same_new (o := .lst [.str "flip", .ref u, .ref v]) hL
    exact k L u v _ hL sL upd_same (sL _ _ hu) (sL _ _ hv)
  · refine ⟨(by show 1 ≤ sizeLine; decide), fun L0 hL0 => ?_⟩
    refine ⟨_, fun cls d H' e => e, rfl, rfl, same_new hL0 _ _ hc, fun Q' hQ => h L0 Q' _ hL0 (fun fq ts hs H1 fp k => hQ fq ts hs H1 fp fun L t1 t2 H2 a b c d e => ⟨_, rfl, k L t1 t2 H2 a b c d e⟩) fun d u H1 ed k σ' l4 => ?_⟩
    obtain ⟨x0, x1, x2, x3, rfl⟩ := four l4
    refine ⟨true, R.te, fun _ a ha => ?_, fun q => Bool.noConfusion q⟩
    refine ⟨_, rfl, rfl, rfl, d, _, u, rfl, ed, rfl, ?_⟩
    refine ⟨_, rfl, _, _, true, d, _, rfl, rfl, rfl, ed, .own _, R.isBase, _, rfl, iteT ?_⟩
    refine ⟨_, rfl, (by show 2 ≤ sizeLine; decide), fun t ht => ?_⟩
    have st := same_new (o := .tup [.ref c1, .ref c2]) ht
    refine ⟨t, _, _, false, d, _, rfl, upd_same, .cons (.own _) (.cons (.own _) .nil), rfl, rfl, st _ _ ed, R.other, _, rfl, ?_⟩
    refine ⟨(by show 3 ≤ sizeLine; decide), fun L hL => ?_⟩
    refine ⟨_, rfl, ?_⟩
    have sL := same_new (o := .lst [.str "cell", u, .bl true]) hL
    exact k L _ (st.free hL) (st.trans sL) upd_same
end K17
namespace K17
open PySem PySem.Spec PyProof.Rows L2 Par
theorem seq_outE {te : TE} {g : TG} {rest : TS} {D : Ends} {σ : L2.St} {H : Hp} (R : V → Hp → Prop) (out : ∀ v H', R v H' → tSeq (tAsg (tC v) g) rest D σ H') (h : ∀ Q' : VK, (∀ v H', R v H' → Q' v H') → te σ H Q') : tSeq (tAsg te g) rest D σ H := h _ out
theorem seq_outS {a rest : TS} {D : Ends} {σ : L2.St} {H : Hp} (R : L2.St → Hp → Prop) (out : ∀ σ' H', R σ' H' → rest D σ' H') (h : ∀ N : L2.St → Hp → Prop, (∀ σ' H', R σ' H' → N σ' H') → a { D with nx := N } σ H) : tSeq a rest D σ H := h _ out
theorem sta_outS {a : TS} {D : Ends} {σ : L2.St} {H : Hp} (R : L2.St → Hp → Prop) (out : ∀ σ' H', R σ' H' → D.nx σ' H') (h : ∀ N : L2.St → Hp → Prop, (∀ σ' H', R σ' H' → N σ' H') → a { D with nx := N } σ H) : a D σ H := h _ out
/-! ### tables stay -/
theorem tab_ne {H : Hp} {p q : Addr} {ps : Array Value} (h : PotAt H p) (e : H q = some (.tbl ps)) : q ≠ p := fun z => by
  obtain ⟨a, b, y, _⟩ := h
  rw [z, y] at e
  cases e
theorem code_ne {H : Hp} {p c : Addr} {q : Str} (h : PotAt H p) (e : H c = some (LamX.CodeO c q)) : c ≠ p := fun z => by
  obtain ⟨a, b, y, _⟩ := h
  rw [z, y] at e
  unfold LamX.CodeO at e
  cases e
theorem tabs_but {T : List (Addr × Str)} {p : Addr} {H H' : Hp} (h : PotAt H p) (b : But p H H') (t : LamX.Tabs T H) : LamX.Tabs T H' := fun x hx => by
  obtain ⟨ps, h1, h2, h3⟩ := t x hx
  refine ⟨ps, b _ _ (tab_ne h h1) h1, h2, fun pos cv hc => ?_⟩
  obtain ⟨c, e1, e2⟩ := h3 pos cv hc
  exact ⟨c, e1, b _ _ (code_ne h e2) e2⟩
theorem ExtP.extN {p : Addr} {H H' : Hp} (h : LamX.ExtN H H') : ExtP p H H' := fun b o _ e t => h b o e t
theorem pot_extN {p : Addr} {H H' : Hp} (h : LamX.ExtN H H') (q : PotAt H p) : PotAt H' p := by
  obtain ⟨a, b, e, r⟩ := q
  exact ⟨a, b, h _ _ e (by intro _ z; cases z), r⟩
theorem seq_extN {K : PySem.W.Frag} {H H' : Hp} {a : Addr} {xs : List V} (e : LamX.ExtN H H') (h : SqL K H a xs) : SqL K H' a xs := by
  rcases h with (h | ⟨o, h⟩) | h
  · exact .inl (.inl (e _ _ h (by intro _ z; cases z)))
  · exact .inl (.inr ⟨o, e _ _ h (by intro _ z; cases z)⟩)
  · exact .inr h
/-! ### the two things, beside the pot and the tables -/
structure Two (K : PySem.W.Frag) (T : List (Addr × Str)) (p : Addr) (v u : V) (dv du : PyData) (H0 H : Hp) : Prop where
  ext : ExtP p H0 H
  pot : PotAt H p
  tab : LamX.Tabs T H
  gv : Giv K (dl H p) v dv
  gu : Giv K (dl H p) u du
section
variable {K : PySem.W.Frag} {T : List (Addr × Str)} {p : Addr} {v u : V} {dv du : PyData} {H0 H H' : Hp}
theorem Two.same (t : Two K T p v u dv du H0 H) (s : Same H H') : Two K T p v u dv du H0 H' :=
  ⟨t.ext.trans (ExtP.same s), t.pot.same s, t.tab.ext s, giv_same (dl_ext (ExtP.same s)) t.gv, giv_same (dl_ext (ExtP.same s)) t.gu⟩
theorem Two.extN (t : Two K T p v u dv du H0 H) (e : LamX.ExtN H H') (tb : LamX.Tabs T H') : Two K T p v u dv du H0 H' :=
  ⟨t.ext.trans (ExtP.extN e), pot_extN e t.pot, tb, giv_same (dl_ext (ExtP.extN e)) t.gv, giv_same (dl_ext (ExtP.extN e)) t.gu⟩
theorem typed_giv {d : PyData} (h : Giv K H v d) : Typed K H v := by
  cases h with
  | fl f => exact typed_fl f
  | lst e _ _ => exact .inr (.inr ⟨_, sqA_ty (SqL.of e), by simp, by simp, by simp⟩)
  | tup e _ _ => exact .inr (.inr ⟨_, sqtA_ty (SqT.of e), by simp, by simp, by simp⟩)
theorem Two.giv (t : Two K T p v u dv du H0 H) : Giv K H v dv := giv_same (del_sub H p) t.gv
theorem Two.giu (t : Two K T p v u dv du H0 H) : Giv K H u du := giv_same (del_sub H p) t.gu
theorem Two.tv (t : Two K T p v u dv du H0 H) : Typed K H v := typed_giv t.giv
theorem Two.tu (t : Two K T p v u dv du H0 H) : Typed K H u := typed_giv t.giu
/-! ### what is told, and how it is shown -/
def Tl (K : PySem.W.Frag) (H : Hp) (L : Addr) (ds : List PyData) : Prop := ∃ vs, H L = some (.lst vs) ∧ DxAll K H vs ds ∧ vs ≠ [] ∧ (∀ d ∈ ds, good d) ∧ ds.length ≤ 8
theorem tl_parts {L : Addr} {ds : List PyData} (h : Tl K H L ds) : ∃ vs, H L = some (.lst vs) ∧ DxAll K H vs ds ∧ vs ≠ [] ∧ (PyData.list ds).showable = true ∧ (PyData.list ds).depth ≤ 40 ∧ (PyData.list ds).shown.length ≤ sizeLine := by
  obtain ⟨vs, e, hd, ne, hg, hl⟩ := h
  have sh := shown_list hg hl
  exact ⟨vs, e, hd, ne, sh.1, sh.2.1, sh.2.2⟩
def FD (ts hs : List Int) : List PyData := [.str "flip", .tuple (ts.map PyData.int), .tuple (hs.map PyData.int)]
def CD (d : PyData) : List PyData := [.str "cell", d, .bool true]
theorem good_txt {x : Str} (h : (reprText x).length ≤ 200) : good (.str x) := small_good ⟨rfl, Nat.zero_le _, h⟩
theorem good_ints {ts : List Int} (h : ∀ k ∈ ts, 0 ≤ k ∧ k ≤ 39) (hl : ts.length ≤ 2) : good (.tuple (ts.map PyData.int)) := good_tuple (fun d hd => by
  obtain ⟨k, hk, rfl⟩ := List.mem_map.mp hd
  have := h k hk
  exact small_int (by rw [show (2 : Nat) ^ 100 = 1267650600228229401496703205376 by decide]; omega)) (by rw [List.length_map]; omega)
theorem tl_flip {L t1 t2 : Addr} {ts hs : List Int} (e : H L = some (.lst [.str "flip", .ref t1, .ref t2])) (e1 : H t1 = some (.tup (ts.map V.int))) (e2 : H t2 = some (.tup (hs.map V.int)))
    (h1 : ∀ k ∈ ts, 0 ≤ k ∧ k ≤ 39) (h2 : ∀ k ∈ hs, 0 ≤ k ∧ k ≤ 39) (l1 : ts.length ≤ 2) (l2 : hs.length ≤ 2) : Tl K H L (FD ts hs) := by
  refine ⟨_, e, .cons (.dp (.str _)) (.cons (.dp (.tup (SqT.of e1) (dps_ints ts))) (.cons (.dp (.tup (SqT.of e2) (dps_ints hs))) .nil)), by simp, fun d hd => ?_, by show 3 ≤ 8; decide⟩
  unfold FD at hd
  simp only [List.mem_cons, List.not_mem_nil, or_false] at hd
  rcases hd with rfl | rfl | rfl
  · exact good_txt (by decide +kernel)
  · exact good_ints h1 l1
  · exact good_ints h2 l2
theorem tl_cell {L : Addr} {x : V} {d : PyData} (e : H L = some (.lst [.str "cell", x, .bl true])) (g : Giv K H x d) (gd : good d) : Tl K H L (CD d) := by
  refine ⟨_, e, .cons (.dp (.str _)) (.cons (giv_dx g) (.cons (.dp (.bl _)) .nil)), by simp, fun d' hd => ?_, by show 3 ≤ 8; decide⟩
  unfold CD at hd
  simp only [List.mem_cons, List.not_mem_nil, or_false] at hd
  rcases hd with rfl | rfl | rfl
  · exact good_txt (by decide +kernel)
  · exact gd
  · exact small_good (small_bool _)
/-- what is due for one cell -/
def Due1 (v : V) (H : Hp) (L : Addr) : Prop := (∃ (i : Int) (t1 t2 : Addr), v = .int i ∧ 1 ≤ i ∧ i ≤ 39 ∧ H L = some (.lst [.str "flip", .ref t1, .ref t2]) ∧ H t1 = some (.tup [.int 0]) ∧ H t2 = some (.tup [.int i])) ∨ (isV v 1 39 = false ∧ H L = some (.lst [.str "cell", v, .bl true]))
theorem Due1.extN {L : Addr} (e : LamX.ExtN H H') (h : Due1 v H L) : Due1 v H' L := by
  rcases h with ⟨i, t1, t2, a, b, c, h1, h2, h3⟩ | ⟨a, h1⟩
  · exact .inl ⟨i, t1, t2, a, b, c, e _ _ h1 (by intro _ z; cases z), e _ _ h2 (by intro _ z; cases z), e _ _ h3 (by intro _ z; cases z)⟩
  · exact .inr ⟨a, e _ _ h1 (by intro _ z; cases z)⟩
theorem cells1 {i : Int} (h : 0 ≤ i ∧ i ≤ 39) : ∀ k ∈ [i], 0 ≤ k ∧ k ≤ 39 := fun k hk => by
  rw [List.mem_singleton.mp hk]
  exact h
theorem cells2 {ks : List Int} {i j : Int} (pm : ks.Perm [i, j]) (h1 : 0 ≤ i ∧ i ≤ 39) (h2 : 0 ≤ j ∧ j ≤ 39) : (∀ k ∈ ks, 0 ≤ k ∧ k ≤ 39) ∧ ks.length ≤ 2 := by
  refine ⟨fun k hk => ?_, by rw [pm.length_eq]; exact Nat.le_refl 2⟩
  have := pm.mem_iff.mp hk
  simp only [List.mem_cons, List.not_mem_nil, or_false] at this
  rcases this with rfl | rfl
  · exact h1
  · exact h2
end
section
variable {P : Program} {w : World} {K : PySem.W.Frag} {mg : Str → Option Value} {base : Heap}
abbrev lamQ : Str := (envOfC "law" (defScope sLaw) 0 0 .none).qual ++ "<lambda>"
def spLaw (K : PySem.W.Frag) (tt : List (Addr × Addr)) : Sp := fun vs H Q _ => ∃ (a : Addr) (ns : List Int), vs = [.ref a] ∧ SqL K H a (ns.map V.int) ∧ ns.length ≤ 63 ∧ LamX.Tabs (tt.map fun x => (x.2, lamQ)) H ∧ ∀ H', Q (.bl true) H'
abbrev nLaw : List Str := ["_law_script", "_law_k", "_law_pot_here", "_law_turn", "_law_near", "_law_far", "_law_due_here"]
theorem scLaw : FnScope nLaw ["_law_script"] (defScope sLaw) := ⟨rfl, rfl, rfl, by decide +kernel, rfl, by decide +kernel, by decide +kernel⟩
/-- _law_met, as it stands -/
structure MetF (K : PySem.W.Frag) (mg : Str → Option Value) (g : Addr) (fd : FuncData) : Prop where
  fn : Fun K "_law_met" "_law_met" sMet g fd
  m : mg "_law_met" = some (.ref g)
  k : PySem.W.keepIn K (.ref g) = true
  b : Binds K fd ["_law_call"] []
theorem ok_law {f c Pt gM CF CN c1 c2 c4 : Addr} {fd fdM : FuncData} (F : FunC K "law" "law" sLaw f c fd) (B : Bl mg) (TB : LamX.TabB base mg c Pt) (M : MetF K mg gM fdM) (TF : FC K mg CF) (TN : NC K mg CN) (R : ErrN K mg CN c1 c2 c4)
    (DA : HasM P w K mg base CF "tested" 2 ["self"] (spTested CF)) (DB : HasM P w K mg base CF "toggled" 2 ["self"] (spToggled CF))
    (DP : Has P w K mg base "_law_pot" 2 ["_law_script", "_law_k"] (spPot K)) (DO : Has P w K mg base "_law_one" 4 ["_law_pot_here"] (spAny K)) (DI : Has P w K mg base "_law_is_int" 2 ["_law_item", "_law_low", "_law_high"] (spBetA K))
    (DD : Has P w K mg base "_law_due" 3 ["_law_near", "_law_far", "_law_least", "_law_is_swap"] (spDue K)) (DX : Has P w K mg base "_law_effects_right" 10 ["_law_pot_here"] spEff)
    (DT : ∃ f fd, FnOk P w K mg base (L2.CX P w) 8 f fd ["cell"] (spTurn K CF CN) ∧ mg "turn_flip" = some (.ref f) ∧ PySem.W.keepIn K (.ref f) = true ∧ KBn K fd ["cell"] 0 ["cell"] (fun us ws => us ++ ws) (fun vs zs => vs ++ zs))
    (DE : ∃ f fd, FnOk P w K mg base (L2.CX P w) 8 f fd ["cell", "to"] (spAdd K CF CN) ∧ mg "add_flip" = some (.ref f) ∧ PySem.W.keepIn K (.ref f) = true ∧ KBn K fd ["cell", "to"] 1 ["to"] (fun us ws => us ++ ws) (fun vs zs => vs ++ zs))
    (DW : HasE P w K mg base "swap_flip" ["one", "other"] (spSwap K CF CN)) :
    FnG P w K mg base CX0 11 f fd ["_law_script"] (spLaw K [(c, Pt)]) := by
  obtain ⟨fP, fdP, GP, mP, kP, bP⟩ := DP
  obtain ⟨fO, fdO, GO, mO, kO, bO⟩ := DO
  obtain ⟨fI, fdI, GI, mI, kI, bI⟩ := DI
  obtain ⟨fD, fdD, GD, mD, kD, bD⟩ := DD
  obtain ⟨fX, fdX, GX, mX, kX, bX⟩ := DX
  obtain ⟨fT, fdT, GT, mT, kT, kbT⟩ := DT
  obtain ⟨fE, fdE, GE, mE, kE, kbE⟩ := DE
  obtain ⟨fW, fdW, GW, mW, kW, bW⟩ := DW
  obtain ⟨FM, mM, kM, bM⟩ := M
  obtain ⟨oc, od, kV, doc, pm, an, cdv, ct, osl, rfl, lkM, hcM⟩ := FM.ex
  refine fnG_ofC F scLaw (fun vs H Q E h => ?_) (fun A outer s H vs Q E gs hr h => ?_)
  · obtain ⟨a, ns, rfl, _⟩ := h
    rfl
  · obtain ⟨a, ns, rfl, hS, hlen, hT, out⟩ := h
    have r2 : Room 2 (A.deeper (envOfC "law" (defScope sLaw) s.heap.objs.size f (.ref c))) := hr.mono (by decide)
    have r3 : Room 3 (A.deeper (envOfC "law" (defScope sLaw) s.heap.objs.size f (.ref c))) := hr.mono (by decide)
    have r4 : Room 4 (A.deeper (envOfC "law" (defScope sLaw) s.heap.objs.size f (.ref c))) := hr.mono (by decide)
    have hu := hr.units
    have tabU : ∀ x ∈ [(Pt, lamQ)], x.1 = Pt → x.2 = lamQ := fun x hx _ => by rw [List.mem_singleton.mp hx]
    refine ⟨_, pss_cons (ps_for PassesOwn.never rfl (pi_range1 (by rfl) B.range (pa_cons (pe_callB (call_max2 rfl) (by rfl) B.max (by decide +kernel) (pa_cons pe_int (pa_cons (pe_callB (call_min2 rfl) (by rfl) B.min (by decide +kernel) (pa_cons pe_int (pa_cons (pe_callB call_len_seq (by rfl) B.len PySem.boot_len (pa_cons (pv 0) pa_nil)) pa_nil))) pa_nil))) pa_nil)) (pg_name (i := 1) scLaw.nd rfl (Or.inl rfl)) (pss_cons (ps_set (i := 2) scLaw.nd rfl (Or.inl rfl) (pe_call GP r2 (by rfl) mP kP bP .nil pass0 (pa_cons (pv 0) (pa_cons (pv 1) pa_nil))))
      (pss_cons (ps_for PassesOwn.never rfl (pi_range1 (by rfl) B.range (pa_cons pe_int pa_nil)) (pg_name (i := 3) scLaw.nd rfl (Or.inl rfl)) (pss_cons (ps_asg (pe_tup (pa_cons (pe_call GO r4 (by rfl) mO kO bO .nil pass0 (pa_cons (pv 2) pa_nil)) (pa_cons (pe_call GO r4 (by rfl) mO kO bO .nil pass0 (pa_cons (pv 2) pa_nil)) pa_nil))) (pg_tup rfl (pgs_cons (pg_name (i := 4) scLaw.nd rfl (Or.inr rfl)) (pgs_cons (pg_name (i := 5) scLaw.nd rfl (Or.inr rfl)) pgs_nil))))
      (pss_cons (ps_set (i := 6) scLaw.nd rfl (Or.inl rfl) (pe_ifExp (pt_val (pe_call GI r2 (by rfl) mI kI bI .nil pass0 (pa_cons (pv 4) (pa_cons pe_int (pa_cons pe_int pa_nil))))) (pe_lst (pa_cons pe_str (pa_cons (pe_tup (pa_cons pe_int pa_nil)) (pa_cons (pe_tup (pa_cons (pv 4) pa_nil)) pa_nil)))) (pe_lst (pa_cons pe_str (pa_cons (pv 4) (pa_cons pe_bl pa_nil))))))
      (pss_cons (ps_if (pt_cmpR op_ne (pe_callB (cr_reprL gs hu) (by rfl) B.repr (by decide +kernel) (pa_cons (LamX.pe_lamcall (T := [(Pt, lamQ)]) (k := 8) (by rfl) mM kM lkM hcM bM scMet rfl (Or.inl rfl) (met_gives B TF TN R DA DB r3) TB rfl (List.mem_singleton.mpr rfl) tabU hr (LamX.lamS_by (by show LamX.lamSB (defScope sLaw) _ = true; decide +kernel)) (by rfl) (by intros; rfl) (fun A outer s H E f c' hr => pe_callN0 (E := E) (ks := ["cell"]) GT hr (by rfl) mT kT kbT (passes_call (takes_of rfl rfl rfl rfl) (fun _ _ _ _ h => h)) (pk_cons (pv 4) pk_nil))) pa_nil)) (pe_callB (cr_reprL gs hu) (by rfl) B.repr (by decide +kernel) (pa_cons (pv 6) pa_nil)) (nomark _)) (pss_one (ps_ret pe_bl)) pss_nil)
      (pss_cons (ps_if (pt_cmpR op_ne (pe_callB (cr_reprL gs hu) (by rfl) B.repr (by decide +kernel) (pa_cons (LamX.pe_lamcall (T := [(Pt, lamQ)]) (k := 8) (by rfl) mM kM lkM hcM bM scMet rfl (Or.inl rfl) (met_gives B TF TN R DA DB r3) TB rfl (List.mem_singleton.mpr rfl) tabU hr (LamX.lamS_by (by show LamX.lamSB (defScope sLaw) _ = true; decide +kernel)) (by rfl) (by intros; rfl) (fun A outer s H E f c' hr => pe_callN (E := E) (n := 1) (ks := ["to"]) GE hr (by rfl) mE kE kbE (passes_call (takes_of rfl rfl rfl rfl) (fun _ _ _ _ h => h)) (pa_cons (pv 4) pa_nil) (pk_cons (pv 5) pk_nil))) pa_nil)) (pe_callB (cr_reprL gs hu) (by rfl) B.repr (by decide +kernel) (pa_cons (pe_call GD r3 (by rfl) mD kD bD .nil pass0 (pa_cons (pv 4) (pa_cons (pv 5) (pa_cons pe_int (pa_cons pe_bl pa_nil))))) pa_nil)) (nomark _)) (pss_one (ps_ret pe_bl)) pss_nil)
      (pss_one (ps_if (pt_cmpR op_ne (pe_callB (cr_reprL gs hu) (by rfl) B.repr (by decide +kernel) (pa_cons (LamX.pe_lamcall (T := [(Pt, lamQ)]) (k := 8) (by rfl) mM kM lkM hcM bM scMet rfl (Or.inl rfl) (met_gives B TF TN R DA DB r3) TB rfl (List.mem_singleton.mpr rfl) tabU hr (LamX.lamS_by (by show LamX.lamSB (defScope sLaw) _ = true; decide +kernel)) (by rfl) (by intros; rfl) (fun A outer s H E f c' hr => pe_call (E := E) GW hr (by rfl) mW kW bW .nil (passes_call (takes_of rfl rfl rfl rfl) (fun _ _ _ _ h => h)) (pa_cons (pv 4) (pa_cons (pv 5) pa_nil)))) pa_nil)) (pe_callB (cr_reprL gs hu) (by rfl) B.repr (by decide +kernel) (pa_cons (pe_call GD r3 (by rfl) mD kD bD .nil pass0 (pa_cons (pv 4) (pa_cons (pv 5) (pa_cons pe_int (pa_cons pe_bl pa_nil))))) pa_nil)) (nomark _)) (pss_one (ps_ret pe_bl)) pss_nil)))))))
      (pss_one (ps_if (pt_not (pt_val (pe_call GX hr (by rfl) mX kX bX .nil pass0 (pa_cons (pv 2) pa_nil)))) (pss_one (ps_ret pe_bl)) pss_nil)))))
      (pss_one (ps_ret pe_bl)), ?_⟩
    refine ⟨_, rfl, a, _, rfl, .inl hS, _, _, rfl, _, _, rfl, _, rfl, ?_, ?_, ?_⟩
    · rw [List.length_map]
      split <;> split <;> omega
    · rw [List.length_map]
      split <;> split <;> omega
    refine for_range (lo := 0) (fun i σ H' => LamX.ExtN H H' ∧ LamX.Tabs [(Pt, lamQ)] H' ∧ ∃ (v1 v2 v3 v4 v5 v6 : Option V), σ = [some (.ref a), v1, v2, v3, v4, v5, v6])
      ⟨LamX.ExtN.refl _, hT, none, none, none, none, none, none, rfl⟩ ?_ ?_
    · rintro i σ H1 hi ⟨s1, tb1, v1, v2, v3, v4, v5, v6, rfl⟩
      have hi8 : i < 9 := by
        rw [List.length_map] at hi
        revert hi
        split <;> split <;> omega
      refine ⟨_, rfl, _, rfl, a, ns, i, (by rw [Int.zero_add]; rfl), seq_extN s1 hS, by omega, fun p H2 hp s2 pot2 => ?_⟩
      have tb2 := tb1.ext s2
      refine ⟨6, rfl, by decide, by decide, ?_⟩
      refine for_range (lo := 0) (n := 6) (fun j σ H' => ExtP p H2 H' ∧ PotAt H' p ∧ LamX.Tabs [(Pt, lamQ)] H' ∧ ∃ (v3 v4 v5 v6 : Option V), σ = [some (.ref a), some (.int (0 + (i : Int))), some (.ref p), v3, v4, v5, v6])
        ⟨fun _ _ _ h _ => h, pot2, tb2, _, _, _, _, rfl⟩ ?_ ?_
      · rintro j σ H3 hj ⟨x3, pot3, tb3, w3, w4, w5, w6, rfl⟩
        refine ⟨_, rfl, p, rfl, pot3, fun v dv H4 b4 pot4 gv4 gdv => ?_⟩
        refine ⟨_, rfl, p, rfl, pot4, fun u du H5 b5 pot5 gu5 gdu => ?_⟩
        refine ⟨(by show 2 ≤ sizeLine; decide), fun Tp hTp => ⟨Tp, _, rfl, SqT.of upd_same, rfl, _, _, rfl, _, _, rfl, rfl, ?_⟩⟩
        have two : Two K [(Pt, lamQ)] p v u dv du H2 (upd H5 Tp (.tup [v, u])) :=
          Two.same (H := H5) ⟨(x3.trans (ExtP.but b4)).trans (ExtP.but b5), pot5, tabs_but pot4 b5 (tabs_but pot3 b4 tb3), giv_but b5 gv4, gu5⟩ (same_new hTp)
        generalize upd H5 Tp (.tup [v, u]) = H6 at two ⊢
        dsimp only []
        refine seq_outS (fun σ' H' => ∃ Ld, σ' = [some (.ref a), some (.int (0 + (i : Int))), some (.ref p), some (.int (0 + (j : Int))), some v, some u, some (.ref Ld)] ∧ Two K [(Pt, lamQ)] p v u dv du H2 H' ∧ Due1 v H' Ld) ?_ ?_
        rotate_left
        · intro N hN
          refine ⟨_, rfl, v, 1, 39, rfl, two.tv, _, rfl, ?_⟩
          cases z : isV v 1 39 with
          | true =>
            obtain ⟨k, rfl, k0, k1⟩ := isV_is z
            refine iteT ⟨(by show 1 ≤ sizeLine; decide), fun a1 h1 => ⟨_, rfl, (by show 1 ≤ sizeLine; decide), fun a2 h2 => ⟨(by show 3 ≤ sizeLine; decide), fun L hL => ?_⟩⟩⟩
            have t1 := same_new (o := .tup [V.int 0]) h1
            have t2 := same_new (o := .tup [V.int k]) h2
            have t3 := same_new (o := .lst [.str "flip", .ref a1, .ref a2]) hL
            exact hN _ _ ⟨L, rfl, ((two.same t1).same t2).same t3, .inl ⟨k, a1, a2, rfl, k0, k1, upd_same, t3 _ _ (t2 _ _ upd_same), t3 _ _ upd_same⟩⟩
          | false =>
            refine iteF ⟨_, rfl, (by show 3 ≤ sizeLine; decide), fun L hL => ?_⟩
            exact hN _ _ ⟨L, rfl, two.same (same_new hL), .inr ⟨z, upd_same⟩⟩
        rintro σ6 H6 ⟨Ld, rfl, two6, due6⟩
        refine seq_outS (fun σ' H' => σ' = [some (.ref a), some (.int (0 + (i : Int))), some (.ref p), some (.int (0 + (j : Int))), some v, some u, some (.ref Ld)] ∧ Two K [(Pt, lamQ)] p v u dv du H2 H') ?_ ?_
        rotate_left
        · intro N hN
          refine ⟨two6.tab, fun H7 e7 tb7 => ?_⟩
          have two7 := two6.extN e7 tb7
          have due7 := due6.extN e7
          intro L0 Q' E' hL0 gd bd
          have s8 := same_new (o := .lst [.str "other"]) hL0
          have two8 := two7.same s8
          have due8 := due7.extN (.of s8)
          refine ⟨_, rfl, rfl, rfl, v, rfl, two8.tv, fun k ek k0 k1 q H9 hq s9 fp => ?_, fun z d H9 hd s9 e => ?_⟩
          · refine gd q _ _ H9 fp fun L t1 t2 H10 hL s10 eL e1 e2 => ?_
            have two10 := (two8.same s9).same s10
            have due10 := due8.extN (.of (s9.trans s10))
            obtain ⟨xs, p1, p2, p3, p4, p5, p6⟩ := tl_parts (tl_flip (K := K) eL e1 e2 (cells1 (by decide)) (cells1 ⟨by omega, k1⟩) (by show 1 ≤ 2; decide) (by show 1 ≤ 2; decide))
            refine ⟨L, xs, _, rfl, p1, p2, p3, p4, p5, p6, ?_⟩
            rcases due10 with ⟨i', t1', t2', ei, i0, i1, h1, h2, h3⟩ | ⟨z, _⟩
            · rw [ek] at ei
              cases ei
              obtain ⟨ys, q1, q2, q3, q4, q5, q6⟩ := tl_parts (tl_flip (K := K) (ts := [0]) (hs := [k]) h1 h2 h3 (cells1 (by decide)) (cells1 ⟨by omega, k1⟩) (by show 1 ≤ 2; decide) (by show 1 ≤ 2; decide))
              refine ⟨_, rfl, Ld, ys, _, rfl, q1, q2, q3, q4, q5, q6, rfl, _, rfl, ?_⟩
              rw [decide_eq_true rfl]
              exact iteF (hN _ _ ⟨rfl, two10⟩)
            · rw [ek, isV_int.mpr ⟨k0, k1⟩] at z
              cases z
          · refine bd d v H9 e fun L H10 hL s10 eL => ?_
            have two10 := (two8.same s9).same s10
            have due10 := due8.extN (.of (s9.trans s10))
            obtain ⟨xs, p1, p2, p3, p4, p5, p6⟩ := tl_parts (tl_cell eL two10.giv gdv)
            refine ⟨L, xs, _, rfl, p1, p2, p3, p4, p5, p6, ?_⟩
            rcases due10 with ⟨i', t1', t2', ei, i0, i1, h1, h2, h3⟩ | ⟨_, h1⟩
            · rw [ei, isV_int.mpr ⟨i0, i1⟩] at z
              cases z
            · obtain ⟨ys, q1, q2, q3, q4, q5, q6⟩ := tl_parts (tl_cell h1 two10.giv gdv)
              refine ⟨_, rfl, Ld, ys, _, rfl, q1, q2, q3, q4, q5, q6, rfl, _, rfl, ?_⟩
              rw [decide_eq_true rfl]
              exact iteF (hN _ _ ⟨rfl, two10⟩)
        rintro σ7 H7 ⟨rfl, two7⟩
        clear due6 two6 two
        refine seq_outS (fun σ' H' => σ' = [some (.ref a), some (.int (0 + (i : Int))), some (.ref p), some (.int (0 + (j : Int))), some v, some u, some (.ref Ld)] ∧ Two K [(Pt, lamQ)] p v u dv du H2 H') ?_ ?_
        rotate_left
        · intro N hN
          refine ⟨two7.tab, fun H8 e8 tb8 => ?_⟩
          have two8 := two7.extN e8 tb8
          intro L0 Q' E' hL0 gd bd
          have two9 := two8.same (same_new (o := .lst [.str "other"]) hL0)
          refine ⟨_, rfl, _, rfl, rfl, rfl, v, u, rfl, two9.tv, two9.tu, fun k l ek el k0 k1 l0 l1 kl q H10 hq s10 fp => ?_, fun z d H10 hd s10 e => ?_, fun z z2 d H10 hd s10 e => ?_⟩
          · refine gd q _ _ H10 fp fun L t1 t2 H11 hL s11 eL e1 e2 => ?_
            have two11 := (two9.same s10).same s11
            obtain ⟨xs, p1, p2, p3, p4, p5, p6⟩ := tl_parts (tl_flip (K := K) eL e1 e2 (cells1 ⟨k0, k1⟩) (cells1 ⟨by omega, l1⟩) (by show 1 ≤ 2; decide) (by show 1 ≤ 2; decide))
            refine ⟨L, xs, _, rfl, p1, p2, p3, p4, p5, p6, ?_⟩
            refine ⟨_, rfl, _, rfl, v, u, 0, false, rfl, two11.tv, two11.tu, by decide, fun z => ?_, fun _ z => ?_, fun i' j' ei ej a0 a1 b0 b1 ab Ld t1' t2' ts hs H12 hLd s12 h1 h2 h3 hsw hno => ?_⟩
            · rw [ek, isV_int.mpr ⟨k0, k1⟩] at z
              cases z
            · rcases z with z | z
              · rw [el, isV_int.mpr ⟨l0, l1⟩] at z
                cases z
              · rw [ek, el] at z
                exact absurd (by injection z) kl
            · rw [ek] at ei
              cases ei
              rw [el] at ej
              cases ej
              have two12 := two11.same s12
              obtain ⟨rfl, rfl⟩ := hno rfl
              obtain ⟨ys, q1, q2, q3, q4, q5, q6⟩ := tl_parts (tl_flip (K := K) h1 h2 h3 (cells1 ⟨k0, k1⟩) (cells1 ⟨by omega, l1⟩) (by show 1 ≤ 2; decide) (by show 1 ≤ 2; decide))
              refine ⟨Ld, ys, _, rfl, q1, q2, q3, q4, q5, q6, rfl, _, rfl, ?_⟩
              rw [decide_eq_true rfl]
              exact iteF (hN _ _ ⟨rfl, two12⟩)
          · refine bd d v H10 e fun L H11 hL s11 eL => ?_
            have two11 := (two9.same s10).same s11
            obtain ⟨xs, p1, p2, p3, p4, p5, p6⟩ := tl_parts (tl_cell eL two11.giv gdv)
            refine ⟨L, xs, _, rfl, p1, p2, p3, p4, p5, p6, ?_⟩
            refine ⟨_, rfl, _, rfl, v, u, 0, false, rfl, two11.tv, two11.tu, by decide, fun _ Ld H12 hLd s12 h1 => ?_, fun z' => ?_, fun i' j' ei ej a0 a1 => ?_⟩
            · have two12 := two11.same s12
              obtain ⟨ys, q1, q2, q3, q4, q5, q6⟩ := tl_parts (tl_cell h1 two12.giv gdv)
              refine ⟨Ld, ys, _, rfl, q1, q2, q3, q4, q5, q6, rfl, _, rfl, ?_⟩
              rw [decide_eq_true rfl]
              exact iteF (hN _ _ ⟨rfl, two12⟩)
            · rw [z] at z'
              cases z'
            · rw [ei, isV_int.mpr ⟨a0, a1⟩] at z
              cases z
          · refine bd d u H10 e fun L H11 hL s11 eL => ?_
            have two11 := (two9.same s10).same s11
            obtain ⟨xs, p1, p2, p3, p4, p5, p6⟩ := tl_parts (tl_cell eL two11.giu gdu)
            refine ⟨L, xs, _, rfl, p1, p2, p3, p4, p5, p6, ?_⟩
            refine ⟨_, rfl, _, rfl, v, u, 0, false, rfl, two11.tv, two11.tu, by decide, fun z' => ?_, fun _ _ Ld H12 hLd s12 h1 => ?_, fun i' j' ei ej a0 a1 b0 b1 ab => ?_⟩
            · rw [z] at z'
              cases z'
            · have two12 := two11.same s12
              obtain ⟨ys, q1, q2, q3, q4, q5, q6⟩ := tl_parts (tl_cell h1 two12.giu gdu)
              refine ⟨Ld, ys, _, rfl, q1, q2, q3, q4, q5, q6, rfl, _, rfl, ?_⟩
              rw [decide_eq_true rfl]
              exact iteF (hN _ _ ⟨rfl, two12⟩)
            · rcases z2 with z2 | z2
              · rw [ej, isV_int.mpr ⟨b0, b1⟩] at z2
                cases z2
              · rw [ei, ej] at z2
                exact absurd (by injection z2) ab
        rintro σ8 H8 ⟨rfl, two8⟩
        clear two7
        refine sta_outS (fun σ' H' => σ' = [some (.ref a), some (.int (0 + (i : Int))), some (.ref p), some (.int (0 + (j : Int))), some v, some u, some (.ref Ld)] ∧ Two K [(Pt, lamQ)] p v u dv du H2 H') ?_ ?_
        · rintro σ9 H9 ⟨rfl, two9⟩
          exact ⟨two9.ext, two9.pot, two9.tab, _, _, _, _, rfl⟩
        have two7 := two8
        clear two8
        · intro N hN
          refine ⟨two7.tab, fun H8 e8 tb8 => ?_⟩
          have two8 := two7.extN e8 tb8
          intro L0 Q' E' hL0 gd bd
          have two9 := two8.same (same_new (o := .lst [.str "other"]) hL0)
          refine ⟨_, rfl, _, rfl, v, u, rfl, two9.tv, two9.tu, fun k l ek el k0 k1 l0 l1 kl q ks H10 hq s10 pm pw fp => ?_, fun z d H10 hd s10 e => ?_, fun z z2 d H10 hd s10 e => ?_⟩
          · refine gd q _ _ H10 fp fun L t1 t2 H11 hL s11 eL e1 e2 => ?_
            have two11 := (two9.same s10).same s11
            obtain ⟨xs, p1, p2, p3, p4, p5, p6⟩ := tl_parts (tl_flip (K := K) eL e1 e2 (cells2 pm ⟨by omega, k1⟩ ⟨by omega, l1⟩).1 (cells2 pm ⟨by omega, k1⟩ ⟨by omega, l1⟩).1 (cells2 pm ⟨by omega, k1⟩ ⟨by omega, l1⟩).2 (cells2 pm ⟨by omega, k1⟩ ⟨by omega, l1⟩).2)
            refine ⟨L, xs, _, rfl, p1, p2, p3, p4, p5, p6, ?_⟩
            refine ⟨_, rfl, _, rfl, v, u, 1, true, rfl, two11.tv, two11.tu, by decide, fun z => ?_, fun _ z => ?_, fun i' j' ei ej a0 a1 b0 b1 ab Ld t1' t2' ts hs H12 hLd s12 h1 h2 h3 hsw hno => ?_⟩
            · rw [ek, isV_int.mpr ⟨k0, k1⟩] at z
              cases z
            · rcases z with z | z
              · rw [el, isV_int.mpr ⟨l0, l1⟩] at z
                cases z
              · rw [ek, el] at z
                exact absurd (by injection z) kl
            · rw [ek] at ei
              cases ei
              rw [el] at ej
              cases ej
              have two12 := two11.same s12
              obtain ⟨pm2, pw2, rfl⟩ := hsw rfl
              rw [le_same (pm2.trans pm.symm) pw2 pw] at h2 h3
              obtain ⟨ys, q1, q2, q3, q4, q5, q6⟩ := tl_parts (tl_flip (K := K) h1 h2 h3 (cells2 pm ⟨by omega, k1⟩ ⟨by omega, l1⟩).1 (cells2 pm ⟨by omega, k1⟩ ⟨by omega, l1⟩).1 (cells2 pm ⟨by omega, k1⟩ ⟨by omega, l1⟩).2 (cells2 pm ⟨by omega, k1⟩ ⟨by omega, l1⟩).2)
              refine ⟨Ld, ys, _, rfl, q1, q2, q3, q4, q5, q6, rfl, _, rfl, ?_⟩
              rw [decide_eq_true rfl]
              exact iteF (hN _ _ ⟨rfl, two12⟩)
          · refine bd d v H10 e fun L H11 hL s11 eL => ?_
            have two11 := (two9.same s10).same s11
            obtain ⟨xs, p1, p2, p3, p4, p5, p6⟩ := tl_parts (tl_cell eL two11.giv gdv)
            refine ⟨L, xs, _, rfl, p1, p2, p3, p4, p5, p6, ?_⟩
            refine ⟨_, rfl, _, rfl, v, u, 1, true, rfl, two11.tv, two11.tu, by decide, fun _ Ld H12 hLd s12 h1 => ?_, fun z' => ?_, fun i' j' ei ej a0 a1 => ?_⟩
            · have two12 := two11.same s12
              obtain ⟨ys, q1, q2, q3, q4, q5, q6⟩ := tl_parts (tl_cell h1 two12.giv gdv)
              refine ⟨Ld, ys, _, rfl, q1, q2, q3, q4, q5, q6, rfl, _, rfl, ?_⟩
              rw [decide_eq_true rfl]
              exact iteF (hN _ _ ⟨rfl, two12⟩)
            · rw [z] at z'
              cases z'
            · rw [ei, isV_int.mpr ⟨a0, a1⟩] at z
              cases z
          · refine bd d u H10 e fun L H11 hL s11 eL => ?_
            have two11 := (two9.same s10).same s11
            obtain ⟨xs, p1, p2, p3, p4, p5, p6⟩ := tl_parts (tl_cell eL two11.giu gdu)
            refine ⟨L, xs, _, rfl, p1, p2, p3, p4, p5, p6, ?_⟩
            refine ⟨_, rfl, _, rfl, v, u, 1, true, rfl, two11.tv, two11.tu, by decide, fun z' => ?_, fun _ _ Ld H12 hLd s12 h1 => ?_, fun i' j' ei ej a0 a1 b0 b1 ab => ?_⟩
            · rw [z] at z'
              cases z'
            · have two12 := two11.same s12
              obtain ⟨ys, q1, q2, q3, q4, q5, q6⟩ := tl_parts (tl_cell h1 two12.giu gdu)
              refine ⟨Ld, ys, _, rfl, q1, q2, q3, q4, q5, q6, rfl, _, rfl, ?_⟩
              rw [decide_eq_true rfl]
              exact iteF (hN _ _ ⟨rfl, two12⟩)
            · rcases z2 with z2 | z2
              · rw [ej, isV_int.mpr ⟨b0, b1⟩] at z2
                cases z2
              · rw [ei, ej] at z2
                exact absurd (by injection z2) ab
      · rintro σ H3 ⟨x3, pot3, tb3, w3, w4, w5, w6, rfl⟩
        refine ⟨_, rfl, p, rfl, pot3, fun H4 b4 pot4 => ⟨_, rfl, iteF ?_⟩⟩
        refine ⟨fun b o e nt => ?_, tabs_but pot3 b4 tb3, _, _, _, _, _, _, rfl⟩
        have e1 := s1 b o e nt
        have nb := ne_of_none e1 hp
        exact b4 b o nb (x3 b o nb (s2 b o e1) nt)
    · rintro σ H1 ⟨s1, tb1, v1, v2, v3, v4, v5, v6, rfl⟩
      exact out H1
end
end K17
namespace K17
open PySem PySem.Spec PyProof.Rows L2 Par
theorem kb_size {K : PySem.W.Frag} {x : Str} {st : Stmt} {f : Addr} {fd : FuncData} {y : Str} (F : FunD K x x (defArgs st) (defBody st) (defScope st) [] [("size", .int 40)] f fd)
    (h : ∀ (D : Addr) (doc pm : Value) (an : Option Addr) (cdv ct u v : Value), bindArgs (PySem.W.fnOf x x (defArgs st) (defBody st) (defScope st) .none (.ref D) doc pm an cdv ct) ⟨[u], [("size", v)]⟩ = pure [(y, u), ("size", v)]) :
    KBn K fd [y, "size"] 1 ["size"] (fun us ws => us ++ ws) (fun vs zs => vs ++ zs) := by
  obtain ⟨oc, od, dV, kV, doc, pm, an, cdv, ct, osl, rfl, lk, hcd, hD, hK⟩ := F.ex
  rcases hD with ⟨_, rfl⟩ | ⟨e, _⟩
  · rcases hK with e | ⟨D, rfl, hq⟩
    · cases e
    · refine ⟨fun s us ws X l1 l2 => ?_, fun r1 r2 => r1.append r2⟩
      match us, ws, l1, l2 with
      | [u], [v], _, _ => exact .of_eq (h D doc pm an cdv ct u v)
  · exact absurd rfl e
theorem kb_one {K : PySem.W.Frag} {x q : Str} {st : Stmt} {f : Addr} {fd : FuncData} {y : Str} (F : Fun K x q st f fd)
    (h : ∀ (kV doc pm : Value) (an : Option Addr) (cdv ct u v : Value), bindArgs (PySem.W.fnOf x q (defArgs st) (defBody st) (defScope st) .none kV doc pm an cdv ct) ⟨[u], [(y, v)]⟩ = pure ([("self", u), (y, v)] : List (Str × Value))) :
    KBn K fd ["self", y] 1 [y] (fun us ws => us ++ ws) (fun vs zs => vs ++ zs) := by
  obtain ⟨oc, od, kV, doc, pm, an, cdv, ct, osl, rfl, lk, hcd⟩ := F.ex
  refine ⟨fun s us ws X l1 l2 => ?_, fun r1 r2 => r1.append r2⟩
  match us, ws, l1, l2 with
  | [u], [v], _, _ => exact .of_eq (h kV doc pm an cdv ct u v)
theorem kb_ini {K : PySem.W.Frag} {f e : Addr} {fd : FuncData} {n : Nat} {ks : List Str} (F : FunD K "__init__" "Board.__init__" (defArgs mInit) (defBody mInit) (defScope mInit) [] [("up", .ref e)] f fd)
    (h : ∀ (D : Addr) (doc pm : Value) (an : Option Addr) (cdv ct : Value) (us ws : List Value), us.length = n → ws.length = ks.length →
      bindArgs (PySem.W.fnOf "__init__" "Board.__init__" (defArgs mInit) (defBody mInit) (defScope mInit) .none (.ref D) doc pm an cdv ct) ⟨us, ks.zip ws⟩ = pure ((["self", "size", "up"] : List Str).zip (us ++ ws))) :
    KBn K fd ["self", "size", "up"] n ks (fun us ws => us ++ ws) (fun vs zs => vs ++ zs) := by
  obtain ⟨oc, od, dV, kV, doc, pm, an, cdv, ct, osl, rfl, lk, hcd, hD, hK⟩ := F.ex
  rcases hD with ⟨_, rfl⟩ | ⟨e, _⟩
  · rcases hK with e | ⟨D, rfl, hq⟩
    · cases e
    · exact ⟨fun s us ws X l1 l2 => .of_eq (h D doc pm an cdv ct us ws l1 l2), fun r1 r2 => r1.append r2⟩
  · exact absurd rfl e
theorem kit_own {K : PySem.W.Frag} {D C : Addr} {b : Bool} (ne : D ≠ C) (hd : PySem.W.hasDictIn K C = true) (ty : PySem.W.typeIn K (.ref C) = some (.type "type")) (sub : PySem.W.subIn K (.ref D) (.ref C) = some b) :
    PySem.W.kitOne K (.ref D) (.ref C) = some b := by
  obtain ⟨cd, hc, _⟩ := PySem.W.any_some hd
  have e1 : (Value.ref D == Value.ref C) = false := beq_eq_false_iff_ne.mpr fun z => ne (Value.ref.inj z)
  have e2 : ((PySem.W.clsIn K C).isSome && PySem.W.typeIn K (.ref C) == some (.type "type")) = true := by
    rw [hc, ty]
    rfl
  show (if (Value.ref D == Value.ref C) = true then some true else if ((PySem.W.clsIn K C).isSome && PySem.W.typeIn K (.ref C) == some (.type "type")) = true then PySem.W.subIn K (.ref D) (.ref C) else none) = some b
  rw [if_neg (by rw [e1]; simp), if_pos e2]
  exact sub
theorem kit_blt {K : PySem.W.Frag} {D : Addr} {T : String} {b : Bool} (mt : PySem.W.kitMeta T = true) (sub : PySem.W.subIn K (.ref D) (.type T) = some b) : PySem.W.kitOne K (.ref D) (.type T) = some b := by
  have e1 : (Value.ref D == Value.type T) = false := beq_eq_false_iff_ne.mpr fun z => nomatch z
  show (if (Value.ref D == Value.type T) = true then some true else if PySem.W.kitMeta T = true then PySem.W.subIn K (.ref D) (.type T) else none) = some b
  rw [if_neg (by rw [e1]; simp), if_pos mt]
  exact sub
theorem rev_vals : ∀ {vs : List V} {us : List Value}, Vals vs us → Vals vs.reverse us.reverse
  | _, _, .nil => .nil
  | _, _, .cons r rs => by
    rw [List.reverse_cons, List.reverse_cons]
    exact (rev_vals rs).append (.cons r .nil)
theorem kb_back {K : PySem.W.Frag} {x : Str} {st : Stmt} {f : Addr} {fd : FuncData} {y z : Str} (F : Fun K x x st f fd)
    (h : ∀ (kV doc pm : Value) (an : Option Addr) (cdv ct u v : Value), bindArgs (PySem.W.fnOf x x (defArgs st) (defBody st) (defScope st) .none kV doc pm an cdv ct) ⟨[], [(z, v), (y, u)]⟩ = pure ([(y, u), (z, v)] : List (Str × Value))) :
    KBn K fd [y, z] 0 [z, y] (fun us ws => us ++ ws.reverse) (fun vs zs => vs ++ zs.reverse) := by
  obtain ⟨oc, od, kV, doc, pm, an, cdv, ct, osl, rfl, lk, hcd⟩ := F.ex
  refine ⟨fun s us ws X l1 l2 => ?_, fun r1 r2 => r1.append (rev_vals r2)⟩
  match us, ws, l1, l2 with
  | [], [v, u], _, _ => exact .of_eq (h kV doc pm an cdv ct u v)
theorem kb_two {K : PySem.W.Frag} {x : Str} {st : Stmt} {f : Addr} {fd : FuncData} {y z : Str} (F : Fun K x x st f fd)
    (h : ∀ (kV doc pm : Value) (an : Option Addr) (cdv ct u v : Value), bindArgs (PySem.W.fnOf x x (defArgs st) (defBody st) (defScope st) .none kV doc pm an cdv ct) ⟨[], [(y, u), (z, v)]⟩ = pure ([(y, u), (z, v)] : List (Str × Value))) :
    KBn K fd [y, z] 0 [y, z] (fun us ws => us ++ ws) (fun vs zs => vs ++ zs) := by
  obtain ⟨oc, od, kV, doc, pm, an, cdv, ct, osl, rfl, lk, hcd⟩ := F.ex
  refine ⟨fun s us ws X l1 l2 => ?_, fun r1 r2 => r1.append r2⟩
  match us, ws, l1, l2 with
  | [], [u, v], _, _ => exact .of_eq (h kV doc pm an cdv ct u v)
theorem kb_sole {K : PySem.W.Frag} {x : Str} {st : Stmt} {f : Addr} {fd : FuncData} {y : Str} (F : Fun K x x st f fd)
    (h : ∀ (kV doc pm : Value) (an : Option Addr) (cdv ct u : Value), bindArgs (PySem.W.fnOf x x (defArgs st) (defBody st) (defScope st) .none kV doc pm an cdv ct) ⟨[], [(y, u)]⟩ = pure ([(y, u)] : List (Str × Value))) :
    KBn K fd [y] 0 [y] (fun us ws => us ++ ws) (fun vs zs => vs ++ zs) := by
  obtain ⟨oc, od, kV, doc, pm, an, cdv, ct, osl, rfl, lk, hcd⟩ := F.ex
  refine ⟨fun s us ws X l1 l2 => ?_, fun r1 r2 => r1.append r2⟩
  match us, ws, l1, l2 with
  | [], [u], _, _ => exact .of_eq (h kV doc pm an cdv ct u)
theorem kit_no {K : PySem.W.Frag} {t c : Value} {cs : List Value} (h : PySem.W.kitOne K t c = some false) (hr : PySem.W.kitAny K t cs = some false) : PySem.W.kitAny K t (c :: cs) = some false :=
  kitAny_cons h (fun _ => hr) (fun z => nomatch z)
theorem kb_to {K : PySem.W.Frag} {f : Addr} {fd : FuncData} (F : Fun K "add_flip" "add_flip" sAdd f fd) : KBn K fd ["cell", "to"] 1 ["to"] (fun us ws => us ++ ws) (fun vs zs => vs ++ zs) := by
  obtain ⟨oc, od, kV, doc, pm, an, cdv, ct, osl, rfl, lk, hcd⟩ := F.ex
  refine ⟨fun s us ws X l1 l2 => ?_, fun r1 r2 => r1.append r2⟩
  match us, ws, l1, l2 with
  | [u], [v], _, _ => exact .of_eq rfl
theorem tabs_nil {tt : List (Addr × Addr)} {H : Hp} (h : ∀ p ∈ tt, H p.2 = some (.tbl #[])) : LamX.Tabs (tt.map fun x => (x.2, lamQ)) H := fun p hp => by
  obtain ⟨x, hx, rfl⟩ := List.mem_map.mp hp
  exact LamX.TabS.nil (h x hx)
theorem all_mk {q : Program} {l : PySem.W.OpenLaw} {w : World} {K : PySem.W.Frag} {h : Heap} {mg : Str → Option Value} {fa : Addr} (X : K.In h) (G : h.Ns mainGlobals mg) (hfa : mg "law" = some (.ref fa))
    {f1 : Addr} {oc1 kV1 dc1 pm1 cd1 ct1 : Value} {od1 an1 : Option Addr} {sl1 : Array (Option Value)}
    {f2 : Addr} {oc2 kV2 dc2 pm2 cd2 ct2 : Value} {od2 an2 : Option Addr} {sl2 : Array (Option Value)}
    {f3 : Addr} {oc3 kV3 dc3 pm3 cd3 ct3 : Value} {od3 an3 : Option Addr} {sl3 : Array (Option Value)}
    {f5 : Addr} {oc5 kV5 dc5 pm5 cd5 ct5 : Value} {od5 an5 : Option Addr} {sl5 : Array (Option Value)}
    {f7 : Addr} {oc7 kV7 dc7 pm7 cd7 ct7 : Value} {od7 an7 : Option Addr} {sl7 : Array (Option Value)}
    {f8 : Addr} {oc8 kV8 dc8 pm8 cd8 ct8 : Value} {od8 an8 : Option Addr} {sl8 : Array (Option Value)}
    {f9 : Addr} {oc9 kV9 dc9 pm9 cd9 ct9 : Value} {od9 an9 : Option Addr} {sl9 : Array (Option Value)}
    {f10 : Addr} {oc10 kV10 dc10 pm10 cd10 ct10 : Value} {od10 an10 : Option Addr} {sl10 : Array (Option Value)}
    {f12 : Addr} {oc12 kV12 dc12 pm12 cd12 ct12 : Value} {od12 an12 : Option Addr} {sl12 : Array (Option Value)}
    {f13 : Addr} {oc13 kV13 dc13 pm13 cd13 ct13 : Value} {od13 an13 : Option Addr} {sl13 : Array (Option Value)}
    {f14 : Addr} {oc14 kV14 dc14 pm14 cd14 ct14 : Value} {od14 an14 : Option Addr} {sl14 : Array (Option Value)}
    {f20 : Addr} {oc20 kV20 dc20 pm20 cd20 ct20 : Value} {od20 an20 : Option Addr} {sl20 : Array (Option Value)}
    {f21 : Addr} {oc21 kV21 dc21 pm21 cd21 ct21 : Value} {od21 an21 : Option Addr} {sl21 : Array (Option Value)}
    {f22 : Addr} {oc22 kV22 dc22 pm22 cd22 ct22 : Value} {od22 an22 : Option Addr} {sl22 : Array (Option Value)}
    {f23 : Addr} {oc23 kV23 dc23 pm23 cd23 ct23 : Value} {od23 an23 : Option Addr} {sl23 : Array (Option Value)}
    {f24 : Addr} {oc24 kV24 dc24 pm24 cd24 ct24 : Value} {od24 an24 : Option Addr} {sl24 : Array (Option Value)}
    {f25 : Addr} {oc25 kV25 dc25 pm25 cd25 ct25 : Value} {od25 an25 : Option Addr} {sl25 : Array (Option Value)}
    {f26 : Addr} {oc26 kV26 dc26 pm26 cd26 ct26 : Value} {od26 an26 : Option Addr} {sl26 : Array (Option Value)}
    {f27 : Addr} {oc27 kV27 dc27 pm27 cd27 ct27 : Value} {od27 an27 : Option Addr} {sl27 : Array (Option Value)}
    {f28 : Addr} {oc28 kV28 dc28 pm28 cd28 ct28 : Value} {od28 an28 : Option Addr} {sl28 : Array (Option Value)}
    {f29 : Addr} {oc29 kV29 dc29 pm29 cd29 ct29 : Value} {od29 an29 : Option Addr} {sl29 : Array (Option Value)}
    {f30 : Addr} {oc30 kV30 dc30 pm30 cd30 ct30 : Value} {od30 an30 : Option Addr} {sl30 : Array (Option Value)}
    {f31 : Addr} {oc31 kV31 dc31 pm31 cd31 ct31 : Value} {od31 an31 : Option Addr} {sl31 : Array (Option Value)}
    {f11 : Addr} {oc11 kV11 dc11 pm11 cd11 ct11 : Value} {od11 an11 : Option Addr} {sl11 : Array (Option Value)}
    {fL cL PL : Addr} {ocL kVL dcL pmL ctL : Value} {odL anL : Option Addr} {slL : Array (Option Value)}
    {f4 D4 : Addr} {t4 : Tok} {oc4 dc4 pm4 cd4 ct4 : Value} {od4 an4 : Option Addr} {sl4 : Array (Option Value)}
    {f6 D6 : Addr} {t6 : Tok} {oc6 dc6 pm6 cd6 ct6 : Value} {od6 an6 : Option Addr} {sl6 : Array (Option Value)}
    {C : Addr}
    {fI DI e : Addr} {ocI dcI pmI cdI ctI : Value} {odI anI : Option Addr} {slI : Array (Option Value)} {ode : Option Addr} {ne : Nat} {sle : Array (Option Value)}
    {fS : Addr} {ocS kVS dcS pmS cdS ctS : Value} {odS anS : Option Addr} {slS : Array (Option Value)}
    {fU : Addr} {ocU kVU dcU pmU cdU ctU : Value} {odU anU : Option Addr} {slU : Array (Option Value)}
    {fY : Addr} {ocY kVY dcY pmY cdY ctY : Value} {odY anY : Option Addr} {slY : Array (Option Value)}
    {fZ : Addr} {ocZ kVZ dcZ pmZ cdZ ctZ : Value} {odZ anZ : Option Addr} {slZ : Array (Option Value)}
    {V : Addr}
    {fJ : Addr} {ocJ kVJ dcJ pmJ cdJ ctJ : Value} {odJ anJ : Option Addr} {slJ : Array (Option Value)}
    {fg1 : Addr} {ocg1 kVg1 dcg1 pmg1 cdg1 ctg1 : Value} {odg1 ang1 : Option Addr} {slg1 : Array (Option Value)}
    {fg2 : Addr} {ocg2 kVg2 dcg2 pmg2 cdg2 ctg2 : Value} {odg2 ang2 : Option Addr} {slg2 : Array (Option Value)}
    {fg3 : Addr} {ocg3 kVg3 dcg3 pmg3 cdg3 ctg3 : Value} {odg3 ang3 : Option Addr} {slg3 : Array (Option Value)}
    {W NnW : Addr} {nmW qnW : Str} {bsW : List Value} {snW : List Str} {subW : List Value} {abW : Bool} {colW : Option Bool} {ddW : Option Addr} {m0W m1W m2W m3W m5W : Option Value}
    {w0W : Addr}
    {fN : Addr} {ocN kVN dcN pmN cdN ctN : Value} {odN anN : Option Addr} {slN : Array (Option Value)}
    {E NnE : Addr} {nmE qnE : Str} {bsE : List Value} {snE : List Str} {subE : List Value} {abE : Bool} {colE : Option Bool} {ddE : Option Addr} {m0E m1E m2E m3E m5E : Option Value}
    {w0E : Addr}
    {fQ : Addr} {ocQ kVQ dcQ pmQ cdQ ctQ : Value} {odQ anQ : Option Addr} {slQ : Array (Option Value)}
    {e1 : Addr}
    {e2 : Addr}
    {e4 : Addr}
    {tM : Tok}
    (a1 : PySem.W.nsIn K mainGlobals "is_integer" = some (some (.ref f1)))
    (l1 : K.lookup f1 = some ⟨oc1, od1, .func (PySem.W.fnOf "is_integer" "is_integer" (defArgs sInteger) (defBody sInteger) (defScope sInteger) .none kV1 dc1 pm1 an1 cd1 ct1), sl1⟩)
    (c1 : PySem.W.codeIn K cd1 "is_integer" = true)
    (k1 : PySem.W.keepIn K (.ref f1) = true)
    (a2 : PySem.W.nsIn K mainGlobals "is_integer_between" = some (some (.ref f2)))
    (l2 : K.lookup f2 = some ⟨oc2, od2, .func (PySem.W.fnOf "is_integer_between" "is_integer_between" (defArgs sBetween) (defBody sBetween) (defScope sBetween) .none kV2 dc2 pm2 an2 cd2 ct2), sl2⟩)
    (c2 : PySem.W.codeIn K cd2 "is_integer_between" = true)
    (k2 : PySem.W.keepIn K (.ref f2) = true)
    (a3 : PySem.W.nsIn K mainGlobals "is_size" = some (some (.ref f3)))
    (l3 : K.lookup f3 = some ⟨oc3, od3, .func (PySem.W.fnOf "is_size" "is_size" (defArgs sIsSize) (defBody sIsSize) (defScope sIsSize) .none kV3 dc3 pm3 an3 cd3 ct3), sl3⟩)
    (c3 : PySem.W.codeIn K cd3 "is_size" = true)
    (k3 : PySem.W.keepIn K (.ref f3) = true)
    (a5 : PySem.W.nsIn K mainGlobals "are_cells" = some (some (.ref f5)))
    (l5 : K.lookup f5 = some ⟨oc5, od5, .func (PySem.W.fnOf "are_cells" "are_cells" (defArgs sAre) (defBody sAre) (defScope sAre) .none kV5 dc5 pm5 an5 cd5 ct5), sl5⟩)
    (c5 : PySem.W.codeIn K cd5 "are_cells" = true)
    (k5 : PySem.W.keepIn K (.ref f5) = true)
    (a7 : PySem.W.nsIn K mainGlobals "added_cells" = some (some (.ref f7)))
    (l7 : K.lookup f7 = some ⟨oc7, od7, .func (PySem.W.fnOf "added_cells" "added_cells" (defArgs sAdded) (defBody sAdded) (defScope sAdded) .none kV7 dc7 pm7 an7 cd7 ct7), sl7⟩)
    (c7 : PySem.W.codeIn K cd7 "added_cells" = true)
    (k7 : PySem.W.keepIn K (.ref f7) = true)
    (a8 : PySem.W.nsIn K mainGlobals "share_odd" = some (some (.ref f8)))
    (l8 : K.lookup f8 = some ⟨oc8, od8, .func (PySem.W.fnOf "share_odd" "share_odd" (defArgs sShare) (defBody sShare) (defScope sShare) .none kV8 dc8 pm8 an8 cd8 ct8), sl8⟩)
    (c8 : PySem.W.codeIn K cd8 "share_odd" = true)
    (k8 : PySem.W.keepIn K (.ref f8) = true)
    (a9 : PySem.W.nsIn K mainGlobals "can_toggle" = some (some (.ref f9)))
    (l9 : K.lookup f9 = some ⟨oc9, od9, .func (PySem.W.fnOf "can_toggle" "can_toggle" (defArgs sCan) (defBody sCan) (defScope sCan) .none kV9 dc9 pm9 an9 cd9 ct9), sl9⟩)
    (c9 : PySem.W.codeIn K cd9 "can_toggle" = true)
    (k9 : PySem.W.keepIn K (.ref f9) = true)
    (a10 : PySem.W.nsIn K mainGlobals "turn_flip" = some (some (.ref f10)))
    (l10 : K.lookup f10 = some ⟨oc10, od10, .func (PySem.W.fnOf "turn_flip" "turn_flip" (defArgs sTurn) (defBody sTurn) (defScope sTurn) .none kV10 dc10 pm10 an10 cd10 ct10), sl10⟩)
    (c10 : PySem.W.codeIn K cd10 "turn_flip" = true)
    (k10 : PySem.W.keepIn K (.ref f10) = true)
    (a12 : PySem.W.nsIn K mainGlobals "swap_flip" = some (some (.ref f12)))
    (l12 : K.lookup f12 = some ⟨oc12, od12, .func (PySem.W.fnOf "swap_flip" "swap_flip" (defArgs sSwap) (defBody sSwap) (defScope sSwap) .none kV12 dc12 pm12 an12 cd12 ct12), sl12⟩)
    (c12 : PySem.W.codeIn K cd12 "swap_flip" = true)
    (k12 : PySem.W.keepIn K (.ref f12) = true)
    (a13 : PySem.W.nsIn K mainGlobals "check_fit" = some (some (.ref f13)))
    (l13 : K.lookup f13 = some ⟨oc13, od13, .func (PySem.W.fnOf "check_fit" "check_fit" (defArgs sFit) (defBody sFit) (defScope sFit) .none kV13 dc13 pm13 an13 cd13 ct13), sl13⟩)
    (c13 : PySem.W.codeIn K cd13 "check_fit" = true)
    (k13 : PySem.W.keepIn K (.ref f13) = true)
    (a14 : PySem.W.nsIn K mainGlobals "apply_flip" = some (some (.ref f14)))
    (l14 : K.lookup f14 = some ⟨oc14, od14, .func (PySem.W.fnOf "apply_flip" "apply_flip" (defArgs sApply) (defBody sApply) (defScope sApply) .none kV14 dc14 pm14 an14 cd14 ct14), sl14⟩)
    (c14 : PySem.W.codeIn K cd14 "apply_flip" = true)
    (k14 : PySem.W.keepIn K (.ref f14) = true)
    (a20 : PySem.W.nsIn K mainGlobals "_law_pot" = some (some (.ref f20)))
    (l20 : K.lookup f20 = some ⟨oc20, od20, .func (PySem.W.fnOf "_law_pot" "_law_pot" (defArgs sPot) (defBody sPot) (defScope sPot) .none kV20 dc20 pm20 an20 cd20 ct20), sl20⟩)
    (c20 : PySem.W.codeIn K cd20 "_law_pot" = true)
    (k20 : PySem.W.keepIn K (.ref f20) = true)
    (a21 : PySem.W.nsIn K mainGlobals "_law_draw" = some (some (.ref f21)))
    (l21 : K.lookup f21 = some ⟨oc21, od21, .func (PySem.W.fnOf "_law_draw" "_law_draw" (defArgs sDraw) (defBody sDraw) (defScope sDraw) .none kV21 dc21 pm21 an21 cd21 ct21), sl21⟩)
    (c21 : PySem.W.codeIn K cd21 "_law_draw" = true)
    (k21 : PySem.W.keepIn K (.ref f21) = true)
    (a22 : PySem.W.nsIn K mainGlobals "_law_bits" = some (some (.ref f22)))
    (l22 : K.lookup f22 = some ⟨oc22, od22, .func (PySem.W.fnOf "_law_bits" "_law_bits" (defArgs sBits) (defBody sBits) (defScope sBits) .none kV22 dc22 pm22 an22 cd22 ct22), sl22⟩)
    (c22 : PySem.W.codeIn K cd22 "_law_bits" = true)
    (k22 : PySem.W.keepIn K (.ref f22) = true)
    (a23 : PySem.W.nsIn K mainGlobals "_law_up" = some (some (.ref f23)))
    (l23 : K.lookup f23 = some ⟨oc23, od23, .func (PySem.W.fnOf "_law_up" "_law_up" (defArgs sUp) (defBody sUp) (defScope sUp) .none kV23 dc23 pm23 an23 cd23 ct23), sl23⟩)
    (c23 : PySem.W.codeIn K cd23 "_law_up" = true)
    (k23 : PySem.W.keepIn K (.ref f23) = true)
    (a24 : PySem.W.nsIn K mainGlobals "_law_made" = some (some (.ref f24)))
    (l24 : K.lookup f24 = some ⟨oc24, od24, .func (PySem.W.fnOf "_law_made" "_law_made" (defArgs sMade) (defBody sMade) (defScope sMade) .none kV24 dc24 pm24 an24 cd24 ct24), sl24⟩)
    (c24 : PySem.W.codeIn K cd24 "_law_made" = true)
    (k24 : PySem.W.keepIn K (.ref f24) = true)
    (a25 : PySem.W.nsIn K mainGlobals "_law_is_so" = some (some (.ref f25)))
    (l25 : K.lookup f25 = some ⟨oc25, od25, .func (PySem.W.fnOf "_law_is_so" "_law_is_so" (defArgs sIsSo) (defBody sIsSo) (defScope sIsSo) .none kV25 dc25 pm25 an25 cd25 ct25), sl25⟩)
    (c25 : PySem.W.codeIn K cd25 "_law_is_so" = true)
    (k25 : PySem.W.keepIn K (.ref f25) = true)
    (a26 : PySem.W.nsIn K mainGlobals "_law_any_thing" = some (some (.ref f26)))
    (l26 : K.lookup f26 = some ⟨oc26, od26, .func (PySem.W.fnOf "_law_any_thing" "_law_any_thing" (defArgs slAnyThing) (defBody slAnyThing) (defScope slAnyThing) .none kV26 dc26 pm26 an26 cd26 ct26), sl26⟩)
    (c26 : PySem.W.codeIn K cd26 "_law_any_thing" = true)
    (k26 : PySem.W.keepIn K (.ref f26) = true)
    (a27 : PySem.W.nsIn K mainGlobals "_law_is_int" = some (some (.ref f27)))
    (l27 : K.lookup f27 = some ⟨oc27, od27, .func (PySem.W.fnOf "_law_is_int" "_law_is_int" (defArgs slIsInt) (defBody slIsInt) (defScope slIsInt) .none kV27 dc27 pm27 an27 cd27 ct27), sl27⟩)
    (c27 : PySem.W.codeIn K cd27 "_law_is_int" = true)
    (k27 : PySem.W.keepIn K (.ref f27) = true)
    (a28 : PySem.W.nsIn K mainGlobals "_law_met" = some (some (.ref f28)))
    (l28 : K.lookup f28 = some ⟨oc28, od28, .func (PySem.W.fnOf "_law_met" "_law_met" (defArgs sMet) (defBody sMet) (defScope sMet) .none kV28 dc28 pm28 an28 cd28 ct28), sl28⟩)
    (c28 : PySem.W.codeIn K cd28 "_law_met" = true)
    (k28 : PySem.W.keepIn K (.ref f28) = true)
    (a29 : PySem.W.nsIn K mainGlobals "_law_one" = some (some (.ref f29)))
    (l29 : K.lookup f29 = some ⟨oc29, od29, .func (PySem.W.fnOf "_law_one" "_law_one" (defArgs slOne) (defBody slOne) (defScope slOne) .none kV29 dc29 pm29 an29 cd29 ct29), sl29⟩)
    (c29 : PySem.W.codeIn K cd29 "_law_one" = true)
    (k29 : PySem.W.keepIn K (.ref f29) = true)
    (a30 : PySem.W.nsIn K mainGlobals "_law_due" = some (some (.ref f30)))
    (l30 : K.lookup f30 = some ⟨oc30, od30, .func (PySem.W.fnOf "_law_due" "_law_due" (defArgs slDue) (defBody slDue) (defScope slDue) .none kV30 dc30 pm30 an30 cd30 ct30), sl30⟩)
    (c30 : PySem.W.codeIn K cd30 "_law_due" = true)
    (k30 : PySem.W.keepIn K (.ref f30) = true)
    (a31 : PySem.W.nsIn K mainGlobals "_law_effects_right" = some (some (.ref f31)))
    (l31 : K.lookup f31 = some ⟨oc31, od31, .func (PySem.W.fnOf "_law_effects_right" "_law_effects_right" (defArgs slEffectsRight) (defBody slEffectsRight) (defScope slEffectsRight) .none kV31 dc31 pm31 an31 cd31 ct31), sl31⟩)
    (c31 : PySem.W.codeIn K cd31 "_law_effects_right" = true)
    (k31 : PySem.W.keepIn K (.ref f31) = true)
    (a11 : PySem.W.nsIn K mainGlobals "add_flip" = some (some (.ref f11)))
    (l11 : K.lookup f11 = some ⟨oc11, od11, .func (PySem.W.fnOf "add_flip" "add_flip" (defArgs sAdd) (defBody sAdd) (defScope sAdd) .none kV11 dc11 pm11 an11 cd11 ct11), sl11⟩)
    (c11 : PySem.W.codeIn K cd11 "add_flip" = true)
    (k11 : PySem.W.keepIn K (.ref f11) = true)
    (aL : PySem.W.nsIn K mainGlobals "law" = some (some (.ref fL)))
    (lL : K.lookup fL = some ⟨ocL, odL, .func (PySem.W.fnOf "law" "law" (defArgs sLaw) (defBody sLaw) (defScope sLaw) .none kVL dcL pmL anL (.ref cL) ctL), slL⟩)
    (cL1 : PySem.W.codeIn K (.ref cL) "law" = true)
    (tL : PySem.W.tabIn K "law" = some (cL, PL))
    (nL : K.lookup PL = none)
    (rL : ((recsOf q).find? (fun e => e.name == ("law" : Str))).isSome = true)
    (a4 : PySem.W.nsIn K mainGlobals "is_cell" = some (some (.ref f4)))
    (l4 : K.lookup f4 = some ⟨oc4, od4, .func (PySem.W.fnOf "is_cell" "is_cell" (defArgs sIsCell) (defBody sIsCell) (defScope sIsCell) .none (.ref D4) dc4 pm4 an4 cd4 ct4), sl4⟩)
    (d4 : PySem.W.nsIn K D4 "size" = some (some (.int 40 t4)))
    (c4 : PySem.W.codeIn K cd4 "is_cell" = true)
    (k4 : PySem.W.keepIn K (.ref f4) = true)
    (a6 : PySem.W.nsIn K mainGlobals "cell_tuple" = some (some (.ref f6)))
    (l6 : K.lookup f6 = some ⟨oc6, od6, .func (PySem.W.fnOf "cell_tuple" "cell_tuple" (defArgs sCells) (defBody sCells) (defScope sCells) .none (.ref D6) dc6 pm6 an6 cd6 ct6), sl6⟩)
    (d6 : PySem.W.nsIn K D6 "size" = some (some (.int 40 t6)))
    (c6 : PySem.W.codeIn K cd6 "cell_tuple" = true)
    (k6 : PySem.W.keepIn K (.ref f6) = true)
    (aC : PySem.W.nsIn K mainGlobals "Board" = some (some (.ref C)))
    (pgC : PySem.W.plainGet K C Str.empty = true)
    (hdC : PySem.W.hasDictIn K C = true)
    (poC : PySem.W.plainOver K C = true)
    (saC : PySem.W.findIn K (.ref C) "__setattr__" = some (some (.builtin "object.__setattr__")))
    (mkC : PySem.W.makesIn K C = true)
    (kcC : PySem.W.keepIn K (.ref C) = true)
    (nf0C : PySem.W.findIn K (.ref C) "states" = some none)
    (jaC : PySem.W.findIn K (.ref C) "__class__" = some (some (.builtin "object.__class__")))
    (jnC : PySem.W.specialIn K (.builtin "object.__class__") "__get__" = some (some (.builtin "getset_descriptor.__get__")))
    (jtC : PySem.W.takesIn K (.builtin "object.__class__") = some true)
    (jmC : PySem.W.mroIn K C (.type "object") = some true)
    (iI : PySem.W.findIn K (.ref C) "__init__" = some (some (.ref fI)))
    (nI : PySem.W.isFn K (.ref fI) = true)
    (lI : K.lookup fI = some ⟨ocI, odI, .func (PySem.W.fnOf "__init__" "Board.__init__" (defArgs mInit) (defBody mInit) (defScope mInit) .none (.ref DI) dcI pmI anI cdI ctI), slI⟩)
    (dI : PySem.W.nsIn K DI "up" = some (some (.ref e)))
    (le : K.lookup e = some ⟨.type "tuple", ode, .seq #[] ne, sle⟩)
    (cI : PySem.W.codeIn K cdI "Board.__init__" = true)
    (kI : PySem.W.keepIn K (.ref fI) = true)
    (aS : PySem.W.findIn K (.ref C) "size" = some (some (.ref fS)))
    (nS : PySem.W.isFn K (.ref fS) = true)
    (lS : K.lookup fS = some ⟨ocS, odS, .func (PySem.W.fnOf "size" "Board.size" (defArgs mSize) (defBody mSize) (defScope mSize) .none kVS dcS pmS anS cdS ctS), slS⟩)
    (cS : PySem.W.codeIn K cdS "Board.size" = true)
    (kS : PySem.W.keepIn K (.ref fS) = true)
    (aU : PySem.W.findIn K (.ref C) "up" = some (some (.ref fU)))
    (nU : PySem.W.isFn K (.ref fU) = true)
    (lU : K.lookup fU = some ⟨ocU, odU, .func (PySem.W.fnOf "up" "Board.up" (defArgs mUps) (defBody mUps) (defScope mUps) .none kVU dcU pmU anU cdU ctU), slU⟩)
    (cU : PySem.W.codeIn K cdU "Board.up" = true)
    (kU : PySem.W.keepIn K (.ref fU) = true)
    (aY : PySem.W.findIn K (.ref C) "parity" = some (some (.ref fY)))
    (nY : PySem.W.isFn K (.ref fY) = true)
    (lY : K.lookup fY = some ⟨ocY, odY, .func (PySem.W.fnOf "parity" "Board.parity" (defArgs mPar) (defBody mPar) (defScope mPar) .none kVY dcY pmY anY cdY ctY), slY⟩)
    (cY : PySem.W.codeIn K cdY "Board.parity" = true)
    (kY : PySem.W.keepIn K (.ref fY) = true)
    (aZ : PySem.W.findIn K (.ref C) "toggled" = some (some (.ref fZ)))
    (nZ : PySem.W.isFn K (.ref fZ) = true)
    (lZ : K.lookup fZ = some ⟨ocZ, odZ, .func (PySem.W.fnOf "toggled" "Board.toggled" (defArgs mTog) (defBody mTog) (defScope mTog) .none kVZ dcZ pmZ anZ cdZ ctZ), slZ⟩)
    (cZ : PySem.W.codeIn K cdZ "Board.toggled" = true)
    (kZ : PySem.W.keepIn K (.ref fZ) = true)
    (aV : PySem.W.nsIn K mainGlobals "Flip" = some (some (.ref V)))
    (pgV : PySem.W.plainGet K V Str.empty = true)
    (hdV : PySem.W.hasDictIn K V = true)
    (poV : PySem.W.plainOver K V = true)
    (saV : PySem.W.findIn K (.ref V) "__setattr__" = some (some (.builtin "object.__setattr__")))
    (mkV : PySem.W.makesIn K V = true)
    (kcV : PySem.W.keepIn K (.ref V) = true)
    (nf0V : PySem.W.findIn K (.ref V) "tested_cells" = some none)
    (nf1V : PySem.W.findIn K (.ref V) "toggled_cells" = some none)
    (aJ : PySem.W.findIn K (.ref V) "__init__" = some (some (.ref fJ)))
    (nJ : PySem.W.isFn K (.ref fJ) = true)
    (lJ : K.lookup fJ = some ⟨ocJ, odJ, .func (PySem.W.fnOf "__init__" "Flip.__init__" (defArgs gInit) (defBody gInit) (defScope gInit) .none kVJ dcJ pmJ anJ cdJ ctJ), slJ⟩)
    (cJ : PySem.W.codeIn K cdJ "Flip.__init__" = true)
    (kJ : PySem.W.keepIn K (.ref fJ) = true)
    (ag1 : PySem.W.findIn K (.ref V) "tested" = some (some (.ref fg1)))
    (ng1 : PySem.W.isFn K (.ref fg1) = true)
    (lg1 : K.lookup fg1 = some ⟨ocg1, odg1, .func (PySem.W.fnOf "tested" "Flip.tested" (defArgs gTested) (defBody gTested) (defScope gTested) .none kVg1 dcg1 pmg1 ang1 cdg1 ctg1), slg1⟩)
    (cg1 : PySem.W.codeIn K cdg1 "Flip.tested" = true)
    (kg1 : PySem.W.keepIn K (.ref fg1) = true)
    (ag2 : PySem.W.findIn K (.ref V) "toggled" = some (some (.ref fg2)))
    (ng2 : PySem.W.isFn K (.ref fg2) = true)
    (lg2 : K.lookup fg2 = some ⟨ocg2, odg2, .func (PySem.W.fnOf "toggled" "Flip.toggled" (defArgs gToggled) (defBody gToggled) (defScope gToggled) .none kVg2 dcg2 pmg2 ang2 cdg2 ctg2), slg2⟩)
    (cg2 : PySem.W.codeIn K cdg2 "Flip.toggled" = true)
    (kg2 : PySem.W.keepIn K (.ref fg2) = true)
    (ag3 : PySem.W.findIn K (.ref V) "width" = some (some (.ref fg3)))
    (ng3 : PySem.W.isFn K (.ref fg3) = true)
    (lg3 : K.lookup fg3 = some ⟨ocg3, odg3, .func (PySem.W.fnOf "width" "Flip.width" (defArgs gWidth) (defBody gWidth) (defScope gWidth) .none kVg3 dcg3 pmg3 ang3 cdg3 ctg3), slg3⟩)
    (cg3 : PySem.W.codeIn K cdg3 "Flip.width" = true)
    (kg3 : PySem.W.keepIn K (.ref fg3) = true)
    (aW : PySem.W.nsIn K mainGlobals "TooWide" = some (some (.ref W)))
    (xW : K.lookup W = some (excClassObj nmW qnW W NnW bsW (([w0W] : List Addr).map Value.ref ++ [.type "ArithmeticError", .type "Exception", .type "BaseException", .type "object"]) true snW subW abW colW ddW m0W m1W m2W m3W m5W "ArithmeticError.__new__"))
    (saW : PySem.W.findIn K (.ref W) "__setattr__" = some (some (.builtin "object.__setattr__")))
    (exW : PySem.W.subIn K (.ref W) (.type "BaseException") = some true)
    (tyW : PySem.W.typeIn K (.ref W) = some (.type "type"))
    (kpW : PySem.W.keepIn K (.ref W) = true)
    (nf0W : PySem.W.findIn K (.ref W) "needed" = some none)
    (iN : PySem.W.findIn K (.ref W) "__init__" = some (some (.ref fN)))
    (tN : PySem.W.typeIn K (.ref fN) = some (.type "function"))
    (lN : K.lookup fN = some ⟨ocN, odN, .func (PySem.W.fnOf "__init__" "TooWide.__init__" (defArgs sWIni) (defBody sWIni) (defScope sWIni) .none kVN dcN pmN anN cdN ctN), slN⟩)
    (cN : PySem.W.codeIn K cdN "TooWide.__init__" = true)
    (kN : PySem.W.keepIn K (.ref fN) = true)
    (aE : PySem.W.nsIn K mainGlobals "NoCell" = some (some (.ref E)))
    (xE : K.lookup E = some (excClassObj nmE qnE E NnE bsE (([w0E] : List Addr).map Value.ref ++ [.type "ValueError", .type "Exception", .type "BaseException", .type "object"]) true snE subE abE colE ddE m0E m1E m2E m3E m5E "ValueError.__new__"))
    (saE : PySem.W.findIn K (.ref E) "__setattr__" = some (some (.builtin "object.__setattr__")))
    (exE : PySem.W.subIn K (.ref E) (.type "BaseException") = some true)
    (tyE : PySem.W.typeIn K (.ref E) = some (.type "type"))
    (kpE : PySem.W.keepIn K (.ref E) = true)
    (nf0E : PySem.W.findIn K (.ref E) "cell" = some none)
    (iQ : PySem.W.findIn K (.ref E) "__init__" = some (some (.ref fQ)))
    (tQ : PySem.W.typeIn K (.ref fQ) = some (.type "function"))
    (lQ : K.lookup fQ = some ⟨ocQ, odQ, .func (PySem.W.fnOf "__init__" "NoCell.__init__" (defArgs sNIni) (defBody sNIni) (defScope sNIni) .none kVQ dcQ pmQ anQ cdQ ctQ), slQ⟩)
    (cQ : PySem.W.codeIn K cdQ "NoCell.__init__" = true)
    (kQ : PySem.W.keepIn K (.ref fQ) = true)
    (gaE : PySem.W.findIn K (.ref E) "__getattribute__" = some (some (.builtin "BaseException.__getattribute__")))
    (ggE : PySem.W.findIn K (.ref E) "__getattr__" = some none)
    (xdE : PySem.W.hasDictIn K E = true)
    (haE : PySem.W.findIn K (.ref E) "__class__" = some (some (.builtin "object.__class__")))
    (hnE : PySem.W.specialIn K (.builtin "object.__class__") "__get__" = some (some (.builtin "getset_descriptor.__get__")))
    (htE : PySem.W.takesIn K (.builtin "object.__class__") = some true)
    (hmE : PySem.W.mroIn K E (.type "object") = some true)
    (teE : PySem.W.exmOne K (.ref E) (.ref E) = some true)
    (ae1 : PySem.W.nsIn K mainGlobals "NoCells" = some (some (.ref e1)))
    (ae2 : PySem.W.nsIn K mainGlobals "NoFlip" = some (some (.ref e2)))
    (ae4 : PySem.W.nsIn K mainGlobals "CellError" = some (some (.ref e4)))
    (sE1 : PySem.W.subIn K (.ref E) (.ref e1) = some false)
    (hcE1 : PySem.W.hasDictIn K e1 = true)
    (tcE1 : PySem.W.typeIn K (.ref e1) = some (.type "type"))
    (ncE1 : E ≠ e1)
    (sE2 : PySem.W.subIn K (.ref E) (.ref e2) = some false)
    (hcE2 : PySem.W.hasDictIn K e2 = true)
    (tcE2 : PySem.W.typeIn K (.ref e2) = some (.type "type"))
    (ncE2 : E ≠ e2)
    (sE4 : PySem.W.subIn K (.ref E) (.ref e4) = some true)
    (hcE4 : PySem.W.hasDictIn K e4 = true)
    (tcE4 : PySem.W.typeIn K (.ref e4) = some (.type "type"))
    (ncE4 : E ≠ e4)
    (c_M : PySem.W.nsIn K mainGlobals "MOST_CELLS" = some (some (.int 40 tM)))
    (z_len : PySem.W.nsIn K mainGlobals "len" = some none)
    (z_abs : PySem.W.nsIn K mainGlobals "abs" = some none)
    (z_max : PySem.W.nsIn K mainGlobals "max" = some none)
    (z_min : PySem.W.nsIn K mainGlobals "min" = some none)
    (z_divmod : PySem.W.nsIn K mainGlobals "divmod" = some none)
    (z_list : PySem.W.nsIn K mainGlobals "list" = some none)
    (z_tuple : PySem.W.nsIn K mainGlobals "tuple" = some none)
    (z_range : PySem.W.nsIn K mainGlobals "range" = some none)
    (z_isinstance : PySem.W.nsIn K mainGlobals "isinstance" = some none)
    (z_bool : PySem.W.nsIn K mainGlobals "bool" = some none)
    (z_int : PySem.W.nsIn K mainGlobals "int" = some none)
    (z_sorted : PySem.W.nsIn K mainGlobals "sorted" = some none)
    (z_set : PySem.W.nsIn K mainGlobals "set" = some none)
    (z_all : PySem.W.nsIn K mainGlobals "all" = some none)
    (z_enumerate : PySem.W.nsIn K mainGlobals "enumerate" = some none)
    (z_repr : PySem.W.nsIn K mainGlobals "repr" = some none)
    (z_sum : PySem.W.nsIn K mainGlobals "sum" = some none) :
    ∃ (fd : FuncData) (tt : List (Addr × Addr)), TabNames q K tt ∧ (∀ (s : Shared) (v : Value), BindsTo s fd ⟨[v], []⟩ [("_law_script", v)]) ∧ ∀ base : Heap, K.In base → base.Ns mainGlobals mg → (∀ p ∈ tt, LamX.TabB base mg p.1 p.2) → FnG l.prog w K mg base CX0 11 fa fd ["_law_script"] (spLaw K tt) := by
  have e0 := hfa.symm.trans (PySem.W.mg_of X G aL)
  cases e0
  have B : Bl mg := ⟨PySem.W.mg_none_of X G z_len, PySem.W.mg_none_of X G z_abs, PySem.W.mg_none_of X G z_max, PySem.W.mg_none_of X G z_min, PySem.W.mg_none_of X G z_divmod, PySem.W.mg_none_of X G z_list, PySem.W.mg_none_of X G z_tuple, PySem.W.mg_none_of X G z_range, PySem.W.mg_none_of X G z_isinstance, PySem.W.mg_none_of X G z_bool, PySem.W.mg_none_of X G z_int, PySem.W.mg_none_of X G z_sorted, PySem.W.mg_none_of X G z_set, PySem.W.mg_none_of X G z_all, PySem.W.mg_none_of X G z_enumerate, PySem.W.mg_none_of X G z_repr, PySem.W.mg_none_of X G z_sum⟩
  have F1 := fun_mk (st := sInteger) l1 c1 k1
  have b1 := F1.binds (ps := ["thing"]) fun _ _ _ _ _ _ us hl => match us, hl with | [_], _ => rfl
  have m1 := PySem.W.mg_of X G a1
  have F2 := fun_mk (st := sBetween) l2 c2 k2
  have b2 := F2.binds (ps := ["thing", "low", "high"]) fun _ _ _ _ _ _ us hl => match us, hl with | [_, _, _], _ => rfl
  have m2 := PySem.W.mg_of X G a2
  have F3 := fun_mk (st := sIsSize) l3 c3 k3
  have b3 := F3.binds (ps := ["thing"]) fun _ _ _ _ _ _ us hl => match us, hl with | [_], _ => rfl
  have m3 := PySem.W.mg_of X G a3
  have F5 := fun_mk (st := sAre) l5 c5 k5
  have b5 := F5.binds (ps := ["things", "size"]) fun _ _ _ _ _ _ us hl => match us, hl with | [_, _], _ => rfl
  have m5 := PySem.W.mg_of X G a5
  have F7 := fun_mk (st := sAdded) l7 c7 k7
  have b7 := F7.binds (ps := ["one", "other"]) fun _ _ _ _ _ _ us hl => match us, hl with | [_, _], _ => rfl
  have m7 := PySem.W.mg_of X G a7
  have F8 := fun_mk (st := sShare) l8 c8 k8
  have b8 := F8.binds (ps := ["one", "other"]) fun _ _ _ _ _ _ us hl => match us, hl with | [_, _], _ => rfl
  have m8 := PySem.W.mg_of X G a8
  have F9 := fun_mk (st := sCan) l9 c9 k9
  have b9 := F9.binds (ps := ["thing"]) fun _ _ _ _ _ _ us hl => match us, hl with | [_], _ => rfl
  have m9 := PySem.W.mg_of X G a9
  have F10 := fun_mk (st := sTurn) l10 c10 k10
  have b10 := F10.binds (ps := ["cell"]) fun _ _ _ _ _ _ us hl => match us, hl with | [_], _ => rfl
  have m10 := PySem.W.mg_of X G a10
  have F12 := fun_mk (st := sSwap) l12 c12 k12
  have b12 := F12.binds (ps := ["one", "other"]) fun _ _ _ _ _ _ us hl => match us, hl with | [_, _], _ => rfl
  have m12 := PySem.W.mg_of X G a12
  have F13 := fun_mk (st := sFit) l13 c13 k13
  have b13 := F13.binds (ps := ["flip", "size"]) fun _ _ _ _ _ _ us hl => match us, hl with | [_, _], _ => rfl
  have m13 := PySem.W.mg_of X G a13
  have F14 := fun_mk (st := sApply) l14 c14 k14
  have b14 := F14.binds (ps := ["board", "flip"]) fun _ _ _ _ _ _ us hl => match us, hl with | [_, _], _ => rfl
  have m14 := PySem.W.mg_of X G a14
  have F20 := fun_mk (st := sPot) l20 c20 k20
  have b20 := F20.binds (ps := ["_law_script", "_law_k"]) fun _ _ _ _ _ _ us hl => match us, hl with | [_, _], _ => rfl
  have m20 := PySem.W.mg_of X G a20
  have F21 := fun_mk (st := sDraw) l21 c21 k21
  have b21 := F21.binds (ps := ["_law_pot_here", "_law_many"]) fun _ _ _ _ _ _ us hl => match us, hl with | [_, _], _ => rfl
  have m21 := PySem.W.mg_of X G a21
  have F22 := fun_mk (st := sBits) l22 c22 k22
  have b22 := F22.binds (ps := ["_law_pot_here", "_law_width"]) fun _ _ _ _ _ _ us hl => match us, hl with | [_, _], _ => rfl
  have m22 := PySem.W.mg_of X G a22
  have F23 := fun_mk (st := sUp) l23 c23 k23
  have b23 := F23.binds (ps := ["_law_bits_here"]) fun _ _ _ _ _ _ us hl => match us, hl with | [_], _ => rfl
  have m23 := PySem.W.mg_of X G a23
  have F24 := fun_mk (st := sMade) l24 c24 k24
  have b24 := F24.binds (ps := ["_law_bits_here"]) fun _ _ _ _ _ _ us hl => match us, hl with | [_], _ => rfl
  have m24 := PySem.W.mg_of X G a24
  have F25 := fun_mk (st := sIsSo) l25 c25 k25
  have b25 := F25.binds (ps := ["_law_found", "_law_bits_here"]) fun _ _ _ _ _ _ us hl => match us, hl with | [_, _], _ => rfl
  have m25 := PySem.W.mg_of X G a25
  have F26 := fun_mk (st := slAnyThing) l26 c26 k26
  have b26 := F26.binds (ps := ["_law_pot_here"]) fun _ _ _ _ _ _ us hl => match us, hl with | [_], _ => rfl
  have m26 := PySem.W.mg_of X G a26
  have F27 := fun_mk (st := slIsInt) l27 c27 k27
  have b27 := F27.binds (ps := ["_law_item", "_law_low", "_law_high"]) fun _ _ _ _ _ _ us hl => match us, hl with | [_, _, _], _ => rfl
  have m27 := PySem.W.mg_of X G a27
  have F28 := fun_mk (st := sMet) l28 c28 k28
  have b28 := F28.binds (ps := ["_law_call"]) fun _ _ _ _ _ _ us hl => match us, hl with | [_], _ => rfl
  have m28 := PySem.W.mg_of X G a28
  have F29 := fun_mk (st := slOne) l29 c29 k29
  have b29 := F29.binds (ps := ["_law_pot_here"]) fun _ _ _ _ _ _ us hl => match us, hl with | [_], _ => rfl
  have m29 := PySem.W.mg_of X G a29
  have F30 := fun_mk (st := slDue) l30 c30 k30
  have b30 := F30.binds (ps := ["_law_near", "_law_far", "_law_least", "_law_is_swap"]) fun _ _ _ _ _ _ us hl => match us, hl with | [_, _, _, _], _ => rfl
  have m30 := PySem.W.mg_of X G a30
  have F31 := fun_mk (st := slEffectsRight) l31 c31 k31
  have b31 := F31.binds (ps := ["_law_pot_here"]) fun _ _ _ _ _ _ us hl => match us, hl with | [_], _ => rfl
  have m31 := PySem.W.mg_of X G a31
  have F11 := fun_mk (st := sAdd) l11 c11 k11
  have m11 := PySem.W.mg_of X G a11
  have FL : FunC K "law" "law" sLaw _ cL _ := ⟨⟨ocL, odL, kVL, dcL, pmL, anL, ctL, slL, rfl, lL, cL1⟩⟩
  have F4 : FunD K "is_cell" "is_cell" (defArgs sIsCell) (defBody sIsCell) (defScope sIsCell) [] [("size", .int 40)] f4 _ := ⟨⟨oc4, od4, .none, .ref D4, dc4, pm4, an4, cd4, ct4, sl4, rfl, l4, c4, .inl ⟨rfl, rfl⟩, .inr ⟨D4, rfl, fun q hq => by
    rw [List.mem_singleton.mp hq]
    exact ⟨_, d4, _, rfl⟩⟩⟩, k4⟩
  have m4 := PySem.W.mg_of X G a4
  have kb4 := kb_size (st := sIsCell) (y := "thing") F4 (fun _ _ _ _ _ _ _ _ => rfl)
  obtain ⟨ds4, hd4, bd4⟩ := F4.binds0 (ps := ["thing", "size"]) 1 (by simp) rfl (fun D doc pm an cdv ct us ks h1 h2 => match us, ks, h1, h2 with | [_], [_], _, _ => ⟨_, _, _, _, _, _, rfl, rfl, rfl⟩)
  have F6 : FunD K "cell_tuple" "cell_tuple" (defArgs sCells) (defBody sCells) (defScope sCells) [] [("size", .int 40)] f6 _ := ⟨⟨oc6, od6, .none, .ref D6, dc6, pm6, an6, cd6, ct6, sl6, rfl, l6, c6, .inl ⟨rfl, rfl⟩, .inr ⟨D6, rfl, fun q hq => by
    rw [List.mem_singleton.mp hq]
    exact ⟨_, d6, _, rfl⟩⟩⟩, k6⟩
  have m6 := PySem.W.mg_of X G a6
  have kb6 := kb_size (st := sCells) (y := "things") F6 (fun _ _ _ _ _ _ _ _ => rfl)
  obtain ⟨ds6, hd6, bd6⟩ := F6.binds0 (ps := ["things", "size"]) 1 (by simp) rfl (fun D doc pm an cdv ct us ks h1 h2 => match us, ks, h1, h2 with | [_], [_], _, _ => ⟨_, _, _, _, _, _, rfl, rfl, rfl⟩)
  have FI : FunD K "__init__" "Board.__init__" (defArgs mInit) (defBody mInit) (defScope mInit) [] [("up", .ref e)] fI _ := ⟨⟨ocI, odI, .none, .ref DI, dcI, pmI, anI, cdI, ctI, slI, rfl, lI, cI, .inl ⟨rfl, rfl⟩, .inr ⟨DI, rfl, fun q hq => by
    rw [List.mem_singleton.mp hq]
    exact ⟨_, dI, rfl⟩⟩⟩, kI⟩
  have kbI2 := kb_ini (n := 2) (ks := ["up"]) FI (fun D doc pm an cdv ct us ws h1 h2 => match us, ws, h1, h2 with | [_, _], [_], _, _ => rfl)
  have kbI1 := kb_ini (n := 1) (ks := ["size", "up"]) FI (fun D doc pm an cdv ct us ws h1 h2 => match us, ws, h1, h2 with | [_], [_, _], _, _ => rfl)
  obtain ⟨dsI, hdI, bI⟩ := FI.binds0 (ps := ["self", "size", "up"]) 2 (by simp) rfl (fun D doc pm an cdv ct us ks h1 h2 => match us, ks, h1, h2 with | [_, _], [_], _, _ => ⟨_, _, _, _, _, _, rfl, rfl, rfl⟩)
  have mkI : Mk K C fI := ⟨mkC, iI, nI, kcC⟩
  have FS := fun_mk (st := mSize) lS cS kS
  have bS := FS.binds (ps := ["self"]) fun _ _ _ _ _ _ us hl => match us, hl with | [_], _ => rfl
  have mS : Meth K C "size" fS := ⟨aS, nS, kS⟩
  have FU := fun_mk (st := mUps) lU cU kU
  have bU := FU.binds (ps := ["self"]) fun _ _ _ _ _ _ us hl => match us, hl with | [_], _ => rfl
  have mU : Meth K C "up" fU := ⟨aU, nU, kU⟩
  have FY := fun_mk (st := mPar) lY cY kY
  have bY := FY.binds (ps := ["self", "cells"]) fun _ _ _ _ _ _ us hl => match us, hl with | [_, _], _ => rfl
  have mY : Meth K C "parity" fY := ⟨aY, nY, kY⟩
  have FZ := fun_mk (st := mTog) lZ cZ kZ
  have bZ := FZ.binds (ps := ["self", "cells"]) fun _ _ _ _ _ _ us hl => match us, hl with | [_, _], _ => rfl
  have mZ : Meth K C "toggled" fZ := ⟨aZ, nZ, kZ⟩
  have FJ := fun_mk (st := gInit) lJ cJ kJ
  have bJ := FJ.binds (ps := ["self", "tested", "toggled"]) fun _ _ _ _ _ _ us hl => match us, hl with | [_, _, _], _ => rfl
  have Fg1 := fun_mk (st := gTested) lg1 cg1 kg1
  have bg1 := Fg1.binds (ps := ["self"]) fun _ _ _ _ _ _ us hl => match us, hl with | [_], _ => rfl
  have mg1 : Meth K V "tested" fg1 := ⟨ag1, ng1, kg1⟩
  have Fg2 := fun_mk (st := gToggled) lg2 cg2 kg2
  have bg2 := Fg2.binds (ps := ["self"]) fun _ _ _ _ _ _ us hl => match us, hl with | [_], _ => rfl
  have mg2 : Meth K V "toggled" fg2 := ⟨ag2, ng2, kg2⟩
  have Fg3 := fun_mk (st := gWidth) lg3 cg3 kg3
  have bg3 := Fg3.binds (ps := ["self"]) fun _ _ _ _ _ _ us hl => match us, hl with | [_], _ => rfl
  have mg3 : Meth K V "width" fg3 := ⟨ag3, ng3, kg3⟩
  have EW : ErrC K W := ⟨⟨_, _, nmW, qnW, NnW, bsW, _, snW, subW, abW, colW, ddW, m0W, m1W, m2W, m3W, m5W, bas_arith, xW, [w0W], rfl⟩, saW, exW, tyW, kpW⟩
  have gW := PySem.W.mg_of X G aW
  have FN := fun_mk (st := sWIni) lN cN kN
  have bN := FN.binds (ps := ["self", "needed"]) fun _ _ _ _ _ _ us hl => match us, hl with | [_, _], _ => rfl
  have EE : ErrC K E := ⟨⟨_, _, nmE, qnE, NnE, bsE, _, snE, subE, abE, colE, ddE, m0E, m1E, m2E, m3E, m5E, bas_value, xE, [w0E], rfl⟩, saE, exE, tyE, kpE⟩
  have gE := PySem.W.mg_of X G aE
  have FQ := fun_mk (st := sNIni) lQ cQ kQ
  have bQ := FQ.binds (ps := ["self", "cell"]) fun _ _ _ _ _ _ us hl => match us, hl with | [_, _], _ => rfl
  have XCE : ExcC K E := ⟨gaE, ggE, exE, xdE, haE, hnE, htE, hmE⟩
  have XFE : XfC K E := ⟨gaE, ggE, exE, xdE⟩
  have ge1 := PySem.W.mg_of X G ae1
  have ge2 := PySem.W.mg_of X G ae2
  have ge4 := PySem.W.mg_of X G ae4
  have koE1 := kit_own ncE1 hcE1 tcE1 sE1
  have koE2 := kit_own ncE2 hcE2 tcE2 sE2
  have koE4 := kit_own ncE4 hcE4 tcE4 sE4
  have g_M := PySem.W.mg_of X G c_M
  have T : BC K mg C := ⟨⟨pgC, hdC, poC, saC⟩, nf0C, PySem.W.mg_of X G aC⟩
  have TI : IsC K C := ⟨jaC, jnC, jtC, jmC⟩
  have TF : FC K mg V := ⟨⟨pgV, hdV, poV, saV⟩, nf0V, nf1V, PySem.W.mg_of X G aV⟩
  have TW : WC K mg W := ⟨gW, EW, nf0W⟩
  have TN : NC K mg E := ⟨gE, EE, nf0E⟩
  have R : ErrN K mg E e1 e2 e4 := ⟨ge1, ge2, ge4, kit_no koE1 (kit_no koE2 kitAny_nil), koE4, XCE, XFE, teE⟩
  refine ⟨PySem.W.fnOf "law" "law" (defArgs sLaw) (defBody sLaw) (defScope sLaw) .none kVL dcL pmL anL (.ref cL) ctL, [(cL, PL)], fun p hp => ?_, fun s v => .of_eq rfl, fun base _ _ tb => ?_⟩
  · rw [List.mem_singleton.mp hp]
    obtain ⟨d, hd⟩ := Option.isSome_iff_exists.mp rL
    exact ⟨_, d, hd, tL, nL⟩
  have HNi : Has l.prog w K mg base "is_integer" 1 ["thing"] spInteger := ⟨f1, _, ok_integer F1 B, m1, k1, b1⟩
  have HB : Has l.prog w K mg base "is_integer_between" 2 ["thing", "low", "high"] spBetween := ⟨f2, _, ok_between F2 B HNi, m2, k2, b2⟩
  have HNa : Has l.prog w K mg base "is_integer" 1 ["thing"] (spIntegerA K) := ⟨f1, _, ok_integerA F1 B, m1, k1, b1⟩
  have HBa : Has l.prog w K mg base "is_integer_between" 2 ["thing", "low", "high"] (spBetA K) := ⟨f2, _, ok_betA F2 B HNa, m2, k2, b2⟩
  have HZ : Has l.prog w K mg base "is_size" 3 ["thing"] spIsSize := ⟨f3, _, ok_issize F3 ⟨_, g_M⟩ HB, m3, k3, b3⟩
  have HC : HasN l.prog w K mg base "is_cell" 3 "thing" spIsCell := ⟨f4, _, ok_iscell F4 HB, m4, k4, kb4⟩
  have HCD : HasCD l.prog w K mg base := ⟨f4, _, ds4, ok_cellA F4 HBa, m4, k4, hd4, bd4⟩
  have HAr : Has l.prog w K mg base "are_cells" 4 ["things", "size"] (spAre K) := ⟨f5, _, ok_are F5 B HC, m5, k5, b5⟩
  have HE : HasN l.prog w K mg base "cell_tuple" 5 "things" (spCells K) := ⟨f6, _, ok_cells F6 B HAr, m6, k6, kb6⟩
  have HED : HasD l.prog w K mg base "cell_tuple" 5 "things" (spCells K) := ⟨f6, _, ds6, ok_cells F6 B HAr, m6, k6, hd6, bd6⟩
  have HA : Has l.prog w K mg base "added_cells" 2 ["one", "other"] (spAdded K) := ⟨f7, _, ok_added F7 B, m7, k7, b7⟩
  have HO : Has l.prog w K mg base "share_odd" 2 ["one", "other"] (spShare K) := ⟨f8, _, ok_share F8 B, m8, k8, b8⟩
  have MS : HasM l.prog w K mg base C "size" 2 ["self"] (spSize C) := ⟨fS, _, ok_size FS B T, mS, bS⟩
  have MU : HasM l.prog w K mg base C "up" 2 ["self"] (spUps C) := ⟨fU, _, ok_ups FU B T, mU, bU⟩
  have MY : HasM l.prog w K mg base C "parity" 6 ["self", "cells"] (spPar K C) := ⟨fY, _, ok_par FY B T MS HE, mY, bY⟩
  have HI : HasIni l.prog w K mg base C := ⟨fI, _, ok_init FI B T HZ HE, mkI, kbI2, kbI1, e, dsI, fun H => .inr ⟨_, #[], _, le, rfl, rfl, Nat.zero_le _, .nil⟩, hdI, bI⟩
  have MZ : HasM l.prog w K mg base C "toggled" 8 ["self", "cells"] (spTog K C) := ⟨fZ, _, ok_tog FZ B T MS MU HE HA HI, mZ, bZ⟩
  have HJ : HasFI l.prog w K mg base V := ⟨fJ, _, ok_finit FJ B TF HED HO, ⟨mkV, aJ, nJ, kcV⟩, bJ⟩
  have N1 : HasM l.prog w K mg base V "tested" 2 ["self"] (spTested V) := ⟨fg1, _, ok_tested Fg1 TF, mg1, bg1⟩
  have N2 : HasM l.prog w K mg base V "toggled" 2 ["self"] (spToggled V) := ⟨fg2, _, ok_toggled Fg2 TF, mg2, bg2⟩
  have N3 : HasM l.prog w K mg base V "width" 2 ["self"] (spFWidth V) := ⟨fg3, _, ok_fwidth Fg3 B TF, mg3, bg3⟩
  have HW0 : HasW l.prog w K mg base W := ⟨fN, _, ok_wini FN TW, iN, tN, bN⟩
  have HF : HasFit l.prog w K mg base V W := ⟨f13, _, ok_fit F13 TF TW N3 HW0, m13, k13, b13⟩
  have OAp := ok_apply (P := l.prog) (w := w) (base := base) F14 T TF TW MS MY MZ N1 N2 HF
  have HNo : HasNo l.prog w K mg base E := ⟨fQ, _, ok_nini FQ TN, iQ, tQ, bQ⟩
  have HCan : Has l.prog w K mg base "can_toggle" 4 ["thing"] (spCan K) := ⟨f9, _, ok_can F9 HCD, m9, k9, b9⟩
  have OT := ok_turn (P := l.prog) (w := w) (base := base) F10 TF TN HCan HNo HJ
  have OA := ok_add (P := l.prog) (w := w) (base := base) F11 TF TN HCD HCan HNo HJ
  have OS := ok_swap (P := l.prog) (w := w) (base := base) F12 TF TN HCan HNo HJ
  have HP : Has l.prog w K mg base "_law_pot" 2 ["_law_script", "_law_k"] (spPot K) := ⟨f20, _, ok_pot F20 B, m20, k20, b20⟩
  have HD : Has l.prog w K mg base "_law_draw" 2 ["_law_pot_here", "_law_many"] spDraw := ⟨f21, _, ok_draw F21 B, m21, k21, b21⟩
  have HT : Has l.prog w K mg base "_law_bits" 3 ["_law_pot_here", "_law_width"] spBits := ⟨f22, _, ok_bits F22 B HD, m22, k22, b22⟩
  have HV : Has l.prog w K mg base "_law_up" 2 ["_law_bits_here"] (spUpL K) := ⟨f23, _, ok_upL F23 B, m23, k23, b23⟩
  have HMd : Has l.prog w K mg base "_law_made" 8 ["_law_bits_here"] (spMade C) := ⟨f24, _, ok_made F24 B T HV HI, m24, k24, b24⟩
  have HSo : Has l.prog w K mg base "_law_is_so" 3 ["_law_found", "_law_bits_here"] (spIsSo C) := ⟨f25, _, ok_isSo F25 B T TI MS MU HV, m25, k25, b25⟩
  have HAn : Has l.prog w K mg base "_law_any_thing" 3 ["_law_pot_here"] (spAny K) := ⟨f26, _, ok_any F26 B HD, m26, k26, b26⟩
  have HIs : Has l.prog w K mg base "_law_is_int" 2 ["_law_item", "_law_low", "_law_high"] (spBetA K) := ⟨f27, _, ok_isint F27 B, m27, k27, b27⟩
  have HOn : Has l.prog w K mg base "_law_one" 4 ["_law_pot_here"] (spAny K) := ⟨f29, _, ok_one F29 HD HAn, m29, k29, b29⟩
  have HDu : Has l.prog w K mg base "_law_due" 3 ["_law_near", "_law_far", "_law_least", "_law_is_swap"] (spDue K) := ⟨f30, _, ok_due F30 B HIs, m30, k30, b30⟩
  have HEf : Has l.prog w K mg base "_law_effects_right" 10 ["_law_pot_here"] spEff := ⟨f31, _, ok_eff F31 B HD HT HMd HSo ⟨f14, _, OAp, m14, k14, b14⟩ ⟨f10, _, OT, m10, k10, b10⟩ ⟨f11, _, OA, m11, k11, kb_back F11 (fun _ _ _ _ _ _ _ _ => rfl)⟩ ⟨f12, _, OS, m12, k12, kb_back F12 (fun _ _ _ _ _ _ _ _ => rfl)⟩, m31, k31, b31⟩
  exact ok_law FL B (tb (cL, PL) (List.mem_singleton.mpr rfl)) ⟨F28, m28, k28, b28⟩ TF TN R N1 N2 HP HOn HIs HDu HEf ⟨f10, _, OT, m10, k10, kb_sole F10 (fun _ _ _ _ _ _ _ => rfl)⟩ ⟨f11, _, OA, m11, k11, kb_to F11⟩ ⟨f12, _, OS, m12, k12, b12⟩
end K17
open PySem PySem.W PyProof.Rows
set_option maxRecDepth 100000 in
set_option maxHeartbeats 0 in
theorem PySem.Challenge.cw_paritycells_k17_three_simple_flips_holds : PySem.Challenge.rw_paritycells_k17_three_simple_flips.Holds := by
  w_on; o_law; k_head; (case hw => w_witness2)
  k_fill
  refine Par.walkTG (l := PySem.Challenge.rw_paritycells_k17_three_simple_flips) (k := 11) (x := "_law_script") (sp := K17.spLaw) rfl (by decide) rfl ⟨rfl, by decide, by decide⟩ (fun w h Y => PySem.W.km_in_of Y) ?F (fun K tt H a ns hl hH hS => ⟨a, ns, rfl, hS, hl, K17.tabs_nil hH, fun _ => rfl⟩)
  case F =>
    intro w mg fa h KX G hmg
    refine' K17.all_mk KX G hmg ?q_a1 ?q_l1 ?q_c1 ?q_k1 ?q_a2 ?q_l2 ?q_c2 ?q_k2 ?q_a3 ?q_l3 ?q_c3 ?q_k3 ?q_a5 ?q_l5 ?q_c5 ?q_k5 ?q_a7 ?q_l7 ?q_c7 ?q_k7 ?q_a8 ?q_l8 ?q_c8 ?q_k8 ?q_a9 ?q_l9 ?q_c9 ?q_k9 ?q_a10 ?q_l10 ?q_c10 ?q_k10 ?q_a12 ?q_l12 ?q_c12 ?q_k12 ?q_a13 ?q_l13 ?q_c13 ?q_k13 ?q_a14 ?q_l14 ?q_c14 ?q_k14 ?q_a20 ?q_l20 ?q_c20 ?q_k20 ?q_a21 ?q_l21 ?q_c21 ?q_k21 ?q_a22 ?q_l22 ?q_c22 ?q_k22 ?q_a23 ?q_l23 ?q_c23 ?q_k23 ?q_a24 ?q_l24 ?q_c24 ?q_k24 ?q_a25 ?q_l25 ?q_c25 ?q_k25 ?q_a26 ?q_l26 ?q_c26 ?q_k26 ?q_a27 ?q_l27 ?q_c27 ?q_k27 ?q_a28 ?q_l28 ?q_c28 ?q_k28 ?q_a29 ?q_l29 ?q_c29 ?q_k29 ?q_a30 ?q_l30 ?q_c30 ?q_k30 ?q_a31 ?q_l31 ?q_c31 ?q_k31 ?q_a11 ?q_l11 ?q_c11 ?q_k11 ?q_aL ?q_lL ?q_cL1 ?q_tL ?q_nL ?q_rL ?q_a4 ?q_l4 ?q_d4 ?q_c4 ?q_k4 ?q_a6 ?q_l6 ?q_d6 ?q_c6 ?q_k6 ?q_aC ?q_pgC ?q_hdC ?q_poC ?q_saC ?q_mkC ?q_kcC ?q_nf0C ?q_jaC ?q_jnC ?q_jtC ?q_jmC ?q_iI ?q_nI ?q_lI ?q_dI ?q_le ?q_cI ?q_kI ?q_aS ?q_nS ?q_lS ?q_cS ?q_kS ?q_aU ?q_nU ?q_lU ?q_cU ?q_kU ?q_aY ?q_nY ?q_lY ?q_cY ?q_kY ?q_aZ ?q_nZ ?q_lZ ?q_cZ ?q_kZ ?q_aV ?q_pgV ?q_hdV ?q_poV ?q_saV ?q_mkV ?q_kcV ?q_nf0V ?q_nf1V ?q_aJ ?q_nJ ?q_lJ ?q_cJ ?q_kJ ?q_ag1 ?q_ng1 ?q_lg1 ?q_cg1 ?q_kg1 ?q_ag2 ?q_ng2 ?q_lg2 ?q_cg2 ?q_kg2 ?q_ag3 ?q_ng3 ?q_lg3 ?q_cg3 ?q_kg3 ?q_aW ?q_xW ?q_saW ?q_exW ?q_tyW ?q_kpW ?q_nf0W ?q_iN ?q_tN ?q_lN ?q_cN ?q_kN ?q_aE ?q_xE ?q_saE ?q_exE ?q_tyE ?q_kpE ?q_nf0E ?q_iQ ?q_tQ ?q_lQ ?q_cQ ?q_kQ ?q_gaE ?q_ggE ?q_xdE ?q_haE ?q_hnE ?q_htE ?q_hmE ?q_teE ?q_ae1 ?q_ae2 ?q_ae4 ?q_sE1 ?q_hcE1 ?q_tcE1 ?q_ncE1 ?q_sE2 ?q_hcE2 ?q_tcE2 ?q_ncE2 ?q_sE4 ?q_hcE4 ?q_tcE4 ?q_ncE4 ?q_c_M ?q_z_len ?q_z_abs ?q_z_max ?q_z_min ?q_z_divmod ?q_z_list ?q_z_tuple ?q_z_range ?q_z_isinstance ?q_z_bool ?q_z_int ?q_z_sorted ?q_z_set ?q_z_all ?q_z_enumerate ?q_z_repr ?q_z_sum
    (case q_a1 => k_is)
    (case q_l1 => k_is)
    (case q_c1 => k_is)
    (case q_k1 => k_is)
    (case q_a2 => k_is)
    (case q_l2 => k_is)
    (case q_c2 => k_is)
    (case q_k2 => k_is)
    (case q_a3 => k_is)
    (case q_l3 => k_is)
    (case q_c3 => k_is)
    (case q_k3 => k_is)
    (case q_a5 => k_is)
    (case q_l5 => k_is)
    (case q_c5 => k_is)
    (case q_k5 => k_is)
    (case q_a7 => k_is)
    (case q_l7 => k_is)
    (case q_c7 => k_is)
    (case q_k7 => k_is)
    (case q_a8 => k_is)
    (case q_l8 => k_is)
    (case q_c8 => k_is)
    (case q_k8 => k_is)
    (case q_a9 => k_is)
    (case q_l9 => k_is)
    (case q_c9 => k_is)
    (case q_k9 => k_is)
    (case q_a10 => k_is)
    (case q_l10 => k_is)
    (case q_c10 => k_is)
    (case q_k10 => k_is)
    (case q_a12 => k_is)
    (case q_l12 => k_is)
    (case q_c12 => k_is)
    (case q_k12 => k_is)
    (case q_a13 => k_is)
    (case q_l13 => k_is)
    (case q_c13 => k_is)
    (case q_k13 => k_is)
    (case q_a14 => k_is)
    (case q_l14 => k_is)
    (case q_c14 => k_is)
    (case q_k14 => k_is)
    (case q_a20 => k_is)
    (case q_l20 => k_is)
    (case q_c20 => k_is)
    (case q_k20 => k_is)
    (case q_a21 => k_is)
    (case q_l21 => k_is)
    (case q_c21 => k_is)
    (case q_k21 => k_is)
    (case q_a22 => k_is)
    (case q_l22 => k_is)
    (case q_c22 => k_is)
    (case q_k22 => k_is)
    (case q_a23 => k_is)
    (case q_l23 => k_is)
    (case q_c23 => k_is)
    (case q_k23 => k_is)
    (case q_a24 => k_is)
    (case q_l24 => k_is)
    (case q_c24 => k_is)
    (case q_k24 => k_is)
    (case q_a25 => k_is)
    (case q_l25 => k_is)
    (case q_c25 => k_is)
    (case q_k25 => k_is)
    (case q_a26 => k_is)
    (case q_l26 => k_is)
    (case q_c26 => k_is)
    (case q_k26 => k_is)
    (case q_a27 => k_is)
    (case q_l27 => k_is)
    (case q_c27 => k_is)
    (case q_k27 => k_is)
    (case q_a28 => k_is)
    (case q_l28 => k_is)
    (case q_c28 => k_is)
    (case q_k28 => k_is)
    (case q_a29 => k_is)
    (case q_l29 => k_is)
    (case q_c29 => k_is)
    (case q_k29 => k_is)
    (case q_a30 => k_is)
    (case q_l30 => k_is)
    (case q_c30 => k_is)
    (case q_k30 => k_is)
    (case q_a31 => k_is)
    (case q_l31 => k_is)
    (case q_c31 => k_is)
    (case q_k31 => k_is)
    (case q_a11 => k_is)
    (case q_l11 => k_is)
    (case q_c11 => k_is)
    (case q_k11 => k_is)
    (case q_aL => k_is)
    (case q_lL => k_is)
    (case q_cL1 => k_is)
    (case q_tL => first | rfl | k_is)
    (case q_nL => first | rfl | k_is)
    (case q_rL => first | rfl | decide +kernel)
    (case q_a4 => k_is)
    (case q_l4 => k_is)
    (case q_d4 => k_is)
    (case q_c4 => k_is)
    (case q_k4 => k_is)
    (case q_a6 => k_is)
    (case q_l6 => k_is)
    (case q_d6 => k_is)
    (case q_c6 => k_is)
    (case q_k6 => k_is)
    (case q_aC => k_is)
    (case q_pgC => k_is)
    (case q_hdC => k_is)
    (case q_poC => k_is)
    (case q_saC => k_is)
    (case q_mkC => k_is)
    (case q_kcC => k_is)
    (case q_nf0C => k_is)
    (case q_jaC => k_is)
    (case q_jnC => k_is)
    (case q_jtC => k_is)
    (case q_jmC => k_is)
    (case q_iI => k_is)
    (case q_nI => k_is)
    (case q_lI => k_is)
    (case q_dI => k_is)
    (case q_le => k_is)
    (case q_cI => k_is)
    (case q_kI => k_is)
    (case q_aS => k_is)
    (case q_nS => k_is)
    (case q_lS => k_is)
    (case q_cS => k_is)
    (case q_kS => k_is)
    (case q_aU => k_is)
    (case q_nU => k_is)
    (case q_lU => k_is)
    (case q_cU => k_is)
    (case q_kU => k_is)
    (case q_aY => k_is)
    (case q_nY => k_is)
    (case q_lY => k_is)
    (case q_cY => k_is)
    (case q_kY => k_is)
    (case q_aZ => k_is)
    (case q_nZ => k_is)
    (case q_lZ => k_is)
    (case q_cZ => k_is)
    (case q_kZ => k_is)
    (case q_aV => k_is)
    (case q_pgV => k_is)
    (case q_hdV => k_is)
    (case q_poV => k_is)
    (case q_saV => k_is)
    (case q_mkV => k_is)
    (case q_kcV => k_is)
    (case q_nf0V => k_is)
    (case q_nf1V => k_is)
    (case q_aJ => k_is)
    (case q_nJ => k_is)
    (case q_lJ => k_is)
    (case q_cJ => k_is)
    (case q_kJ => k_is)
    (case q_ag1 => k_is)
    (case q_ng1 => k_is)
    (case q_lg1 => k_is)
    (case q_cg1 => k_is)
    (case q_kg1 => k_is)
    (case q_ag2 => k_is)
    (case q_ng2 => k_is)
    (case q_lg2 => k_is)
    (case q_cg2 => k_is)
    (case q_kg2 => k_is)
    (case q_ag3 => k_is)
    (case q_ng3 => k_is)
    (case q_lg3 => k_is)
    (case q_cg3 => k_is)
    (case q_kg3 => k_is)
    (case q_aW => k_is)
    (case q_xW => k_is)
    (case q_saW => k_is)
    (case q_exW => k_is)
    (case q_tyW => k_is)
    (case q_kpW => k_is)
    (case q_nf0W => k_is)
    (case q_iN => k_is)
    (case q_tN => k_is)
    (case q_lN => k_is)
    (case q_cN => k_is)
    (case q_kN => k_is)
    (case q_aE => k_is)
    (case q_xE => k_is)
    (case q_saE => k_is)
    (case q_exE => k_is)
    (case q_tyE => k_is)
    (case q_kpE => k_is)
    (case q_nf0E => k_is)
    (case q_iQ => k_is)
    (case q_tQ => k_is)
    (case q_lQ => k_is)
    (case q_cQ => k_is)
    (case q_kQ => k_is)
    (case q_gaE => k_is)
    (case q_ggE => k_is)
    (case q_xdE => k_is)
    (case q_haE => k_is)
    (case q_hnE => k_is)
    (case q_htE => k_is)
    (case q_hmE => k_is)
    (case q_teE => first | rfl | k_is)
    (case q_ae1 => k_is)
    (case q_ae2 => k_is)
    (case q_ae4 => k_is)
    (case q_sE1 => k_is)
    (case q_hcE1 => k_is)
    (case q_tcE1 => k_is)
    (case q_ncE1 => decide)
    (case q_sE2 => k_is)
    (case q_hcE2 => k_is)
    (case q_tcE2 => k_is)
    (case q_ncE2 => decide)
    (case q_sE4 => k_is)
    (case q_hcE4 => k_is)
    (case q_tcE4 => k_is)
    (case q_ncE4 => decide)
    (case q_c_M => k_is)
    (case q_z_len => k_is)
    (case q_z_abs => k_is)
    (case q_z_max => k_is)
    (case q_z_min => k_is)
    (case q_z_divmod => k_is)
    (case q_z_list => k_is)
    (case q_z_tuple => k_is)
    (case q_z_range => k_is)
    (case q_z_isinstance => k_is)
    (case q_z_bool => k_is)
    (case q_z_int => k_is)
    (case q_z_sorted => k_is)
    (case q_z_set => k_is)
    (case q_z_all => k_is)
    (case q_z_enumerate => k_is)
    (case q_z_repr => k_is)
    (case q_z_sum => k_is)
