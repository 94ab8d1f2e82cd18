import PyProof.Rows.All
import Wide.All
import OpenK.AllK
import Wide.FinOn
import HandS.ForMost
import HandS.ForExc
import HandS.ExcInit
import HandS.ExcIs
import HandS.ExcField
import HandS.IsInst
import HandS.Defaults
import HandS.SortInts
import HandS.SetFor
import HandS.More
import HandS.Conv
import HandS.WideBits
import HandS.TupAny
import HandS.SuiteRaise
import HandS.TryMany
import HandS.Strs
import KE.GoesMore
import HandS.Walk
import HandS.MakeKw
import HandS.MakeKwOnly
import HandS.SortKw
import KE.KExcIs
import HandS.CallSlots
import KE.KExcInit
import HandS.OwnEq
import PyProof.InstNe
import HandS.FStr
import KE.KCallOwn
import PyProof.ReprRoads
import HandS.Flow
import HandS.Rev
import HandS.Style
import PyProof.ListNew
import PyProof.Rows.ReprOcc
import KE.DataEq
import PyProof.ReprReads
import PyProof.ReprNest
import HandS.HotCalls
import HandS.Lambda
import HandS.EndTab
import KE.SortData
import KE.SortLaws
import HandS.Dict
import HandS.TupLen
import HandS.Deep
import HandS.NoneIn
import PySem.Challenge.RW_paritycells_k33_removed_and_restored
set_option Elab.async false
set_option linter.all false
set_option maxRecDepth 100000
set_option maxHeartbeats 4000000
namespace Par
open PySem PySem.Spec PyProof.Rows L2

/-! A def's promise where nothing is being shown by repr around it: the guards are known to be none. -/
structure FnG (P : Program) (w : World) (K : PySem.W.Frag) (mg : Str → Option Value) (base : Heap) (CX : CXT) (k : Nat)
    (f : Addr) (fd : FuncData) (ps : List Str) (sp : Sp) : Prop where
  arity : ∀ vs H Q E, sp vs H Q E → vs.length = ps.length
  go : ∀ (A : Around) (outer : List Env) (s : Shared) (H : Hp) (args : Args) (us : List Value) (vs : List V) (Q : VK) (E : XK),
    A.guards = some [] → Room k A → Env0 P w K mg base A outer s H → BindsTo s fd args (ps.zip us) → Vals vs us →
    sp vs H Q E → codeAny (model P w) A (.call (.ref f) args) (CR CX outer P w H s Q E) s

section
variable {P : Program} {w : World} {K : PySem.W.Frag} {mg : Str → Option Value} {base : Heap}

theorem fnG_of {k : Nat} {x qual : Str} {st : Stmt} {f : Addr} {fd : FuncData} {N ps : List Str} {sp : Sp}
    (F : Fun K x qual st f fd) (S : FnScope N ps (defScope st))
    (arity : ∀ vs H Q E, sp vs H Q E → vs.length = ps.length)
    (body : ∀ (cdv : Value) (A : Around) (outer : List Env) (s : Shared) (H : Hp) (vs : List V) (Q : VK) (E : XK),
      A.guards = some [] → Room k (A.deeper (envOfC qual (defScope st) s.heap.objs.size f cdv)) → sp vs H Q E →
      ∃ t, PSs (cxOf CX0 P w K mg base N qual (defScope st) f cdv A outer s H E).nox (defBody st) t ∧
        t { nx := fun _ H' => Q .non H', rt := Q } (start N vs) H) :
    FnG P w K mg base CX0 (k + 1) f fd ps sp := by
  obtain ⟨oc, od, kV, doc, pm, an, cdv, ct, osl, efd, lk, hcd⟩ := F.ex
  subst efd
  constructor
  · exact arity
  intro A outer s H args us vs Q E gs room e0 bound rel hsp
  have lens := arity _ _ _ _ hsp
  have kin : K.In s.heap := e0.mod.kin.keeps (fun b o z => (e0.bs b o z).1)
  have nolim : s.heap.NoLimit := e0.mod.nolimit.keeps (fun b o z => (e0.bs b o z).1)
  have kinds : ∀ y ∈ ps.zip us, (defScope st).names.lookup y.1 = some .local ∨ ((defScope st).names.lookup y.1 = some .cell ∧
      ((cellsFrom (s.heap.objs.size + 1) (defScope st).names []).lookup y.1).isSome = true) := by
    rintro ⟨n, v⟩ hy
    cases S.par n (List.of_mem_zip hy).1 with
    | inl q => exact Or.inl q
    | inr q => exact Or.inr ⟨q, PySem.W.cellsFrom_some _ _ _ (Or.inl q)⟩
  refine codeAny_call_function room.depth (kin _ _ lk) rfl S.co S.gen rfl (PySem.W.codeRec_of kin hcd) (bound _ _ _ _ ?_)
  refine wpAny_newFunctionEnv_cells S.kind kinds ?_
  intro env he s1 x1
  subst he
  refine ⟨nolim.keeps x1.toInCall.keep, codeAny_func ?_⟩
  obtain ⟨t, ht, hq⟩ := body cdv A outer s H vs Q E gs (room.deeper _) hsp
  have I := inv_start (CX := CX0) (E := E) (w := w) S room.hd e0 lens rel x1
  refine wpAny_mono (ht.nox.run [] s1 (start N vs) H _ I hq) ?_ (fun e s' hs => hs)
  intro fl s' hs
  cases fl with
  | ret u =>
    obtain ⟨v, σ1, H1, J, rv, q⟩ := hs
    exact ⟨v, H1, J.os, J.bare, J.base, J.hok, rv, q⟩
  | next =>
    obtain ⟨σ1, H1, J, q⟩ := hs
    exact ⟨V.non, H1, J.os, J.bare, J.base, J.hok, rfl, q⟩
  | brk => exact (let ⟨_, _, _, q⟩ := hs; False.elim q)
  | cont => exact (let ⟨_, _, _, q⟩ := hs; False.elim q)
end

section
variable {X : Cx} {CX : CXT} {k : Nat} {f : Addr} {fd : FuncData} {ps : List Str} {sp : Sp} {x : Str} {p pos : Pos} {e : Expr} {es : List Expr} {t : TA} {E : XK}

/-- f(e, ..) of such a def, called where the guards are none -/
theorem pe_callG (F : FnG X.prog X.w X.K X.mg X.base CX k f fd ps sp) (gs : X.A.guards = some []) (hr : Room k X.A) (hg : Gl X x)
    (hm : X.mg x = some (.ref f)) (hk : PySem.W.keepIn X.K (.ref f) = true) (hb : Binds X.K fd ps []) (hx : Passes CX X E) (ha : PA X (e :: es) t)
    (hdb : (x == ("__debug__" : Str)) = false := by decide)
    (he : starEach (e :: es) X.env = (false, eval e X.env) :: starEach es X.env := by rfl)
    (hpl : (backTo pos (starEach es X.env)).any (·.1) = false := by rfl) :
    PE X (.Call (.Name x p) (e :: es) [] pos) (tCall sp [] E t) := by
  constructor
  intro pins s σ H Q I h
  refine wpAny_Call_Name_kw (ld_glob I hg hm ?_ hdb)
  refine PySem.W.callWith_K (h₀ := X.base) I.ok.mod.kin hk (thn (ha.run pos pins s σ H _ I h) ?_) he hpl
  rintro us s1 ⟨vs, H1, I1, r, q⟩
  refine ⟨I1.kIn, ?_⟩
  rw [List.append_nil] at q
  have hl : (us ++ []).length = ps.length := by
    rw [List.append_nil, ← r.length]
    exact F.arity _ _ _ _ q
  have hbi := hb s1 us I1.kIn hl
  rw [List.append_nil] at hbi
  refine wpAny_call (codeAny_mono (F.go X.A X.stack s1 H1 ⟨us, []⟩ us vs Q E gs hr I1.env0 hbi r q) ?_)
  intro res s' hq
  cases res with
  | error er => exact hx pins σ H1 s1 er s' I1 hq
  | ok fl =>
    cases fl with
    | ret u => exact I1.after hq
    | next => exact False.elim hq
    | brk => exact False.elim hq
    | cont => exact False.elim hq
end

/-- the law's end over such a promise -/
theorem law_callG {P : Program} {w : World} {K : PySem.W.Frag} {mg mb : Str → Option Value} {k : Nat} {fa a : Addr} {fd : FuncData} {x : Str} {sp : Sp}
    {s1 : Shared} {vs : List Value} {ns : List Int}
    (KX : K.In s1.heap) (hns : s1.heap.Ns mainGlobals mg) (hb : s1.heap.Ns builtinsNs mb)
    (hbb : ∀ x : Str, x ≠ "__name__" → mb x = bootBuiltins x) (hlim : s1.heap.NoLimit) (hg : s1.gens = #[])
    (ha : s1.heap.get? a = some { cls := .type "list", data := .seq vs.toArray }) (hi : IntsAre vs ns) (hl : ns.length ≤ sizeLine) (hr : Room k callerA)
    (F : ∀ base : Heap, K.In base → base.Ns mainGlobals mg → FnG P w K mg base CX0 k fa fd [x] sp)
    (hbind : ∀ (s : Shared) (u : Value), BindsTo s fd ⟨[u], []⟩ [(x, u)])
    (hsp : ∀ H : Hp, Only H → SqL K H a (ns.map V.int) → sp [.ref a] H (fun v _ => v = .bl true) fun _ _ _ => False) :
    codeAny (model P w) callerA (.call (.ref fa) ⟨[.ref a], []⟩)
      (fun r s' => r = .ok (.ret (.bool true)) ∧ OldK s1.heap s'.heap ∧ s'.os = s1.os ∧ AllBare s'.gens) s1 := by
  have rv := vals_ints hi
  have lenV := hi.length
  have core : ∀ H : Hp, Only H → SqL K H a (ns.map V.int) → HOk P w H s1.heap → (∀ b, H b ≠ none → b = a) →
      (H a ≠ none → K.lookup a = none) → codeAny (model P w) callerA (.call (.ref fa) ⟨[.ref a], []⟩)
      (fun r s' => r = .ok (.ret (.bool true)) ∧ OldK s1.heap s'.heap ∧ s'.os = s1.os ∧ AllBare s'.gens) s1 := by
    intro H only sq ok only_a out_a
    have un_dict : ∀ {b : Addr} {o : Obj} {es : Array DictEntry} {ep : Nat}, s1.heap.get? b = some o → o.data = .dict es ep → H b = none := by
      intro b o es ep e d
      cases q : H b with
      | none => rfl
      | some u =>
        have e' : b = a := only_a b (by rw [q]; simp)
        rw [e', ha] at e
        cases e
        exact nomatch d
    have ns_of : ∀ {b : Addr} {m : Str → Option Value}, s1.heap.Ns b m → (hidT s1.heap H).Ns b m := by
      rintro b m ⟨o, es, ep, e, d, r⟩
      exact ⟨o, es, ep, hidT_get e (un_dict e d), d, r⟩
    have kin : K.In (hidT s1.heap H) := by
      intro b o e
      refine hidT_get (KX b o e) ?_
      cases q : H b with
      | none => rfl
      | some u =>
        have e' : b = a := only_a b (by rw [q]; simp)
        rw [e'] at q e
        rw [out_a (by rw [q]; simp)] at e
        cases e
    have md : Mod K mg (hidT s1.heap H) := by
      obtain ⟨mc, h1, h2⟩ := hlim
      exact ⟨kin, ns_of hns, ⟨mb, ns_of hb, hbb⟩, ⟨mc, ns_of h1, h2⟩⟩
    have e0 : Env0 P w K mg (hidT s1.heap H) callerA [] s1 H := by
      refine ⟨rfl, md, fun b o e => of_hidT e, Nat.le_of_eq (hidT_size _ _), trivial, ?_, ok, .of_eq hg⟩
      intro b z
      exact absurd (show b ∈ ([] : List Addr) from z) (by simp)
    refine codeAny_mono ((F _ kin (ns_of hns)).go callerA [] s1 H ⟨[.ref a], []⟩ [.ref a] [.ref a] _ _ rfl hr e0
      (hbind s1 (.ref a)) (.cons rfl .nil) (hsp H only sq)) ?_
    intro r s' h
    cases r with
    | error e => exact False.elim h
    | ok fl =>
      cases fl with
      | next => exact False.elim h
      | brk => exact False.elim h
      | cont => exact False.elim h
      | ret u =>
        obtain ⟨v, H1, os, bare, un, ok1, rel, q⟩ := h
        have q' : v = .bl true := q
        subst q'
        obtain rfl : u = Value.bool true := rel
        refine ⟨rfl, OldK.of_keep ?_, os, bare⟩
        intro b o e
        cases q : H b with
        | none => exact un.keep b o e q (fun z => absurd (show b ∈ ([] : List Addr) from z) (by simp)) (by simp)
        | some u =>
          rcases only b with z | ⟨ob, xs, z⟩
          · rw [q] at z
            cases z
          · have z2 := un.frzs b ob _ z
            have e1 := (ok b _ z).1
            have e2 := (ok1 b _ z2).1
            rw [e] at e1
            cases e1
            exact e2
  cases hk : K.lookup a with
  | some o =>
    have e := KX a o hk
    rw [ha] at e
    cases e
    refine core (fun _ => none) (fun _ => .inl rfl) (.inr ⟨_, vs.toArray, _, hk, rfl, rfl, rfl, ?_, by simpa using rv⟩) ?_ (fun b z => absurd rfl z) (fun z => absurd rfl z)
    · rw [List.size_toArray, lenV]
      exact hl
    · intro b u z
      exact nomatch (show (none : Option HO) = some u from z)
  | none =>
    refine core (fun b => if b = a then some (.frz { cls := .type "list", data := .seq vs.toArray } (.lst (ns.map V.int))) else none) ?_ (.inl (.inr ⟨_, if_pos rfl⟩)) ?_ ?_ (fun _ => hk)
    · intro b
      by_cases hb : b = a
      · exact .inr ⟨_, _, if_pos hb⟩
      · exact .inl (if_neg hb)
    · intro b u z
      by_cases hb : b = a
      · have z1 := (if_pos hb).symm.trans z
        cases z1
        subst hb
        exact ⟨ha, by rw [List.length_map]; exact hl, vs, _, rv, ha⟩
      · have z1 := (if_neg hb).symm.trans z
        cases z1
    · intro b z
      by_cases hb : b = a
      · exact hb
      · exact absurd (if_neg hb) z

theorem walkG {l : PySem.W.OpenLaw} {n k : Nat} {q : Program} {loose : List Str} {XP : (Str → Option Value) → Heap → Prop} {YP : World → Heap → Prop}
    {d : DefRec} {K : Params → PySem.W.Frag} {sp : PySem.W.Frag → Sp} {x : Str}
    (hn : l.most = some n) (hn2 : n ≤ sizeLine) (hdf : d.params.defaults = []) (hr : Room k callerA)
    (hY : ∀ (w : World) (h : Heap), YP w h → (K w.params).In h)
    (F : ∀ (w : World) (mg : Str → Option Value) (fa : Addr) (h : Heap), (K w.params).In h → h.Ns mainGlobals mg → mg d.name = some (.ref fa) →
      ∃ fd : FuncData, (∀ (s : Shared) (u : Value), BindsTo s fd ⟨[u], []⟩ [(x, u)]) ∧
        ∀ base : Heap, (K w.params).In base → base.Ns mainGlobals mg → FnG l.prog w (K w.params) mg base CX0 k fa fd [x] (sp (K w.params)))
    (hsp : ∀ (K : PySem.W.Frag) (H : Hp) (a : Addr) (ns : List Int), ns.length ≤ n → Only H → SqL K H a (ns.map V.int) →
      sp K [.ref a] H (fun v _ => v = .bl true) fun _ _ _ => False) :
    PySem.W.WalkO q loose XP YP l.row.toRowW d [] (fun f vs => PySem.call f vs) := by
  refine Att.attach_call hn hdf ?_
  intro w s0 s1 mg mb fa o pm cd doc a vs ns G Y ho hd hcd hmg hobj hints hlen hg
  have KX := hY w _ Y
  obtain ⟨fd, hb, hF⟩ := F w mg fa _ KX G.T.g hmg
  exact law_callG KX G.T.g G.T.b G.T.builtins G.T.nolimit hg hobj hints (Nat.le_trans hlen hn2) hr hF hb
    (fun H hO hS => hsp _ H a ns hlen hO hS)
end Par
namespace Par
open PySem PySem.Spec PyProof.Rows L2

/-! ### how many distinct items there are -/
theorem nodup_le : ∀ {L M : List Int}, L.Nodup → (∀ k ∈ L, k ∈ M) → L.length ≤ M.length
  | [], M, _, _ => Nat.zero_le _
  | a :: L, M, hn, hs => by
    have ha : a ∈ M := hs a (List.mem_cons_self ..)
    have h1 := nodup_le (L := L) (M := M.erase a) (List.nodup_cons.mp hn).2 (fun k hk => by
      have hka : k ≠ a := fun e => (List.nodup_cons.mp hn).1 (e ▸ hk)
      exact (List.mem_erase_of_ne hka).mpr (hs k (List.mem_cons_of_mem _ hk)))
    have h2 := List.length_erase_of_mem ha
    have h3 : 0 < M.length := List.length_pos_of_mem ha
    show L.length + 1 ≤ M.length
    omega
theorem nodup_lt : ∀ {M L : List Int}, L.Nodup → (∀ k ∈ L, k ∈ M) → ¬ M.Nodup → L.length < M.length
  | [], _, _, _, h => absurd List.nodup_nil h
  | a :: M, L, hn, hs, hM => by
    by_cases ha : a ∈ M
    · have h := nodup_le (L := L) (M := M) hn (fun k hk => by
        rcases List.mem_cons.mp (hs k hk) with e | e
        · exact e ▸ ha
        · exact e)
      show L.length < M.length + 1
      omega
    · have hM' : ¬ M.Nodup := fun z => hM (List.nodup_cons.mpr ⟨ha, z⟩)
      have h := nodup_lt (M := M) (L := L.erase a) (hn.erase a) (fun k hk => by
        have hk2 := (hn.mem_erase_iff).mp hk
        rcases List.mem_cons.mp (hs k hk2.2) with e | e
        · exact absurd e hk2.1
        · exact e) hM'
      have h2 : L.length ≤ (L.erase a).length + 1 := by
        by_cases hL : a ∈ L
        · have := List.length_erase_of_mem hL
          omega
        · rw [List.erase_of_not_mem hL]
          omega
      show L.length < M.length + 1
      omega
theorem distinct_iff {L M : List Int} (hn : L.Nodup) (hs : ∀ k, k ∈ L ↔ k ∈ M) : L.length ≤ M.length ∧ (L.length = M.length ↔ M.Nodup) := by
  have h1 := nodup_le hn (fun k hk => (hs k).mp hk)
  refine ⟨h1, fun e => ?_, fun e => ?_⟩
  · by_cases h : M.Nodup
    · exact h
    · have := nodup_lt hn (fun k hk => (hs k).mp hk) h
      omega
  · have := nodup_le e (fun k hk => (hs k).mpr hk)
    omega
theorem firstMet_nodup2 (val : Nat → Int) : ∀ i, (firstMet val i).Nodup
  | 0 => List.nodup_nil
  | i + 1 => by
    rw [firstMet_succ]
    have ih := firstMet_nodup2 val i
    unfold step_dedup
    split
    · exact ih
    · rename_i h
      refine List.nodup_append.mpr ⟨ih, by simp, ?_⟩
      intro a ha b hb e
      have hb' : b = val i := by simpa using hb
      apply h
      rw [List.any_eq_true]
      exact ⟨a, ha, by simp [e, hb']⟩
theorem firstMet_mem (ns : List Int) (k : Int) : k ∈ firstMet (fun i => ns.getD i 0) ns.length ↔ k ∈ ns := by
  have h := firstMet_any (fun i => ns.getD i 0) ns.length k
  have e : (List.range ns.length).map (fun i => ns.getD i 0) = ns := by
    refine List.ext_getElem (by simp) (fun i h1 h2 => ?_)
    simp [List.getD_eq_getElem?_getD, List.getElem?_eq_getElem h2]
  rw [e] at h
  constructor
  · intro z
    have y : (firstMet (fun i => ns.getD i 0) ns.length).any (· == k) = true := List.any_eq_true.mpr ⟨k, z, by simp⟩
    rw [h] at y
    obtain ⟨x, hx, ex⟩ := List.any_eq_true.mp y
    have : x = k := by simpa using ex
    exact this ▸ hx
  · intro z
    have y : ns.any (· == k) = true := List.any_eq_true.mpr ⟨k, z, by simp⟩
    rw [← h] at y
    obtain ⟨x, hx, ex⟩ := List.any_eq_true.mp y
    have : x = k := by simpa using ex
    exact this ▸ hx

/-- len(set(x)), x a list or tuple of ints -/
def tLenSetQ (K : PySem.W.Frag) (ta : TE) : TE := fun σ H Q => ta σ H fun x H1 => ∃ (l : Addr) (ns : List Int), x = .ref l ∧
  (SqL K H1 l (ns.map V.int) ∨ SqT K H1 l (ns.map V.int)) ∧ ns.length ≤ 4000 ∧
  ∀ c : Nat, c ≤ ns.length → (c = ns.length ↔ ns.Nodup) → Q (.int (c : Nat)) H1
theorem numbers_of : ∀ {ns : List Int} {us : List Value}, Vals (ns.map V.int) us → IntsAre us ns
  | [], _, h => by
    cases h
    exact .nil
  | n :: ns, _, h => by
    cases h with
    | cons r t =>
      obtain ⟨tk, rfl⟩ := r
      exact .cons n tk (numbers_of t)
theorem pe_lenSetQ {X : Cx} {a : Expr} {ta : TE} {p p2 q pos : Pos} (hg : Gl X "len") (hm : X.mg "len" = none) (hg2 : Gl X "set") (hm2 : X.mg "set" = none) (ha : PE X a ta)
    (hc : X.calm = true := by rfl) (na : starEach [a] X.env = (false, eval a X.env) :: starEach [] X.env := by rfl) :
    PE X (.Call (.Name "len" p) [.Call (.Name "set" p2) [a] [] q] [] pos) (tLenSetQ X.K ta) := by
  constructor
  intro pins s σ H Q I h
  refine Call_ (ld_blt I hg hm boot_len ?_)
  refine PyProof.Rows.callWith_builtin1 (PyProof.Rows.args_cons (Call_ (ld_blt I hg2 hm2 boot_set ?_)) rfl) rfl rfl
  refine PyProof.Rows.callWith_type1 (PyProof.Rows.args_cons (thn (ha.run pins s σ H _ I h) ?_) na) na rfl
  rintro v s1 ⟨x, H1, I1, r1, l, ns, rfl, hq, hl, q1⟩
  refine PyProof.Rows.args_nil ?_
  cases r1
  rcases hq with hq | hq
  · obtain ⟨its, r, plain, hz⟩ := I1.list hq
    have hlen : its.toArray.size = ns.length := by
      rw [List.size_toArray, ← r.length]
      exact List.length_map ..
    refine call_set_list (I1.ok.hd hc) plain.isList (by simpa using numbers_of r) (by rw [hlen]; unfold scanBound; omega) ?_
    intro h' tk hS hk
    refine PyProof.Rows.args_nil ?_
    rw [hlen] at hS
    obtain ⟨o, es, ep, t, ho, hex, hd, _, _, _, hf, hn⟩ := hS
    have I2 : L2.Inv X pins σ H1 { s1 with heap := h', toks := tk } := I1.kept fun b o e => hk b o (Heap.lt_size e) e
    obtain ⟨d1, d2⟩ := distinct_iff (firstMet_nodup2 (fun i => ns.getD i 0) ns.length) (fun k => firstMet_mem ns k)
    exact call_len_set ho hex hd hf (by rw [hn]; unfold sizeLine at *; omega) ⟨.int _, H1, I2.tok _, ⟨_, by rw [hn]⟩, q1 _ d1 d2⟩
  · obtain ⟨its, r, tup, hz⟩ := I1.tuple hq
    have hlen : its.toArray.size = ns.length := by
      rw [List.size_toArray, ← r.length]
      exact List.length_map ..
    refine L2.call_set_tupI ns (I1.ok.hd hc) tup (by simpa using numbers_of r) (by unfold scanBound; omega) ?_
    intro h' tk c hS hcn hk
    refine PyProof.Rows.args_nil ?_
    obtain ⟨o, es, ep, t, ho, hex, hd, _, nd, mem, _, hf, hn, _, _⟩ := hS
    have I2 : L2.Inv X pins σ H1 { s1 with heap := h', toks := tk } := I1.kept hk
    have hmem : ∀ k, k ∈ es.toList.map keyOf ↔ k ∈ ns := fun k => (mem k).symm.trans (by simp)
    obtain ⟨d1, d2⟩ := distinct_iff nd hmem
    have hc2 : (es.toList.map keyOf).length = c := by rw [List.length_map, Array.length_toList, hn]
    rw [hc2] at d1 d2
    exact call_len_set ho hex hd hf (by rw [hn]; omega) ⟨.int (c : Nat), H1, I2.tok _, ⟨_, by rw [hn]⟩, q1 c d1 d2⟩
end Par
namespace Par
open PySem PySem.Spec PyProof.Rows L2

/-! ### a loop that changes nothing -/
section
variable {M : Model} {A : Around} {E : Value → Shared → Prop} {s : Shared}
theorem wp_forSame {α β : Type} {b : β} {f : α → β → Sem (ForInStep β)} {Q : β → Shared → Prop} : ∀ (l : List α),
    (∀ a ∈ l, ∀ Q' : ForInStep β → Shared → Prop, Q' (.yield b) s → wpAny M A (f a b) Q' E s) → Q b s → wpAny M A (forIn l b f) Q E s
  | [], _, h => by
    rw [List.forIn_nil]
    exact wpAny_pure h
  | a :: l, hf, h => by
    rw [List.forIn_cons]
    refine wpAny_bind (hf a (List.mem_cons_self ..) _ ?_)
    exact wp_forSame l (fun x hx => hf x (List.mem_cons_of_mem _ hx)) h
end
section
variable {P : Program} {w : World} {A : Around} {E : Value → Shared → Prop} {s : Shared} {a f : Addr} {S Sf : Int → Bool} {n nf : Nat}
theorem quiet_sets {sets : List Addr} {Q : Bool → Shared → Prop} (hs : ∀ b ∈ sets, ∃ S n, SetR w s.heap b S n) (h : Q true s) :
    wpAny (model P w) A (setsQuiet sets) Q E s := by
  unfold setsQuiet
  refine wpAny_bind (wp_forSame sets (fun b hb Q' q => ?_) (wpAny_pure h))
  obtain ⟨S, n, o, es, ep, t, ho, hx, hd, g, _, _, _, hf, _⟩ := hs b hb
  refine wpAny_bind (wpAny_setEntries_of ho hd hf ?_)
  rw [← Array.forIn_toList]
  refine wpAny_bind (wp_forSame es.toList (fun e he Q2 q2 => ?_) (wpAny_pure q))
  obtain ⟨k, tk, h1, _⟩ := g e he
  obtain ⟨hh, x⟩ := e
  subst h1
  exact wpAny_pure q2
/-- what a walk that nobody sees gives -/
def Given (S : Int → Bool) (n : Nat) (l : Array (Int × Value)) : Prop :=
  (∀ e ∈ l.toList, GoodE e) ∧ (l.toList.map keyOf).Nodup ∧ (∀ k, S k = true ↔ k ∈ l.toList.map keyOf) ∧ l.size = n
theorem Given.perm {l l' : Array (Int × Value)} (g : Given S n l) (p : l'.toList.Perm l.toList) : Given S n l' :=
  ⟨fun e he => g.1 e (p.mem_iff.mp he), (p.map keyOf).nodup_iff.mpr g.2.1, fun k => (g.2.2.1 k).trans (p.map keyOf).mem_iff.symm, by
    rw [← Array.length_toList, p.length_eq, Array.length_toList]
    exact g.2.2.2⟩
theorem walk_unseen {others : List Addr} {Q : Array (Int × Value) → Shared → Prop} (R : SetR w s.heap a S n) (hs : ∀ b ∈ others, ∃ S n, SetR w s.heap b S n) (Rf : SetR w s.heap f Sf nf)
    (hQ : ∀ l h', Heap.SameBut f s.heap h' → SetR w h' f Sf nf → Given S n l → Q l { s with heap := h' }) :
    wpAny (model P w) A (setWalkUnseen a others (some f)) Q E s := by
  obtain ⟨o, es, ep, t, ho, hx, hd, g, nd, hm, hb, hf, hn, hr, hl⟩ := id R
  have gv : Given S n es := ⟨g, nd, hm, hn⟩
  have same : ∀ l, Given S n l → Q l s := fun l gl => hQ l s.heap (Heap.SameBut.refl f s.heap) Rf gl
  unfold setWalkUnseen
  refine wpAny_bind (wpAny_setState_of ho hd hf ?_)
  dsimp only
  refine wpAny_bind (wpAny_byText ?_)
  cases hbt : w.params.followText "set-order" with
  | true =>
    refine wp_if_pos (by simp) ?_
    unfold setWalk
    refine wpAny_bind (wpAny_setState_of ho hd hf ?_)
    dsimp only
    refine wpAny_bind (wpAny_byText ?_)
    refine wp_if_pos hbt ?_
    exact wpAny_bind (wpAny_askSetting (wpAny_pure (same _ (gv.perm (pick_perm _ es)))))
  | false =>
    have hled : t.led = true := hl.resolve_left (by rw [hbt]; exact Bool.false_ne_true)
    by_cases hc : (false || (t.led && t.plain) || decide (es.size ≤ 1)) = true
    · refine wp_if_pos hc ?_
      unfold setWalk
      refine wpAny_bind (wpAny_setState_of ho hd hf ?_)
      dsimp only
      refine wpAny_bind (wpAny_byText ?_)
      refine wp_if_neg (by rw [hbt]; exact Bool.false_ne_true) ?_
      try refine wpAny_bind (wpAny_pure ?_)
      refine wp_if_neg ?_ ?_
      · show ¬ ((!t.plain && decide (es.size > 1)) = true)
        intro z
        rw [Bool.and_eq_true, decide_eq_true_eq] at z
        rw [hled] at hc
        have hp : t.plain = false := by simpa using z.1
        rw [hp] at hc
        have : es.size ≤ 1 := by simpa using hc
        omega
      · try refine wpAny_bind (wpAny_pure ?_)
        refine wpAny_bind (wpAny_of_eq (a := ()) ?_ ?_)
        · show (if (!t.led && decide (es.size > 1)) = true then unsupported "set:maker-not-led" else pure ()) = pure ()
          rw [hled] <;> rfl
        · exact wpAny_pure (same es gv)
    · refine wp_if_neg hc ?_
      try refine wpAny_bind (wpAny_pure ?_)
      refine wpAny_bind (quiet_sets (fun b hb => ?_) ?_)
      · rcases List.mem_cons.mp hb with z | z
        · exact z ▸ ⟨S, n, R⟩
        · exact hs b z
      refine wp_if_neg (by simp) ?_
      try refine wpAny_bind (wpAny_pure ?_)
      refine wpAny_bind (wpAny_rule ?_)
      obtain ⟨o2, es2, ep2, t2, ho2, hx2, hd2, g2, nd2, hm2, hb2, hf2, hn2, hr2, hl2⟩ := id Rf
      refine wpAny_bind (wpAny_setState_of ho2 hd2 hf2 ?_)
      dsimp only
      split
      · refine wpAny_bind (wpAny_storeSet_of ho2 hd2 ?_ (fits_of_scanBound hb2))
        have ho3 := store_at (es' := es2) (t' := { t2 with led := t2.led && t.led, plain := t2.plain && t.plain }) ho2 hd2
        refine wpAny_pure (hQ es _ (Heap.SameBut.update s.heap f _) ?_ gv)
        exact ⟨_, es2, _, _, ho3, hx2, rfl, g2, nd2, hm2, hb2, hf2, hn2, hr2, hl2.imp id fun z => by show (t2.led && t.led) = true; rw [z, hled]; rfl⟩
      · exact wpAny_pure (same es gv)
end
end Par
namespace Par
open PySem PySem.Spec PyProof.Rows L2
section
variable {P : Program} {w : World} {A : Around} {E : Value → Shared → Prop} {s : Shared} {a : Addr} {S : Int → Bool} {n : Nat}
theorem eraseAt_list {α : Type} (xs : Array α) (i : Nat) : (SetTable.eraseAt xs i).toList = xs.toList.eraseIdx i := by
  unfold SetTable.eraseAt
  rw [Array.toList_append, Array.toList_extract, Array.toList_extract, List.eraseIdx_eq_take_drop_succ]
  simp [List.extract_eq_drop_take]
  rw [List.take_of_length_le (by simp)]
/-- where the member k lies -/
theorem find_at {k : Int} {tk : Tok} {o : Obj} {es : Array (Int × Value)} {ep : Nat} {t : SetTable} {Q : Option Nat → Shared → Prop} (ho : s.heap.get? a = some o) (hd : o.data = .set es ep t) (hf : t.fits es.size = true)
    (g : ∀ e ∈ es.toList, GoodE e) (hb : es.size < scanBound) (h : Q (es.toList.findIdx? fun e => (intKind P w).is k e.2) s) :
    wpAny (model P w) A (setFind a (.int k tk) ((intKind P w).hash k)) Q E s := by
  have hel : ElemsOf (intKind P w) es.toList := good_elems g
  unfold setFind setFindIn
  refine wpAny_bind (wpAny_setState_of ho hd hf ?_)
  dsimp only
  rw [byScan_of (x := .int k tk) rfl hb hel]
  simp only [↓reduceIte]
  refine wpAny_bind (wpAny_rule ?_)
  refine wpAny_bind (wpAny_setScan_of (intKind_is P w k tk) ho hd hf hel ?_)
  cases hr : List.findIdx? (fun e => (intKind P w).is k e.2) es.toList with
  | none =>
    dsimp only
    rw [hr] at h
    exact wpAny_pure h
  | some j =>
    dsimp only
    rw [hr] at h
    rw [Nat.zero_add]
    exact wpAny_pure h
theorem discard_hashed {k : Int} {tk : Tok} {Q : Bool → Shared → Prop} (R : SetR w s.heap a S n)
    (hQ : ∀ h' m, m ≤ n → Heap.SameBut a s.heap h' → SetR w h' a (fun j => S j && !decide (j = k)) m → Q (S k) { s with heap := h' }) :
    wpAny (model P w) A (setDiscardHashed a (.int k tk) ((intKind P w).hash k)) Q E s := by
  obtain ⟨o, es, ep, t, ho, hex, hd, g, nd, hm, hb, hf, hn, hr, hl⟩ := R
  unfold setDiscardHashed
  refine wpAny_bind (find_at ho hd hf g hb ?_)
  cases hwhere : List.findIdx? (fun e => (intKind P w).is k e.2) es.toList with
  | none =>
    dsimp only
    have hnot : k ∉ es.toList.map keyOf := fun z => by
      obtain ⟨e, he, q⟩ := (good_mem (P := P) (w := w) g k).1 z
      have c := List.findIdx?_eq_none_iff.mp hwhere e he
      rw [q] at c
      cases c
    have hyes : S k = false := by
      cases q : S k with
      | false => rfl
      | true => exact absurd ((hm k).1 q) hnot
    have q := hQ s.heap n (Nat.le_refl _) (Heap.SameBut.refl a s.heap) ⟨o, es, ep, t, ho, hex, hd, g, nd, fun i => by
      rw [← hm i, Bool.and_eq_true]
      constructor
      · exact fun z => z.1
      · intro z
        refine ⟨z, ?_⟩
        have : i ≠ k := fun e => by rw [e, hyes] at z; cases z
        simp [this], hb, hf, hn, hr, hl⟩
    rw [hyes] at q
    exact wpAny_pure q
  | some j =>
    dsimp only
    obtain ⟨hj, pj, _⟩ := List.findIdx?_eq_some_iff_getElem.mp hwhere
    have hyes : S k = true := (hm k).2 ((good_mem (P := P) (w := w) g k).2 ⟨es.toList[j], List.getElem_mem hj, pj⟩)
    have hkj : keyOf es.toList[j] = k := (good_is (P := P) (w := w) (g _ (List.getElem_mem hj)) k).1 pj
    have hjs : j < es.size := by rw [Array.length_toList] at hj; exact hj
    obtain ⟨f1, f2⟩ : t.place.size = es.size ∧ t.fill ≤ t.mask := by
      simpa [SetTable.fits] using hf
    have hpl : t.place[j]? = some (t.place[j]'(by omega)) := Array.getElem?_eq_getElem _
    have hdrop : t.drop j = { t with place := SetTable.eraseAt t.place j, dummies := SetTable.insertAt t.dummies (SetTable.below t.dummies (t.place[j]'(by omega))) (t.place[j]'(by omega)) } := by
      unfold SetTable.drop
      rw [hpl]
    have pe := erase_perm es.toList j _ (List.getElem?_eq_getElem hj)
    have pk : (k :: (es.toList.eraseIdx j).map keyOf).Perm (es.toList.map keyOf) := by
      have z := pe.map keyOf
      rw [List.map_cons, hkj] at z
      exact z
    have el : (SetTable.eraseAt es j).toList = es.toList.eraseIdx j := eraseAt_list es j
    have hsz : (SetTable.eraseAt es j).size + 1 = es.size := by
      rw [← Array.length_toList, el, List.length_eraseIdx_of_lt hj, Array.length_toList]
      omega
    have hb1 : (SetTable.eraseAt es j).size < scanBound := by omega
    refine wpAny_bind (wpAny_setState_of ho hd hf ?_)
    dsimp only
    refine wpAny_bind (wpAny_storeSet_of ho hd ?_ (fits_of_scanBound hb1))
    refine wpAny_bind (wpAny_point (wpAny_pure ?_))
    have ho1 := store_at (es' := SetTable.eraseAt es j) (t' := t.drop j) ho hd
    have ndk := pk.nodup_iff.mpr nd
    have q := hQ _ (SetTable.eraseAt es j).size (by omega) (Heap.SameBut.update s.heap a (Obj.putSet (SetTable.eraseAt es j) (t.drop j)))
      ⟨_, SetTable.eraseAt es j, _, t.drop j, ho1, hex, rfl, fun e he => by
        rw [el] at he
        exact g e ((List.eraseIdx_sublist _ _).subset he), by
        rw [el]
        exact (List.nodup_cons.mp ndk).2, fun i => by
        rw [el, Bool.and_eq_true, hm i, ← pk.mem_iff, List.mem_cons]
        constructor
        · rintro ⟨z | z, y⟩
          · simp [z] at y
          · exact z
        · intro z
          refine ⟨.inr z, ?_⟩
          have : i ≠ k := fun e => (List.nodup_cons.mp ndk).1 (e ▸ z)
          simp [this], hb1, by
        rw [hdrop]
        unfold SetTable.fits
        rw [Bool.and_eq_true]
        have h1 : (SetTable.eraseAt t.place j).size + 1 = t.place.size := by
          rw [← Array.length_toList, eraseAt_list, List.length_eraseIdx_of_lt (by rw [Array.length_toList]; omega), Array.length_toList]
          omega
        have h2 : (SetTable.insertAt t.dummies (SetTable.below t.dummies t.place[j]) t.place[j]).size = t.dummies.size + 1 := by
          rw [← Array.length_toList, SetTable.toList_insertAt]
          simp only [List.length_append, List.length_cons, List.length_take, List.length_drop, Array.length_toList]
          omega
        have h3 : t.place.size + t.dummies.size ≤ t.mask := f2
        refine ⟨beq_iff_eq.mpr ?_, decide_eq_true ?_⟩
        · show (SetTable.eraseAt t.place j).size = (SetTable.eraseAt es j).size
          omega
        · show (SetTable.eraseAt t.place j).size + (SetTable.insertAt t.dummies (SetTable.below t.dummies t.place[j]) t.place[j]).size ≤ t.mask
          rw [h2]
          omega, rfl, by
        rw [hdrop]
        show Ris (SetTable.eraseAt t.place j).toList
        rw [eraseAt_list]
        exact List.Pairwise.sublist (List.eraseIdx_sublist _ _) hr, hl.imp id fun z => by
        rw [hdrop]
        exact z⟩
    rw [hyes] at q
    exact q
end
end Par
namespace Par
open PySem PySem.Spec PyProof.Rows L2
/-! ### a clean table has room for few small ints -/
def way (mask : Nat) : Nat → Nat → Nat → List Nat
  | 0, _, _ => []
  | f + 1, i, p => i :: way mask f (SetTable.leap mask i p).1 (SetTable.leap mask i p).2
def marks : List Nat → Nat → Nat
  | [], b => b
  | i :: l, b => marks l (b ||| (1 <<< i))
theorem marks_mem : ∀ (l : List Nat) (b j : Nat), (marks l b).testBit j = true → b.testBit j = true ∨ j ∈ l
  | [], b, j, h => .inl h
  | i :: l, b, j, h => by
    rcases marks_mem l _ j h with z | z
    · rw [Nat.testBit_or, Bool.or_eq_true] at z
      rcases z with z | z
      · exact .inl z
      · right
        rw [Nat.testBit_shiftLeft, Bool.and_eq_true, decide_eq_true_eq] at z
        have : j = i := by
          have z2 : j - i = 0 := by
            cases hji : j - i with
            | zero => rfl
            | succ c =>
              rw [hji] at z
              have y := z.2
              simp [Nat.testBit_succ] at y
          omega
        rw [this]
        exact List.mem_cons_self ..
    · exact .inr (List.mem_cons_of_mem _ z)
def covers : Bool := [7, 15, 31, 63, 127].all fun m => (List.range 40).all fun h => marks (way m (m + 15) (h % (m + 1)) h) 0 == 2 ^ (m + 1) - 1
theorem covers_all : covers = true := by decide +kernel
theorem way_all {m h j : Nat} (hm : m ∈ [7, 15, 31, 63, 127]) (hh : h < 40) (hj : j ≤ m) : j ∈ way m (m + 15) (h % (m + 1)) h := by
  have h1 := List.all_eq_true.mp (List.all_eq_true.mp covers_all m hm) h (List.mem_range.mpr hh)
  have h2 : marks (way m (m + 15) (h % (m + 1)) h) 0 = 2 ^ (m + 1) - 1 := by simpa using h1
  rcases marks_mem (way m (m + 15) (h % (m + 1)) h) 0 j (by rw [h2, Nat.testBit_two_pow_sub_one, decide_eq_true_eq]; omega) with z | z
  · simp at z
  · exact z
theorem free_of {mask : Nat} {owner : Array (Option Nat)} {j : Nat} (hn : owner.getD j (some 0) = none) : ∀ (f i p : Nat), j ∈ way mask f i p →
    ∃ r, SetTable.layClean.free mask owner f i p = some r ∧ owner.getD r (some 0) = none
  | 0, i, p, h => by simp [way] at h
  | f + 1, i, p, h => by
    rw [SetTable.layClean.free]
    cases hf : (List.range (SetTable.runEnd mask i + 1 - i)).find? fun k => (owner.getD (i + k) (some 0)).isNone with
    | some k =>
      refine ⟨i + k, rfl, ?_⟩
      have z := List.find?_some hf
      simpa using z
    | none =>
      dsimp only
      have hrun : i ≤ SetTable.runEnd mask i := by
        unfold SetTable.runEnd
        split <;> omega
      rcases List.mem_cons.mp (show j ∈ i :: way mask f (SetTable.leap mask i p).1 (SetTable.leap mask i p).2 from h) with z | z
      · exfalso
        have := List.find?_eq_none.mp hf 0 (List.mem_range.mpr (by omega))
        rw [Nat.add_zero, ← z, hn] at this
        exact this rfl
      · exact free_of hn f _ _ z
theorem some_none {l : List (Option Nat)} (h : (l.filterMap id).length < l.length) : ∃ j : Nat, l[j]? = some none := by
  induction l with
  | nil => simp at h
  | cons a l ih =>
    cases a with
    | none => exact ⟨0, rfl⟩
    | some x =>
      obtain ⟨j, hj⟩ := ih (by simpa using h)
      exact ⟨j + 1, by simpa using hj⟩
theorem set_none : ∀ {l : List (Option Nat)} {j k : Nat}, l[j]? = some none → ((l.set j (some k)).filterMap id).Perm (k :: l.filterMap id)
  | [], j, k, h => by simp at h
  | a :: l, 0, k, h => by
    have e : a = none := by simpa using h
    subst e
    simp
  | a :: l, j + 1, k, h => by
    have z := set_none (l := l) (j := j) (k := k) (by simpa using h)
    cases a with
    | none => simpa using z
    | some x =>
      rw [List.set_cons_succ]
      simp only [List.filterMap_cons, id_eq]
      exact (z.cons x).trans (List.Perm.swap ..)
/-- one number more, laid into its own place -/
def layStep (mask : Nat) (acc : Option (Array (Option Nat) × Nat)) (h : Int) : Option (Array (Option Nat) × Nat) :=
  acc.bind fun q => (SetTable.layClean.free mask q.1 (mask + 15) (SetTable.bits h % (mask + 1)) (SetTable.bits h)).bind fun j => some (q.1.setIfInBounds j (some q.2), q.2 + 1)
theorem fold_ok {mask : Nat} (hm : mask ∈ [7, 15, 31, 63, 127]) : ∀ (hs : List Int) (owner : Array (Option Nat)) (k : Nat), (∀ h ∈ hs, SetTable.bits h < 40) → owner.size = mask + 1 →
    (owner.toList.filterMap id).Perm (List.range k) → k + hs.length ≤ mask →
    ∃ owner', hs.foldl (layStep mask) (some (owner, k)) = some (owner', k + hs.length) ∧ owner'.size = mask + 1 ∧ (owner'.toList.filterMap id).Perm (List.range (k + hs.length))
  | [], owner, k, _, hz, hp, _ => ⟨owner, rfl, hz, hp⟩
  | h :: hs, owner, k, hb, hz, hp, hk => by
    have hlt : (owner.toList.filterMap id).length < owner.toList.length := by
      rw [hp.length_eq, List.length_range, Array.length_toList, hz]
      simp only [List.length_cons] at hk
      omega
    obtain ⟨j, hj⟩ := some_none hlt
    have hjs : j < owner.size := by
      have := (List.getElem?_eq_some_iff.mp hj).1
      rw [Array.length_toList] at this
      exact this
    have hn : owner.getD j (some 0) = none := by
      rw [Array.getElem?_toList] at hj
      simp [Array.getD_eq_getD_getElem?, hj]
    obtain ⟨r, hr, hrn⟩ := free_of hn (mask + 15) _ _ (way_all (j := j) hm (hb h (List.mem_cons_self ..)) (by omega))
    have hrs : r < owner.size := by
      by_cases c : r < owner.size
      · exact c
      · simp [Array.getD_eq_getD_getElem?, Array.getElem?_eq_none (Nat.le_of_not_lt c)] at hrn
    have hrl : owner.toList[r]? = some none := by
      rw [Array.getElem?_toList, Array.getElem?_eq_getElem hrs]
      simp [Array.getD_eq_getD_getElem?, Array.getElem?_eq_getElem hrs] at hrn
      rw [hrn]
    have hstep : layStep mask (some (owner, k)) h = some (owner.setIfInBounds r (some k), k + 1) := by
      unfold layStep
      show (SetTable.layClean.free mask owner (mask + 15) _ _).bind _ = _
      rw [hr]
      rfl
    obtain ⟨o2, e1, e2, e3⟩ := fold_ok hm hs (owner.setIfInBounds r (some k)) (k + 1) (fun x hx => hb x (List.mem_cons_of_mem _ hx)) (by rw [Array.size_setIfInBounds]; exact hz) (by
      rw [Array.toList_setIfInBounds]
      refine (set_none hrl).trans ?_
      rw [List.range_succ]
      exact (hp.cons k).trans (List.perm_append_singleton _ _).symm) (by simp only [List.length_cons] at hk; omega)
    refine ⟨o2, ?_, e2, ?_⟩
    · rw [List.foldl_cons, hstep, e1, List.length_cons]
      congr 2
      omega
    · rw [List.length_cons]
      have : k + (hs.length + 1) = k + 1 + hs.length := by omega
      rw [this]
      exact e3
theorem owner_list {owner : Array (Option Nat)} {n : Nat} (h : owner.size = n) : (List.range n).filterMap (fun j => owner.getD j none) = owner.toList.filterMap id := by
  have e : (List.range n).map (fun j => owner.getD j none) = owner.toList := by
    refine List.ext_getElem (by simp [h]) (fun i h1 h2 => ?_)
    have hi : i < owner.size := by rw [Array.length_toList] at h2; exact h2
    simp [Array.getD_eq_getD_getElem?, Array.getElem?_eq_getElem hi]
  rw [← e, List.filterMap_map]
  rfl
theorem clean_ok {mask finger moves : Nat} {led plain : Bool} {hashes : Array Int} (hm : mask ∈ [7, 15, 31, 63, 127]) (hb : ∀ h ∈ hashes.toList, SetTable.bits h < 40) (hz : hashes.size ≤ mask) :
    ∃ t order, SetTable.laid mask finger moves led plain hashes = some (t, order) ∧ order.toList.Perm (List.range hashes.size) ∧ Ris t.place.toList ∧ t.led = led ∧ t.place.size = hashes.size ∧ t.dummies = #[] ∧ t.mask = mask := by
  obtain ⟨owner, e1, e2, e3⟩ := fold_ok hm hashes.toList (Array.replicate (mask + 1) none) 0 hb (by simp) (by simp) (by rw [Array.length_toList]; omega)
  have e : SetTable.layClean mask hashes = some owner := by
    unfold SetTable.layClean
    rw [← Array.foldl_toList]
    show Option.map _ (hashes.toList.foldl (layStep mask) (some (Array.replicate (mask + 1) none, 0))) = _
    rw [e1]
    rfl
  have p2 : (((List.range (mask + 1)).filterMap fun j => (owner.getD j none).map (j, ·)).map (·.2)).Perm (List.range hashes.size) := by
    have : ((List.range (mask + 1)).filterMap fun j => (owner.getD j none).map (j, ·)).map (·.2) = (List.range (mask + 1)).filterMap fun j => owner.getD j none := by
      rw [List.map_filterMap]
      congr 1
      funext j
      cases owner.getD j none <;> rfl
    rw [this, owner_list e2]
    rw [Nat.zero_add, Array.length_toList] at e3
    exact e3
  unfold SetTable.laid
  rw [e]
  refine ⟨_, _, rfl, p2, ?_, rfl, ?_, rfl, rfl⟩
  · exact (ris_live (fun j => owner.getD j none) (List.range (mask + 1)) (by unfold Ris; first | exact List.pairwise_lt_range | exact List.pairwise_lt_range _)).1
  · show (((List.range (mask + 1)).filterMap fun j => (owner.getD j none).map (j, ·)).map (·.1)).toArray.size = _
    have := p2.length_eq
    rw [List.length_map, List.length_range] at this
    rw [List.size_toArray, List.length_map]
    exact this
end Par
namespace Par
open PySem PySem.Spec PyProof.Rows L2
def Cell (k : Int) : Prop := 0 ≤ k ∧ k < 40
theorem cells_few {L : List Int} (hn : L.Nodup) (h : ∀ k ∈ L, Cell k) : L.length ≤ 40 := by
  have := nodup_le (M := (List.range 40).map Int.ofNat) hn (fun k hk => by
    obtain ⟨h1, h2⟩ := h k hk
    exact List.mem_map.mpr ⟨k.toNat, List.mem_range.mpr (by omega), by simp; omega⟩)
  simpa using this
theorem bits_small : ∀ k : Nat, k < 40 → SetTable.bits (hashInt (k : Int)) < 40 := by decide +kernel
theorem bits_cell {k : Int} (h : Cell k) : SetTable.bits (hashInt k) < 40 := by
  have := bits_small k.toNat (by have := h.1; have := h.2; omega)
  rwa [Int.toNat_of_nonneg h.1] at this
theorem wide_enough : ∀ n : Nat, n ≤ 40 → SetTable.sizeAbove (n * 2) - 1 ∈ [7, 15, 31, 63, 127] ∧ n ≤ SetTable.sizeAbove (n * 2) - 1 ∧ SetTable.sizeAbove (n * 2) ≤ 128 := by decide +kernel
section
variable {P : Program} {w : World} {A : Around} {E : Value → Shared → Prop} {s : Shared} {a : Addr} {S : Int → Bool} {n : Nat}
theorem SetR.few (R : SetR w s.heap a S n) (h : ∀ k, S k = true → Cell k) : n ≤ 40 := by
  obtain ⟨o, es, ep, t, ho, hx, hd, g, nd, hm, hb, hf, hn, hr, hl⟩ := R
  have := cells_few nd (fun k hk => h k ((hm k).2 hk))
  rw [List.length_map, Array.length_toList, hn] at this
  exact this
/-- a set that is still empty, its table -/
def NewSet (w : World) (h : Heap) (r : Addr) (n : Nat) : Prop := ∃ o ep t, h.get? r = some o ∧ o.ExactSet ∧ o.data = .set #[] ep t ∧ t.place = #[] ∧ t.dummies = #[] ∧ (w.params.followText "set-order" = true ∨ t.led = true) ∧
  t.mask ∈ [7, 15, 31, 63, 127] ∧ n ≤ t.mask
theorem room_new {r : Addr} {Q : Unit → Shared → Prop} (hn : n ≤ 40)
    (hr : s.heap.get? r = some { cls := .type "set", dict := none, data := .set #[] 0 (.fresh 0 0 (!w.params.followText "set-order")) })
    (hQ : ∀ h', Heap.SameBut r s.heap h' → NewSet w h' r n → Q () { s with heap := h' }) : wpAny (model P w) A (setRoomFor r n) Q E s := by
  have led : w.params.followText "set-order" = true ∨ (!w.params.followText "set-order") = true := by
    cases w.params.followText "set-order"
    · exact .inr rfl
    · exact .inl rfl
  unfold setRoomFor
  refine wpAny_bind (wpAny_setState_of hr rfl rfl ?_)
  dsimp only
  by_cases h5 : n * 5 ≥ 21
  · have e : (SetTable.fresh 0 0 (!w.params.followText "set-order")).roomFor n = some (n * 2) := by
      unfold SetTable.roomFor SetTable.fill SetTable.fresh
      simp [h5]
    rw [e]
    dsimp only
    unfold setRelay
    refine wpAny_bind (wpAny_setState_of hr rfl rfl ?_)
    dsimp only
    obtain ⟨w1, w2, w3⟩ := wide_enough n hn
    refine wp_if_neg (by rw [sizeLine_eq]; omega) ?_
    try refine wpAny_bind (wpAny_pure ?_)
    obtain ⟨t, order, e1, e2, e3, e4, e5, e6, e7⟩ := clean_ok (finger := 0) (moves := (SetTable.fresh 0 0 (!w.params.followText "set-order")).movedTo (SetTable.sizeAbove (n * 2) - 1)) (led := !w.params.followText "set-order") (plain := true) (hashes := #[]) w1 (by simp) (by simp)
    have e8 : (SetTable.fresh 0 0 (!w.params.followText "set-order")).relaid ((#[] : Array (Int × Value)).map (·.1)) (n * 2) = some (t, order) := by
      have q : ((#[] : Array (Int × Value)).map (·.1)) = #[] := by simp
      rw [q]
      exact e1
    rw [e8]
    have eo : order = #[] := by
      have : order.toList = [] := List.length_eq_zero_iff.mp (by rw [e2.length_eq]; simp)
      exact Array.toList_eq_nil_iff.mp this
    subst eo
    refine wpAny_bind (wpAny_pure ?_)
    refine wpAny_storeSet_of hr rfl ?_ (by simp)
    have ho1 := store_at (es' := #[]) (t' := t) hr rfl
    refine hQ _ (Heap.SameBut.update s.heap r _) ⟨_, _, t, ho1, ⟨rfl, rfl, rfl⟩, rfl, by simpa using e5, e6, by rw [e4]; exact led, by rw [e7]; exact w1, by rw [e7]; exact w2⟩
  · have e : (SetTable.fresh 0 0 (!w.params.followText "set-order")).roomFor n = none := by
      unfold SetTable.roomFor SetTable.fill SetTable.fresh
      simp [h5]
    rw [e]
    dsimp only
    exact wpAny_pure (hQ s.heap (Heap.SameBut.refl r s.heap) ⟨_, _, _, hr, ⟨rfl, rfl, rfl⟩, rfl, rfl, rfl, led, by simp [SetTable.fresh], by show n ≤ 7; omega⟩)
theorem merge_new {r o : Addr} {each : Sem Unit} {Q : Unit → Shared → Prop}
    (hr : s.heap.get? r = some { cls := .type "set", dict := none, data := .set #[] 0 (.fresh 0 0 (!w.params.followText "set-order")) })
    (R : SetR w s.heap o S n) (hne : r ≠ o) (hS : ∀ k, S k = true → Cell k)
    (hQ : ∀ h', Heap.SameBut r s.heap h' → SetR w h' r S n → Q () { s with heap := h' }) : wpAny (model P w) A (setMerge r o each) Q E s := by
  have hn40 := SetR.few R hS
  obtain ⟨oo, es, ep, t, ho, hx, hd, g, nd, hm, hb, hf, hn, hrs, hl⟩ := id R
  have led : w.params.followText "set-order" = true ∨ (!w.params.followText "set-order") = true := by
    cases w.params.followText "set-order"
    · exact .inr rfl
    · exact .inl rfl
  unfold setMerge
  refine wp_if_neg (by simpa using hne) ?_
  try refine wpAny_bind (wpAny_pure ?_)
  refine wpAny_bind (wpAny_setState_of ho hd hf ?_)
  dsimp only
  by_cases he : es.isEmpty = true
  · refine wp_if_pos he ?_
    have e0 : es = #[] := by simpa using he
    subst e0
    refine wpAny_pure (hQ s.heap (Heap.SameBut.refl r s.heap) ⟨_, #[], _, _, hr, ⟨rfl, rfl, rfl⟩, rfl, g, nd, hm, hb, rfl, hn, List.Pairwise.nil, led⟩)
  · refine wp_if_neg he ?_
    try refine wpAny_bind (wpAny_pure ?_)
    rw [hn]
    refine wpAny_bind (room_new hn40 hr fun h1 sb1 new => ?_)
    obtain ⟨o1, ep1, t1, ho1, hx1, hd1, hp1, hdm1, hl1, hm1, hk1⟩ := new
    have hf1 : t1.fits (#[] : Array (Int × Value)).size = true := by
      simp [SetTable.fits, SetTable.fill, hp1, hdm1]
    refine wpAny_bind (wpAny_setState_of (es := #[]) ho1 hd1 hf1 ?_)
    dsimp only
    have hfill : t1.fill = 0 := by simp [SetTable.fill, hp1, hdm1]
    cases hroad : t1.road t with
    | oneByOne =>
      exfalso
      unfold SetTable.road at hroad
      rw [hfill] at hroad
      simp at hroad
      split at hroad <;> simp at hroad
    | slotForSlot =>
      dsimp only
      refine wpAny_storeSet_of ho1 hd1 ?_ (fits_of_scanBound hb)
      have ho2 := store_at (es' := es) (t' := { t with finger := t1.finger, led := t1.led && t.led, moves := t1.moves, plain := t1.plain && t.plain }) ho1 hd1
      refine hQ _ (sb1.trans (Heap.SameBut.update h1 r _)) ⟨_, es, _, _, ho2, hx1, rfl, g, nd, hm, hb, hf, hn, hrs, ?_⟩
      rcases hl with z | z
      · exact .inl z
      · rcases hl1 with y | y
        · exact .inl y
        · exact .inr (by show (t1.led && t.led) = true; rw [z, y]; rfl)
    | clean =>
      dsimp only
      have hsm : (es.map (·.1)).size = es.size := Array.size_map ..
      obtain ⟨t2, order, e1, e2, e3, e4, e5, e6, e7⟩ := clean_ok (finger := t1.finger) (moves := t1.moves) (led := t1.led && t.led) (plain := t1.plain && t.plain) (hashes := es.map (·.1)) hm1 (fun h hh => by
        rw [Array.toList_map] at hh
        obtain ⟨e, he, rfl⟩ := List.mem_map.mp hh
        obtain ⟨k, tk, q1, q2⟩ := g e he
        rw [q2]
        refine bits_cell (hS k ((hm k).2 (List.mem_map.mpr ⟨e, he, ?_⟩)))
        unfold keyOf
        rw [q1]) (by rw [hsm]; omega)
      rw [e1]
      rw [hsm] at e2 e5
      have pm : (order.filterMap (es[·]?)).toList.Perm es.toList := by
        rw [Array.toList_filterMap]
        exact (e2.filterMap _).trans (by rw [filterMap_getElem?_range])
      have hsz : (order.filterMap (es[·]?)).size = es.size := by rw [← Array.length_toList, pm.length_eq, Array.length_toList]
      refine wpAny_bind (wpAny_of_eq (a := (order.filterMap (es[·]?), t2)) ?_ ?_)
      · show (do
          if ((order.filterMap (es[·]?)).size != es.size) = true then unsupported "internal:set-table-lost-an-element"
          pure (order.filterMap (es[·]?), t2)) = _
        rw [if_neg (by rw [hsz]; simp)]
        try rfl
      · dsimp only
        refine wpAny_storeSet_of ho1 hd1 ?_ (by rw [hsz]; exact fits_of_scanBound hb)
        have ho2 := store_at (es' := order.filterMap (es[·]?)) (t' := t2) ho1 hd1
        refine hQ _ (sb1.trans (Heap.SameBut.update h1 r _)) ⟨_, _, _, t2, ho2, hx1, rfl, fun e he => g e (pm.mem_iff.mp he), (pm.map keyOf).nodup_iff.mpr nd, fun k => (hm k).trans (pm.map keyOf).mem_iff.symm, by rw [hsz]; exact hb, ?_, by rw [hsz]; exact hn, e3, ?_⟩
        · rw [hsz]
          have : t2.place.size + t2.dummies.size ≤ t2.mask := by
            rw [e5, e6, e7]
            simp
            omega
          simp [SetTable.fits, SetTable.fill, e5, e6, e7]
          omega
        · rw [e4]
          rcases hl with z | z
          · exact .inl z
          · rcases hl1 with y | y
            · exact .inl y
            · exact .inr (by rw [z, y]; rfl)
end
end Par
namespace Par
open PySem PySem.Spec PyProof.Rows L2
theorem entry_set_xor : entryFor table "set.__xor__" = some Builtin.«frozenset.__xor__» :=
  entryFor_alias (id' := "frozenset.__xor__") (by kernel_rfl) rfl (by decide +kernel) (by kernel_rfl)
theorem entry_set_and : entryFor table "set.__and__" = some Builtin.«frozenset.__and__» :=
  entryFor_alias (id' := "frozenset.__and__") (by kernel_rfl) rfl (by decide +kernel) (by kernel_rfl)
section
variable {P : Program} {w : World} {A : Around} {E : Value → Shared → Prop} {s : Shared} {a : Addr} {S : Int → Bool} {n : Nat}
theorem set_typ (R : SetR w s.heap a S n) : s.TypeIs (.ref a) "set" := by
  obtain ⟨o, es, ep, t, ho, hx, _⟩ := R
  exact ⟨o, ho, hx.1⟩
theorem any_set {Q : Bool → Shared → Prop} (hT : s.TypeIs (.ref a) "set") (h : Q true s) : wpAny (model P w) A (Builtin.Frozenset.isAnySet (.ref a)) Q E s := by
  unfold Builtin.Frozenset.isAnySet
  refine wpAny_bind (wpAny_isInstance hT sub_set_self ?_)
  exact wpAny_pure h
theorem base_set {Q : Value → Shared → Prop} (hT : s.TypeIs (.ref a) "set") (h : Q (.type "set") s) : wpAny (model P w) A (Builtin.Frozenset.baseOf a) Q E s := by
  unfold Builtin.Frozenset.baseOf
  refine wpAny_bind (wpAny_isInstance hT sub_set_self ?_)
  exact wpAny_pure h
theorem new_set {Q : Value → Shared → Prop} (h : Q (.ref s.heap.objs.size) { s with heap := s.heap.push { cls := .type "set", dict := none, data := .set #[] 0 (.fresh 0 0 (!w.params.followText "set-order")) } }) :
    wpAny (model P w) A (newSet (.type "set")) Q E s := by
  unfold newSet
  refine wpAny_bind (wpAny_byText ?_)
  dsimp only
  simp only [newObj]
  refine wpAny_bind (wpAny_alloc (wpAny_pure ?_))
  exact h
theorem flip_one {k : Int} {tk : Tok} {Q : Unit → Shared → Prop} (R : SetR w s.heap a S n) (room : n + 1 < scanBound)
    (hQ : ∀ h' m, m ≤ n + 1 → Heap.SameBut a s.heap h' → SetR w h' a (fun j => xor (S j) (decide (j = k))) m → Q () { s with heap := h' }) :
    wpAny (model P w) A (holding [.int k tk] (do
      if !(← setDiscardHashed a (.int k tk) ((intKind P w).hash k)) then
        let _ ← setAddHashed a (.int k tk) ((intKind P w).hash k))) Q E s := by
  refine wpAny_holding (wpAny_bind (discard_hashed R fun h1 m hm sb1 R1 => ?_))
  cases hk : S k with
  | true =>
    refine wp_if_neg (by simp) ?_
    refine wpAny_pure (hQ h1 m (by omega) sb1 (R1.congr fun j => ?_))
    by_cases e : j = k
    · subst e
      rw [hk]
      simp
    · simp [e]
  | false =>
    refine wp_if_pos (by simp) ?_
    refine wpAny_bind (setR_add_hashed (s := { s with heap := h1 }) R1 (by omega) fun h2 sb2 R2 => ?_)
    refine wpAny_pure (hQ h2 _ (by split <;> omega) (sb1.trans sb2) (R2.congr fun j => ?_))
    by_cases e : j = k
    · subst e
      rw [hk]
      simp
    · simp [e]
theorem flip_all {body : Int × Value → PUnit → Sem (ForInStep PUnit)} {o : Addr} {oo : Obj} (hne : o ≠ a)
    (hb : ∀ (e : Int × Value) (s : Shared) (S : Int → Bool) (n : Nat) (Q : ForInStep PUnit → Shared → Prop), GoodE e → s.heap.get? o = some oo → SetR w s.heap a S n → n + 1 < scanBound →
      (∀ h' m, m ≤ n + 1 → Heap.SameBut a s.heap h' → SetR w h' a (fun j => xor (S j) (decide (j = keyOf e))) m → Q (.yield ⟨⟩) { s with heap := h' }) → wpAny (model P w) A (body e ⟨⟩) Q E s) :
    ∀ (l : List (Int × Value)) (s : Shared) (S : Int → Bool) (n : Nat) (Q : PUnit → Shared → Prop), (∀ e ∈ l, GoodE e) → (l.map keyOf).Nodup → s.heap.get? o = some oo → SetR w s.heap a S n → n + l.length + 1 < scanBound →
      (∀ h' m, Heap.SameBut a s.heap h' → SetR w h' a (fun j => xor (S j) (decide (j ∈ l.map keyOf))) m → Q ⟨⟩ { s with heap := h' }) → wpAny (model P w) A (forIn l ⟨⟩ body) Q E s
  | [], s, S, n, Q, _, _, _, R, _, hQ => by
    rw [List.forIn_nil]
    exact wpAny_pure (hQ s.heap n (Heap.SameBut.refl a s.heap) (R.congr fun j => by simp))
  | e :: l, s, S, n, Q, g, nd, Ro, R, room, hQ => by
    rw [List.forIn_cons]
    simp only [List.length_cons] at room
    refine wpAny_bind (hb e s S n _ (g e (List.mem_cons_self ..)) Ro R (by omega) fun h1 m hm sb1 R1 => ?_)
    have nd' := List.nodup_cons.mp (show (keyOf e :: l.map keyOf).Nodup from nd)
    refine flip_all hne hb l { s with heap := h1 } _ m Q (fun x hx => g x (List.mem_cons_of_mem _ hx)) nd'.2 ((sb1.2 o hne).trans Ro) R1 (by omega) fun h2 m2 sb2 R2 => ?_
    refine hQ h2 m2 (sb1.trans sb2) (R2.congr fun j => ?_)
    show xor (S j) (decide (j ∈ keyOf e :: l.map keyOf)) = xor (xor (S j) (decide (j = keyOf e))) (decide (j ∈ l.map keyOf))
    by_cases e1 : j = keyOf e
    · have : j ∉ l.map keyOf := fun z => nd'.1 (e1 ▸ z)
      have hin : j ∈ keyOf e :: l.map keyOf := by
        rw [e1]
        exact List.mem_cons_self ..
      rw [decide_eq_true hin, decide_eq_true e1, decide_eq_false this]
      simp
    · by_cases e2 : j ∈ l.map keyOf
      · rw [decide_eq_true (List.mem_cons_of_mem _ e2), decide_eq_true e2, decide_eq_false e1]
        simp
      · have hout : j ∉ keyOf e :: l.map keyOf := fun z => by
          rcases List.mem_cons.mp z with z | z
          · exact e1 z
          · exact e2 z
        rw [decide_eq_false hout, decide_eq_false e2, decide_eq_false e1]
        simp
def symOf (id : String) (l : Addr) (r : Value) : Sem Value := do
  let result ← Builtin.Frozenset.newFrom id (← Builtin.Frozenset.baseOf l) r
  holding [result] (Builtin.Frozenset.symmetricDifferenceUpdate id (← Builtin.Frozenset.addrOf result) (.ref l))
  return result
theorem call_xor {b : Addr} {T : Int → Bool} {m : Nat} {Q : Value → Shared → Prop} (Ra : SetR w s.heap a S n) (Rb : SetR w s.heap b T m) (hS : ∀ k, S k = true → Cell k) (hT : ∀ k, T k = true → Cell k)
    (hQ : ∀ h' c, (∀ x u, s.heap.get? x = some u → h'.get? x = some u) → SetR w h' s.heap.objs.size (fun k => xor (S k) (T k)) c → c ≤ 40 → Q (.ref s.heap.objs.size) { s with heap := h' }) :
    wpAny (model P w) A (call (.builtin "set.__xor__") [.ref a, .ref b]) Q E s := by
  have ta : s.TypeIs (.ref a) "set" := set_typ Ra
  have tb : s.TypeIs (.ref b) "set" := set_typ Rb
  have la := Ra.lt
  have lb := Rb.lt
  refine wpAny_call_entry F.slot_set_xor ta entry_set_xor ?_ (F.args_set_xor_2 _ _)
  unfold Builtin.«frozenset.__xor__»
  show wpAny _ _ (do
    let (self, other) ← Builtin.Frozenset.slot1 "__xor__" ⟨[.ref a, .ref b], []⟩
    let (l, r) := if false = true then (other, self) else (self, other)
    if !(← Builtin.Frozenset.isAnySet l <&&> Builtin.Frozenset.isAnySet r) then rule s!"frozenset.{"__xor__"}.declined"; return ← ret .notImplemented
    ret (← symOf s!"frozenset.{"__xor__"}" (← Builtin.Frozenset.addrOf l) r)) _ _ s
  refine wpAny_bind (wpAny_of_eq (a := (Value.ref a, Value.ref b)) (by rfl) ?_)
  dsimp only
  rw [if_neg Bool.false_ne_true]
  dsimp only
  refine wpAny_bind (wpAny_bind (any_set ta ?_))
  show wpAny _ _ (Builtin.Frozenset.isAnySet (.ref b)) _ _ s
  refine any_set tb ?_
  refine wp_if_neg (by simp) ?_
  refine wpAny_bind (m := Builtin.Frozenset.addrOf (.ref a)) (wpAny_pure ?_)
  refine wpAny_bind ?_
  unfold symOf
  refine wpAny_bind (base_set ta ?_)
  refine wpAny_bind ?_
  unfold Builtin.Frozenset.newFrom
  refine wpAny_bind (new_set ?_)
  generalize hr : s.heap.objs.size = r at *
  have hget : (s.heap.push { cls := .type "set", dict := none, data := .set #[] 0 (.fresh 0 0 (!w.params.followText "set-order")) }).get? s.heap.objs.size = some { cls := .type "set", dict := none, data := .set #[] 0 (.fresh 0 0 (!w.params.followText "set-order")) } := Heap.get?_push_size _ rfl
  generalize hg : s.heap.push { cls := .type "set", dict := none, data := .set #[] 0 (.fresh 0 0 (!w.params.followText "set-order")) } = g at *
  have keep : ∀ x u, s.heap.get? x = some u → g.get? x = some u := fun x u e => by
    rw [← hg]
    exact Heap.get?_push_of_some _ e
  have Ra1 : SetR w g a S n := Ra.at fun u e => keep a u e
  have Rb1 : SetR w g b T m := Rb.at fun u e => keep b u e
  refine wpAny_bind (m := Builtin.Frozenset.addrOf (.ref r)) (wpAny_pure ?_)
  refine wpAny_bind (wpAny_holding ?_)
  unfold Builtin.Frozenset.updateFrom
  refine wpAny_bind (any_set (s := { s with heap := g }) (set_typ Rb1) ?_)
  refine wp_if_pos rfl ?_
  refine wpAny_bind (m := Builtin.Frozenset.addrOf (.ref b)) (wpAny_pure ?_)
  unfold Builtin.Frozenset.merge
  obtain ⟨ob, esb, epb, tb2, hob, hxb, hdb, _, _, _, _, hfb, _⟩ := id Rb1
  refine wpAny_bind (wpAny_setEpoch_of hob hdb hfb ?_)
  rw [hr] at hget
  refine merge_new (s := { s with heap := g }) hget Rb1 (Nat.ne_of_gt lb) hT fun h1 sb1 R1 => ?_
  refine wpAny_pure ?_
  refine wpAny_bind (m := Builtin.Frozenset.addrOf (.ref r)) (wpAny_pure ?_)
  refine wpAny_bind (wpAny_holding ?_)
  have hra : a ≠ r := Nat.ne_of_lt la
  have Ra2 : SetR w h1 a S n := Ra1.at fun u e => (sb1.2 a hra).trans e
  unfold Builtin.Frozenset.symmetricDifferenceUpdate
  refine wp_if_neg (by simpa using hra) ?_
  try refine wpAny_bind (wpAny_pure ?_)
  dsimp only
  refine wpAny_bind (wpAny_typeOf (s := { s with heap := h1 }) (set_typ Ra2) ?_)
  refine wp_if_neg (by decide) ?_
  try refine wpAny_bind (wpAny_pure ?_)
  refine wpAny_bind (any_set (s := { s with heap := h1 }) (set_typ Ra2) ?_)
  refine wp_if_pos rfl ?_
  refine wpAny_bind (wpAny_pure ?_)
  refine wpAny_bind (m := Builtin.Frozenset.addrOf (.ref a)) (wpAny_pure ?_)
  obtain ⟨oa, esa, epa, ta2, hoa, hxa, hda, _, _, _, _, hfa, _⟩ := id Ra2
  refine wpAny_bind (wpAny_setEpoch_of hoa hda hfa ?_)
  refine wpAny_holding ?_
  refine wpAny_bind (walk_unseen (s := { s with heap := h1 }) (f := r) Ra2 (fun x hx => by rw [List.mem_singleton.mp hx]; exact ⟨T, m, R1⟩) R1 fun l h2 sb2 R2 gl => ?_)
  obtain ⟨gl1, gl2, gl3, gl4⟩ := gl
  have n40 : n ≤ 40 := SetR.few (s := { s with heap := h1 }) Ra2 hS
  have m40 : m ≤ 40 := SetR.few (s := { s with heap := h1 }) R1 hT
  rw [← Array.forIn_toList]
  refine wpAny_bind (flip_all (a := r) (o := a) (oo := oa) hra ?_ l.toList { s with heap := h2 } T m _ gl1 gl2 ((sb2.2 a hra).trans hoa) R2 (by rw [Array.length_toList, gl4]; unfold scanBound; omega) fun h3 c sb3 R3 => ?_)
  · intro e s0 S0 n0 Q0 ge ho0 R0 room q0
    obtain ⟨k, tk, e1, e2⟩ := ge
    obtain ⟨eh, ev⟩ := e
    dsimp only at e1 e2
    subst e1
    subst e2
    refine wpAny_bind (flip_one R0 room fun h' m' hm' sb' R' => ?_)
    refine wpAny_bind ?_
    unfold Builtin.Frozenset.unchanged
    refine wpAny_bind (wpAny_setEpoch_of ((sb'.2 a hra).trans ho0) hda hfa ?_)
    refine wp_if_neg (by simp) ?_
    exact wpAny_pure (wpAny_pure (q0 h' m' hm' sb' R'))
  refine wpAny_pure (wpAny_pure (wpAny_pure ⟨_, rfl, ?_⟩))
  have Rf : SetR w h3 r (fun k => xor (S k) (T k)) c := R3.congr fun k => by
    have : S k = decide (k ∈ l.toList.map keyOf) := by
      cases h : S k with
      | true => rw [decide_eq_true ((gl3 k).1 h)]
      | false =>
        have : k ∉ l.toList.map keyOf := fun z => by
          have := (gl3 k).2 z
          rw [h] at this
          cases this
        rw [decide_eq_false this]
    rw [this]
    exact Bool.xor_comm _ _
  refine hQ h3 c (fun x u e => ?_) Rf (SetR.few (s := { s with heap := h3 }) Rf fun k hk => ?_)
  · have hxr : x ≠ r := by
      rw [← hr]
      exact Nat.ne_of_lt (Heap.lt_size e)
    exact (sb3.2 x hxr).trans ((sb2.2 x hxr).trans ((sb1.2 x hxr).trans (keep x u e)))
  · cases h : S k with
    | true => exact hS k h
    | false =>
      rw [h] at hk
      exact hT k (by simpa using hk)
end
end Par
namespace Par
open PySem PySem.Spec PyProof.Rows L2
section
variable {X : Cx}
/-- set(t), t a tuple of ints -/
def rSetTup (K : PySem.W.Frag) (w : World) : List V → Hp → VK → Prop := fun xs H Q => ∃ (l : Addr) (ns : List Int), xs = [V.ref l] ∧ SqT K H l (ns.map V.int) ∧ ns.length ≤ 4000 ∧
  ∀ p c, H p = none → Q (.ref p) (upd H p (SetO w p (fun j => decide (j ∈ ns)) c))
theorem cr_setTup (hc : X.calm = true) : CallR X (.type "set") (rSetTup X.K X.w) := by
  intro pins s σ H xs us Q I r h
  obtain ⟨l, ns, rfl, hq, hl, q⟩ := h
  rw [Vals.ref1 r]
  obtain ⟨its, rv, tup, hz⟩ := I.tuple hq
  refine L2.call_set_tupI ns (I.ok.hd hc) tup (by simpa using numbers_of rv) (by unfold scanBound; omega) ?_
  intro h' tk c hS hcn hk
  exact ⟨.ref _, _, I.laid (t' := tk) hk (Nat.le_refl _) (setO_new hS), rfl, q _ c (I.hok.fresh (Nat.le_refl _))⟩
/-- one ^ other, sets of cells -/
def rXor (w : World) : V → V → Hp → VK → Prop := fun x y H Q => ∃ (a b : Addr) (S T : Int → Bool) (n m : Nat), x = V.ref a ∧ y = V.ref b ∧ H a = some (SetO w a S n) ∧ H b = some (SetO w b T m) ∧
  (∀ k, S k = true → Cell k) ∧ (∀ k, T k = true → Cell k) ∧ ∀ p c, H p = none → c ≤ 40 → Q (.ref p) (upd H p (SetO w p (fun k => xor (S k) (T k)) c))
theorem op_xorS : OpR X (binaryOp .BitXor) (rXor X.w) := by
  intro pins s σ H x y v u Q I rx ry h
  obtain ⟨a, b, S, T, n, m, rfl, rfl, ha, hb, hS, hT, q⟩ := h
  cases rx
  cases ry
  have Ra := setO_get I ha
  have Rb := setO_get I hb
  refine wpAny_binaryOp_same (op := .BitXor) (T := "set") (set_typ Ra) (set_typ Rb) F.fills_set_xor F.slot_set_xor ?_
  refine call_xor Ra Rb hS hT fun h' c k R c40 => ⟨by simp, ?_⟩
  exact ⟨.ref _, _, I.laid (t' := s.toks) k (Nat.le_refl _) (setO_new R), rfl, q _ c (I.hok.fresh (Nat.le_refl _)) c40⟩
end
end Par
namespace Par
open PySem PySem.Spec PyProof.Rows L2
section
variable {prog : Program} {w : World} {A : Around} {E : Value → Shared → Prop} {s : Shared}
theorem collect_tup {tp : Addr} {vs : List Value} {Q : List Value → Shared → Prop} (htp : IsTup s.heap tp vs.toArray)
    (h : Q vs { s with heap := (s.heap.push (seqObj "list" #[] 0)).update s.heap.objs.size (Obj.mapSeq (· ++ vs.toArray)) })
    (len : vs.length ≤ sizeLine) : wpAny (model prog w) A (collect (.ref tp)) Q E s := by
  obtain ⟨o, hob, hcl, n, hdt⟩ := id htp
  unfold collect
  refine wpAny_bind (wpAny_runValue ?_)
  refine codeAny_builtin entry_proto_collect' ?_
  show wpAny _ _ (do again (.builtin "list.__iadd__" ⟨[← newList [], .ref tp], []⟩)) _ _ s
  refine wpAny_bind (wpAny_newList (wpAny_pure ?_))
  refine ⟨Code.quiet_builtin _ (by decide +kernel), codeAny_builtin entry_list_iadd' ?_⟩
  show wpAny _ _ (Builtin.List.listExtendWith (.ref s.heap.objs.size) (.ref tp) (.ref s.heap.objs.size)) _ _ { s with heap := s.heap.push (seqObj "list" #[] 0) }
  unfold Builtin.List.listExtendWith -- a tuple's items go over at once
  have ho2 : (s.heap.push (seqObj "list" #[] 0)).get? tp = some o := Heap.get?_push_of_some _ hob
  refine wpAny_bind (wpAny_typeOf (T := "tuple") ⟨o, ho2, hcl⟩ ?_)
  have ht : (Value.type "tuple" == Value.type "tuple") = true := by rfl
  rw [if_pos (by simp [ht])]
  refine wpAny_bind (listItems_at ho2 hdt ?_)
  refine wpAny_bind (listItems_at (n := 0) (xs := #[]) (Heap.get?_push_size _ rfl) rfl ?_)
  rw [if_neg (by simp)]
  have room : (#[] ++ vs.toArray).size ≤ sizeLine + 1 := by
    simp only [Array.size_append, List.size_toArray, List.length_nil]
    omega
  refine wpAny_bind (listUpdate_at (xs := #[]) (n := 0) (Heap.get?_push_size _ rfl) rfl ?_ (Nat.zero_le _) room)
  refine wpAny_pure ?_
  have flat : ((#[] : Array Value) ++ vs.toArray).toList = vs := by simp
  refine wpAny_bind (wpAny_load (get?_update_seq (Heap.get?_push_size s.heap rfl) _) ?_)
  show wpAny _ _ (pure (#[] ++ vs.toArray).toList) Q E _
  rw [flat]
  exact wpAny_pure h
theorem sorted_tupOrd {tp : Addr} {vs : List Value} {ltv : Value → Value → Bool} {Q : Value → Shared → Prop} (O : SrtO.Swo ltv) (htp : IsTup s.heap tp vs.toArray) (hz : vs.length ≤ sizeLine)
    (can : 2 ≤ vs.length → ∀ (h1 : Heap) (a : Addr), h1.get? a = some (seqObj "list" vs.toArray 0) → (∀ b o, s.heap.get? b = some o → b ≠ a ∧ h1.get? b = some o) → SrtO.SortableO prog w A.in1.in1 { s with heap := h1 } a vs ltv)
    (h : ∀ out : List Value, SrtO.Srtd ltv out → SrtO.Stb ltv out vs → Q (.ref (s.heap.objs.size + 1)) { s with heap := sortedAll s.heap vs out.toArray }) :
    wpAny (model prog w) A (call (.builtin "sorted") [.ref tp]) Q E s := by
  refine Calls.call_function_entry kind_sorted plain_sorted entry_sorted (args_sorted1 (.ref tp)) ?_
  unfold Builtin.«sorted»
  refine wpAny_bind (m := checkCount "sorted" 1 1 _) ?_
  refine wpAny_pure ?_
  refine wpAny_bind (collect_tup htp ?_ hz)
  refine wpAny_bind (wpAny_newList (s := _) ?_ hz)
  generalize eg : (s.heap.push (seqObj "list" #[] 0)).update s.heap.objs.size (Obj.mapSeq (· ++ vs.toArray)) = g
  have hsz : g.objs.size = s.heap.objs.size + 1 := by rw [← eg, Heap.size_update, size_push']
  have hoL : (g.push (seqObj "list" vs.toArray 0)).get? (s.heap.objs.size + 1) = some (seqObj "list" vs.toArray 0) := by
    rw [← hsz]
    exact Heap.get?_push_size g rfl
  have keep : ∀ b o, s.heap.get? b = some o → b ≠ s.heap.objs.size + 1 ∧ (g.push (seqObj "list" vs.toArray 0)).get? b = some o := by
    intro b o q
    have hbl : b < s.heap.objs.size := Heap.lt_size q
    refine ⟨Nat.ne_of_lt (Nat.lt_succ_of_lt hbl), Heap.get?_push_of_some (seqObj "list" vs.toArray 0) ?_⟩
    rw [← eg, Heap.get?_update_ne _ _ _ _ (Nat.ne_of_lt hbl)]
    exact Heap.get?_push_of_some (seqObj "list" #[] 0) q
  show wpAny _ _ _ _ _ { s with heap := g.push (seqObj "list" vs.toArray 0) }
  rw [hsz]
  refine wpAny_bind (wpAny_holding (wpAny_call_entry slot_list_sort ⟨_, hoL, rfl⟩ entry_list_sort (SrtO.list_sort_ord O hoL hz (fun h2 => can h2 _ _ hoL keep) ?_) (args_list_sort _)))
  intro out hs hb
  refine ⟨_, rfl, ?_⟩
  subst eg
  exact wpAny_pure ⟨.ref (s.heap.objs.size + 1), rfl, h out hs hb⟩
end
/-- sorted(t), t a tuple of ints -/
theorem cr_sortedTup {X : Cx} : CallR X (.builtin "sorted") (fun vs H Q => ∃ (a : Addr) (ns : List Int), vs = [V.ref a] ∧ SqT X.K H a (ns.map V.int) ∧
    ∀ (ms : List Int) (p : Addr), ms.Perm ns → ms.Pairwise (· ≤ ·) → H p = none → Q (.ref p) (upd H p (.lst (ms.map V.int)))) := by
  intro pins s σ H vs us Q I r h
  obtain ⟨a, ns, rfl, hs, q⟩ := h
  obtain ⟨its, rv, htp, hz⟩ := I.tuple hs
  rw [Vals.ref1 r]
  have hi := rv.ints
  refine sorted_tupOrd SrtO.swo_int htp (by rw [← rv.length]; exact hz) (fun h2 h1 a2 _ _ => SrtO.ints_sortable hi h2) ?_
  intro out h1 h2
  obtain ⟨o1, o2, o3⟩ := SrtO.ints_out hi h1 h2
  obtain ⟨ep, he⟩ := PyProof.Rows.sortedAll_at s.heap its out.toArray
  have hshort : ((out.map SrtO.iv).map V.int).length ≤ sizeLine := by
    rw [List.length_map, o2.length_eq]
    rw [List.length_map] at hz
    exact hz
  have lay := I.laid (t' := s.toks) (a := s.heap.objs.size + 1) (o := .lst ((out.map SrtO.iv).map V.int)) (fun _ _ => PyProof.Rows.sortedAll_old) (Nat.le_succ _)
    ⟨hshort, out, ep, vals_of_ints o1, he⟩
  exact ⟨.ref _, _, lay, rfl, q _ _ o2 o3 (I.hok.fresh (Nat.le_succ _))⟩
end Par
namespace Par
open PySem PySem.Spec PyProof.Rows L2
theorem meets_enumT (l : Addr) (items : Array Value) :
    Meets (Builtin.«enumerate.__new__» ⟨[.type "enumerate", .ref l], []⟩) (fun _ R s => s.heap.IsTuple l items ∧
      R (.ok (.ret (.ref (s.heap.push { cls := .type "tuple_iterator", data := .fields #[.ref l, .int 0 0] }).objs.size)))
        { s with heap := (s.heap.push { cls := .type "tuple_iterator", data := .fields #[.ref l, .int 0 0] }).push { cls := .type "enumerate", data := .fields #[.none, .bool false, .ref s.heap.objs.size, rawInt 0, .none, .none] } }) := by
  refine .of_wp ?_
  rintro prog w A R ⟨hp, g, d, tk, os⟩ ⟨h1, h⟩
  have sub1 := sub_enumerate
  have it1 : ∀ {B : Around} {E : Value → Shared → Prop} {Q : Value → Shared → Prop},
      Q (.ref hp.objs.size) ⟨hp.push { cls := .type "tuple_iterator", data := .fields #[.ref l, .int 0 0] }, g, d, tk, os⟩ → wpAny (model prog w) B (pyIter (.ref l)) Q E ⟨hp, g, d, tk, os⟩ :=
    fun q => (begins_tuple l items).iter prog w _ _ ⟨hp, g, d, tk, os⟩ _ h1 q
  wp_walk using it1
  refine wpAny_stack_any (fun st => wpAny_pure ?_)
  split
  · rename_i c _ _ _ _ _
    cases (c == Value.type "enumerate") <;> (wp_walk using it1; exact ⟨_, rfl, h⟩)
  · wp_walk using it1
    exact ⟨_, rfl, h⟩
section
variable {prog : Program} {w : World} {A : Around} {E : Value → Shared → Prop} {s : Shared}
theorem call_enumT {l : Addr} {items : Array Value} {Q : Value → Shared → Prop} (hL : s.heap.IsTuple l items)
    (h : ∀ h', IsEnum h' (s.heap.objs.size + 1) s.heap.objs.size 0 .none → h'.IsTupleIter s.heap.objs.size l 0 → (∀ b o, s.heap.get? b = some o → h'.get? b = some o) →
      Q (.ref (s.heap.objs.size + 1)) { s with heap := h' }) : wpAny (model prog w) A (call (.type "enumerate") [.ref l]) Q E s := by
  refine callType_new F.called_enumerate (by decide) (F.typeCall_enumerate_1 _) (F.newCall_enumerate_1 _) (fun obj => F.args_object_init_2 obj _) F.entry_enumerate_new (meets_enumT l items) ⟨hL, ?_⟩
  generalize eg : s.heap.push { cls := .type "tuple_iterator", data := .fields #[.ref l, .int 0 0] } = g
  have hz : g.objs.size = s.heap.objs.size + 1 := by rw [← eg]; exact Heap.size_push ..
  have hi : g.get? s.heap.objs.size = some { cls := .type "tuple_iterator", data := .fields #[.ref l, .int 0 0] } := by rw [← eg]; exact Heap.get?_push_size _ rfl
  have hk : ∀ b o, s.heap.get? b = some o → g.get? b = some o := by rw [← eg]; exact fun b o x => Heap.get?_push_of_some _ x
  show _ ∧ _
  have he := Heap.get?_push_size g (o := { cls := .type "enumerate", data := .fields #[.none, .bool false, .ref s.heap.objs.size, rawInt 0, .none, .none] }) rfl
  rw [hz] at he ⊢
  exact ⟨⟨_, he, rfl⟩, h _ he ⟨_, Heap.get?_push_of_some _ hi, rfl, rfl⟩ fun b o x => Heap.get?_push_of_some _ (hk b o x)⟩
end
/-- the tuple at a, each item in a new pair -/
def ItEnT (K : PySem.W.Frag) (a : Addr) : It where
  go := fun i H => ∃ (xs : List V) (x : V), SqT K H a xs ∧ xs[i]? = some x
  yld := fun i H v H' => ∃ T x, v = .ref T ∧ H T = none ∧ H' = upd H T (.tup [.int (i : Nat), x]) ∧ ∀ xs, SqT K H a xs → xs[i]? = some x
  stop := fun i H => ∃ xs : List V, SqT K H a xs ∧ xs.length ≤ i
theorem turn_enumT {P : Program} {w : World} {K : PySem.W.Frag} {elts : List Expr} {kk : Nat} {tpos : Pos} (a e it : Addr) :
    Turn P w K (.Tuple elts kk tpos) (ItEnT K a) [e, it] e (fun i h => (∃ old, IsEnum h e it ((i : Nat) : Int) old) ∧ h.IsTupleIter it a i ∧ e ≠ it ∧ a ≠ it ∧ a ≠ e) where
  mem := by simp
  obj := by
    rintro i h ⟨⟨old, he⟩, ⟨o, ho, hc, hd⟩, _⟩ b hb
    rcases (show b = e ∨ b = it by simpa using hb) with rfl | rfl
    · exact ⟨_, he, fun v q => nomatch q⟩
    · exact ⟨o, ho, fun v q => by rw [hd] at q; cases q⟩
  keep := by
    rintro i h h' ⟨⟨old, he⟩, ⟨o, ho, r⟩, ne⟩ k
    exact ⟨⟨old, k e (by simp) _ he⟩, ⟨o, k it (by simp) o ho, r⟩, ne⟩
  item := by
    intro X hP hw hK hc i pins s σ H E I hf st hg
    subst hP hw hK
    obtain ⟨⟨old, he⟩, hit, hne, n1, n2⟩ := st
    obtain ⟨xs, x, hq, hx⟩ := hg
    obtain ⟨its, rv, p, hz⟩ := I.tuple hq
    obtain ⟨u, hu, ru⟩ := rv.get hx
    have hel : e < s.heap.objs.size := Heap.lt_size he
    have hil : it < s.heap.objs.size := let ⟨_, q, _⟩ := hit; Heap.lt_size q
    have hlt : i < its.toArray.size := by
      rcases Nat.lt_or_ge i its.length with z | z
      · simpa using z
      · rw [List.getElem?_eq_none z] at hu
        cases hu
    have hh : X.A.in1.handled = none := I.ok.hd hc
    refine wpAny_pyNext_enum_itemD (Draws.tuple hh it a n1 its.toArray) he ⟨hit, p⟩ hlt hne (by simp [hne, Ne.symm n2]) ?_
    intro y h1 tk hy ho hit1 hT hsz hk
    have ey : y = u := by
      have q : its.toArray[i]? = some u := by simpa using hu
      rw [hy] at q
      exact Option.some.inj q
    subst ey
    refine ⟨_, rfl, wpAny_letOwnedTupleGo_enum (s := { s with heap := h1, toks := tk + 1 }) ho ?_⟩
    intro h2 he2 sb
    have hT2 : h2.get? s.heap.objs.size = some { cls := .type "tuple", data := .seq #[.int i tk, y] } := (sb.2 _ (Nat.ne_of_gt hel)).trans hT
    have new : ObjOk X.prog X.w (upd H s.heap.objs.size (.tup [.int (i : Nat), x])) h2 s.heap.objs.size (.tup [.int (i : Nat), x]) :=
      ⟨by show 2 ≤ sizeLine; decide, [.int i tk, y], .cons ⟨_, rfl⟩ (.cons ru .nil), ⟨_, hT2, rfl, _, rfl⟩⟩
    have I1 : L2.Inv X pins σ (upd H s.heap.objs.size (.tup [.int (i : Nat), x])) { s with heap := h2, toks := tk + 1 } := by
      refine I.turnedNew (ch := [e, it]) ?_ hf (Nat.le_refl _) new
      intro b ob hb q
      have b1 : b ≠ e := fun z => hb (by simp [z])
      exact (sb.2 b b1).trans (hk b ob b1 (fun z => hb (by simp [z])) q)
    refine ⟨.ref s.heap.objs.size, _, I1, rfl, ⟨_, x, rfl, I.hok.fresh (Nat.le_refl _), rfl, ?_⟩, ⟨⟨y, ?_⟩, ?_, hne, n1, n2⟩, ?_⟩
    · intro ys hy
      rw [I.tuple_inj hy hq]
      exact hx
    · have e1 : ((i + 1 : Nat) : Int) = (i : Int) + 1 := by omega
      rw [e1]
      exact he2
    · obtain ⟨o, q, r⟩ := hit1.1
      exact ⟨o, (sb.2 it (Ne.symm hne)).trans q, r⟩
    · intro b hb
      have hb2 : b < s.heap.objs.size := by
        rcases (show b = e ∨ b = it by simpa using hb) with rfl | rfl
        · exact hel
        · exact hil
      rw [upd_ne (Nat.ne_of_lt hb2)]
      exact (hf b hb).1
  done := by
    intro X hP hw hK hc i pins s σ H E I hf st hg
    subst hP hw hK
    obtain ⟨⟨old, he⟩, hit, hne, n1, n2⟩ := st
    obtain ⟨xs, hq, hx⟩ := hg
    obtain ⟨its, rv, p, hz⟩ := I.tuple hq
    obtain ⟨f0, f1, f2, f3, f4, f5⟩ := hf it (by simp)
    have hh : X.A.in1.handled = none := I.ok.hd hc
    by_cases hi : i = its.toArray.size
    · subst hi
      refine wpAny_pyNext_enum_endD (Draws.tuple hh it a n1 its.toArray) he ⟨hit, p⟩ ?_
      intro h1 ex
      exact ⟨rfl, I.turned (t' := s.toks) (fun b o hb q => ex b o hb q) f0 f1 f3 f4 f5⟩
    · refine wpAny_bind (wpAny_attempt (wpAny_callSpecial?_slot (s := s) (name := Str.ofString "__next__") ⟨_, he, rfl⟩ F.slot_enumerate_next
        (wpAny_call_entry (s := s) F.slot_enumerate_next ⟨_, he, rfl⟩ F.entry_enumerate_next ?_ (F.args_enumerate_next_1 _))))
      show wpAny _ _ (field (Value.ref e) 2 >>= _) _ _ s
      refine wpAny_bind (wpAny_field (s := s) he rfl (x := .ref it) rfl ?_)
      refine wpAny_bind (wpAny_nextOf_tuple_end hh hit p (by simp; have := rv.length; omega) ?_)
      rintro h1 z ex ⟨o, ho, hcl⟩
      refine wpAny_bind (wpAny_isInstance (T := "StopIteration") (b := true) ⟨o, ho, hcl⟩ isSubtype_stop ?_)
      exact wpAny_pure ⟨rfl, I.turned (t' := s.toks) (fun b o hb q => ex b o hb q) f0 f1 f3 f4 f5⟩
  self := by
    rintro A i s Q E ⟨⟨_, he⟩, _⟩ h
    exact wpAny_pyIter_enum he h
def iEnumT (K : PySem.W.Frag) (ta : TA) : TI := fun σ H R => ta σ H fun vs H1 => ∃ a xs, vs = [.ref a] ∧ SqT K H1 a xs ∧ R (ItEnT K a) H1
/-- for i, x in enumerate(t), t a tuple -/
theorem pi_enumT {X : Cx} {e : Expr} {ta : TA} {p pos tpos : Pos} {elts : List Expr} {kk : Nat} (hg : Gl X "enumerate") (hm : X.mg "enumerate" = none) (ha : PA X [e] ta)
    (hs : starEach [e] X.env = [(false, eval e X.env)] := by rfl) : PI X (.Tuple elts kk tpos) (.Call (.Name "enumerate" p) [e] [] pos) (iEnumT X.K ta) := by
  constructor
  intro pins s σ H R I h
  refine Call_ (ld_blt I hg hm boot_enumerate (PyProof.Rows.callWith_type1 (thn (ha.run pos pins s σ H _ I h) ?_) hs rfl))
  rintro us s1 ⟨vs, H1, I1, r1, a, xs, rfl, hq, q⟩
  cases r1 with
  | cons r rr =>
    cases rr
    cases r
    obtain ⟨its, rv, pl, hz⟩ := I1.tuple hq
    refine call_enumT pl ?_
    intro h1 he hit hk
    refine wpAny_pyIter_enum he ?_
    have I2 : L2.Inv X pins σ H1 { s1 with heap := h1 } := I1.kept (t' := s1.toks) hk
    have al : a < s1.heap.objs.size := pl.lt
    refine ⟨s1.heap.objs.size + 1, [s1.heap.objs.size + 1, s1.heap.objs.size], _, _, H1, rfl, I2, turn_enumT a (s1.heap.objs.size + 1) s1.heap.objs.size,
      ⟨⟨.none, he⟩, hit, Nat.succ_ne_self _, Nat.ne_of_lt al, Nat.ne_of_lt (Nat.lt_succ_of_lt al)⟩, ?_, q⟩
    intro b hb
    have hle : s1.heap.objs.size ≤ b := by
      rcases (show b = s1.heap.objs.size + 1 ∨ b = s1.heap.objs.size by simpa using hb) with z | z
      · rw [z]
        exact Nat.le_succ _
      · rw [z]
        exact Nat.le_refl _
    exact I1.fpOk hle (I1.hok.fresh hle)
theorem walk_enumT {K : PySem.W.Frag} {a : Addr} {xs : List V} :
    Walk (ItEnT K a) xs.length (fun H => SqT K H a xs) (YPair (fun i => some (.int (i : Nat))) (fun i => xs[i]?)) where
  goes := fun i H hi h => ⟨xs, xs[i], h, by simp [hi]⟩
  stops := fun H h => ⟨xs, h, Nat.le_refl _⟩
  yields := by
    rintro i H v H' hi h ⟨T, x, rfl, hn, rfl, hx⟩
    exact ⟨T, _, x, rfl, hn, rfl, rfl, hx xs h⟩
end Par
namespace Par
open PySem PySem.Spec PyProof.Rows L2

section
variable {X : Cx} {CX : CXT} {k : Nat} {f : Addr} {fd : FuncData} {ps ks : List Str} {sp : Sp} {E : XK} {x : Str} {p pos : Pos} {kws : List Keyword} {tk : TA}
  {g : List Value → List Value → List Value} {gV : List V → List V → List V}
/-- f(k = v, ..), no positional argument -/
theorem pe_callN0 (F : FnOk X.prog X.w X.K X.mg X.base CX k f fd ps sp) (hr : Room k X.A) (hg : Gl X x) (hm : X.mg x = some (.ref f))
    (hk : PySem.W.keepIn X.K (.ref f) = true) (hb : KBn X.K fd ps 0 ks g gV) (hx : Passes CX X E) (hkw : PK X kws tk)
    (hall : (backToKw pos (keywordEach kws X.env)).all (·.1.isSome) = true := by rfl)
    (hks : (backToKw pos (keywordEach kws X.env)).filterMap (·.1) = ks := by rfl)
    (hdb : (x == ("__debug__" : Str)) = false := by decide)
    (hpl : ((backTo pos (starEach [] X.env)).any (·.1) || (backToKw pos (keywordEach kws X.env)).any (·.1.isNone)) = false := by rfl) :
    PE X (.Call (.Name x p) [] kws pos) (tCallN 0 ks.length sp gV E tNil tk) := by
  constructor
  intro pins s σ H Q I h
  refine wpAny_Call_Name_kw (ld_glob I hg hm ?_ hdb)
  refine PySem.W.callWith_KW0 (h₀ := X.base) I.ok.mod.kin hk hall ?_ hpl
  refine thn (hkw.run pos pins s σ H _ I h) ?_
  rintro ws s2 ⟨zs, H2, I2, rz, l1, l2, q2⟩
  refine ⟨I2.kIn, ?_⟩
  rw [hks]
  exact run_fnN F hr hb hx I2 .nil rz l1 l2 q2
end

/-! ### a new list whose place is not that of sys.modules -/
def tLstS (t : TA) : TE := fun σ H Q => t σ H fun xs H1 => xs.length ≤ sizeLine ∧ ∀ p, H1 p = none → p ≠ sysModules → Q (.ref p) (upd H1 p (.lst xs))
theorem new_ne_sys {X : Cx} {pins : List (Addr × Obj)} {σ : L2.St} {H : Hp} {s : Shared} (I : Inv X pins σ H s) : s.heap.objs.size ≠ sysModules := by
  obtain ⟨o, _, _, e, _⟩ := I.ok.mod.glob
  have h1 := Heap.lt_size (I.bk _ _ e)
  intro z
  rw [z] at h1
  exact absurd h1 (by decide)
theorem pe_lstS {X : Cx} {es : List Expr} {t : TA} {pos : Pos} (h : PA X es t) : PE X (.List es pos) (tLstS t) := by
  constructor
  intro pins s σ H Q I hq
  refine wpAny_List_spliced (thn (h.run pos pins s σ H _ I hq) ?_)
  rintro us s1 ⟨xs, H1, I1, r, z, q⟩
  refine ⟨by rw [← r.length]; exact z, ?_⟩
  have free : H1 s1.heap.objs.size = none := I1.hok.fresh (Nat.le_refl _)
  have lay := I1.laid (t' := s1.toks) (o := .lst xs) (h' := s1.heap.push { cls := .type "list", data := .seq us.toArray 0 })
    (fun b u e => Heap.get?_push_of_some _ e) (Nat.le_refl _) ⟨z, us, 0, r, Heap.get?_push_size _ rfl⟩
  exact ⟨V.ref s1.heap.objs.size, _, lay, rfl, q _ free (new_ne_sys I1)⟩

/-! ### repr -/
/-- a value that is no container, or a dict with keys and values that are none -/
inductive Fl (H : Hp) : V → PyData → Prop
  | non : Fl H .non .none
  | bl (b : Bool) : Fl H (.bl b) (.bool b)
  | int (i : Int) : Fl H (.int i) (.int i)
  | str (x : Str) : Fl H (.str x) (.str x)
  | dic0 {a : Addr} : H a = some (.dK []) → Fl H (.ref a) (.dict [])
  | dic1 {a : Addr} {i j : Int} : H a = some (.dK [(Sum.inl i, .int j)]) → Fl H (.ref a) (.dict [(.int i, .int j)])
inductive FlAll (H : Hp) : List V → List PyData → Prop
  | nil : FlAll H [] []
  | cons {v : V} {vs : List V} {d : PyData} {ds : List PyData} : Fl H v d → FlAll H vs ds → FlAll H (v :: vs) (d :: ds)
/-- what repr is asked of: data without a dict, a flat thing, a list of flat things -/
inductive Dx (K : PySem.W.Frag) (H : Hp) : V → PyData → Prop
  | dp {v : V} {d : PyData} : Dp K H v d → Dx K H v d
  | fl {v : V} {d : PyData} : Fl H v d → Dx K H v d
  | lst {a : Addr} {xs : List V} {ds : List PyData} : H a = some (.lst xs) → a ≠ sysModules → FlAll H xs ds → Dx K H (.ref a) (.list ds)

mutual
theorem dp_nodict {K : PySem.W.Frag} {H : Hp} : ∀ (d : PyData) (v : V), Dp K H v d → d.hasDict = false
  | .none, _, _ => rfl
  | .bool _, _, _ => rfl
  | .int _, _, _ => rfl
  | .str _, _, _ => rfl
  | .list ds, _, h => by
    cases h with
    | lst _ ha => exact dps_nodict ds _ ha
  | .tuple ds, _, h => by
    cases h with
    | tup _ ha => exact dps_nodict ds _ ha
  | .dict _, _, h => by cases h
theorem dps_nodict {K : PySem.W.Frag} {H : Hp} : ∀ (ds : List PyData) (vs : List V), DpAll K H vs ds → PyData.hasDictAll ds = false
  | [], _, _ => rfl
  | d :: ds, _, h => by
    cases h with
    | cons h1 h2 =>
      show (d.hasDict || PyData.hasDictAll ds) = false
      rw [dp_nodict d _ h1, dps_nodict ds _ h2]
      rfl
end

section
variable {X : Cx} {pins : List (Addr × Obj)} {σ : L2.St} {H : Hp} {s : Shared}
theorem fl_reads (I : Inv X pins σ H s) {v : V} {d : PyData} {u : Value} (h : Fl H v d) (r : RelV v u) : ∃ as, Reads s.heap u d as ∧ sysModules ∉ as := by
  cases h with
  | non =>
    cases r
    exact ⟨_, Reads.none, by simp⟩
  | bl b =>
    cases r
    exact ⟨_, Reads.bool b, by simp⟩
  | int i =>
    obtain ⟨t, rfl⟩ := r
    exact ⟨_, Reads.int i t, by simp⟩
  | str x =>
    obtain ⟨t, rfl⟩ := r
    exact ⟨_, Reads.str x t, by simp⟩
  | @dic0 a e =>
    cases r
    obtain ⟨_, ns, vs, kv, o, es, ep, ho, hx, hd, hk, hp, _⟩ := dk_of I.hok e
    cases kv
    have ne : sysModules ≠ a := fun z => by rw [← z] at ns; exact absurd ns (by decide)
    cases hes : es.toList with
    | cons e1 t1 => rw [hes] at hp; cases hp
    | nil =>
      refine ⟨_, Reads.dict (kvs := []) (as := []) (bs := []) ho hx.1 hd (by rw [hes]; exact ReadsAll.nil) (by rw [hes]; exact ReadsAll.nil), ?_⟩
      simpa using ne
  | @dic1 a i j e =>
    cases r
    obtain ⟨_, ns, vs, kv, o, es, ep, ho, hx, hd, hk, hp, _⟩ := dk_of I.hok e
    have ne : sysModules ≠ a := fun z => by rw [← z] at ns; exact absurd ns (by decide)
    cases kv with
    | @cons _ q _ _ k1 k2 =>
      cases k2
      obtain ⟨k, u⟩ := q
      obtain ⟨e1, t, e2⟩ := k1
      have e1' : Sum.inl i = k := e1
      have e2' : u = Value.int j t := e2
      subst e1' e2'
      cases hes : es.toList with
      | nil => rw [hes] at hp; cases hp
      | cons e1 t1 =>
        rw [hes] at hp
        cases hp with
        | cons p1 p3 p2 =>
          cases p2
          have p1' : keyIs (Sum.inl i) e1.key = true := p1
          rcases keyIs_shape p1' with ⟨i2, t2, w1, w2⟩ | ⟨x2, t2, w1, w2⟩
          · cases w1
            have p3' : e1.val = Value.int j t := p3
            refine ⟨_, Reads.dict (kvs := [(.int i, .int j)]) ho hx.1 hd (as := [] ++ []) (bs := [] ++ []) ?_ ?_, ?_⟩
            · rw [hes]
              show ReadsAll s.heap [e1.key] [PyData.int i] ([] ++ [])
              rw [w2]
              exact ReadsAll.cons (Reads.int i t2) ReadsAll.nil
            · rw [hes]
              show ReadsAll s.heap [e1.val] [PyData.int j] ([] ++ [])
              rw [p3']
              exact ReadsAll.cons (Reads.int j t) ReadsAll.nil
            · simpa using ne
          · cases w1
theorem flAll_reads (I : L2.Inv X pins σ H s) : ∀ {vs : List V} {ds : List PyData} {us : List Value}, FlAll H vs ds → Vals vs us → ∃ as, ReadsAll s.heap us ds as ∧ sysModules ∉ as
  | _, _, _, .nil, .nil => ⟨_, ReadsAll.nil, by simp⟩
  | _, _, _, .cons h1 h2, .cons r1 r2 => by
    obtain ⟨as, q1, n1⟩ := fl_reads I h1 r1
    obtain ⟨bs, q2, n2⟩ := flAll_reads I h2 r2
    refine ⟨_, ReadsAll.cons q1 q2, ?_⟩
    intro z
    rcases List.mem_append.mp z with z | z
    · exact n1 z
    · exact n2 z
theorem dx_reads (I : L2.Inv X pins σ H s) {v : V} {d : PyData} {u : Value} (h : Dx X.K H v d) (r : RelV v u) :
    ∃ as, Reads s.heap u d as ∧ (d.hasDict = true → sysModules ∉ as) := by
  cases h with
  | dp h =>
    obtain ⟨as, q⟩ := Dp.reads I d v u h r
    refine ⟨as, q, fun z => ?_⟩
    rw [dp_nodict d v h] at z
    cases z
  | fl h =>
    obtain ⟨as, q, n⟩ := fl_reads I h r
    exact ⟨as, q, fun _ => n⟩
  | @lst a xs ds e ne h =>
    cases r
    obtain ⟨its, rv, ⟨o, n, ho, hc, _, hd⟩, _⟩ := I.list (a := a) (xs := xs) (SqL.of e)
    obtain ⟨as, q, nn⟩ := flAll_reads I h rv
    refine ⟨_, Reads.list ho hc hd q, fun _ z => ?_⟩
    rcases List.mem_cons.mp z with z | z
    · exact ne z.symm
    · exact nn z
end

section
variable {X : Cx}
/-- repr(x) where the guards are none -/
theorem cr_repr (gs : X.A.guards = some []) (hu : X.A.units + 64 < cLine) : CallR X (.builtin "repr") (fun xs H Q => ∃ v d, xs = [v] ∧ Dx X.K H v d ∧
    d.showable = true ∧ d.depth ≤ 40 ∧ d.shown.length ≤ sizeLine ∧ Q (.str d.shown) H) := by
  intro pins s σ H xs us Q I r h
  obtain ⟨v, d, rfl, hd, sh, dep, len, q⟩ := h
  cases r with
  | @cons _ u _ _ r1 r2 =>
    cases r2
    obtain ⟨as, rd, ns⟩ := dx_reads I hd r1
    have fin : ∀ (h' : Heap) (tk u' : Nat), (∀ b o, s.heap.get? b = some o → h'.get? b = some o) → EP X pins σ Q (.str d.shown u') { s with heap := h', toks := tk } :=
      fun h' tk u' k => ⟨.str d.shown, H, I.un (t' := tk) (Un.kept k) (I.hok.kept k), ⟨_, rfl⟩, q⟩
    cases u with
    | ref a => exact repr_of_reads' rd sh ns gs (by omega) (fun _ _ z => z) (fun h' u tk k => fin h' tk u k) len
    | none => cases rd; exact PySem.P.repr_of_none (fin s.heap _ _ fun _ _ z => z)
    | bool b => cases rd; exact PySem.P.repr_of_bool (fin s.heap _ _ fun _ _ z => z)
    | int i t => cases rd; exact PySem.P.repr_of_int (by simpa [PyData.showable] using sh) (fin s.heap _ _ fun _ _ z => z)
    | str x t => cases rd; exact PySem.P.repr_of_str (fin s.heap _ _ fun _ _ z => z) len
    | _ => cases rd
end
end Par
namespace Par
open PySem PySem.Spec PyProof.Rows L2
/-! ### data stays data -/
theorem sqL_same {K : PySem.W.Frag} {H H' : Hp} {a : Addr} {xs : List V} (s : Same H H') (h : SqL K H a xs) : SqL K H' a xs := s.seq h
theorem sqT_same {K : PySem.W.Frag} {H H' : Hp} {a : Addr} {xs : List V} (s : Same H H') (h : SqT K H a xs) : SqT K H' a xs := by
  rcases h with (h | ⟨o, h⟩) | h
  · exact .inl (.inl (s _ _ h))
  · exact .inl (.inr ⟨o, s _ _ h⟩)
  · exact .inr h
mutual
theorem dp_same {K : PySem.W.Frag} {H H' : Hp} (s : Same H H') : ∀ (d : PyData) (v : V), Dp K H v d → Dp K H' v d
  | .none, _, h => by cases h; exact .non
  | .bool b, _, h => by cases h; exact .bl b
  | .int i, _, h => by cases h; exact .int i
  | .str x, _, h => by cases h; exact .str x
  | .list ds, _, h => by
    cases h with
    | lst q ha => exact .lst (sqL_same s q) (dps_same s ds _ ha)
  | .tuple ds, _, h => by
    cases h with
    | tup q ha => exact .tup (sqT_same s q) (dps_same s ds _ ha)
  | .dict _, _, h => by cases h
theorem dps_same {K : PySem.W.Frag} {H H' : Hp} (s : Same H H') : ∀ (ds : List PyData) (vs : List V), DpAll K H vs ds → DpAll K H' vs ds
  | [], _, h => by cases h; exact .nil
  | d :: ds, _, h => by
    cases h with
    | cons h1 h2 => exact .cons (dp_same s d _ h1) (dps_same s ds _ h2)
end
theorem fl_same {H H' : Hp} (s : Same H H') {v : V} {d : PyData} (h : Fl H v d) : Fl H' v d := by
  cases h with
  | non => exact .non
  | bl b => exact .bl b
  | int i => exact .int i
  | str x => exact .str x
  | dic0 e => exact .dic0 (s _ _ e)
  | dic1 e => exact .dic1 (s _ _ e)
/-- a thing that is handed in: flat, a dict, or a list or tuple of data -/
inductive Giv (K : PySem.W.Frag) (H : Hp) : V → PyData → Prop
  | fl {v : V} {d : PyData} : Fl H v d → Giv K H v d
  | lst {a : Addr} {xs : List V} {ds : List PyData} : H a = some (.lst xs) → DpAll K H xs ds → xs.length ≤ 200 → Giv K H (.ref a) (.list ds)
  | tup {a : Addr} {xs : List V} {ds : List PyData} : H a = some (.tup xs) → DpAll K H xs ds → xs.length ≤ 200 → Giv K H (.ref a) (.tuple ds)
theorem giv_same {K : PySem.W.Frag} {H H' : Hp} (s : Same H H') {v : V} {d : PyData} (h : Giv K H v d) : Giv K H' v d := by
  cases h with
  | fl f => exact .fl (fl_same s f)
  | lst e q l => exact .lst (s _ _ e) (dps_same s _ _ q) l
  | tup e q l => exact .tup (s _ _ e) (dps_same s _ _ q) l
theorem giv_dx {K : PySem.W.Frag} {H : Hp} {v : V} {d : PyData} (h : Giv K H v d) : Dx K H v d := by
  cases h with
  | fl f => exact .fl f
  | lst e q _ => exact .dp (.lst (SqL.of e) q)
  | tup e q _ => exact .dp (.tup (SqT.of e) q)
theorem dps_ints {K : PySem.W.Frag} {H : Hp} : ∀ ns : List Int, DpAll K H (ns.map V.int) (ns.map PyData.int)
  | [] => .nil
  | n :: ns => .cons (.int n) (dps_ints ns)
theorem dps_bools {K : PySem.W.Frag} {H : Hp} : ∀ bs : List Bool, DpAll K H (bs.map V.bl) (bs.map PyData.bool)
  | [] => .nil
  | n :: ns => .cons (.bl n) (dps_bools ns)
theorem dps_append {K : PySem.W.Frag} {H : Hp} : ∀ {xs ys : List V} {ds es : List PyData}, DpAll K H xs ds → DpAll K H ys es → DpAll K H (xs ++ ys) (ds ++ es)
  | _, _, _, _, .nil, h => h
  | _, _, _, _, .cons h1 h2, h => .cons h1 (dps_append h2 h)

/-! ### what is shown is short -/
def small (d : PyData) : Prop := d.showable = true ∧ d.depth ≤ 4 ∧ d.shown.length ≤ 200
def good (d : PyData) : Prop := d.showable = true ∧ d.depth ≤ 8 ∧ d.shown.length ≤ 200000
theorem log_lt {n k : Nat} (h : n < 2 ^ k) (hk : 0 < k) : n.log2 < k := by
  by_cases h0 : n = 0
  · subst h0
    exact hk
  · exact (Nat.log2_lt h0).mpr h
theorem small_int {i : Int} (h : i.natAbs < 2 ^ 100) : small (.int i) := by
  have h1 := log_lt h (by decide)
  refine ⟨?_, Nat.zero_le _, ?_⟩
  · show decide (i.natAbs.log2 < 1920) = true
    exact decide_eq_true (by omega)
  · show (Str.ofString (toString i)).length ≤ 200
    have h2 := int_text_length_le (a := i) (k := 100) (by decide) h1
    rw [PySem.ofString_length]
    omega
theorem small_bool (b : Bool) : small (.bool b) := by cases b <;> exact ⟨by decide, by decide, by decide +kernel⟩
theorem small_good {d : PyData} (h : small d) : good d := ⟨h.1, by have := h.2.1; omega, by have := h.2.2; omega⟩
theorem showAll {ds : List PyData} : (∀ d ∈ ds, d.showable = true) → PyData.showableAll ds = true := by
  induction ds with
  | nil => intro _; rfl
  | cons d ds ih =>
    intro h
    show (d.showable && PyData.showableAll ds) = true
    rw [h d (List.mem_cons_self ..), ih fun e he => h e (List.mem_cons_of_mem _ he)]
    rfl
theorem depthAll {ds : List PyData} {n : Nat} : (∀ d ∈ ds, d.depth ≤ n) → PyData.depthAll ds ≤ n := by
  induction ds with
  | nil => intro _; exact Nat.zero_le _
  | cons d ds ih =>
    intro h
    show max d.depth (PyData.depthAll ds) ≤ n
    have h1 := h d (List.mem_cons_self ..)
    have h2 := ih fun e he => h e (List.mem_cons_of_mem _ he)
    omega
theorem piledAll {ds : List PyData} {n : Nat} : (∀ d ∈ ds, d.shown.length ≤ n) → piled (PyData.shownAll ds) ≤ ds.length * (n + 2) := by
  induction ds with
  | nil => intro _; show 0 ≤ _; exact Nat.zero_le _
  | cons d ds ih =>
    intro h
    show piled (d.shown :: PyData.shownAll ds) ≤ _
    rw [piled_cons, List.length_cons, Nat.add_mul]
    have h1 := h d (List.mem_cons_self ..)
    have h2 := ih fun e he => h e (List.mem_cons_of_mem _ he)
    omega
theorem listText_le : ∀ ts : List Str, (listText ts).length ≤ piled ts + 2
  | [] => by
    rw [listText_nil]
    show Str.length (Str.ofString "[]") ≤ 2
    decide +kernel
  | t :: ts => by
    have h := textFrom_length_pos ts 1 (Str.ofString "[" ++ Str.ofString "" ++ t) (by decide)
    have e1 : (Str.ofString "[" ++ Str.ofString "" ++ t).length = 1 + t.length := by
      rw [strLen_append, strLen_append]
      rfl
    have e2 : (listText (t :: ts)).length = (textFrom 1 (Str.ofString "[" ++ Str.ofString "" ++ t) ts).length + 1 := strLen_append _ _
    rw [e2, h, e1, piled_cons]
    omega
theorem tupleText_le (ts : List Str) : (tupleText ts).length ≤ piled ts + 4 := by
  have e1 : (Str.ofString "(").length = 1 := by decide +kernel
  have e3 : (Str.ofString (if ts.length == 1 then ",)" else ")")).length ≤ 2 := by split <;> decide +kernel
  have e4 : (tupleText ts).length = (Str.ofString "(").length + (Str.join ", " ts).length + (Str.ofString (if ts.length == 1 then ",)" else ")")).length := by
    unfold tupleText
    rw [strLen_append, strLen_append]
  by_cases h : ts = []
  · subst h
    decide +kernel
  · have := join_length_add ts h
    omega
theorem good_list {ds : List PyData} (h : ∀ d ∈ ds, small d) (hl : ds.length ≤ 300) : good (.list ds) := by
  refine ⟨showAll fun d hd => (h d hd).1, ?_, ?_⟩
  · show PyData.depthAll ds + 1 ≤ 8
    have := depthAll (n := 4) fun d hd => (h d hd).2.1
    omega
  · show (listText (PyData.shownAll ds)).length ≤ 200000
    have h1 := listText_le (PyData.shownAll ds)
    have h2 := piledAll (n := 200) fun d hd => (h d hd).2.2
    have h3 : ds.length * (200 + 2) ≤ 300 * (200 + 2) := Nat.mul_le_mul_right _ hl
    omega
theorem good_tuple {ds : List PyData} (h : ∀ d ∈ ds, small d) (hl : ds.length ≤ 300) : good (.tuple ds) := by
  refine ⟨showAll fun d hd => (h d hd).1, ?_, ?_⟩
  · show PyData.depthAll ds + 1 ≤ 8
    have := depthAll (n := 4) fun d hd => (h d hd).2.1
    omega
  · show (tupleText (PyData.shownAll ds)).length ≤ 200000
    have h1 := tupleText_le (PyData.shownAll ds)
    have h2 := piledAll (n := 200) fun d hd => (h d hd).2.2
    have h3 : ds.length * (200 + 2) ≤ 300 * (200 + 2) := Nat.mul_le_mul_right _ hl
    omega
/-- a short list of good things can be shown -/
theorem shown_list {ds : List PyData} (h : ∀ d ∈ ds, good d) (hl : ds.length ≤ 8) : (PyData.list ds).showable = true ∧ (PyData.list ds).depth ≤ 40 ∧ (PyData.list ds).shown.length ≤ sizeLine := by
  refine ⟨showAll fun d hd => (h d hd).1, ?_, ?_⟩
  · show PyData.depthAll ds + 1 ≤ 40
    have := depthAll (n := 8) fun d hd => (h d hd).2.1
    omega
  · show (listText (PyData.shownAll ds)).length ≤ sizeLine
    have h1 := listText_le (PyData.shownAll ds)
    have h2 := piledAll (n := 200000) fun d hd => (h d hd).2.2
    have h3 : ds.length * (200000 + 2) ≤ 8 * (200000 + 2) := Nat.mul_le_mul_right _ hl
    rw [sizeLine_eq]
    omega
theorem shown_good {d : PyData} (h : good d) : d.showable = true ∧ d.depth ≤ 40 ∧ d.shown.length ≤ sizeLine := by
  obtain ⟨h1, h2, h3⟩ := h
  refine ⟨h1, by omega, ?_⟩
  rw [sizeLine_eq]
  omega
end Par
namespace Par
open PySem PySem.Spec PyProof.Rows L2
/-- a statement that is never reached -/
theorem ps_off {X : Cx} {st : Stmt} : PS X st (fun _ _ _ => False) := ⟨fun _ _ _ _ _ _ h => h.elim⟩
/-- o.m(k = v, ..) -/
def tMethK (C : Addr) (m : Str) (n : Nat) (sp : Sp) (gV : List V → List V → List V) (E : XK) (ta : TE) (tk : TA) : TE := fun σ H Q => ta σ H fun x H1 => ∃ a dx fs, x = .ref a ∧ H1 a = some (.ins C dx fs) ∧ fs.lookup m = none ∧
  tk σ H1 fun zs H2 => zs.length = n ∧ sp (gV [x] zs) H2 Q E
section
variable {X : Cx} {CX : CXT} {k : Nat} {f C : Addr} {fd : FuncData} {ps ks : List Str} {sp : Sp} {E : XK} {x m : Str} {p pos apos : Pos} {e o : Expr} {es : List Expr} {kws : List Keyword} {ta : TE} {t tk : TA}
  {g : List Value → List Value → List Value} {gV : List V → List V → List V}
theorem pe_methK {pl : Sem Bool} (he : PE X o ta) (c : Cls X.K C) (hm : Meth X.K C m f) (F : FnOk X.prog X.w X.K X.mg X.base CX k f fd ps sp) (hr : Room k X.A) (hb : KBn X.K fd ps 1 ks g gV) (hx : Passes CX X E) (hkw : PK X kws tk)
    (hall : (backToKw pos (keywordEach kws X.env)).all (·.1.isSome) = true := by rfl) (hks : (backToKw pos (keywordEach kws X.env)).filterMap (·.1) = ks := by rfl)
    (hpl : ((backTo pos (starEach [] X.env)).any (·.1) || (backToKw pos (keywordEach kws X.env)).any (·.1.isNone)) = false := by rfl)
    (ht : eval (.Call (.Attribute o m apos) [] kws pos) X.env = (do
      let ov ← eval o X.env
      standAt apos.atName
      let (f, first) ← holding [ov] (getMethod ov m pl)
      callWith pos f first (backTo pos (starEach [] X.env)) (backToKw pos (keywordEach kws X.env))) := by rfl) :
    PE X (.Call (.Attribute o m apos) [] kws pos) (tMethK C m ks.length sp gV E ta tk) := by
  refine ⟨fun pins s σ H Q I h => ?_⟩
  refine PySem.W.methodCall_KW (pl := pl) (thn (he.run pins s σ H _ I h) ?_) ht
  rintro u s1 ⟨x, H1, I1, rx, a, dx, fs, ex, ea, l, q⟩
  subst ex
  obtain rfl : u = Value.ref a := rx
  refine getmeth_ok I1 ea c hm l ?_
  refine PySem.W.callWith_KW0 (first := [.ref a]) (h₀ := X.base) I.ok.mod.kin hm.kp hall ?_ hpl
  refine thn (hkw.run pos pins s1 σ H1 _ I1 q) ?_
  rintro ws s2 ⟨zs, H2, I2, rz, l2, q2⟩
  refine ⟨I2.kIn, ?_⟩
  rw [hks]
  have r1 : Vals [V.ref a] ([.ref a] ++ []) := .cons rfl .nil
  refine wpAny_call (codeAny_mono (F.run X.A X.stack s2 H2 ⟨[.ref a] ++ [], ks.zip ws⟩ (g [.ref a] ws) (gV [.ref a] zs) Q E hr I2.env0
    (hb.to s2 [.ref a] ws I2.kIn rfl (rz.length.symm.trans l2)) (hb.rel r1 rz) q2) ?_)
  intro res s3 hq
  cases res with
  | error er => exact hx pins σ H2 s2 er s3 I2 hq
  | ok fl =>
    cases fl with
    | ret u => exact I2.after hq
    | next => exact False.elim hq
    | brk => exact False.elim hq
    | cont => exact False.elim hq
/-- len(o), o an own instance whose class has __len__ -/
theorem cr_lenOwn (c : PySem.W.findIn X.K (.ref C) "__len__" = some (some (.ref f))) (hf : PySem.W.isFn X.K (.ref f) = true) (F : FnOk X.prog X.w X.K X.mg X.base CX k f fd ps sp) (hr : Room (k + 1) X.A) (hb : Binds X.K fd ps []) (hx : Passes CX X E) :
    CallR X (.builtin "len") (fun vs H Q => ∃ a dx fs, vs = [.ref a] ∧ H a = some (.ins C dx fs) ∧ sp [.ref a] H (fun v H2 => ∃ n : Int, v = .int n ∧ 0 ≤ n ∧ n < 2 ^ 63 ∧ Q (.int n) H2) E) := by
  intro pins s σ H vs us Q I r h
  obtain ⟨a, dx, fs, rfl, ha, q⟩ := h
  rw [Vals.ref1 r]
  obtain ⟨mA, O, _⟩ := ins_get I.hok ha
  obtain ⟨od, J, hl⟩ := O.look
  refine Calls.call_function_entry kind_len plain_len entry_len (args_len1 _) ?_
  unfold Builtin.«len»
  refine wpAny_bind (m := oneArg "len" _) (wpAny_pure ?_)
  refine wpAny_bind (m := callSpecial? (.ref a) (Str.ofString "__len__")) (PySem.W.special_fn I.kIn J c (beq_iff_eq.mp hf) ?_)
  have hlen : ([Value.ref a] ++ []).length = ps.length := F.len _ _ _ _ q
  refine wpAny_call (codeAny_mono (F.run X.A.in1 X.stack s H ⟨[.ref a], []⟩ [.ref a] [.ref a] _ E hr.in1 I.env0.in1 (hb s [.ref a] I.kIn hlen) (.cons rfl .nil) q) ?_)
  intro res s3 hq
  cases res with
  | error er => exact hx pins σ H s er s3 I hq
  | ok fl =>
    cases fl with
    | next => exact False.elim hq
    | brk => exact False.elim hq
    | cont => exact False.elim hq
    | ret u =>
      obtain ⟨v, H3, I3, rv, n, rfl, n0, n1, q3⟩ := I.after hq
      obtain ⟨tk, rfl⟩ := rv
      refine wpAny_bind (wpAny_holding (wpAny_pure ?_))
      refine wpAny_bind (wpAny_letGo ?_)
      show wpAny _ _ (if n < 0 then _ else _) _ _ _
      rw [if_neg (by omega)]
      show wpAny _ _ (if n ≥ 2 ^ 63 then _ else _) _ _ _
      rw [if_neg (by omega)]
      exact wpAny_bind (wpAny_mkInt (wpAny_pure ⟨_, rfl, .int n, H3, I3.tok _, ⟨_, rfl⟩, q3⟩))
end
end Par
namespace K33
open PySem PySem.Spec PyProof.Rows L2 Par
def topS (i : Nat) : Stmt := PySem.Challenge.pw_paritycells_k33_removed_and_restored.main.body.getD i (.Pass ⟨0, 0, 0, 0⟩)
abbrev sInteger : Stmt := topS 20
abbrev sBetween : Stmt := topS 21
abbrev sIsSize : Stmt := topS 24
abbrev sIsCell : Stmt := topS 25
abbrev sAre : Stmt := topS 26
abbrev sCells : Stmt := topS 27
abbrev sAdded : Stmt := topS 28
abbrev sPot : Stmt := topS 62
abbrev sDraw : Stmt := topS 63
abbrev sWidth : Stmt := topS 64
abbrev sSpots : Stmt := topS 65
abbrev sBits : Stmt := topS 67
abbrev sParity : Stmt := topS 68
abbrev sUp : Stmt := topS 71
abbrev sShare : Stmt := topS 29
abbrev sApply : Stmt := topS 34
abbrev sFit : Stmt := topS 33
abbrev sLaw : Stmt := topS 89
abbrev sPair : Stmt := topS 66
abbrev sAfter : Stmt := topS 69
abbrev sMade : Stmt := topS 72
abbrev sFlipOf : Stmt := topS 73
abbrev sIsSo : Stmt := topS 74
abbrev sApplyAll : Stmt := topS 36
abbrev sMoved : Stmt := topS 37
abbrev sPast : Stmt := topS 38
abbrev sWritten : Stmt := topS 30
abbrev slAfterAll : Stmt := topS 70
abbrev slIsPair : Stmt := topS 75
abbrev slMoment : Stmt := topS 76
abbrev slMark : Stmt := topS 77
abbrev slNearMark : Stmt := topS 78
abbrev slStarted : Stmt := topS 79
abbrev slDeed : Stmt := topS 80
abbrev slStanding : Stmt := topS 81
abbrev slNow : Stmt := topS 82
abbrev slIsTold : Stmt := topS 83
abbrev slSwitch : Stmt := topS 84
abbrev slEnter : Stmt := topS 85
abbrev slStep : Stmt := topS 86
abbrev slSomeSteps : Stmt := topS 87
abbrev slRight : Stmt := topS 88
abbrev mInit : Stmt := inClass (topS 51) 0
abbrev mEq : Stmt := inClass (topS 51) 1
abbrev mLen : Stmt := inClass (topS 51) 2
abbrev mRepr : Stmt := inClass (topS 51) 3
abbrev mStr : Stmt := inClass (topS 51) 4
abbrev mSize : Stmt := inClass (topS 51) 5
abbrev mUps : Stmt := inClass (topS 51) 6
abbrev mIsUp : Stmt := inClass (topS 51) 7
abbrev mPar : Stmt := inClass (topS 51) 8
abbrev mTog : Stmt := inClass (topS 51) 9
abbrev gInit : Stmt := inClass (topS 32) 0
abbrev gEq : Stmt := inClass (topS 32) 1
abbrev gRepr : Stmt := inClass (topS 32) 2
abbrev gStr : Stmt := inClass (topS 32) 3
abbrev gTested : Stmt := inClass (topS 32) 4
abbrev gToggled : Stmt := inClass (topS 32) 5
abbrev gIdle : Stmt := inClass (topS 32) 6
abbrev gWidth : Stmt := inClass (topS 32) 7
abbrev sWIni : Stmt := inClass (topS 16) 0
/-- the built-in names that the module leaves alone -/
structure Bl (mg : Str → Option Value) : Prop where
  len : mg "len" = none
  abs : mg "abs" = none
  max : mg "max" = none
  min : mg "min" = none
  divmod : mg "divmod" = none
  list : mg "list" = none
  tuple : mg "tuple" = none
  range : mg "range" = none
  isinstance : mg "isinstance" = none
  bool : mg "bool" = none
  int : mg "int" = none
  sorted : mg "sorted" = none
  set : mg "set" = none
  all : mg "all" = none
  enumerate : mg "enumerate" = none
  repr : mg "repr" = none
  sum : mg "sum" = none

/-! ### the pot: two numbers that are not negative, the second one small -/
def PotAt (H : Hp) (p : Addr) : Prop := ∃ a b : Int, H p = some (.lst [.int a, .int b]) ∧ 0 ≤ a ∧ 0 ≤ b ∧ b < 2147483648
/-- all but what stands at p is as it was -/
def But (p : Addr) (H H' : Hp) : Prop := ∀ b o, b ≠ p → H b = some o → H' b = some o
theorem But.refl (p : Addr) (H : Hp) : But p H H := fun _ _ _ h => h
theorem But.trans {p : Addr} {H H1 H2 : Hp} (a : But p H H1) (b : But p H1 H2) : But p H H2 := fun c o n h => b c o n (a c o n h)
theorem But.upd {p : Addr} {H : Hp} (o : HO) : But p H (L2.upd H p o) := fun b u n h => by rw [upd_ne n]; exact h
theorem But.new {p q : Addr} {H : Hp} {o : HO} (n : H q = none) : But p H (L2.upd H q o) := fun b u _ h => by rw [upd_ne (ne_of_none h n)]; exact h
theorem But.same {p : Addr} {H H' : Hp} (h : Same H H') : But p H H' := fun b o _ e => h b o e
theorem PotAt.same {p : Addr} {H H' : Hp} (x : PotAt H p) (s : Same H H') : PotAt H' p := by
  obtain ⟨a, b, e, r⟩ := x
  exact ⟨a, b, s _ _ e, r⟩
theorem same_new {H : Hp} {q : Addr} {o : HO} (n : H q = none) : Same H (upd H q o) := fun b u h => by
  rw [upd_ne (ne_of_none h n)]
  exact h
theorem But.free {p q : Addr} {H H' : Hp} (h : But p H H') (x : PotAt H p) (n : H' q = none) (x' : PotAt H' p) : H q = none := by
  cases e : H q with
  | none => rfl
  | some o =>
    by_cases z : q = p
    · subst z
      obtain ⟨_, _, e', _⟩ := x'
      rw [n] at e'
      cases e'
    · rw [h q o z e] at n
      cases n

section
variable {P : Program} {w : World} {K : PySem.W.Frag} {mg : Str → Option Value} {base : Heap}

def spPot (K : PySem.W.Frag) : Sp := fun vs H Q _ => ∃ (a : Addr) (ns : List Int) (k : Nat), vs = [.ref a, .int (k : Int)] ∧ SqL K H a (ns.map V.int) ∧ k ≤ 1000 ∧
  ∀ p H', H p = none → Same H H' → PotAt H' p → Q (.ref p) H'
theorem scPot : FnScope ["_law_script", "_law_k", "_law_number"] ["_law_script", "_law_k"] (defScope sPot) := ⟨rfl, rfl, rfl, by decide +kernel, rfl, by decide +kernel, by decide +kernel⟩
theorem ok_pot {f : Addr} {fd : FuncData} (F : Fun K "_law_pot" "_law_pot" sPot f fd) (B : Bl mg) : FnOk P w K mg base CX0 2 f fd ["_law_script", "_law_k"] (spPot K) := by
  refine F.ok scPot (fun vs H Q E h => ?_) (fun cdv A outer s H vs Q E hr h => ?_)
  · obtain ⟨a, ns, k, rfl, _⟩ := h
    rfl
  · obtain ⟨a, ns, k, rfl, hS, hk, out⟩ := h
    refine ⟨_, pss_cons (ps_set (i := 2) scPot.nd rfl (Or.inl rfl) (pe_ifExp (pt_cmpR op_lt (pv 1) (pe_callB call_len_seq (by rfl) B.len PySem.boot_len (pa_cons (pv 0) pa_nil)) (nomark _)) (pe_ix ix_list (pv 0) (pv 1) (fun _ _ => rfl)) pe_int))
      (pss_one (ps_ret (pe_lst (pa_cons
        (pe_callB (call_max2 rfl) (by rfl) B.max (by decide +kernel) (pa_cons pe_int (pa_cons (pe_op op_sub (pe_callB call_abs (by rfl) B.abs (by decide +kernel) (pa_cons (pv 2) pa_nil)) (pe_op op_pow pe_int pe_int)) pa_nil)))
        (pa_cons (pe_op op_mod (pe_op op_add (pe_op op_add (pe_op op_mul (pe_op op_mod (pe_callB call_abs (by rfl) B.abs (by decide +kernel) (pa_cons (pv 2) pa_nil)) pe_int) pe_int) (pe_op op_mul pe_int (pv 1))) pe_int) pe_int) pa_nil))))), ?_⟩
    have hm : ∀ d : Int, (0 : Int) ≤ (if d < 0 then -d else d) % 2147483587 ∧ (if d < 0 then -d else d) % 2147483587 < 2147483587 := fun d => ⟨Int.emod_nonneg _ (by decide), Int.emod_lt_of_pos _ (by decide)⟩
    have two : ∀ x : Int, 0 ≤ (if x > 0 then x else 0) := fun x => by split <;> omega
    have fin : ∀ d : Int, ∀ p, H p = none → Q (.ref p) (upd H p (.lst [.int (if (if d < 0 then -d else d) - 10 ^ 18 > 0 then (if d < 0 then -d else d) - 10 ^ 18 else 0),
        .int (((if d < 0 then -d else d) % 2147483587 * 48271 + 60013 * (k : Int) + 29) % 2147483647)])) := by
      intro d p hp
      refine out p _ hp (same_new hp) ⟨_, _, upd_same, two _, Int.emod_nonneg _ (by decide), ?_⟩
      have := Int.emod_lt_of_pos ((if d < 0 then -d else d) % 2147483587 * 48271 + 60013 * (k : Int) + 29) (b := 2147483647) (by decide)
      omega
    refine ⟨_, rfl, _, rfl, a, _, rfl, .inl hS, _, _, rfl, rfl, _, rfl, ?_⟩
    refine ite2 (fun hlt => ?_) (fun _ => ?_)
    · have hlt2 : (k : Int) < ((ns.map V.int).length : Int) := of_decide_eq_true hlt
      rw [List.length_map] at hlt2
      have hk2 : k < ns.length := by omega
      refine ⟨_, rfl, _, rfl, a, _, _, .int ns[k], rfl, rfl, hS, atI_nat (by simp [hk2]), ?_⟩
      refine ⟨_, rfl, _, rfl, 10, 18, rfl, rfl, ⟨by decide, by decide, by decide⟩, _, _, rfl, rfl, 0, _, rfl, ?_⟩
      refine ⟨_, rfl, _, rfl, _, _, rfl, rfl, (by show (0 : Int) < _; decide), _, _, rfl, rfl, .inl ⟨by have := hm ns[k]; omega, by have := hm ns[k]; omega⟩, _, rfl, 60013, _, rfl, rfl, .inl ⟨by decide, by decide⟩, _, _, rfl, rfl, _, _, rfl, rfl, _, _, rfl, rfl, (by show (0 : Int) < _; decide), ?_⟩
      exact ⟨(by show 2 ≤ sizeLine; decide), fin ns[k]⟩
    · refine ⟨_, rfl, _, rfl, 10, 18, rfl, rfl, ⟨by decide, by decide, by decide⟩, _, _, rfl, rfl, 0, _, rfl, ?_⟩
      refine ⟨_, rfl, _, rfl, _, _, rfl, rfl, (by show (0 : Int) < _; decide), _, _, rfl, rfl, .inl ⟨by have := hm 0; omega, by have := hm 0; omega⟩, _, rfl, 60013, _, rfl, rfl, .inl ⟨by decide, by decide⟩, _, _, rfl, rfl, _, _, rfl, rfl, _, _, rfl, rfl, (by show (0 : Int) < _; decide), ?_⟩
      exact ⟨(by show 2 ≤ sizeLine; decide), fin 0⟩

/-- one draw: a digit below many; the pot goes on -/
def spDraw : Sp := fun vs H Q _ => ∃ (p : Addr) (m : Int), vs = [.ref p, .int m] ∧ PotAt H p ∧ 0 < m ∧ m < 1073741824 ∧
  ∀ d H', 0 ≤ d → d < m → But p H H' → PotAt H' p → Q (.int d) H'
theorem scDraw : FnScope ["_law_pot_here", "_law_many", "_law_digit"] ["_law_pot_here", "_law_many"] (defScope sDraw) := ⟨rfl, rfl, rfl, by decide +kernel, rfl, by decide +kernel, by decide +kernel⟩
theorem ok_draw {f : Addr} {fd : FuncData} (F : Fun K "_law_draw" "_law_draw" sDraw f fd) (B : Bl mg) : FnOk P w K mg base CX0 2 f fd ["_law_pot_here", "_law_many"] spDraw := by
  refine F.ok scDraw (fun vs H Q E h => ?_) (fun cdv A outer s H vs Q E hr h => ?_)
  · obtain ⟨p, m, rfl, _⟩ := h
    rfl
  · obtain ⟨p, m, rfl, ⟨a, b, hp, ha, hb, hb2⟩, hm, hm2, out⟩ := h
    refine ⟨_, pss_cons (ps_if (pt_cmpR op_gt (pe_ix ix_list (pv 0) pe_int (fun _ _ => rfl)) pe_int (nomark _))
        (pss_cons (ps_asg (pe_callB call_divmod (by rfl) B.divmod (by decide +kernel) (pa_cons (pe_ix ix_list (pv 0) pe_int (fun _ _ => rfl)) (pa_cons (pv 1) pa_nil))) (pg_tup rfl (pgs_cons (pg_sub (pv 0) pe_int set_list) (pgs_cons (pg_name (i := 2) scDraw.nd rfl (Or.inl rfl)) pgs_nil))))
          (pss_one (ps_ret (pv 2)))) pss_nil)
      (pss_cons (ps_asg (pe_op op_mod (pe_op op_add (pe_op op_mul (pe_ix ix_list (pv 0) pe_int (fun _ _ => rfl)) pe_int) pe_int) pe_int) (pg_sub (pv 0) pe_int set_list))
      (pss_one (ps_ret (pe_op op_mod (pe_op op_fdiv (pe_op op_mod (pe_op op_mul (pe_ix ix_list (pv 0) pe_int (fun _ _ => rfl)) (pe_ix ix_list (pv 0) pe_int (fun _ _ => rfl))) pe_int) pe_int) (pv 1))))), ?_⟩
    have hL : SqL K H p [.int a, .int b] := SqL.of hp
    refine ⟨_, rfl, p, _, 0, .int a, rfl, rfl, hL, rfl, a, 0, rfl, rfl, _, rfl, ?_⟩
    refine ite2 (fun hpos => ?_) (fun hneg => ?_)
    · refine ⟨_, rfl, p, _, 0, .int a, rfl, rfl, hL, rfl, _, rfl, a, m, rfl, ⟨hm, hm2⟩, fun q hq => ?_⟩
      have hne : p ≠ q := ne_of_none hp hq
      have hT : SqT K (upd H q (.tup [.int (a / m), .int (a % m)])) q [.int (a / m), .int (a % m)] := SqT.of upd_same
      have hp2 : (upd H q (.tup [.int (a / m), .int (a % m)])) p = some (.lst [.int a, .int b]) := by
        rw [upd_ne hne]
        exact hp
      refine ⟨q, _, rfl, hT, rfl, _, _, rfl, _, rfl, p, _, 0, 0, rfl, rfl, hp2, rfl, _, _, rfl, rfl, _, rfl, ?_⟩
      exact out (a % m) _ (Int.emod_nonneg _ (by omega)) (Int.emod_lt_of_pos _ hm) ((But.new hq).trans (But.upd _)) ⟨a / m, b, upd_same, Int.ediv_nonneg ha (by omega), hb, hb2⟩
    · have h0 : (0 : Int) ≤ (b * 39373 + 12227) % 2147483629 := Int.emod_nonneg _ (by decide)
      have h1 : (b * 39373 + 12227) % 2147483629 < 2147483629 := Int.emod_lt_of_pos _ (by decide)
      refine ⟨_, rfl, p, _, 1, .int b, rfl, rfl, hL, rfl, b, 39373, rfl, rfl, .inl ⟨by omega, by omega⟩, _, _, rfl, rfl, _, _, rfl, rfl, (by show (0 : Int) < _; decide), _, rfl, p, _, 1, 1, rfl, rfl, hp, rfl, ?_⟩
      have hL2 : SqL K (upd H p (.lst [.int a, .int ((b * 39373 + 12227) % 2147483629)])) p [.int a, .int ((b * 39373 + 12227) % 2147483629)] := SqL.of upd_same
      refine ⟨_, rfl, p, _, 1, _, rfl, rfl, hL2, rfl, _, rfl, p, _, 1, _, rfl, rfl, hL2, rfl, _, _, rfl, rfl, .inl ⟨by omega, by omega⟩, _, _, rfl, rfl, (by show (0 : Int) < _; decide), _, _, rfl, rfl, ⟨by decide, by decide⟩, _, rfl, _, m, rfl, rfl, hm, ?_⟩
      exact out _ _ (Int.emod_nonneg _ (by omega)) (Int.emod_lt_of_pos _ hm) (But.upd _) ⟨a, _, upd_same, ha, h0, by omega⟩
end
end K33
namespace K33
open PySem PySem.Spec PyProof.Rows L2 Par
section
variable {P : Program} {w : World} {K : PySem.W.Frag} {mg : Str → Option Value} {base : Heap}
/-- a def of the module that raises nothing -/
def Has (P : Program) (w : World) (K : PySem.W.Frag) (mg : Str → Option Value) (base : Heap) (x : Str) (lv : Nat) (ps : List Str) (sp : Sp) : Prop :=
  ∃ f fd, FnOk P w K mg base CX0 lv f fd ps sp ∧ mg x = some (.ref f) ∧ PySem.W.keepIn K (.ref f) = true ∧ Binds K fd ps []

/-- a new list of rising numbers from least to width - 1 -/
def spSpots : Sp := fun vs H Q _ => ∃ (p : Addr) (l m : Int), vs = [.ref p, .int l, .int m] ∧ PotAt H p ∧ 0 ≤ l ∧ l ≤ 1000 ∧ 0 ≤ m ∧ m ≤ 1000 ∧
  ∀ q (ns : List Int) H', H q = none → ns.Pairwise (· < ·) → (∀ n ∈ ns, l ≤ n ∧ n < m) → But p H H' → PotAt H' p → H' q = some (.lst (ns.map V.int)) → Q (.ref q) H'
abbrev nSpots : List Str := ["_law_pot_here", "_law_least", "_law_width_here", "_law_way", "_law_spot"]
theorem scSpots : FnScope nSpots ["_law_pot_here", "_law_least", "_law_width_here"] (defScope sSpots) := ⟨rfl, rfl, rfl, by decide +kernel, rfl, by decide +kernel, by decide +kernel⟩
theorem rgV_ints (a : Int) (n : Nat) : ∃ ns : List Int, rgV a (a + n) = ns.map V.int ∧ ns.Pairwise (· < ·) ∧ ∀ k ∈ ns, a ≤ k ∧ k < a + n := by
  refine ⟨(List.range n).map fun i => a + (i : Nat), ?_, ?_, ?_⟩
  · unfold rgV
    rw [List.map_map, show (a + (n : Int) - a).toNat = n by omega]
    rfl
  · rw [List.pairwise_map]
    exact List.pairwise_lt_range.imp (fun h => by omega)
  · intro k hk
    obtain ⟨i, hi, rfl⟩ := List.mem_map.mp hk
    have := List.mem_range.mp hi
    omega
theorem ok_spots {f : Addr} {fd : FuncData} (F : Fun K "_law_spots" "_law_spots" sSpots f fd) (B : Bl mg) (D : Has P w K mg base "_law_draw" 2 ["_law_pot_here", "_law_many"] spDraw) :
    FnOk P w K mg base CX0 3 f fd ["_law_pot_here", "_law_least", "_law_width_here"] spSpots := by
  obtain ⟨fD, fdD, GD, mD, kD, bD⟩ := D
  refine F.ok scSpots (fun vs H Q E h => ?_) (fun cdv A outer s H vs Q E hr h => ?_)
  · obtain ⟨p, l, m, rfl, _⟩ := h
    rfl
  · obtain ⟨p, l, m, rfl, hp, l0, l1, m0, m1, out⟩ := h
    refine ⟨_, pss_cons (ps_set (i := 3) scSpots.nd rfl (Or.inl rfl) (pe_call GD hr (by rfl) mD kD bD .nil pass0 (pa_cons (pv 0) (pa_cons pe_int pa_nil))))
      (pss_cons (ps_if (PW.pt (pw_or (pt_cmpR op_eq (pv 3) pe_int (nomark _)) (pw_or1 (pt_cmpR op_le (pv 2) (pv 1) (nomark _))))) (pss_one (ps_ret (pe_lst pa_nil))) pss_nil)
      (pss_cons (ps_if (pt_cmpR op_eq (pv 3) pe_int (nomark _)) (pss_one (ps_ret (pe_lst (pa_cons (pe_op op_add (pv 1) (pe_call GD hr (by rfl) mD kD bD .nil pass0 (pa_cons (pv 0) (pa_cons (pe_op op_sub (pv 2) (pv 1)) pa_nil)))) pa_nil)))) pss_nil)
      (pss_cons (ps_if (pt_cmpR op_eq (pv 3) pe_int (nomark _)) (pss_one (ps_ret (pe_listRg rfl (by rfl) B.list (prg_2 (by rfl) B.range (pv 1) (pv 2))))) pss_nil)
      (pss_one (ps_ret (pe_lc (own := [("_law_spot", 4)]) (g := gName 4) rfl scSpots.nd (pi_range2 (by rfl) B.range (pa_cons (pv 1) (pa_cons (pv 2) pa_nil))) (blkOk_by (own := [("_law_spot", 4)]) (N := nSpots) (sc := defScope sSpots) (by decide +kernel))
        (fun _ _ _ _ _ => pg_name (i := 4) scSpots.nd rfl (Or.inl rfl))
        (fun _ _ _ _ _ => pts_one (pt_cmpR op_eq (pe_call GD hr (by rfl) mD kD bD .nil pass0 (pa_cons (pv 0) (pa_cons pe_int pa_nil))) pe_int (nomark _)))
        (fun _ _ _ _ _ => pv 4))))))), ?_⟩
    refine ⟨_, rfl, p, 5, rfl, hp, by decide, by decide, ?_⟩
    intro d H1 d0 d1 b1 hp1
    have fr : ∀ q, H1 q = none → H q = none := fun q hq => b1.free hp hq hp1
    refine ⟨_, rfl, rfl, _, rfl, ?_⟩
    have nil : ∀ q, H1 q = none → Q (.ref q) (upd H1 q (.lst [])) := by
      intro q hq
      refine out q [] _ (fr q hq) List.Pairwise.nil (fun n hn => nomatch hn) (b1.trans (But.new hq)) (hp1.same (same_new hq)) upd_same
    refine ite2 (fun _ => ?_) (fun _ => ?_)
    · refine iteT ⟨by decide, nil⟩
    refine ⟨_, rfl, _, rfl, _, _, rfl, rfl, _, rfl, ?_⟩
    refine ite2 (fun _ => ?_) (fun hlt => ?_)
    · exact ⟨by decide, nil⟩
    have hlt2 : l < m := by
      have := of_decide_eq_false (by simpa using hlt : decide (m ≤ l) = false)
      omega
    refine ⟨_, rfl, rfl, _, rfl, ?_⟩
    refine ite2 (fun _ => ?_) (fun _ => ?_)
    · refine ⟨_, rfl, _, rfl, _, rfl, _, rfl, m, l, rfl, rfl, p, m - l, rfl, hp1, by omega, by omega, ?_⟩
      intro d2 H2 e0 e1 b2 hp2
      refine ⟨l, d2, rfl, rfl, (by show 1 ≤ sizeLine; decide), ?_⟩
      intro q hq
      refine out q [l + d2] _ (fr q (b2.free hp1 hq hp2)) (by simp) (fun n hn => by
        have : n = l + d2 := by simpa using hn
        omega) ((b1.trans b2).trans (But.new hq)) (hp2.same (same_new hq)) upd_same
    refine ⟨_, rfl, rfl, _, rfl, ?_⟩
    refine ite2 (fun _ => ?_) (fun _ => ?_)
    · refine ⟨_, rfl, _, rfl, l, m, rfl, rfl, RgOk.of_le l0 (by omega) (by omega) m0, ?_⟩
      intro q hq
      obtain ⟨ns, e, h1, h2⟩ := rgV_ints l (m - l).toNat
      have em : l + ((m - l).toNat : Int) = m := by omega
      rw [em] at e h2
      rw [e]
      exact out q ns _ (fr q hq) h1 h2 (b1.trans (But.new hq)) (hp1.same (same_new hq)) upd_same
    · refine ⟨_, rfl, _, rfl, l, m, rfl, ⟨by omega, by omega, by omega, by omega⟩, ?_⟩
      intro D hD
      have hDH := fr D hD
      have hDp : D ≠ p := fun z => by
        subst z
        obtain ⟨_, _, e, _⟩ := hp1
        rw [hD] at e
        cases e
      refine lc_range (lo := l) (n := (m - l).toNat) (fun i H' => ∃ ns : List Int, H' D = some (.lst (ns.map V.int)) ∧ ns.length ≤ i ∧ ns.Pairwise (· < ·) ∧ (∀ n ∈ ns, l ≤ n ∧ n < l + i) ∧ But p H H' ∧ PotAt H' p)
        ⟨[], upd_same, Nat.le_refl _, List.Pairwise.nil, fun n hn => (by cases hn), b1.trans (But.new hD), hp1.same (same_new hD)⟩ ?_ ?_
      · rintro i H2 hi ⟨ns, hns, hlen, pw, bd, b2, hp2⟩
        refine ⟨rfl, ?_⟩
        refine ⟨_, rfl, p, 2, rfl, hp2, by decide, by decide, ?_⟩
        intro d2 H3 e0 e1 b3 hp3
        have hD3 : H3 D = some (.lst (ns.map V.int)) := b3 D _ hDp hns
        refine ⟨rfl, _, rfl, ?_⟩
        refine ite2 (fun _ => ?_) (fun _ => ?_)
        · refine ⟨_, rfl, _, hD3, (by rw [List.length_map]; exact small1000 (by omega)), ns ++ [l + (i : Int)], ?_, ?_, ?_, ?_, ?_, ?_⟩
          · rw [upd_same, List.map_append]
            rfl
          · rw [List.length_append]
            show ns.length + 1 ≤ i + 1
            omega
          · refine List.pairwise_append.mpr ⟨pw, by simp, fun a ha b hb => ?_⟩
            have hb2 : b = l + (i : Int) := by simpa using hb
            have := bd a ha
            omega
          · intro n hn
            rcases List.mem_append.mp hn with hn | hn
            · have := bd n hn
              omega
            · have : n = l + (i : Int) := by simpa using hn
              omega
          · exact fun b o n e => by
              have e2 := b2.trans b3 b o n e
              rw [upd_ne (ne_of_none e hDH)]
              exact e2
          · obtain ⟨x, y, e, r⟩ := hp3
            exact ⟨x, y, by rw [upd_ne (Ne.symm hDp)]; exact e, r⟩
        · exact ⟨ns, hD3, by omega, pw, fun n hn => by have := bd n hn; omega, b2.trans b3, hp3⟩
      · rintro H2 ⟨ns, hns, hlen, pw, bd, b2, hp2⟩
        exact out D ns H2 hDH pw (fun n hn => by have := bd n hn; omega) b2 hp2 hns
end
end K33
namespace K33
open PySem PySem.Spec PyProof.Rows L2 Par
theorem perm_erase : ∀ {l : List Int} {i : Nat} {x : Int}, l[i]? = some x → (x :: l.eraseIdx i).Perm l
  | [], i, x, h => by simp at h
  | a :: l, 0, x, h => by
    have e : a = x := by simpa using h
    subst e
    exact List.Perm.refl _
  | a :: l, i + 1, x, h => by
    have h2 : l[i]? = some x := by simpa using h
    have ih := perm_erase h2
    show (x :: a :: l.eraseIdx i).Perm (a :: l)
    exact (List.Perm.swap a x _).trans (ih.cons a)
/-- what len of a list or tuple asks -/
def rLenQ (K : PySem.W.Frag) : List V → Hp → VK → Prop := fun xs H Q => ∃ p ys, xs = [.ref p] ∧ (SqL K H p ys ∨ SqT K H p ys) ∧ Q (.int ys.length) H
theorem map_eraseIdx : ∀ (l : List Int) (i : Nat), (l.map V.int).eraseIdx i = (l.eraseIdx i).map V.int
  | [], _ => rfl
  | _ :: _, 0 => rfl
  | a :: l, i + 1 => by
    show V.int a :: (l.map V.int).eraseIdx i = V.int a :: (l.eraseIdx i).map V.int
    rw [map_eraseIdx l i]
theorem yesT {σ : L2.St} {H : Hp} {A B : Hp → Prop} (h : A H) : tYes σ H (fun b H3 => if b = true then A H3 else B H3) := by
  unfold tYes
  show (if true = true then A H else B H)
  rw [if_pos rfl]
  exact h
section
variable {P : Program} {w : World} {K : PySem.W.Frag} {mg : Str → Option Value} {base : Heap}
end
end K33
namespace K33
open PySem PySem.Spec PyProof.Rows L2 Par
theorem sq_ty {K : PySem.W.Frag} {H : Hp} {a : Addr} {xs : List V} (h : SqL K H a xs) : TyX K H (.ref a) (.type "list") := by
  rcases h with (h | ⟨o, h⟩) | ⟨o, its, n, hk, hc, _⟩
  · exact .base (.lst h)
  · exact .base (.frz h)
  · exact .kList hk hc
theorem sqt_ty {K : PySem.W.Frag} {H : Hp} {a : Addr} {xs : List V} (h : SqT K H a xs) : TyX K H (.ref a) (.type "tuple") := by
  rcases h with (h | ⟨o, h⟩) | ⟨o, its, n, hk, hc, _⟩
  · exact .base (.tup h)
  · exact .fTuple h
  · exact .kTuple hk hc
/-- a list or tuple of xs -/
def Sq (K : PySem.W.Frag) (H : Hp) (a : Addr) (xs : List V) : Prop := SqL K H a xs ∨ SqT K H a xs
section
variable {P : Program} {w : World} {K : PySem.W.Frag} {mg : Str → Option Value} {base : Heap}
theorem kit_seq {n : String} (h : n = "list" ∨ n = "tuple") : PySem.W.kitAny K (.type n) [.type "list", .type "tuple"] = some true := by
  rcases h with rfl | rfl
  · exact kitAny_cons (b := true) (kit_ty (by decide +kernel)) (fun z => nomatch z) (fun _ => rfl)
  · exact kitAny_cons (b := false) (kit_ty (by decide +kernel)) (fun _ => kitAny_cons (b := true) (kit_ty (by decide +kernel)) (fun z => nomatch z) (fun _ => rfl)) (fun z => nomatch z)
theorem same_sq {H H' : Hp} {a : Addr} {xs : List V} (s : Same H H') (h : SqL K H a xs) : SqL K H' a xs := s.seq h
theorem same_sqt {H H' : Hp} {a : Addr} {xs : List V} (s : Same H H') (h : SqT K H a xs) : SqT K H' a xs := by
  rcases h with (h | ⟨o, h⟩) | h
  · exact .inl (.inl (s _ _ h))
  · exact .inl (.inr ⟨o, s _ _ h⟩)
  · exact .inr h
theorem same_tyx {H H' : Hp} {v : V} {t : Value} (s : Same H H') (h : TyX K H v t) : TyX K H' v t := by
  cases h with
  | base b =>
    refine .base ?_
    cases b with
    | non => exact .non
    | bl y => exact .bl y
    | int i => exact .int i
    | str y => exact .str y
    | flt y => exact .flt y
    | lst e => exact .lst (s _ _ e)
    | frz e => exact .frz (s _ _ e)
    | tup e => exact .tup (s _ _ e)
    | dK e => exact .dK (s _ _ e)
    | dT e => exact .dT (s _ _ e)
    | ins e cl ha hn htk hm => exact .ins (s _ _ e) cl ha hn htk hm
  | byt y => exact .byt y
  | set e => exact .set (s _ _ e)
  | kList e c => exact .kList e c
  | kTuple e c => exact .kTuple e c
  | kDict e c => exact .kDict e c
  | fTuple e => exact .fTuple (s _ _ e)
  | fDict e => exact .fDict (s _ _ e)
theorem Sq.same {H H' : Hp} {a : Addr} {xs : List V} (s : Same H H') (h : Sq K H a xs) : Sq K H' a xs := h.imp (same_sq s) (same_sqt s)
/-- is_integer -/
def spInteger : Sp := fun vs H Q _ => ∃ i : Int, vs = [.int i] ∧ Q (.bl true) H
theorem scInteger : FnScope ["thing"] ["thing"] (defScope sInteger) := ⟨rfl, rfl, rfl, by decide +kernel, rfl, by decide +kernel, by decide +kernel⟩
theorem ok_integer {f : Addr} {fd : FuncData} (F : Fun K "is_integer" "is_integer" sInteger f fd) (B : Bl mg) : FnOk P w K mg base CX0 1 f fd ["thing"] spInteger := by
  refine F.ok scInteger (fun vs H Q E h => ?_) (fun cdv A outer s H vs Q E hr h => ?_)
  · obtain ⟨i, rfl, _⟩ := h
    rfl
  · obtain ⟨i, rfl, out⟩ := h
    refine ⟨_, pss_one (ps_ret (pe_and (pe_callB call_isi (by rfl) B.isinstance (by decide +kernel) (pa_cons (pv 0) (pa_cons (pe_bltn (v := .ty "int") (by rfl) B.int (by decide +kernel) rfl) pa_nil))) (pe_one (pe_not (pe_callB call_isi (by rfl) B.isinstance (by decide +kernel) (pa_cons (pv 0) (pa_cons (pe_bltn (v := .ty "bool") (by rfl) B.bool (by decide +kernel) rfl) pa_nil))))))), ?_⟩
    refine ⟨_, rfl, _, _, _, _, true, rfl, .ty "int", .base (.int i), kit_ty (by decide +kernel), _, rfl, iteT ?_⟩
    exact ⟨_, rfl, _, _, _, _, false, rfl, .ty "bool", .base (.int i), kit_ty (by decide +kernel), _, rfl, out⟩
/-- is_integer_between, of whole numbers -/
def spBetween : Sp := fun vs H Q _ => ∃ i lo hi : Int, vs = [.int i, .int lo, .int hi] ∧ Q (.bl (decide (lo ≤ i) && decide (i ≤ hi))) H
theorem scBetween : FnScope ["thing", "low", "high"] ["thing", "low", "high"] (defScope sBetween) := ⟨rfl, rfl, rfl, by decide +kernel, rfl, by decide +kernel, by decide +kernel⟩
theorem ok_between {f : Addr} {fd : FuncData} (F : Fun K "is_integer_between" "is_integer_between" sBetween f fd) (B : Bl mg) (D : Has P w K mg base "is_integer" 1 ["thing"] spInteger) : FnOk P w K mg base CX0 2 f fd ["thing", "low", "high"] spBetween := by
  obtain ⟨fD, fdD, GD, mD, kD, bD⟩ := D
  refine F.ok scBetween (fun vs H Q E h => ?_) (fun cdv A outer s H vs Q E hr h => ?_)
  · obtain ⟨i, lo, hi, rfl, _⟩ := h
    rfl
  · obtain ⟨i, lo, hi, rfl, out⟩ := h
    refine ⟨_, pss_one (ps_ret (pe_and (pe_call GD hr (by rfl) mD kD bD .nil pass0 (pa_cons (pv 0) pa_nil)) (pe_one (pe_chain op_le op_le (pv 1) (pv 0) (pv 2))))), ?_⟩
    refine ⟨_, rfl, i, rfl, _, rfl, iteT ?_⟩
    refine ⟨_, rfl, _, rfl, lo, i, rfl, rfl, _, rfl, ite2 (fun h1 => ?_) (fun h1 => ?_)⟩
    · refine ⟨_, rfl, i, hi, rfl, rfl, ?_⟩
      rw [h1, Bool.true_and] at out
      exact out
    · have e : decide (lo ≤ i) = false := by simpa using h1
      rw [e, Bool.false_and] at out
      exact out
def spIsSize : Sp := fun vs H Q _ => ∃ i : Int, vs = [.int i] ∧ Q (.bl (decide (1 ≤ i) && decide (i ≤ 40))) H
theorem scIsSize : FnScope ["thing"] ["thing"] (defScope sIsSize) := ⟨rfl, rfl, rfl, by decide +kernel, rfl, by decide +kernel, by decide +kernel⟩
theorem ok_issize {f : Addr} {fd : FuncData} (F : Fun K "is_size" "is_size" sIsSize f fd) (hM : ∃ t, mg "MOST_CELLS" = some (.int 40 t)) (D : Has P w K mg base "is_integer_between" 2 ["thing", "low", "high"] spBetween) :
    FnOk P w K mg base CX0 3 f fd ["thing"] spIsSize := by
  obtain ⟨fD, fdD, GD, mD, kD, bD⟩ := D
  obtain ⟨tM, hM⟩ := hM
  refine F.ok scIsSize (fun vs H Q E h => ?_) (fun cdv A outer s H vs Q E hr h => ?_)
  · obtain ⟨i, rfl, _⟩ := h
    rfl
  · obtain ⟨i, rfl, out⟩ := h
    refine ⟨_, pss_one (ps_ret (pe_call GD hr (by rfl) mD kD bD .nil pass0 (pa_cons (pv 0) (pa_cons pe_int (pa_cons (pe_glob (v := .int 40) (by rfl) hM ⟨_, rfl⟩) pa_nil))))), ?_⟩
    exact ⟨_, rfl, i, 1, 40, rfl, out⟩
def spIsCell : Sp := fun vs H Q _ => ∃ i n : Int, vs = [.int i, .int n] ∧ Q (.bl (decide (0 ≤ i) && decide (i ≤ n - 1))) H
theorem scIsCell : FnScope ["thing", "size"] ["thing", "size"] (defScope sIsCell) := ⟨rfl, rfl, rfl, by decide +kernel, rfl, by decide +kernel, by decide +kernel⟩
theorem ok_iscell {f : Addr} {fd : FuncData} (F : FunD K "is_cell" "is_cell" (defArgs sIsCell) (defBody sIsCell) (defScope sIsCell) [] [("size", .int 40)] f fd)
    (D : Has P w K mg base "is_integer_between" 2 ["thing", "low", "high"] spBetween) : FnOk P w K mg base CX0 3 f fd ["thing", "size"] spIsCell := by
  obtain ⟨fD, fdD, GD, mD, kD, bD⟩ := D
  refine F.ok scIsCell (fun vs H Q E h => ?_) (fun cdv A outer s H vs Q E hr h => ?_)
  · obtain ⟨i, n, rfl, _⟩ := h
    rfl
  · obtain ⟨i, n, rfl, out⟩ := h
    refine ⟨_, pss_one (ps_ret (pe_call GD hr (by rfl) mD kD bD .nil pass0 (pa_cons (pv 0) (pa_cons pe_int (pa_cons (pe_op op_sub (pv 1) pe_int) pa_nil))))), ?_⟩
    exact ⟨_, rfl, _, rfl, n, 1, rfl, rfl, i, 0, n - 1, rfl, out⟩
/-- a def called with size = .. -/
def HasN (P : Program) (w : World) (K : PySem.W.Frag) (mg : Str → Option Value) (base : Heap) (x : Str) (lv : Nat) (y : Str) (sp : Sp) : Prop :=
  ∃ f fd, FnOk P w K mg base CX0 lv f fd [y, "size"] sp ∧ mg x = some (.ref f) ∧ PySem.W.keepIn K (.ref f) = true ∧ KBn K fd [y, "size"] 1 ["size"] (fun us ws => us ++ ws) (fun vs zs => vs ++ zs)
/-- are_cells of cells of this size -/
def spAre (K : PySem.W.Frag) : Sp := fun vs H Q _ => ∃ (a : Addr) (n : Int) (ns : List Int), vs = [.ref a, .int n] ∧ Sq K H a (ns.map V.int) ∧ ns.length ≤ 500 ∧ (∀ k ∈ ns, 0 ≤ k ∧ k < n) ∧ ns.Nodup ∧
  ∀ H', Same H H' → Q (.bl true) H'
abbrev nCells : List Str := ["things", "size", "thing"]
theorem scAre : FnScope nCells ["things", "size"] (defScope sAre) := ⟨rfl, rfl, rfl, by decide +kernel, rfl, by decide +kernel, by decide +kernel⟩
theorem all_true {l : List Bool} (h : ∀ b ∈ l, b = true) : l.all id = true := List.all_eq_true.mpr fun b hb => h b hb
theorem ok_are {f : Addr} {fd : FuncData} (F : Fun K "are_cells" "are_cells" sAre f fd) (B : Bl mg)
    (D : HasN P w K mg base "is_cell" 3 "thing" spIsCell) : FnOk P w K mg base CX0 4 f fd ["things", "size"] (spAre K) := by
  obtain ⟨fD, fdD, GD, mD, kD, bD⟩ := D
  refine F.ok scAre (fun vs H Q E h => ?_) (fun cdv A outer s H vs Q E hr h => ?_)
  · obtain ⟨a, n, ns, rfl, _⟩ := h
    rfl
  · obtain ⟨a, n, ns, rfl, hq, hl, hin, hnd, good⟩ := h
    rcases hq with hq | hq
    · refine ⟨_, pss_cons (ps_if (pt_not (pt_val (pe_callB call_isiT (by rfl) B.isinstance (by decide +kernel) (pa_cons (pv 0) (pa_cons (pe_tup (pa_cons (pe_bltn (v := .ty "list") (by rfl) B.list (by decide +kernel) rfl) (pa_cons (pe_bltn (v := .ty "tuple") (by rfl) B.tuple (by decide +kernel) rfl) pa_nil))) pa_nil))))) (pss_one ps_off) pss_nil)
      (pss_cons (ps_if (pt_not (pt_val (pe_callB (cr_all rfl) (by rfl) B.all (by decide +kernel) (pa_cons (pe_lc (own := [("thing", 2)]) (g := gName 2) (te := tCallN 1 (["size"] : List Str).length spIsCell (fun vs zs => vs ++ zs) E0 (tCons (tVar 2) tNil) (tCons (tVar 1) tNil)) rfl scAre.nd (pi_list (pv 0)) (blkOk_by (own := [("thing", 2)]) (N := nCells) (sc := defScope sAre) (by decide +kernel))
          (fun _ _ _ _ _ => pg_name (i := 2) scAre.nd rfl (Or.inl rfl)) (fun _ _ _ _ _ => pts_nil) (fun _ _ _ _ _ => by exact pe_callN (n := 1) (ks := ["size"]) GD hr (by rfl) mD kD bD pass0 (pa_cons (pv 2) pa_nil) (pk_cons (pv 1) pk_nil))) pa_nil)))) (pss_one ps_off) pss_nil)
      (pss_one (ps_ret (pe_cmpR op_eq (pe_lenSetQ (by rfl) B.len (by rfl) B.set (pv 0)) (pe_callB call_len_seq (by rfl) B.len PySem.boot_len (pa_cons (pv 0) pa_nil)) (nomark _))))), ?_⟩
      refine ⟨_, rfl, by decide, fun p hp => ?_⟩
      have s1 : Same H (upd H p (.tup [.ty "list", .ty "tuple"])) := same_new hp
      refine ⟨_, p, _, _, _, true, rfl, upd_same, .cons (.ty _) (.cons (.ty _) .nil), sq_ty (same_sq s1 hq), kit_seq (by simp), _, rfl, iteF ?_⟩
      refine ⟨_, rfl, a, rfl, ⟨_, same_sq s1 hq⟩, fun D hD => ?_⟩
      refine lc_list (K := K) (a := a) (xs := ns.map V.int) (fun i H' => Same H H' ∧ H' D = some (.lst ((ns.take i).map fun k => V.bl (decide (0 ≤ k) && decide (k ≤ n - 1))))) ⟨s1.trans (same_new hD), upd_same⟩ (fun i H' _ h => same_sq h.1 hq) ?_ ?_
      · rintro i x H2 hx ⟨s2, hD2⟩
        rw [List.getElem?_map] at hx
        obtain ⟨k, hk, rfl⟩ : ∃ k, ns[i]? = some k ∧ x = V.int k := by
          cases e : ns[i]? with
          | none => rw [e] at hx; cases hx
          | some k => rw [e] at hx; exact ⟨k, rfl, (Option.some.inj hx).symm⟩
        refine ⟨rfl, yesT ?_⟩
        refine ⟨_, rfl, _, rfl, rfl, rfl, k, n, rfl, _, hD2, ?_, ?_, ?_⟩
        · rw [List.length_map, List.length_take]
          exact small1000 (by omega)
        · intro b o e
          have hDb : H D = none := s1.free hD
          rw [upd_ne (ne_of_none e hDb)]
          exact s2 b o e
        · rw [upd_same, List.take_succ, hk, List.map_append]
          rfl
      rintro H2 ⟨s2, hD2⟩
      rw [List.length_map, List.take_length] at hD2
      refine ⟨D, ns.map fun k => decide (0 ≤ k) && decide (k ≤ n - 1), rfl, SqL.of (by rw [hD2, List.map_map]; rfl), _, rfl, ?_⟩
      have eall : (ns.map fun k => decide (0 ≤ k) && decide (k ≤ n - 1)).all id = true := by
        refine all_true fun b hb => ?_
        obtain ⟨k, hk, rfl⟩ := List.mem_map.mp hb
        obtain ⟨h1, h2⟩ := hin k hk
        have h3 : k ≤ n - 1 := by omega
        simp [h1, h3]
      rw [eall]
      refine iteF ⟨_, rfl, a, ns, rfl, .inl (same_sq s2 hq), by omega, fun c hc hiff => ?_⟩
      refine ⟨_, rfl, a, _, rfl, .inl (same_sq s2 hq), ?_⟩
      rw [List.length_map]
      have ec : c = ns.length := hiff.mpr hnd
      subst ec
      refine ⟨rfl, ?_⟩
      rw [decide_eq_true rfl]
      exact good H2 s2
    · refine ⟨_, pss_cons (ps_if (pt_not (pt_val (pe_callB call_isiT (by rfl) B.isinstance (by decide +kernel) (pa_cons (pv 0) (pa_cons (pe_tup (pa_cons (pe_bltn (v := .ty "list") (by rfl) B.list (by decide +kernel) rfl) (pa_cons (pe_bltn (v := .ty "tuple") (by rfl) B.tuple (by decide +kernel) rfl) pa_nil))) pa_nil))))) (pss_one ps_off) pss_nil)
      (pss_cons (ps_if (pt_not (pt_val (pe_callB (cr_all rfl) (by rfl) B.all (by decide +kernel) (pa_cons (pe_lc (own := [("thing", 2)]) (g := gName 2) (te := tCallN 1 (["size"] : List Str).length spIsCell (fun vs zs => vs ++ zs) E0 (tCons (tVar 2) tNil) (tCons (tVar 1) tNil)) rfl scAre.nd (pi_tup (pv 0)) (blkOk_by (own := [("thing", 2)]) (N := nCells) (sc := defScope sAre) (by decide +kernel))
          (fun _ _ _ _ _ => pg_name (i := 2) scAre.nd rfl (Or.inl rfl)) (fun _ _ _ _ _ => pts_nil) (fun _ _ _ _ _ => by exact pe_callN (n := 1) (ks := ["size"]) GD hr (by rfl) mD kD bD pass0 (pa_cons (pv 2) pa_nil) (pk_cons (pv 1) pk_nil))) pa_nil)))) (pss_one ps_off) pss_nil)
      (pss_one (ps_ret (pe_cmpR op_eq (pe_lenSetQ (by rfl) B.len (by rfl) B.set (pv 0)) (pe_callB call_len_seq (by rfl) B.len PySem.boot_len (pa_cons (pv 0) pa_nil)) (nomark _))))), ?_⟩
      refine ⟨_, rfl, by decide, fun p hp => ?_⟩
      have s1 : Same H (upd H p (.tup [.ty "list", .ty "tuple"])) := same_new hp
      refine ⟨_, p, _, _, _, true, rfl, upd_same, .cons (.ty _) (.cons (.ty _) .nil), sqt_ty (same_sqt s1 hq), kit_seq (by simp), _, rfl, iteF ?_⟩
      refine ⟨_, rfl, a, rfl, ⟨_, same_sqt s1 hq⟩, fun D hD => ?_⟩
      refine lc_tup (K := K) (a := a) (xs := ns.map V.int) (fun i H' => Same H H' ∧ H' D = some (.lst ((ns.take i).map fun k => V.bl (decide (0 ≤ k) && decide (k ≤ n - 1))))) ⟨s1.trans (same_new hD), upd_same⟩ (fun i H' _ h => same_sqt h.1 hq) ?_ ?_
      · rintro i x H2 hx ⟨s2, hD2⟩
        rw [List.getElem?_map] at hx
        obtain ⟨k, hk, rfl⟩ : ∃ k, ns[i]? = some k ∧ x = V.int k := by
          cases e : ns[i]? with
          | none => rw [e] at hx; cases hx
          | some k => rw [e] at hx; exact ⟨k, rfl, (Option.some.inj hx).symm⟩
        refine ⟨rfl, yesT ?_⟩
        refine ⟨_, rfl, _, rfl, rfl, rfl, k, n, rfl, _, hD2, ?_, ?_, ?_⟩
        · rw [List.length_map, List.length_take]
          exact small1000 (by omega)
        · intro b o e
          have hDb : H D = none := s1.free hD
          rw [upd_ne (ne_of_none e hDb)]
          exact s2 b o e
        · rw [upd_same, List.take_succ, hk, List.map_append]
          rfl
      rintro H2 ⟨s2, hD2⟩
      rw [List.length_map, List.take_length] at hD2
      refine ⟨D, ns.map fun k => decide (0 ≤ k) && decide (k ≤ n - 1), rfl, SqL.of (by rw [hD2, List.map_map]; rfl), _, rfl, ?_⟩
      have eall : (ns.map fun k => decide (0 ≤ k) && decide (k ≤ n - 1)).all id = true := by
        refine all_true fun b hb => ?_
        obtain ⟨k, hk, rfl⟩ := List.mem_map.mp hb
        obtain ⟨h1, h2⟩ := hin k hk
        have h3 : k ≤ n - 1 := by omega
        simp [h1, h3]
      rw [eall]
      refine iteF ⟨_, rfl, a, ns, rfl, .inr (same_sqt s2 hq), by omega, fun c hc hiff => ?_⟩
      refine ⟨_, rfl, a, _, rfl, .inr (same_sqt s2 hq), ?_⟩
      rw [List.length_map]
      have ec : c = ns.length := hiff.mpr hnd
      subst ec
      refine ⟨rfl, ?_⟩
      rw [decide_eq_true rfl]
      exact good H2 s2
/-- cell_tuple of cells of this size -/
def spCells (K : PySem.W.Frag) : Sp := fun vs H Q _ => ∃ (a : Addr) (n : Int) (ns : List Int), vs = [.ref a, .int n] ∧ Sq K H a (ns.map V.int) ∧ ns.length ≤ 500 ∧ (∀ k ∈ ns, 0 ≤ k ∧ k < n) ∧ ns.Nodup ∧
  ∀ p (ms : List Int) H', H p = none → Same H H' → ms.Perm ns → ms.Pairwise (· ≤ ·) → H' p = some (.tup (ms.map V.int)) → Q (.ref p) H'
theorem scCells : FnScope ["things", "size"] ["things", "size"] (defScope sCells) := ⟨rfl, rfl, rfl, by decide +kernel, rfl, by decide +kernel, by decide +kernel⟩
theorem ok_cells {f : Addr} {fd : FuncData} (F : FunD K "cell_tuple" "cell_tuple" (defArgs sCells) (defBody sCells) (defScope sCells) [] [("size", .int 40)] f fd) (B : Bl mg)
    (D : Has P w K mg base "are_cells" 4 ["things", "size"] (spAre K)) : FnOk P w K mg base CX0 5 f fd ["things", "size"] (spCells K) := by
  obtain ⟨fD, fdD, GD, mD, kD, bD⟩ := D
  refine F.ok scCells (fun vs H Q E h => ?_) (fun cdv A outer s H vs Q E hr h => ?_)
  · obtain ⟨a, n, ns, rfl, _⟩ := h
    rfl
  · obtain ⟨a, n, ns, rfl, hq, hl, hin, hnd, good⟩ := h
    rcases id hq with hq1 | hq1
    · refine ⟨_, pss_cons (ps_if (pt_not (pt_val (pe_call GD hr (by rfl) mD kD bD .nil pass0 (pa_cons (pv 0) (pa_cons (pv 1) pa_nil))))) (pss_one ps_off) pss_nil)
      (pss_one (ps_ret (pe_callTy call_tuple_of (by rfl) B.tuple (by decide +kernel) (pa_cons (pe_callB cr_sortedI (by rfl) B.sorted (by decide +kernel) (pa_cons (pv 0) pa_nil)) pa_nil)))), ?_⟩
      refine ⟨_, rfl, _, rfl, a, n, ns, rfl, hq, hl, hin, hnd, fun H2 s2 => ⟨_, rfl, iteF ?_⟩⟩
      refine ⟨_, rfl, a, ns, rfl, same_sq s2 hq1, fun ms p2 pm pw hp2 => ?_⟩
      refine ⟨p2, _, rfl, .inl ⟨SqL.of upd_same, fun l hl2 => ?_⟩⟩
      have hl3 : H l = none := s2.free ((same_new hp2).free hl2)
      exact good l ms _ hl3 ((s2.trans (same_new hp2)).trans (same_new hl2)) pm pw upd_same
    · refine ⟨_, pss_cons (ps_if (pt_not (pt_val (pe_call GD hr (by rfl) mD kD bD .nil pass0 (pa_cons (pv 0) (pa_cons (pv 1) pa_nil))))) (pss_one ps_off) pss_nil)
      (pss_one (ps_ret (pe_callTy call_tuple_of (by rfl) B.tuple (by decide +kernel) (pa_cons (pe_callB cr_sortedTup (by rfl) B.sorted (by decide +kernel) (pa_cons (pv 0) pa_nil)) pa_nil)))), ?_⟩
      refine ⟨_, rfl, _, rfl, a, n, ns, rfl, hq, hl, hin, hnd, fun H2 s2 => ⟨_, rfl, iteF ?_⟩⟩
      refine ⟨_, rfl, a, ns, rfl, same_sqt s2 hq1, fun ms p2 pm pw hp2 => ?_⟩
      refine ⟨p2, _, rfl, .inl ⟨SqL.of upd_same, fun l hl2 => ?_⟩⟩
      have hl3 : H l = none := s2.free ((same_new hp2).free hl2)
      exact good l ms _ hl3 ((s2.trans (same_new hp2)).trans (same_new hl2)) pm pw upd_same
/-- added_cells of two tuples of cells -/
def spAdded (K : PySem.W.Frag) : Sp := fun vs H Q _ => ∃ (a b : Addr) (ns ms : List Int), vs = [.ref a, .ref b] ∧ SqT K H a (ns.map V.int) ∧ SqT K H b (ms.map V.int) ∧ ns.length ≤ 500 ∧ ms.length ≤ 500 ∧ (∀ k ∈ ns, Cell k) ∧ (∀ k ∈ ms, Cell k) ∧
  ∀ p (ks : List Int) H', H p = none → Same H H' → ks.Pairwise (· < ·) → (∀ k, k ∈ ks ↔ xor (decide (k ∈ ns)) (decide (k ∈ ms)) = true) → H' p = some (.tup (ks.map V.int)) → Q (.ref p) H'
theorem scAdded : FnScope ["one", "other"] ["one", "other"] (defScope sAdded) := ⟨rfl, rfl, rfl, by decide +kernel, rfl, by decide +kernel, by decide +kernel⟩
theorem ok_added {f : Addr} {fd : FuncData} (F : Fun K "added_cells" "added_cells" sAdded f fd) (B : Bl mg) : FnOk P w K mg base CX0 2 f fd ["one", "other"] (spAdded K) := by
  refine F.ok scAdded (fun vs H Q E h => ?_) (fun cdv A outer s H vs Q E hr h => ?_)
  · obtain ⟨a, b, ns, ms, rfl, _⟩ := h
    rfl
  · obtain ⟨a, b, ns, ms, rfl, ha, hb, l1, l2, c1, c2, out⟩ := h
    refine ⟨_, pss_one (ps_ret (pe_callTy call_tuple_of (by rfl) B.tuple (by decide +kernel) (pa_cons (pe_callB (cr_sortedSet rfl) (by rfl) B.sorted (by decide +kernel) (pa_cons (pe_op op_xorS (pe_callTy (cr_setTup rfl) (by rfl) B.set (by decide +kernel) (pa_cons (pv 0) pa_nil)) (pe_callTy (cr_setTup rfl) (by rfl) B.set (by decide +kernel) (pa_cons (pv 1) pa_nil))) pa_nil)) pa_nil))), ?_⟩
    refine ⟨_, rfl, a, ns, rfl, ha, by omega, fun p1 n1 hp1 => ?_⟩
    have s1 := same_new (o := SetO w p1 (fun j => decide (j ∈ ns)) n1) hp1
    refine ⟨_, rfl, b, ms, rfl, same_sqt s1 hb, by omega, fun p2 n2 hp2 => ?_⟩
    have s2 := same_new (o := SetO w p2 (fun j => decide (j ∈ ms)) n2) hp2
    refine ⟨p1, p2, _, _, n1, n2, rfl, rfl, s2 _ _ upd_same, upd_same, fun k hk => c1 k (of_decide_eq_true hk), fun k hk => c2 k (of_decide_eq_true hk), fun p3 c hp3 hc => ?_⟩
    have s3 := same_new (o := SetO w p3 (fun k => xor (decide (k ∈ ns)) (decide (k ∈ ms))) c) hp3
    refine ⟨p3, _, c, rfl, upd_same, by omega, fun ks p4 pw hk hlen hp4 => ?_⟩
    refine ⟨p4, _, rfl, .inl ⟨SqL.of upd_same, fun l hl => ?_⟩⟩
    have s4 := same_new (o := .lst (ks.map V.int)) hp4
    have s5 := same_new (o := .tup (ks.map V.int)) hl
    have sm := ((s1.trans s2).trans s3).trans s4
    exact out l ks _ (sm.free hl) (sm.trans s5) pw hk upd_same
end
end K33
namespace K33
open PySem PySem.Spec PyProof.Rows L2 Par
/-! ### bits -/
def upF : Nat → List Int → List Int
  | _, [] => []
  | i, b :: bs => if b = 1 then (i : Int) :: upF (i + 1) bs else upF (i + 1) bs
theorem upF_snoc : ∀ (j : Nat) (l : List Int) (b : Int), upF j (l ++ [b]) = upF j l ++ (if b = 1 then [((j + l.length : Nat) : Int)] else [])
  | j, [], b => by
    show (if b = 1 then [(j : Int)] else []) = [] ++ _
    simp
  | j, a :: l, b => by
    have h := upF_snoc (j + 1) l b
    have e : j + 1 + l.length = j + (l.length + 1) := by omega
    show (if a = 1 then (j : Int) :: upF (j + 1) (l ++ [b]) else upF (j + 1) (l ++ [b])) = (if a = 1 then (j : Int) :: upF (j + 1) l else upF (j + 1) l) ++ _
    rw [h, e, List.length_cons]
    split <;> rfl
theorem upF_step {bs : List Int} {i : Nat} {b : Int} (h : bs[i]? = some b) : upF 0 (bs.take (i + 1)) = upF 0 (bs.take i) ++ (if b = 1 then [(i : Int)] else []) := by
  have hi : i < bs.length := (List.getElem?_eq_some_iff.mp h).1
  rw [List.take_succ, h]
  show upF 0 (bs.take i ++ [b]) = _
  rw [upF_snoc, List.length_take]
  have : 0 + min i bs.length = i := by omega
  rw [this]
theorem mem_upF : ∀ (j : Nat) (bs : List Int) (k : Int), k ∈ upF j bs ↔ ∃ i : Nat, bs[i]? = some 1 ∧ k = ((j + i : Nat) : Int)
  | j, [], k => by simp [upF]
  | j, b :: bs, k => by
    have ih := mem_upF (j + 1) bs k
    unfold upF
    constructor
    · intro h
      split at h
      · rename_i hb
        rcases List.mem_cons.mp h with e | e
        · exact ⟨0, by simp [hb], by simpa using e⟩
        · obtain ⟨i, h1, h2⟩ := ih.mp e
          exact ⟨i + 1, by simpa using h1, by omega⟩
      · obtain ⟨i, h1, h2⟩ := ih.mp h
        exact ⟨i + 1, by simpa using h1, by omega⟩
    · rintro ⟨i, h1, h2⟩
      cases i with
      | zero =>
        have hb : b = 1 := by simpa using h1
        rw [if_pos hb]
        rw [h2]
        exact List.mem_cons_self ..
      | succ i =>
        have h3 : k ∈ upF (j + 1) bs := ih.mpr ⟨i, by simpa using h1, by omega⟩
        split
        · exact List.mem_cons_of_mem _ h3
        · exact h3
theorem upF_up : ∀ (j : Nat) (bs : List Int), (upF j bs).Pairwise (· < ·)
  | j, [] => List.Pairwise.nil
  | j, b :: bs => by
    unfold upF
    split
    · refine List.pairwise_cons.mpr ⟨fun k hk => ?_, upF_up (j + 1) bs⟩
      obtain ⟨i, _, e⟩ := (mem_upF (j + 1) bs k).mp hk
      omega
    · exact upF_up (j + 1) bs
theorem nodup_lt_ {l : List Int} (h : l.Pairwise (· < ·)) : l.Nodup := h.imp (fun a e => by omega)
theorem upF_in {bs : List Int} {k : Int} (h : k ∈ upF 0 bs) : 0 ≤ k ∧ k < bs.length := by
  obtain ⟨i, h1, e⟩ := (mem_upF 0 bs k).mp h
  have := (List.getElem?_eq_some_iff.mp h1).1
  omega
theorem upF_len : ∀ (j : Nat) (bs : List Int), (upF j bs).length ≤ bs.length
  | j, [] => Nat.le_refl _
  | j, b :: bs => by
    have := upF_len (j + 1) bs
    unfold upF
    split
    · simp only [List.length_cons]; omega
    · simp only [List.length_cons]; omega
/-- the bits of a board of n cells, those of S up, cell 0 too -/
def mkB (n : Nat) (S : Int → Bool) : List Int := (List.range n).map fun (i : Nat) => if (decide (i = 0) || S (i : Int)) = true then 1 else 0
def flipB (bs ns : List Int) : List Int := (List.range bs.length).map fun (i : Nat) => if decide ((i : Int) ∈ ns) = true then 1 - bs.getD i 0 else bs.getD i 0
/-- what is a board's bits: zeros and ones, the first one 1, at most 40 -/
def OkB (bs : List Int) : Prop := (∀ x ∈ bs, x = 0 ∨ x = 1) ∧ bs[0]? = some 1 ∧ bs.length ≤ 40
theorem mkB_len (n : Nat) (S : Int → Bool) : (mkB n S).length = n := by simp [mkB]
theorem flipB_len (bs ns : List Int) : (flipB bs ns).length = bs.length := by simp [flipB]
theorem mkB_ok {n : Nat} {S : Int → Bool} (h1 : 1 ≤ n) (h2 : n ≤ 40) : OkB (mkB n S) := by
  refine ⟨fun x hx => ?_, ?_, by rw [mkB_len]; exact h2⟩
  · obtain ⟨i, _, rfl⟩ := List.mem_map.mp hx
    split <;> simp
  · unfold mkB
    rw [List.getElem?_map, List.getElem?_range (by omega)]
    simp
theorem bit_at {bs : List Int} (h : OkB bs) {i : Nat} (hi : i < bs.length) : bs.getD i 0 = 0 ∨ bs.getD i 0 = 1 := by
  rw [List.getD_eq_getElem?_getD, List.getElem?_eq_getElem hi]
  exact h.1 _ (List.getElem_mem hi)
theorem up_iff {bs : List Int} (i : Nat) (hi : i < bs.length) : ((i : Int) ∈ upF 0 bs) ↔ bs.getD i 0 = 1 := by
  rw [mem_upF, List.getD_eq_getElem?_getD, List.getElem?_eq_getElem hi]
  constructor
  · rintro ⟨j, h1, h2⟩
    have : i = j := by omega
    subst this
    rw [List.getElem?_eq_getElem hi] at h1
    exact Option.some.inj h1
  · intro h
    exact ⟨i, by rw [List.getElem?_eq_getElem hi]; exact congrArg some h, by omega⟩
theorem tog_eq {bs ns : List Int} (h : OkB bs) (h0 : ∀ k ∈ ns, 1 ≤ k) {S : Int → Bool} (hS : ∀ k, S k = xor (decide (k ∈ upF 0 bs)) (decide (k ∈ ns))) : mkB bs.length S = flipB bs ns := by
  unfold mkB flipB
  refine List.map_congr_left fun i hi => ?_
  have hi2 : i < bs.length := List.mem_range.mp hi
  rw [hS]
  by_cases z : i = 0
  · subst z
    have n0 : ¬ ((0 : Nat) : Int) ∈ ns := fun q => by have := h0 _ q; omega
    have b0 : bs.getD 0 0 = 1 := by
      rw [List.getD_eq_getElem?_getD, h.2.1]
      rfl
    rw [decide_eq_false n0, b0]
    simp
  · rw [decide_eq_false z, Bool.false_or]
    by_cases u : (i : Int) ∈ upF 0 bs
    · have b1 := (up_iff i hi2).mp u
      rw [decide_eq_true u, b1]
      by_cases m : (i : Int) ∈ ns
      · rw [decide_eq_true m]; simp
      · rw [decide_eq_false m]; simp
    · have b1 : bs.getD i 0 = 0 := (bit_at h hi2).resolve_right fun q => u ((up_iff i hi2).mpr q)
      rw [decide_eq_false u, b1]
      by_cases m : (i : Int) ∈ ns
      · rw [decide_eq_true m]; simp
      · rw [decide_eq_false m]; simp
theorem flip_ok {bs ns : List Int} (h : OkB bs) (h0 : ∀ k ∈ ns, 1 ≤ k) : OkB (flipB bs ns) := by
  have hl : 1 ≤ bs.length := by
    have := (List.getElem?_eq_some_iff.mp h.2.1).1
    omega
  rw [← tog_eq h h0 (S := fun k => xor (decide (k ∈ upF 0 bs)) (decide (k ∈ ns))) (fun _ => rfl)]
  exact mkB_ok hl h.2.2
theorem flip_flip {bs ns : List Int} : flipB (flipB bs ns) ns = bs := by
  refine List.ext_getElem (by rw [flipB_len, flipB_len]) fun i h1 h2 => ?_
  have e : ∀ (cs : List Int) (h : i < (flipB cs ns).length), (flipB cs ns)[i] = if decide ((i : Int) ∈ ns) = true then 1 - cs.getD i 0 else cs.getD i 0 := fun cs h => by
    unfold flipB
    simp
  rw [e]
  have g : (flipB bs ns).getD i 0 = (flipB bs ns)[i]'(by rw [flipB_len]; exact h2) := by
    rw [List.getD_eq_getElem?_getD, List.getElem?_eq_getElem]
    rfl
  rw [g, e]
  have g2 : bs.getD i 0 = bs[i] := by
    rw [List.getD_eq_getElem?_getD, List.getElem?_eq_getElem h2]
    rfl
  rw [g2]
  split
  · omega
  · rfl
end K33
namespace K33
open PySem PySem.Spec PyProof.Rows L2 Par
theorem in_ints (x : Int) (ns : List Int) : inV (.int x) (ns.map V.int) = decide (x ∈ ns) := by
  unfold inV
  rw [List.any_map]
  rw [Bool.eq_iff_iff, List.any_eq_true, decide_eq_true_eq]
  constructor
  · rintro ⟨y, hy, e⟩
    have e2 : (y == x) = true := e
    have e3 : y = x := by simpa using e2
    exact e3 ▸ hy
  · intro h
    refine ⟨x, h, ?_⟩
    show (x == x) = true
    simp
theorem flat_ints (ns : List Int) : (ns.map V.int).all flatV = true := by
  rw [List.all_map, List.all_eq_true]
  intro x _
  rfl
theorem perm_sum : ∀ {l m : List Int}, l.Perm m → l.sum = m.sum := by
  intro l m h
  induction h with
  | nil => rfl
  | cons x _ ih => rw [List.sum_cons, List.sum_cons, ih]
  | swap x y l =>
    simp only [List.sum_cons]
    omega
  | trans _ _ h1 h2 => exact h1.trans h2
theorem no_fld {m : Str} {v : V} (h : (m == ("states" : Str)) = false) : ([("states", v)] : List (Str × V)).lookup m = none := by
  simp [List.lookup, h]
theorem fld_ {v : V} : ([("states", v)] : List (Str × V)).lookup ("states" : Str) = some v := by
  simp [List.lookup]
/-- a board at b, with these bits -/
def Bd (C : Addr) (H : Hp) (b : Addr) (bs : List Int) : Prop := ∃ dx t, H b = some (.ins C dx [("states", .ref t)]) ∧ H t = some (.tup (bs.map V.int))
theorem Bd.same {C : Addr} {H H' : Hp} {b : Addr} {bs : List Int} (s : Same H H') (h : Bd C H b bs) : Bd C H' b bs := by
  obtain ⟨dx, t, h1, h2⟩ := h
  exact ⟨dx, t, s _ _ h1, s _ _ h2⟩
theorem Bd.but {C p : Addr} {H H' : Hp} {b : Addr} {bs : List Int} (hp : PotAt H p) (s : But p H H') (h : Bd C H b bs) : Bd C H' b bs := by
  obtain ⟨dx, t, h1, h2⟩ := h
  obtain ⟨x, y, e, _⟩ := hp
  have n1 : b ≠ p := fun z => by rw [z, e] at h1; cases h1
  have n2 : t ≠ p := fun z => by rw [z, e] at h2; cases h2
  exact ⟨dx, t, s _ _ n1 h1, s _ _ n2 h2⟩
structure BC (K : PySem.W.Frag) (mg : Str → Option Value) (C : Addr) : Prop where
  cl : Cls K C
  nS : NoAttr K C "states"
  mgC : mg "Board" = some (.ref C)
section
variable {P : Program} {w : World} {K : PySem.W.Frag} {mg : Str → Option Value} {base : Heap}
/-- a method that is called by places -/
def HasM (P : Program) (w : World) (K : PySem.W.Frag) (mg : Str → Option Value) (base : Heap) (C : Addr) (m : Str) (lv : Nat) (ps : List Str) (sp : Sp) : Prop :=
  ∃ f fd, FnOk P w K mg base CX0 lv f fd ps sp ∧ Meth K C m f ∧ Binds K fd ps []
/-- len(self.states) -/
def spSize (C : Addr) : Sp := fun vs H Q _ => ∃ (b : Addr) (bs : List Int), vs = [.ref b] ∧ Bd C H b bs ∧ Q (.int (bs.length : Nat)) H
theorem scSize : FnScope ["self"] ["self"] (defScope mSize) := ⟨rfl, rfl, rfl, by decide +kernel, rfl, by decide +kernel, by decide +kernel⟩
theorem scLen : FnScope ["self"] ["self"] (defScope mLen) := ⟨rfl, rfl, rfl, by decide +kernel, rfl, by decide +kernel, by decide +kernel⟩
theorem ok_size {f C : Addr} {fd : FuncData} (F : Fun K "size" "Board.size" mSize f fd) (B : Bl mg) (T : BC K mg C) : FnOk P w K mg base CX0 2 f fd ["self"] (spSize C) := by
  refine F.ok scSize (fun vs H Q E h => ?_) (fun cdv A outer s H vs Q E hr h => ?_)
  · obtain ⟨b, bs, rfl, _⟩ := h
    rfl
  · obtain ⟨b, bs, rfl, ⟨dx, t, h1, h2⟩, out⟩ := h
    refine ⟨_, pss_one (ps_ret (pe_callB call_len_seq (by rfl) B.len PySem.boot_len (pa_cons (pe_fld (pv 0) rfl) pa_nil))), ?_⟩
    refine ⟨_, rfl, b, C, dx, _, _, rfl, h1, T.cl, T.nS, fld_, t, _, rfl, .inr (SqT.of h2), ?_⟩
    rw [List.length_map]
    exact out
theorem ok_len {f C : Addr} {fd : FuncData} (F : Fun K "__len__" "Board.__len__" mLen f fd) (B : Bl mg) (T : BC K mg C) : FnOk P w K mg base CX0 2 f fd ["self"] (spSize C) := by
  refine F.ok scLen (fun vs H Q E h => ?_) (fun cdv A outer s H vs Q E hr h => ?_)
  · obtain ⟨b, bs, rfl, _⟩ := h
    rfl
  · obtain ⟨b, bs, rfl, ⟨dx, t, h1, h2⟩, out⟩ := h
    refine ⟨_, pss_one (ps_ret (pe_callB call_len_seq (by rfl) B.len PySem.boot_len (pa_cons (pe_fld (pv 0) rfl) pa_nil))), ?_⟩
    refine ⟨_, rfl, b, C, dx, _, _, rfl, h1, T.cl, T.nS, fld_, t, _, rfl, .inr (SqT.of h2), ?_⟩
    rw [List.length_map]
    exact out
/-- up -/
def spUps (C : Addr) : Sp := fun vs H Q _ => ∃ (b : Addr) (bs : List Int), vs = [.ref b] ∧ Bd C H b bs ∧ bs.length ≤ 40 ∧ ∀ p H', H p = none → Same H H' → H' p = some (.tup ((upF 0 bs).map V.int)) → Q (.ref p) H'
abbrev nUps : List Str := ["self", "cell", "state"]
theorem scUps : FnScope nUps ["self"] (defScope mUps) := ⟨rfl, rfl, rfl, by decide +kernel, rfl, by decide +kernel, by decide +kernel⟩
theorem ok_ups {f C : Addr} {fd : FuncData} (F : Fun K "up" "Board.up" mUps f fd) (B : Bl mg) (T : BC K mg C) : FnOk P w K mg base CX0 2 f fd ["self"] (spUps C) := by
  refine F.ok scUps (fun vs H Q E h => ?_) (fun cdv A outer s H vs Q E hr h => ?_)
  · obtain ⟨b, bs, rfl, _⟩ := h
    rfl
  · obtain ⟨b, bs, rfl, ⟨dx, t, h1, h2⟩, hl, out⟩ := h
    refine ⟨_, pss_one (ps_ret (pe_callTy call_tuple_of (by rfl) B.tuple (by decide +kernel) (pa_cons (pe_lc (own := [("cell", 1), ("state", 2)]) (g := gTup K 2 (gCons (gName 1) (gCons (gName 2) gNil))) rfl scUps.nd (pi_enumT (by rfl) B.enumerate (pa_cons (pe_fld (pv 0) rfl) pa_nil)) (blkOk_by (own := [("cell", 1), ("state", 2)]) (N := nUps) (sc := defScope mUps) (by decide +kernel))
        (fun _ _ _ _ _ => by exact pg_tup rfl (pgs_cons (pg_name (i := 1) scUps.nd rfl (Or.inl rfl)) (pgs_cons (pg_name (i := 2) scUps.nd rfl (Or.inl rfl)) pgs_nil)))
        (fun _ _ _ _ _ => pts_one (pt_cmpR op_eq (pv 2) pe_int (nomark _))) (fun _ _ _ _ _ => pv 1)) pa_nil))), ?_⟩
    refine ⟨_, rfl, b, C, dx, _, _, rfl, h1, T.cl, T.nS, fld_, t, _, rfl, SqT.of h2, fun D hD => ?_⟩
    refine lc_it walk_enumT (fun i H' => Same H H' ∧ H' D = some (.lst ((upF 0 (bs.take i)).map V.int))) ⟨same_new hD, upd_same⟩ (fun i H' _ h => SqT.of (h.1 _ _ h2)) ?_ ?_
    · rintro i x H3 H4 hi ⟨s3, hD3⟩ ⟨T1, x1, y1, rfl, hT, rfl, ex, ey⟩
      have hi2 : i < bs.length := by rw [List.length_map] at hi; exact hi
      have hbi : bs[i]? = some bs[i] := List.getElem?_eq_getElem hi2
      have ey2 : y1 = .int bs[i] := by
        have ey' : (bs.map V.int)[i]? = some y1 := ey
        rw [List.getElem?_map, hbi] at ey'
        exact (Option.some.inj ey').symm
      have ex2 : x1 = .int (i : Nat) := (Option.some.inj ex).symm
      subst ey2 ex2
      have s4 : Same H (upd H3 T1 (.tup [.int (i : Nat), .int bs[i]])) := s3.trans (same_new hT)
      have hD4 := (same_new (o := .tup [.int (i : Nat), .int bs[i]]) hT) _ _ hD3
      have st := upF_step hbi
      refine ⟨T1, _, rfl, SqT.of upd_same, rfl, _, _, rfl, _, _, rfl, rfl, rfl, _, rfl, rfl, _, rfl, ite2 (fun hb => ?_) (fun hb => ?_)⟩
      · have hb1 : bs[i] = 1 := by
          have := of_decide_eq_true hb
          injection this
        refine ⟨_, rfl, _, hD4, ?_, ?_, ?_⟩
        · have := upF_len 0 (bs.take i)
          rw [List.length_take] at this
          rw [List.length_map]
          exact small1000 (by omega)
        · intro z o e
          have hDH : H D = none := hD
          rw [upd_ne (ne_of_none e hDH)]
          exact s4 z o e
        · rw [upd_same, st, if_pos hb1, List.map_append]
          rfl
      · have hb1 : ¬ bs[i] = 1 := fun z => hb (decide_eq_true (by rw [z]))
        refine ⟨s4, ?_⟩
        rw [st, if_neg hb1, List.append_nil]
        exact hD4
    · rintro H3 ⟨s3, hD3⟩
      rw [List.length_map, List.take_length] at hD3
      refine ⟨D, _, rfl, .inl ⟨SqL.of hD3, fun l hl2 => ?_⟩⟩
      exact out l _ (s3.free hl2) (s3.trans (same_new hl2)) upd_same
/-- is_up -/
def spIsUp (C : Addr) : Sp := fun vs H Q _ => ∃ (b : Addr) (bs : List Int) (k : Nat), vs = [.ref b, .int (k : Nat)] ∧ Bd C H b bs ∧ k < bs.length ∧ Q (.bl (decide (bs.getD k 0 = 1))) H
theorem scIsUp : FnScope ["self", "cell"] ["self", "cell"] (defScope mIsUp) := ⟨rfl, rfl, rfl, by decide +kernel, rfl, by decide +kernel, by decide +kernel⟩
theorem ok_isup {f C : Addr} {fd : FuncData} (F : Fun K "is_up" "Board.is_up" mIsUp f fd) (B : Bl mg) (T : BC K mg C) (DS : HasM P w K mg base C "size" 2 ["self"] (spSize C)) (DC : HasN P w K mg base "is_cell" 3 "thing" spIsCell) :
    FnOk P w K mg base CX0 4 f fd ["self", "cell"] (spIsUp C) := by
  obtain ⟨fS, fdS, GS, mS, bS⟩ := DS
  obtain ⟨fD, fdD, GD, mD, kD, bD⟩ := DC
  refine F.ok scIsUp (fun vs H Q E h => ?_) (fun cdv A outer s H vs Q E hr h => ?_)
  · obtain ⟨b, bs, k, rfl, _⟩ := h
    rfl
  · obtain ⟨b, bs, k, rfl, hB, hk, out⟩ := h
    obtain ⟨dx, t, h1, h2⟩ := id hB
    have r1 : Room 2 _ := hr.mono (by decide)
    refine ⟨_, pss_cons (ps_if (pt_not (pt_val (pe_callN (n := 1) (ks := ["size"]) GD hr (by rfl) mD kD bD pass0 (pa_cons (pv 1) pa_nil) (pk_cons (pe_meth0 (pv 0) T.cl mS GS r1 bS .nil pass0) pk_nil)))) (pss_one ps_off) pss_nil)
      (pss_one (ps_ret (pe_cmpR op_eq (pe_ix ix_tup (pe_fld (pv 0) rfl) (pv 1) (fun _ _ => rfl)) pe_int (nomark _)))), ?_⟩
    refine ⟨_, rfl, _, rfl, b, dx, _, rfl, h1, no_fld (by decide +kernel), b, bs, rfl, hB, rfl, rfl, (k : Nat), (bs.length : Nat), rfl, _, rfl, ?_⟩
    have e1 : decide ((0 : Int) ≤ (k : Nat)) = true := decide_eq_true (by omega)
    have e2 : decide (((k : Nat) : Int) ≤ ((bs.length : Nat) : Int) - 1) = true := decide_eq_true (by omega)
    rw [e1, e2]
    refine iteF ?_
    refine ⟨_, rfl, b, C, dx, _, _, rfl, h1, T.cl, T.nS, fld_, _, rfl, t, _, _, .int bs[k], rfl, rfl, SqT.of h2, atI_nat (by simp [hk]), rfl, ?_⟩
    have e3 : decide (bs.getD k 0 = 1) = decide (V.int bs[k] = V.int 1) := by
      rw [List.getD_eq_getElem?_getD, List.getElem?_eq_getElem hk]
      show decide (bs[k] = 1) = decide (V.int bs[k] = V.int 1)
      by_cases z : bs[k] = 1
      · rw [decide_eq_true z, decide_eq_true (by rw [z])]
      · rw [decide_eq_false z, decide_eq_false (fun q => z (by injection q))]
    rw [e3] at out
    exact out
/-- parity -/
def spPar (K : PySem.W.Frag) (C : Addr) : Sp := fun vs H Q _ => ∃ (b a : Addr) (bs ns : List Int), vs = [.ref b, .ref a] ∧ Bd C H b bs ∧ Sq K H a (ns.map V.int) ∧ ns.length ≤ 500 ∧ (∀ k ∈ ns, 0 ≤ k ∧ k < bs.length) ∧ ns.Nodup ∧
  ∀ H', Same H H' → Q (.int ((ns.map fun k => bs.getD k.toNat 0).sum % 2)) H'
abbrev nPar : List Str := ["self", "cells", "chosen", "cell"]
theorem scPar : FnScope nPar ["self", "cells"] (defScope mPar) := ⟨rfl, rfl, rfl, by decide +kernel, rfl, by decide +kernel, by decide +kernel⟩
theorem ok_par {f C : Addr} {fd : FuncData} (F : Fun K "parity" "Board.parity" mPar f fd) (B : Bl mg) (T : BC K mg C) (DS : HasM P w K mg base C "size" 2 ["self"] (spSize C)) (DC : HasN P w K mg base "cell_tuple" 5 "things" (spCells K)) :
    FnOk P w K mg base CX0 6 f fd ["self", "cells"] (spPar K C) := by
  obtain ⟨fS, fdS, GS, mS, bS⟩ := DS
  obtain ⟨fD, fdD, GD, mD, kD, bD⟩ := DC
  refine F.ok scPar (fun vs H Q E h => ?_) (fun cdv A outer s H vs Q E hr h => ?_)
  · obtain ⟨b, a, bs, ns, rfl, _⟩ := h
    rfl
  · obtain ⟨b, a, bs, ns, rfl, hB, hq, hl, hin, hnd, out⟩ := h
    obtain ⟨dx, t, h1, h2⟩ := id hB
    have r1 : Room 2 _ := hr.mono (by decide)
    refine ⟨_, pss_cons (ps_set (i := 2) scPar.nd rfl (Or.inl rfl) (pe_callN (n := 1) (ks := ["size"]) GD hr (by rfl) mD kD bD pass0 (pa_cons (pv 1) pa_nil) (pk_cons (pe_meth0 (pv 0) T.cl mS GS r1 bS .nil pass0) pk_nil)))
      (pss_one (ps_ret (pe_op op_mod (pe_callB (cr_sum rfl) (by rfl) B.sum (by decide +kernel) (pa_cons (pe_lc (own := [("cell", 3)]) (g := gName 3) (te := tOp (rIxT K) (tFld K (tVar 0) "states") (tVar 3)) rfl scPar.nd (pi_tup (pv 2)) (blkOk_by (own := [("cell", 3)]) (N := nPar) (sc := defScope mPar) (by decide +kernel))
        (fun _ _ _ _ _ => pg_name (i := 3) scPar.nd rfl (Or.inl rfl)) (fun _ _ _ _ _ => pts_nil) (fun _ _ _ _ _ => by exact pe_ix ix_tup (pe_fld (pv 0) rfl) (pv 3) (fun _ _ => rfl))) pa_nil)) pe_int))), ?_⟩
    refine ⟨_, rfl, _, rfl, b, dx, _, rfl, h1, no_fld (by decide +kernel), b, bs, rfl, hB, rfl, rfl, a, (bs.length : Nat), ns, rfl, hq, hl, hin, hnd, ?_⟩
    intro p ms H1 hp s1 pm pw hp1
    refine ⟨_, rfl, p, rfl, ⟨_, SqT.of hp1⟩, fun D hD => ?_⟩
    have hDH : H D = none := s1.free hD
    refine lc_tup (K := K) (a := p) (xs := ms.map V.int) (fun i H' => Same H1 H' ∧ H' D = some (.lst (((ms.take i).map fun k => bs.getD k.toNat 0).map V.int))) ⟨same_new hD, upd_same⟩ (fun i H' _ h => SqT.of (h.1 _ _ hp1)) ?_ ?_
    · rintro i x H2 hx ⟨s2, hD2⟩
      rw [List.getElem?_map] at hx
      obtain ⟨k, hk, rfl⟩ : ∃ k, ms[i]? = some k ∧ x = V.int k := by
        cases e : ms[i]? with
        | none => rw [e] at hx; cases hx
        | some k => rw [e] at hx; exact ⟨k, rfl, (Option.some.inj hx).symm⟩
      obtain ⟨k0, k1⟩ := hin k (pm.mem_iff.mp (List.mem_of_getElem? hk))
      have kl : k.toNat < bs.length := by omega
      have ek : k = ((k.toNat : Nat) : Int) := by omega
      have hat : atI (bs.map V.int) k = some (.int bs[k.toNat]) := by
        have z : atI (bs.map V.int) ((k.toNat : Nat) : Int) = some (.int bs[k.toNat]) := atI_nat (by simp [kl])
        rwa [Int.toNat_of_nonneg k0] at z
      have s12 : Same H H2 := s1.trans s2
      refine ⟨rfl, yesT ?_⟩
      refine ⟨_, rfl, b, C, dx, _, _, rfl, s12 _ _ h1, T.cl, T.nS, fld_, _, rfl, t, _, _, .int bs[k.toNat], rfl, rfl, SqT.of (s12 _ _ h2), hat, ?_⟩
      refine ⟨_, hD2, ?_, ?_, ?_⟩
      · rw [List.length_map, List.length_map, List.length_take, pm.length_eq]
        exact small1000 (by omega)
      · intro z o e
        rw [upd_ne (ne_of_none e hD)]
        exact s2 z o e
      · rw [upd_same, List.take_succ, hk, List.map_append, List.map_append]
        show some (HO.lst (_ ++ [V.int bs[k.toNat]])) = some (HO.lst (_ ++ [V.int (bs.getD k.toNat 0)]))
        rw [List.getD_eq_getElem?_getD, List.getElem?_eq_getElem kl]
        rfl
    · rintro H2 ⟨s2, hD2⟩
      rw [List.length_map, List.take_length] at hD2
      refine ⟨D, _, rfl, SqL.of hD2, _, _, rfl, rfl, (by show (0 : Int) < 2; decide), ?_⟩
      have es : (ms.map fun k => bs.getD k.toNat 0).sum = (ns.map fun k => bs.getD k.toNat 0).sum := perm_sum (pm.map _)
      have := out H2 (s1.trans s2)
      rw [← es] at this
      exact this
end
end K33
namespace K33
open PySem PySem.Spec PyProof.Rows L2 Par
section
variable {P : Program} {w : World} {K : PySem.W.Frag} {mg : Str → Option Value} {base : Heap}
/-- __init__ -/
def spInit (K : PySem.W.Frag) (C : Addr) : Sp := fun vs H Q _ => ∃ (b dx u : Addr) (n : Nat) (ns : List Int), vs = [.ref b, .int (n : Nat), .ref u] ∧ H b = some (.ins C dx []) ∧ Sq K H u (ns.map V.int) ∧ ns.length ≤ 500 ∧ 1 ≤ n ∧ n ≤ 40 ∧
  (∀ k ∈ ns, 0 ≤ k ∧ k < (n : Nat)) ∧ ns.Nodup ∧
  ∀ H' t, But b H H' → H' b = some (.ins C dx [("states", .ref t)]) → H' t = some (.tup ((mkB n fun k => decide (k ∈ ns)).map V.int)) → Q .non H'
abbrev nInit : List Str := ["self", "size", "up", "raised", "cell"]
theorem scInit : FnScope nInit ["self", "size", "up"] (defScope mInit) := ⟨rfl, rfl, rfl, by decide +kernel, rfl, by decide +kernel, by decide +kernel⟩
theorem ok_init {f C e : Addr} {fd : FuncData} (F : FunD K "__init__" "Board.__init__" (defArgs mInit) (defBody mInit) (defScope mInit) [] [("up", .ref e)] f fd) (B : Bl mg) (T : BC K mg C)
    (DZ : Has P w K mg base "is_size" 3 ["thing"] spIsSize) (DC : HasN P w K mg base "cell_tuple" 5 "things" (spCells K)) : FnOk P w K mg base CX0 6 f fd ["self", "size", "up"] (spInit K C) := by
  obtain ⟨fZ, fdZ, GZ, mZ, kZ, bZ⟩ := DZ
  obtain ⟨fD, fdD, GD, mD, kD, bD⟩ := DC
  refine F.ok scInit (fun vs H Q E h => ?_) (fun cdv A outer s H vs Q E hr h => ?_)
  · obtain ⟨b, dx, u, n, ns, rfl, _⟩ := h
    rfl
  · obtain ⟨b, dx, u, n, ns, rfl, hb, hq, hl, n1, n2, hin, hnd, out⟩ := h
    have r2 : Room 3 _ := hr.mono (by decide)
    refine ⟨_, pss_cons (ps_if (pt_not (pt_val (pe_call GZ r2 (by rfl) mZ kZ bZ .nil pass0 (pa_cons (pv 1) pa_nil)))) (pss_one ps_off) pss_nil)
      (pss_cons (ps_set (i := 3) scInit.nd rfl (Or.inr rfl) (pe_callN (n := 1) (ks := ["size"]) GD hr (by rfl) mD kD bD pass0 (pa_cons (pv 2) pa_nil) (pk_cons (pv 1) pk_nil)))
      (pss_one (ps_fld (pv 0) (pe_callTy call_tuple_of (by rfl) B.tuple (by decide +kernel) (pa_cons (pe_lc (own := [("cell", 4)]) (g := gName 4) (te := tIf (tOr (tTest (tOp rEq (tVar 4) (tC (.int 0)))) (tTest (tOp (rIn K false) (tVar 4) (tVar 3)))) (tC (.int 1)) (tC (.int 0))) rfl scInit.nd (pi_range1 (by rfl) B.range (pa_cons (pv 1) pa_nil)) (blkOk_by (own := [("cell", 4)]) (N := nInit) (sc := defScope mInit) (by decide +kernel))
        (fun _ _ _ _ _ => pg_name (i := 4) scInit.nd rfl (Or.inl rfl)) (fun _ _ _ _ _ => pts_nil)
        (fun _ _ _ _ _ => by exact pe_ifExp (PW.pt (pw_or (pt_cmpR op_eq (pv 4) pe_int (nomark _)) (pw_or1 (pt_cmpR op_in_seq (pv 4) (pv 3) (by rfl))))) pe_int pe_int)) pa_nil)) rfl))), ?_⟩
    refine ⟨_, rfl, (n : Nat), rfl, _, rfl, ?_⟩
    have e1 : decide ((1 : Int) ≤ (n : Nat)) = true := decide_eq_true (by omega)
    have e2 : decide (((n : Nat) : Int) ≤ 40) = true := decide_eq_true (by omega)
    rw [e1, e2]
    refine iteF ?_
    refine ⟨_, rfl, _, rfl, rfl, rfl, u, (n : Nat), ns, rfl, hq, hl, hin, hnd, ?_⟩
    intro p ms H1 hp s1 pm pw hp1
    refine ⟨_, rfl, _, rfl, by omega, by omega, fun D hD => ?_⟩
    rw [Int.toNat_natCast]
    have hms : ∀ k : Int, decide (k ∈ ms) = decide (k ∈ ns) := fun k => by
      by_cases z : k ∈ ns
      · rw [decide_eq_true z, decide_eq_true (pm.mem_iff.mpr z)]
      · rw [decide_eq_false z, decide_eq_false (fun q => z (pm.mem_iff.mp q))]
    refine lc_range (lo := 0) (n := n) (fun i H' => Same H1 H' ∧ H' D = some (.lst ((mkB i fun k => decide (k ∈ ns)).map V.int))) ⟨same_new hD, upd_same⟩ ?_ ?_
    · rintro i H2 hi ⟨s2, hD2⟩
      have e0 : (0 : Int) + (i : Nat) = (i : Nat) := by omega
      rw [e0]
      have step : ∀ x : Int, (if (decide (i = 0) || decide ((i : Int) ∈ ns)) = true then (1 : Int) else 0) = x → ∃ acc, H2 D = some (.lst acc) ∧ acc.length < sizeLine ∧
          Same H1 (upd H2 D (.lst (acc ++ [V.int x]))) ∧ (upd H2 D (.lst (acc ++ [V.int x]))) D = some (.lst ((mkB (i + 1) fun k => decide (k ∈ ns)).map V.int)) := by
        intro x hx
        refine ⟨_, hD2, by rw [List.length_map, mkB_len]; exact small1000 (by omega), ?_, ?_⟩
        · intro z o e
          rw [upd_ne (ne_of_none e hD)]
          exact s2 z o e
        · rw [upd_same]
          unfold mkB
          rw [List.range_succ, List.map_append, List.map_append]
          show some (HO.lst (_ ++ [V.int x])) = some (HO.lst (_ ++ [V.int (if (decide (i = 0) || decide ((i : Int) ∈ ns)) = true then (1 : Int) else 0)]))
          rw [hx]
      refine ⟨rfl, yesT ?_⟩
      refine ⟨_, rfl, rfl, _, rfl, ite2 (fun hz => iteT ?_) (fun hz => ?_)⟩
      · have hz1 : i = 0 := by
          have z := of_decide_eq_true hz
          have z2 : ((i : Nat) : Int) = 0 := by injection z
          omega
        exact step 1 (by rw [decide_eq_true hz1]; rfl)
      · have hz1 : ¬ i = 0 := fun z => hz (decide_eq_true (by rw [z]; rfl))
        refine ⟨_, rfl, _, rfl, p, _, rfl, .inr (SqT.of (s2 _ _ hp1)), rfl, flat_ints _, _, rfl, ?_⟩
        show if inV (V.int ((i : Nat) : Int)) (ms.map V.int) = true then _ else _
        rw [in_ints, hms]
        by_cases hm : ((i : Nat) : Int) ∈ ns
        · rw [decide_eq_true hm]
          exact iteT (step 1 (by rw [decide_eq_true hm, Bool.or_true]; rfl))
        · rw [decide_eq_false hm]
          exact iteF (step 0 (by rw [decide_eq_false hm, decide_eq_false hz1]; rfl))
    · rintro H2 ⟨s2, hD2⟩
      refine ⟨D, _, rfl, .inl ⟨SqL.of hD2, fun t ht => ?_⟩⟩
      have s3 := same_new (o := .tup ((mkB n fun k => decide (k ∈ ns)).map V.int)) ht
      have s123 : Same H _ := (s1.trans s2).trans s3
      have nb : t ≠ b := fun z => by
        have := (s1.trans s2) _ _ hb
        rw [← z, ht] at this
        cases this
      refine ⟨_, rfl, b, C, dx, [], rfl, s123 _ _ hb, T.cl, T.nS, (by show 0 < 1000; decide), ?_⟩
      refine out _ t (fun x o nx e => ?_) upd_same ?_
      · rw [upd_ne nx]
        exact s123 _ _ e
      · rw [upd_ne nb, upd_same]
/-- Board as a class whose __init__ keeps its promise -/
def HasIni (P : Program) (w : World) (K : PySem.W.Frag) (mg : Str → Option Value) (base : Heap) (C : Addr) : Prop :=
  ∃ f fd, FnOk P w K mg base CX0 6 f fd ["self", "size", "up"] (spInit K C) ∧ Mk K C f ∧ KBn K fd ["self", "size", "up"] 2 ["up"] (fun us ws => us ++ ws) (fun vs zs => vs ++ zs) ∧
    KBn K fd ["self", "size", "up"] 1 ["size", "up"] (fun us ws => us ++ ws) (fun vs zs => vs ++ zs) ∧ ∃ (e : Addr) (ds : List Value), (∀ H, SqT K H e []) ∧ Vals [V.ref e] ds ∧ Binds K fd ["self", "size", "up"] ds
/-- what Board(..) leads to -/
theorem made_board {C : Addr} {H : Hp} {n : Nat} {u : Addr} {ns : List Int} {W : Addr → Hp → Prop} (hq : Sq K H u (ns.map V.int)) (hl : ns.length ≤ 500) (n1 : 1 ≤ n) (n2 : n ≤ 40) (hin : ∀ k ∈ ns, 0 ≤ k ∧ k < (n : Nat)) (hnd : ns.Nodup)
    (out : ∀ x H', H x = none → Same H H' → Bd C H' x (mkB n fun k => decide (k ∈ ns)) → W x H') :
    ∀ x dx, H x = none → H dx = none → dx ≠ x → spInit K C [.ref x, .int (n : Nat), .ref u] (upd (upd H dx (.own x)) x (.ins C dx [])) (fun v H3 => v = .non ∧ W x H3) (fun _ _ _ => False) := by
  intro x dx hx hdx ne
  have s1 : Same H (upd (upd H dx (.own x)) x (.ins C dx [])) := fun z o e => by
    rw [upd_ne (ne_of_none e hx), upd_ne (ne_of_none e hdx)]
    exact e
  refine ⟨x, dx, u, n, ns, rfl, upd_same, hq.same s1, hl, n1, n2, hin, hnd, fun H' t bt h1 h2 => ⟨rfl, ?_⟩⟩
  refine out x H' hx (fun z o e => ?_) ⟨dx, t, h1, h2⟩
  exact bt z o (ne_of_none e hx) (s1 z o e)
/-- toggled -/
def spTog (K : PySem.W.Frag) (C : Addr) : Sp := fun vs H Q _ => ∃ (b a : Addr) (bs ns : List Int), vs = [.ref b, .ref a] ∧ Bd C H b bs ∧ OkB bs ∧ Sq K H a (ns.map V.int) ∧ ns.length ≤ 500 ∧ (∀ k ∈ ns, 1 ≤ k ∧ k < bs.length) ∧ ns.Nodup ∧
  ∀ q H', H q = none → Same H H' → Bd C H' q (flipB bs ns) → Q (.ref q) H'
abbrev nTog : List Str := ["self", "cells", "changed"]
theorem scTog : FnScope nTog ["self", "cells"] (defScope mTog) := ⟨rfl, rfl, rfl, by decide +kernel, rfl, by decide +kernel, by decide +kernel⟩
theorem ok_tog {f C : Addr} {fd : FuncData} (F : Fun K "toggled" "Board.toggled" mTog f fd) (B : Bl mg) (T : BC K mg C) (DS : HasM P w K mg base C "size" 2 ["self"] (spSize C)) (DU : HasM P w K mg base C "up" 2 ["self"] (spUps C))
    (DC : HasN P w K mg base "cell_tuple" 5 "things" (spCells K)) (DA : Has P w K mg base "added_cells" 2 ["one", "other"] (spAdded K)) (DI : HasIni P w K mg base C) :
    FnOk P w K mg base CX0 8 f fd ["self", "cells"] (spTog K C) := by
  obtain ⟨fS, fdS, GS, mS, bS⟩ := DS
  obtain ⟨fU, fdU, GU, mU, bU⟩ := DU
  obtain ⟨fD, fdD, GD, mD, kD, bD⟩ := DC
  obtain ⟨fA, fdA, GA, mA, kA, bA⟩ := DA
  obtain ⟨fI, fdI, GI, MI, kb2, _⟩ := DI
  refine F.ok scTog (fun vs H Q E h => ?_) (fun cdv A outer s H vs Q E hr h => ?_)
  · obtain ⟨b, a, bs, ns, rfl, _⟩ := h
    rfl
  · obtain ⟨b, a, bs, ns, rfl, hB, hO, hq, hl, hin, hnd, out⟩ := h
    obtain ⟨dx, t, h1, h2⟩ := id hB
    have r1 : Room 2 _ := hr.mono (by decide)
    have r3 : Room 5 _ := hr.mono (by decide)
    refine ⟨_, pss_cons (ps_set (i := 2) scTog.nd rfl (Or.inl rfl) (pe_callN (n := 1) (ks := ["size"]) GD r3 (by rfl) mD kD bD pass0 (pa_cons (pv 1) pa_nil) (pk_cons (pe_meth0 (pv 0) T.cl mS GS r1 bS .nil pass0) pk_nil)))
      (pss_cons (ps_if (pt_cmpR op_in_seq pe_int (pv 2) (by rfl)) (pss_one ps_off) pss_nil)
      (pss_one (ps_ret (pe_makeN (n := 1) (ks := ["up"]) (E := E0) MI GI hr (by rfl) T.mgC kb2 pass0 (pa_cons (pe_meth0 (pv 0) T.cl mS GS r1 bS .nil pass0) pa_nil) (pk_cons (pe_call GA r1 (by rfl) mA kA bA .nil pass0 (pa_cons (pe_meth0 (pv 0) T.cl mU GU r1 bU .nil pass0) (pa_cons (pv 2) pa_nil))) pk_nil))))), ?_⟩
    have hin0 : ∀ k ∈ ns, 0 ≤ k ∧ k < ((bs.length : Nat) : Int) := fun k hk => by
      have := hin k hk
      omega
    refine ⟨_, rfl, _, rfl, b, dx, _, rfl, h1, no_fld (by decide +kernel), b, bs, rfl, hB, rfl, rfl, a, (bs.length : Nat), ns, rfl, hq, hl, hin0, hnd, ?_⟩
    intro p ms H1 hp s1 pm pw hp1
    refine ⟨_, rfl, p, _, rfl, .inr (SqT.of hp1), rfl, flat_ints _, _, rfl, ?_⟩
    have h0 : ¬ (0 : Int) ∈ ms := fun z => by
      have := hin 0 (pm.mem_iff.mp z)
      omega
    show if inV (V.int 0) (ms.map V.int) = true then _ else _
    rw [in_ints, decide_eq_false h0]
    refine iteF ?_
    have hB1 := hB.same s1
    refine ⟨_, rfl, b, dx, _, rfl, s1 _ _ h1, no_fld (by decide +kernel), b, bs, rfl, hB1, ?_⟩
    refine ⟨_, rfl, b, dx, _, rfl, s1 _ _ h1, no_fld (by decide +kernel), b, bs, rfl, hB1, hO.2.2, ?_⟩
    intro p2 H2 hp2 s2 hup
    refine ⟨_, rfl, p2, p, upF 0 bs, ms, rfl, SqT.of hup, SqT.of (s2 _ _ hp1), ?_, ?_, ?_, ?_, ?_⟩
    · have := upF_len 0 bs
      have := hO.2.2
      omega
    · rw [pm.length_eq]
      exact hl
    · intro k hk
      have := upF_in hk
      have := hO.2.2
      exact ⟨by omega, by omega⟩
    · intro k hk
      have := hin k (pm.mem_iff.mp hk)
      have := hO.2.2
      exact ⟨by omega, by omega⟩
    intro p3 ks H3 hp3 s3 pk hks hp3'
    have hlen1 : 1 ≤ bs.length := by
      have := (List.getElem?_eq_some_iff.mp hO.2.1).1
      omega
    have hinks : ∀ k ∈ ks, 0 ≤ k ∧ k < ((bs.length : Nat) : Int) := fun k hk => by
      have z := (hks k).mp hk
      by_cases u : k ∈ upF 0 bs
      · exact upF_in u
      · rw [decide_eq_false u] at z
        have z2 : k ∈ ms := by simpa using z
        exact hin0 k (pm.mem_iff.mp z2)
    have hlks : ks.length ≤ 40 := cells_few (nodup_lt_ pk) fun k hk => by
      have := hinks k hk
      have := hO.2.2
      exact ⟨by omega, by omega⟩
    refine ⟨rfl, rfl, made_board (n := bs.length) (ns := ks) (.inr (SqT.of hp3')) (by omega) hlen1 hO.2.2 hinks (nodup_lt_ pk) fun x H' hx sx hb => ?_⟩
    have s123 := (s1.trans s2).trans s3
    refine out x H' (s123.free hx) (s123.trans sx) ?_
    have e := tog_eq (bs := bs) (ns := ns) hO (fun k hk => (hin k hk).1) (S := fun k => decide (k ∈ ks)) (fun k => by
      have z := hks k
      have em : decide (k ∈ ms) = decide (k ∈ ns) := by
        by_cases q : k ∈ ns
        · rw [decide_eq_true q, decide_eq_true (pm.mem_iff.mpr q)]
        · rw [decide_eq_false q, decide_eq_false (fun y => q (pm.mem_iff.mp y))]
      rw [← em]
      by_cases q : k ∈ ks
      · rw [decide_eq_true q]
        exact (z.mp q).symm
      · rw [decide_eq_false q]
        cases y : xor (decide (k ∈ upF 0 bs)) (decide (k ∈ ms)) with
        | false => rfl
        | true => exact absurd (z.mpr y) q)
    rw [← e]
    exact hb
end
end K33
namespace K33
open PySem PySem.Spec PyProof.Rows L2 Par
section
variable {P : Program} {w : World} {K : PySem.W.Frag} {mg : Str → Option Value} {base : Heap}
/-- a width from 1 to most -/
def spWidth : Sp := fun vs H Q _ => ∃ (p : Addr) (m : Int), vs = [.ref p, .int m] ∧ PotAt H p ∧ 5 ≤ m ∧ m ≤ 1000 ∧ ∀ (n : Nat) H', 1 ≤ n → (n : Int) ≤ m → But p H H' → PotAt H' p → Q (.int (n : Nat)) H'
theorem scWidth : FnScope ["_law_pot_here", "_law_most"] ["_law_pot_here", "_law_most"] (defScope sWidth) := ⟨rfl, rfl, rfl, by decide +kernel, rfl, by decide +kernel, by decide +kernel⟩
theorem ok_width {f : Addr} {fd : FuncData} (F : Fun K "_law_width" "_law_width" sWidth f fd) (B : Bl mg) (D : Has P w K mg base "_law_draw" 2 ["_law_pot_here", "_law_many"] spDraw) : FnOk P w K mg base CX0 3 f fd ["_law_pot_here", "_law_most"] spWidth := by
  obtain ⟨fD, fdD, GD, mD, kD, bD⟩ := D
  refine F.ok scWidth (fun vs H Q E h => ?_) (fun cdv A outer s H vs Q E hr h => ?_)
  · obtain ⟨p, m, rfl, _⟩ := h
    rfl
  · obtain ⟨p, m, rfl, hp, m1, m2, out⟩ := h
    refine ⟨_, pss_one (ps_ret (pe_ix ix_list (pe_lst (pa_cons (pe_callB (call_min2 rfl) (by rfl) B.min (by decide +kernel) (pa_cons pe_int (pa_cons (pv 1) pa_nil))) (pa_cons (pe_callB (call_min2 rfl) (by rfl) B.min (by decide +kernel) (pa_cons pe_int (pa_cons (pv 1) pa_nil)))
      (pa_cons (pe_op op_add pe_int (pe_call GD hr (by rfl) mD kD bD .nil pass0 (pa_cons (pv 0) (pa_cons (pv 1) pa_nil)))) pa_nil)))) (pe_call GD hr (by rfl) mD kD bD .nil pass0 (pa_cons (pv 0) (pa_cons pe_int pa_nil))) (fun _ _ => rfl))), ?_⟩
    refine ⟨_, rfl, 3, m, rfl, ?_⟩
    refine ⟨_, rfl, 5, m, rfl, ?_⟩
    refine ⟨_, rfl, _, rfl, p, m, rfl, hp, by omega, by omega, ?_⟩
    intro d H1 d0 d1 b1 hp1
    refine ⟨1, d, rfl, rfl, (by show 3 ≤ sizeLine; decide), fun q hq => ?_⟩
    have hp2 := hp1.same (same_new (o := .lst [.int (if m < 3 then m else 3), .int (if m < 5 then m else 5), .int (1 + d)]) hq)
    refine ⟨_, rfl, p, 3, rfl, hp2, by decide, by decide, ?_⟩
    intro e H2 e0 e1 b2 hp3
    have nq : q ≠ p := fun z => by
      obtain ⟨_, _, y, _⟩ := hp1
      rw [← z, hq] at y
      cases y
    have hq2 := b2 q _ nq upd_same
    have bb : But p H H2 := (b1.trans (But.new hq)).trans b2
    rcases (show e = 0 ∨ e = 1 ∨ e = 2 by omega) with rfl | rfl | rfl
    · refine ⟨q, _, 0, _, rfl, rfl, SqL.of hq2, rfl, ?_⟩
      rw [if_neg (by omega)]
      exact out 3 H2 (by decide) (by omega) bb hp3
    · refine ⟨q, _, 1, _, rfl, rfl, SqL.of hq2, rfl, ?_⟩
      rw [if_neg (by omega)]
      exact out 5 H2 (by decide) (by omega) bb hp3
    · refine ⟨q, _, 2, _, rfl, rfl, SqL.of hq2, rfl, ?_⟩
      have z := out (1 + d).toNat H2 (by omega) (by omega) bb hp3
      have y : (((1 + d).toNat : Nat) : Int) = 1 + d := by omega
      rw [y] at z
      exact z
/-- new bits -/
def spBits : Sp := fun vs H Q _ => ∃ (p : Addr) (n : Nat), vs = [.ref p, .int (n : Nat)] ∧ PotAt H p ∧ 1 ≤ n ∧ n ≤ 40 ∧ ∀ q (bs : List Int) H', H q = none → OkB bs → bs.length = n → But p H H' → PotAt H' p → H' q = some (.lst (bs.map V.int)) → Q (.ref q) H'
abbrev nBits : List Str := ["_law_pot_here", "_law_width_here", "_law_spot"]
theorem scBits : FnScope nBits ["_law_pot_here", "_law_width_here"] (defScope sBits) := ⟨rfl, rfl, rfl, by decide +kernel, rfl, by decide +kernel, by decide +kernel⟩
theorem ok_bits {f : Addr} {fd : FuncData} (F : Fun K "_law_bits" "_law_bits" sBits f fd) (B : Bl mg) (D : Has P w K mg base "_law_draw" 2 ["_law_pot_here", "_law_many"] spDraw) : FnOk P w K mg base CX0 3 f fd ["_law_pot_here", "_law_width_here"] spBits := by
  obtain ⟨fD, fdD, GD, mD, kD, bD⟩ := D
  refine F.ok scBits (fun vs H Q E h => ?_) (fun cdv A outer s H vs Q E hr h => ?_)
  · obtain ⟨p, n, rfl, _⟩ := h
    rfl
  · obtain ⟨p, n, rfl, hp, n1, n2, out⟩ := h
    refine ⟨_, pss_one (ps_ret (pe_op op_cat (pe_lst (pa_cons pe_int pa_nil)) (pe_lc (own := [("_law_spot", 2)]) (g := gName 2) (te := tCall spDraw [] E0 (tCons (tVar 0) (tCons (tC (.int 2)) tNil))) rfl scBits.nd (pi_range2 (by rfl) B.range (pa_cons pe_int (pa_cons (pv 1) pa_nil))) (blkOk_by (own := [("_law_spot", 2)]) (N := nBits) (sc := defScope sBits) (by decide +kernel))
        (fun _ _ _ _ _ => pg_name (i := 2) scBits.nd rfl (Or.inl rfl)) (fun _ _ _ _ _ => pts_nil) (fun _ _ _ _ _ => by exact pe_call GD hr (by rfl) mD kD bD .nil pass0 (pa_cons (pv 0) (pa_cons pe_int pa_nil)))))), ?_⟩
    refine ⟨by decide, fun q hq => ?_⟩
    have hp1 := hp.same (same_new (o := .lst [.int 1]) hq)
    have nq : q ≠ p := fun z => by
      obtain ⟨_, _, y, _⟩ := hp
      rw [← z, hq] at y
      cases y
    refine ⟨_, rfl, 1, (n : Nat), rfl, ⟨by omega, by omega, by omega, by omega⟩, fun D hD => ?_⟩
    have hDH : H D = none := (same_new hq).free hD
    have nD : D ≠ p := fun z => by
      obtain ⟨_, _, y, _⟩ := hp
      rw [← z, hDH] at y
      cases y
    have qD : q ≠ D := fun z => by
      rw [← z, upd_same] at hD
      cases hD
    have en : ((n : Nat) : Int) - 1 = ((n - 1 : Nat) : Int) := by omega
    rw [en, Int.toNat_natCast]
    refine lc_range (lo := 1) (n := n - 1) (fun i H' => ∃ cs : List Int, H' D = some (.lst (cs.map V.int)) ∧ cs.length = i ∧ (∀ c ∈ cs, c = 0 ∨ c = 1) ∧ H' q = some (.lst [.int 1]) ∧ But p H H' ∧ PotAt H' p)
      ⟨[], upd_same, rfl, by simp, by rw [upd_ne qD, upd_same], (But.new hq).trans (But.new hD), hp1.same (same_new hD)⟩ ?_ ?_
    · rintro i H2 hi ⟨cs, hc, hcl, hcb, hq2, b2, hp2⟩
      refine ⟨rfl, yesT ?_⟩
      refine ⟨_, rfl, p, 2, rfl, hp2, by decide, by decide, ?_⟩
      intro d H3 d0 d1 b3 hp3
      refine ⟨_, b3 D _ nD hc, (by rw [List.length_map]; exact small1000 (by omega)), cs ++ [d], ?_, ?_, ?_, ?_, ?_, ?_⟩
      · rw [upd_same, List.map_append]
        rfl
      · rw [List.length_append, hcl]
        rfl
      · intro c hc2
        rcases List.mem_append.mp hc2 with z | z
        · exact hcb c z
        · have : c = d := by simpa using z
          omega
      · rw [upd_ne qD]
        exact b3 q _ nq hq2
      · intro z o n3 e
        rw [upd_ne (ne_of_none e hDH)]
        exact b3 z o n3 (b2 z o n3 e)
      · obtain ⟨x, y, e, r⟩ := hp3
        exact ⟨x, y, by rw [upd_ne (Ne.symm nD)]; exact e, r⟩
    · rintro H2 ⟨cs, hc, hcl, hcb, hq2, b2, hp2⟩
      refine ⟨q, D, _, _, rfl, rfl, hq2, hc, (by rw [List.length_map]; show 1 + _ ≤ sizeLine; rw [sizeLine_eq]; omega), fun r hr2 => ?_⟩
      have hrH : H r = none := b2.free hp hr2 hp2
      refine out r (1 :: cs) _ hrH ⟨fun x hx => ?_, rfl, by rw [List.length_cons]; omega⟩ (by rw [List.length_cons]; omega) (b2.trans (But.new hr2)) (hp2.same (same_new hr2)) upd_same
      rcases List.mem_cons.mp hx with z | z
      · exact .inr z
      · exact hcb x z
/-- the sum of the bits at these places, by its rest -/
def parB (bs ns : List Int) : Int := (ns.map fun k => bs.getD k.toNat 0).sum % 2
def spParity (K : PySem.W.Frag) : Sp := fun vs H Q _ => ∃ (a b : Addr) (bs ns : List Int), vs = [.ref a, .ref b] ∧ H a = some (.lst (bs.map V.int)) ∧ H b = some (.lst (ns.map V.int)) ∧ ns.length ≤ 500 ∧ (∀ k ∈ ns, 0 ≤ k ∧ k < bs.length) ∧
  ∀ H', Same H H' → Q (.int (parB bs ns)) H'
abbrev nParity : List Str := ["_law_bits_here", "_law_spots_here", "_law_spot"]
theorem scParity : FnScope nParity ["_law_bits_here", "_law_spots_here"] (defScope sParity) := ⟨rfl, rfl, rfl, by decide +kernel, rfl, by decide +kernel, by decide +kernel⟩
theorem ok_parity {f : Addr} {fd : FuncData} (F : Fun K "_law_parity" "_law_parity" sParity f fd) (B : Bl mg) : FnOk P w K mg base CX0 2 f fd ["_law_bits_here", "_law_spots_here"] (spParity K) := by
  refine F.ok scParity (fun vs H Q E h => ?_) (fun cdv A outer s H vs Q E hr h => ?_)
  · obtain ⟨a, b, bs, ns, rfl, _⟩ := h
    rfl
  · obtain ⟨a, b, bs, ns, rfl, ha, hb, hl, hin, out⟩ := h
    refine ⟨_, pss_one (ps_ret (pe_op op_mod (pe_callB (cr_sum rfl) (by rfl) B.sum (by decide +kernel) (pa_cons (pe_lc (own := [("_law_spot", 2)]) (g := gName 2) (te := tOp (rIxL K) (tVar 0) (tVar 2)) rfl scParity.nd (pi_list (pv 1)) (blkOk_by (own := [("_law_spot", 2)]) (N := nParity) (sc := defScope sParity) (by decide +kernel))
        (fun _ _ _ _ _ => pg_name (i := 2) scParity.nd rfl (Or.inl rfl)) (fun _ _ _ _ _ => pts_nil) (fun _ _ _ _ _ => by exact pe_ix ix_list (pv 0) (pv 2) (fun _ _ => rfl))) pa_nil)) pe_int)), ?_⟩
    refine ⟨_, rfl, b, rfl, ⟨_, SqL.of hb⟩, fun D hD => ?_⟩
    refine lc_list (K := K) (a := b) (xs := ns.map V.int) (fun i H' => Same H H' ∧ H' D = some (.lst (((ns.take i).map fun k => bs.getD k.toNat 0).map V.int))) ⟨same_new hD, upd_same⟩ (fun i H' _ h => SqL.of (h.1 _ _ hb)) ?_ ?_
    · rintro i x H2 hx ⟨s2, hD2⟩
      rw [List.getElem?_map] at hx
      obtain ⟨k, hk, rfl⟩ : ∃ k, ns[i]? = some k ∧ x = V.int k := by
        cases e : ns[i]? with
        | none => rw [e] at hx; cases hx
        | some k => rw [e] at hx; exact ⟨k, rfl, (Option.some.inj hx).symm⟩
      obtain ⟨k0, k1⟩ := hin k (List.mem_of_getElem? hk)
      have kl : k.toNat < bs.length := by omega
      have hat : atI (bs.map V.int) k = some (.int bs[k.toNat]) := by
        have z : atI (bs.map V.int) ((k.toNat : Nat) : Int) = some (.int bs[k.toNat]) := atI_nat (by simp [kl])
        rwa [Int.toNat_of_nonneg k0] at z
      refine ⟨rfl, yesT ?_⟩
      refine ⟨_, rfl, _, rfl, a, _, _, .int bs[k.toNat], rfl, rfl, SqL.of (s2 _ _ ha), hat, ?_⟩
      refine ⟨_, hD2, ?_, ?_, ?_⟩
      · rw [List.length_map, List.length_map, List.length_take]
        exact small1000 (by omega)
      · intro z o e
        rw [upd_ne (ne_of_none e hD)]
        exact s2 z o e
      · rw [upd_same, List.take_succ, hk, List.map_append, List.map_append]
        show some (HO.lst (_ ++ [V.int bs[k.toNat]])) = some (HO.lst (_ ++ [V.int (bs.getD k.toNat 0)]))
        rw [List.getD_eq_getElem?_getD, List.getElem?_eq_getElem kl]
        rfl
    · rintro H2 ⟨s2, hD2⟩
      rw [List.length_map, List.take_length] at hD2
      refine ⟨D, _, rfl, SqL.of hD2, _, _, rfl, rfl, (by show (0 : Int) < 2; decide), ?_⟩
      exact out H2 s2
/-- the places of the ones -/
def spUpL (K : PySem.W.Frag) : Sp := fun vs H Q _ => ∃ (a : Addr) (bs : List Int), vs = [.ref a] ∧ H a = some (.lst (bs.map V.int)) ∧ bs.length ≤ 40 ∧ ∀ p H', H p = none → Same H H' → H' p = some (.lst ((upF 0 bs).map V.int)) → Q (.ref p) H'
abbrev nUpL : List Str := ["_law_bits_here", "_law_spot", "_law_bit"]
theorem scUpL : FnScope nUpL ["_law_bits_here"] (defScope sUp) := ⟨rfl, rfl, rfl, by decide +kernel, rfl, by decide +kernel, by decide +kernel⟩
theorem ok_upL {f : Addr} {fd : FuncData} (F : Fun K "_law_up" "_law_up" sUp f fd) (B : Bl mg) : FnOk P w K mg base CX0 2 f fd ["_law_bits_here"] (spUpL K) := by
  refine F.ok scUpL (fun vs H Q E h => ?_) (fun cdv A outer s H vs Q E hr h => ?_)
  · obtain ⟨b, bs, rfl, _⟩ := h
    rfl
  · obtain ⟨t, bs, rfl, h2, hl, out⟩ := h
    refine ⟨_, pss_one (ps_ret (pe_lc (own := [("_law_spot", 1), ("_law_bit", 2)]) (g := gTup K 2 (gCons (gName 1) (gCons (gName 2) gNil))) rfl scUpL.nd (pi_enum (by rfl) B.enumerate (pa_cons (pv 0) pa_nil)) (blkOk_by (own := [("_law_spot", 1), ("_law_bit", 2)]) (N := nUpL) (sc := defScope sUp) (by decide +kernel))
        (fun _ _ _ _ _ => by exact pg_tup rfl (pgs_cons (pg_name (i := 1) scUpL.nd rfl (Or.inl rfl)) (pgs_cons (pg_name (i := 2) scUpL.nd rfl (Or.inl rfl)) pgs_nil)))
        (fun _ _ _ _ _ => pts_one (pt_cmpR op_eq (pv 2) pe_int (nomark _))) (fun _ _ _ _ _ => pv 1))), ?_⟩
    refine ⟨_, rfl, t, _, rfl, SqL.of h2, fun D hD => ?_⟩
    refine lc_it walk_enum (fun i H' => Same H H' ∧ H' D = some (.lst ((upF 0 (bs.take i)).map V.int))) ⟨same_new hD, upd_same⟩ (fun i H' _ h => SqL.of (h.1 _ _ h2)) ?_ ?_
    · rintro i x H3 H4 hi ⟨s3, hD3⟩ ⟨T1, x1, y1, rfl, hT, rfl, ex, ey⟩
      have hi2 : i < bs.length := by rw [List.length_map] at hi; exact hi
      have hbi : bs[i]? = some bs[i] := List.getElem?_eq_getElem hi2
      have ey2 : y1 = .int bs[i] := by
        have ey' : (bs.map V.int)[i]? = some y1 := ey
        rw [List.getElem?_map, hbi] at ey'
        exact (Option.some.inj ey').symm
      have ex2 : x1 = .int (i : Nat) := (Option.some.inj ex).symm
      subst ey2 ex2
      have s4 : Same H (upd H3 T1 (.tup [.int (i : Nat), .int bs[i]])) := s3.trans (same_new hT)
      have hD4 := (same_new (o := .tup [.int (i : Nat), .int bs[i]]) hT) _ _ hD3
      have st := upF_step hbi
      refine ⟨T1, _, rfl, SqT.of upd_same, rfl, _, _, rfl, _, _, rfl, rfl, rfl, _, rfl, rfl, _, rfl, ite2 (fun hb => ?_) (fun hb => ?_)⟩
      · have hb1 : bs[i] = 1 := by
          have := of_decide_eq_true hb
          injection this
        refine ⟨_, rfl, _, hD4, ?_, ?_, ?_⟩
        · have := upF_len 0 (bs.take i)
          rw [List.length_take] at this
          rw [List.length_map]
          exact small1000 (by omega)
        · intro z o e
          rw [upd_ne (ne_of_none e hD)]
          exact s4 z o e
        · rw [upd_same, st, if_pos hb1, List.map_append]
          rfl
      · have hb1 : ¬ bs[i] = 1 := fun z => hb (decide_eq_true (by rw [z]))
        refine ⟨s4, ?_⟩
        rw [st, if_neg hb1, List.append_nil]
        exact hD4
    · rintro H3 ⟨s3, hD3⟩
      rw [List.length_map, List.take_length] at hD3
      exact out D _ hD s3 hD3
end
end K33
namespace Par
open PySem PySem.Spec PyProof.Rows L2
section
variable {P : Program} {w : World} {A : Around} {E : Value → Shared → Prop} {s : Shared} {a : Addr} {S : Int → Bool} {n : Nat}
/-- how many members a set has -/
theorem SetR.count (R : SetR w s.heap a S n) {L : List Int} (hn : L.Nodup) (hm : ∀ k, k ∈ L ↔ S k = true) : n = L.length := by
  obtain ⟨o, es, ep, t, ho, hx, hd, g, nd, hs, hb, hf, hz, hr, hl⟩ := R
  have h1 := nodup_le nd (fun k hk => (hm k).mpr ((hs k).2 hk))
  have h2 := nodup_le hn (fun k hk => (hs k).1 ((hm k).mp hk))
  have h3 : (es.toList.map keyOf).length = n := by rw [List.length_map, Array.length_toList, hz]
  rw [h3] at h1 h2
  omega
theorem both_one {q : Addr} {T : Int → Bool} {nq : Nat} {k : Int} {tk : Tok} {Q : Unit → Shared → Prop} (Rq : SetR w s.heap q T nq) (R : SetR w s.heap a S n) (room : n + 1 < scanBound)
    (hQ : ∀ h' m, m ≤ n + 1 → Heap.SameBut a s.heap h' → SetR w h' a (fun j => S j || (T j && decide (j = k))) m → Q () { s with heap := h' }) :
    wpAny (model P w) A (holding [.int k tk] (do
      if (← setFind q (.int k tk) ((intKind P w).hash k)).isSome then
        let _ ← setAddHashed a (.int k tk) ((intKind P w).hash k))) Q E s := by
  refine wpAny_holding (wpAny_bind (wpAny_setFind_of (knd := intKind P w) (intKind_is P w k tk) rfl Rq.setOf fun r hr => ?_))
  cases hT : T k with
  | true =>
    rw [hT] at hr
    refine wp_if_pos hr ?_
    refine wpAny_bind (setR_add_hashed R room fun h2 sb2 R2 => ?_)
    refine wpAny_pure (hQ h2 _ (by split <;> omega) sb2 (R2.congr fun j => ?_))
    by_cases e : j = k
    · subst e
      rw [hT]
      simp
    · simp [e]
  | false =>
    rw [hT] at hr
    refine wp_if_neg (by rw [hr]; exact Bool.false_ne_true) ?_
    refine wpAny_pure (hQ s.heap n (by omega) (Heap.SameBut.refl a s.heap) (R.congr fun j => ?_))
    by_cases e : j = k
    · subst e
      rw [hT]
      simp
    · simp [e]
theorem both_all {body : Int × Value → PUnit → Sem (ForInStep PUnit)} {o q : Addr} {oo : Obj} {T : Int → Bool} {nq : Nat} (hne : o ≠ a) (hnq : q ≠ a)
    (hb : ∀ (e : Int × Value) (s : Shared) (S : Int → Bool) (n : Nat) (Q : ForInStep PUnit → Shared → Prop), GoodE e → s.heap.get? o = some oo → SetR w s.heap q T nq → SetR w s.heap a S n → n + 1 < scanBound →
      (∀ h' m, m ≤ n + 1 → Heap.SameBut a s.heap h' → SetR w h' a (fun j => S j || (T j && decide (j = keyOf e))) m → Q (.yield ⟨⟩) { s with heap := h' }) → wpAny (model P w) A (body e ⟨⟩) Q E s) :
    ∀ (l : List (Int × Value)) (s : Shared) (S : Int → Bool) (n : Nat) (Q : PUnit → Shared → Prop), (∀ e ∈ l, GoodE e) → s.heap.get? o = some oo → SetR w s.heap q T nq → SetR w s.heap a S n → n + l.length + 1 < scanBound →
      (∀ h' m, Heap.SameBut a s.heap h' → SetR w h' a (fun j => S j || (T j && decide (j ∈ l.map keyOf))) m → Q ⟨⟩ { s with heap := h' }) → wpAny (model P w) A (forIn l ⟨⟩ body) Q E s
  | [], s, S, n, Q, _, _, _, R, _, hQ => by
    rw [List.forIn_nil]
    exact wpAny_pure (hQ s.heap n (Heap.SameBut.refl a s.heap) (R.congr fun j => by simp))
  | e :: l, s, S, n, Q, g, Ro, Rq, R, room, hQ => by
    rw [List.forIn_cons]
    simp only [List.length_cons] at room
    refine wpAny_bind (hb e s S n _ (g e (List.mem_cons_self ..)) Ro Rq R (by omega) fun h1 m hm sb1 R1 => ?_)
    refine both_all hne hnq hb l { s with heap := h1 } _ m Q (fun x hx => g x (List.mem_cons_of_mem _ hx)) ((sb1.2 o hne).trans Ro) (Rq.at fun u e' => (sb1.2 q hnq).trans e') R1 (by omega) fun h2 m2 sb2 R2 => ?_
    refine hQ h2 m2 (sb1.trans sb2) (R2.congr fun j => ?_)
    show (S j || (T j && decide (j ∈ keyOf e :: l.map keyOf))) = ((S j || (T j && decide (j = keyOf e))) || (T j && decide (j ∈ l.map keyOf)))
    have hd : decide (j ∈ keyOf e :: l.map keyOf) = (decide (j = keyOf e) || decide (j ∈ l.map keyOf)) := by
      rw [Bool.eq_iff_iff]
      simp only [decide_eq_true_eq, Bool.or_eq_true, List.mem_cons]
    rw [hd]
    cases S j <;> cases T j <;> simp
theorem call_and {b : Addr} {T : Int → Bool} {m : Nat} {Q : Value → Shared → Prop} (Ra : SetR w s.heap a S n) (Rb : SetR w s.heap b T m) (nab : a ≠ b) (hS : ∀ k, S k = true → Cell k) (hT : ∀ k, T k = true → Cell k)
    (hQ : ∀ h' c, (∀ x u, s.heap.get? x = some u → h'.get? x = some u) → SetR w h' s.heap.objs.size (fun k => S k && T k) c → Q (.ref s.heap.objs.size) { s with heap := h' }) :
    wpAny (model P w) A (call (.builtin "set.__and__") [.ref a, .ref b]) Q E s := by
  have ta : s.TypeIs (.ref a) "set" := set_typ Ra
  have tb : s.TypeIs (.ref b) "set" := set_typ Rb
  have la := Ra.lt
  have lb := Rb.lt
  have n40 : n ≤ 40 := SetR.few Ra hS
  have m40 : m ≤ 40 := SetR.few Rb hT
  refine wpAny_call_entry F.slot_set_and ta entry_set_and ?_ (F.args_set_and_2 _ _)
  unfold Builtin.«frozenset.__and__»
  show wpAny _ _ (do
    let (self, other) ← Builtin.Frozenset.slot1 "__and__" ⟨[.ref a, .ref b], []⟩
    let (l, r) := if false = true then (other, self) else (self, other)
    if !(← Builtin.Frozenset.isAnySet l <&&> Builtin.Frozenset.isAnySet r) then rule s!"frozenset.{"__and__"}.declined"; return ← ret .notImplemented
    ret (← Builtin.Frozenset.intersection s!"frozenset.{"__and__"}" (← Builtin.Frozenset.addrOf l) r)) _ _ s
  refine wpAny_bind (wpAny_of_eq (a := (Value.ref a, Value.ref b)) (by rfl) ?_)
  dsimp only
  rw [if_neg Bool.false_ne_true]
  dsimp only
  refine wpAny_bind (wpAny_bind (any_set ta ?_))
  show wpAny _ _ (Builtin.Frozenset.isAnySet (.ref b)) _ _ s
  refine any_set tb ?_
  refine wp_if_neg (by simp) ?_
  refine wpAny_bind (m := Builtin.Frozenset.addrOf (.ref a)) (wpAny_pure ?_)
  refine wpAny_bind ?_
  unfold Builtin.Frozenset.intersection
  refine wp_if_neg (by simpa using Ne.symm nab) ?_
  try refine wpAny_bind (wpAny_pure ?_)
  refine wpAny_bind (base_set ta ?_)
  refine wpAny_bind (new_set ?_)
  have fr := setR_fresh (h := s.heap) w
  generalize hr : s.heap.objs.size = r at *
  generalize hg : s.heap.push { cls := .type "set", dict := none, data := .set #[] 0 (.fresh 0 0 (!w.params.followText "set-order")) } = g at *
  have keep : ∀ x u, s.heap.get? x = some u → g.get? x = some u := fun x u e => by
    rw [← hg]
    exact Heap.get?_push_of_some _ e
  have Ra1 : SetR w g a S n := Ra.at fun u e => keep a u e
  have Rb1 : SetR w g b T m := Rb.at fun u e => keep b u e
  have hra : a ≠ r := Nat.ne_of_lt la
  have hrb : b ≠ r := Nat.ne_of_lt lb
  refine wpAny_bind (m := Builtin.Frozenset.addrOf (.ref r)) (wpAny_pure ?_)
  refine wpAny_bind (wpAny_holding ?_)
  refine wpAny_bind (any_set (s := { s with heap := g }) (set_typ Rb1) ?_)
  refine wp_if_pos rfl ?_
  refine wpAny_bind (m := Builtin.Frozenset.addrOf (.ref b)) (wpAny_pure ?_)
  obtain ⟨oa, esa, epa, ta2, hoa, hxa, hda, _, _, _, _, hfa, hna, _⟩ := id Ra1
  obtain ⟨ob, esb, epb, tb2, hob, hxb, hdb, _, _, _, _, hfb, hnb, _⟩ := id Rb1
  refine wpAny_bind (m := Builtin.Frozenset.sizeOf b) ?_
  unfold Builtin.Frozenset.sizeOf
  refine wpAny_bind (wpAny_setEntries_of hob hdb hfb (wpAny_pure ?_))
  refine wpAny_bind (m := do return (← setEntries a).size) ?_
  refine wpAny_bind (wpAny_setEntries_of hoa hda hfa (wpAny_pure ?_))
  by_cases hc : esb.size > esa.size
  all_goals first | rw [if_pos hc] | rw [if_neg hc]
  · dsimp only
    refine wpAny_bind (wpAny_setEpoch_of hoa hda hfa ?_)
    refine wpAny_bind (walk_unseen (s := { s with heap := g }) (f := r) Ra1 (fun x hx => by
      rcases List.mem_cons.mp hx with z | z
      · rw [z]
        exact ⟨_, _, Rb1⟩
      · rw [List.mem_singleton.mp z]
        exact ⟨_, _, fr⟩) fr fun l h2 sb2 R2 gl => ?_)
    obtain ⟨gl1, gl2, gl3, gl4⟩ := gl
    rw [← Array.forIn_toList]
    refine wpAny_bind (both_all (a := r) (o := a) (q := b) (oo := oa) hra hrb ?_ l.toList { s with heap := h2 } (fun _ => false) 0 _ gl1 ((sb2.2 a hra).trans hoa) (Rb1.at fun u e => (sb2.2 b hrb).trans e) R2 (by rw [Array.length_toList, gl4]; unfold scanBound; omega) fun h3 c sb3 R3 => ?_)
    · intro e s0 S0 n0 Q0 ge ho0 Rq0 R0 room q0
      obtain ⟨k, tk, e1, e2⟩ := ge
      obtain ⟨eh, ev⟩ := e
      dsimp only at e1 e2
      subst e1
      subst e2
      refine wpAny_bind (both_one Rq0 R0 room fun h' m' hm' sb' R' => ?_)
      refine wpAny_bind ?_
      unfold Builtin.Frozenset.unchanged
      refine wpAny_bind (wpAny_setEpoch_of ((sb'.2 a hra).trans ho0) hda hfa ?_)
      refine wp_if_neg (by simp) ?_
      exact wpAny_pure (wpAny_pure (q0 h' m' hm' sb' R'))
    refine wpAny_pure (wpAny_pure (wpAny_pure ⟨_, rfl, ?_⟩))
    have Rf : SetR w h3 r (fun k => S k && T k) c := R3.congr fun k => by
      have : S k = decide (k ∈ l.toList.map keyOf) := by
        cases h : S k with
        | true => rw [decide_eq_true ((gl3 k).1 h)]
        | false =>
          have : k ∉ l.toList.map keyOf := fun z => by
            have := (gl3 k).2 z
            rw [h] at this
            cases this
          rw [decide_eq_false this]
      rw [this]
      show _ = (false || _)
      rw [Bool.false_or]
      exact Bool.and_comm _ _
    refine hQ h3 c (fun x u e => ?_) Rf
    have hxr : x ≠ r := by
      rw [← hr]
      exact Nat.ne_of_lt (Heap.lt_size e)
    exact (sb3.2 x hxr).trans ((sb2.2 x hxr).trans (keep x u e))
  · dsimp only
    refine wpAny_bind (wpAny_setEpoch_of hob hdb hfb ?_)
    refine wpAny_bind (walk_unseen (s := { s with heap := g }) (f := r) Rb1 (fun x hx => by
      rcases List.mem_cons.mp hx with z | z
      · rw [z]
        exact ⟨_, _, Ra1⟩
      · rw [List.mem_singleton.mp z]
        exact ⟨_, _, fr⟩) fr fun l h2 sb2 R2 gl => ?_)
    obtain ⟨gl1, gl2, gl3, gl4⟩ := gl
    rw [← Array.forIn_toList]
    refine wpAny_bind (both_all (a := r) (o := b) (q := a) (oo := ob) hrb hra ?_ l.toList { s with heap := h2 } (fun _ => false) 0 _ gl1 ((sb2.2 b hrb).trans hob) (Ra1.at fun u e => (sb2.2 a hra).trans e) R2 (by rw [Array.length_toList, gl4]; unfold scanBound; omega) fun h3 c sb3 R3 => ?_)
    · intro e s0 S0 n0 Q0 ge ho0 Rq0 R0 room q0
      obtain ⟨k, tk, e1, e2⟩ := ge
      obtain ⟨eh, ev⟩ := e
      dsimp only at e1 e2
      subst e1
      subst e2
      refine wpAny_bind (both_one Rq0 R0 room fun h' m' hm' sb' R' => ?_)
      refine wpAny_bind ?_
      unfold Builtin.Frozenset.unchanged
      refine wpAny_bind (wpAny_setEpoch_of ((sb'.2 b hrb).trans ho0) hdb hfb ?_)
      refine wp_if_neg (by simp) ?_
      exact wpAny_pure (wpAny_pure (q0 h' m' hm' sb' R'))
    refine wpAny_pure (wpAny_pure (wpAny_pure ⟨_, rfl, ?_⟩))
    have Rf : SetR w h3 r (fun k => S k && T k) c := R3.congr fun k => by
      have : T k = decide (k ∈ l.toList.map keyOf) := by
        cases h : T k with
        | true => rw [decide_eq_true ((gl3 k).1 h)]
        | false =>
          have : k ∉ l.toList.map keyOf := fun z => by
            have := (gl3 k).2 z
            rw [h] at this
            cases this
          rw [decide_eq_false this]
      rw [this]
      show _ = (false || _)
      rw [Bool.false_or]
      skip
    refine hQ h3 c (fun x u e => ?_) Rf
    have hxr : x ≠ r := by
      rw [← hr]
      exact Nat.ne_of_lt (Heap.lt_size e)
    exact (sb3.2 x hxr).trans ((sb2.2 x hxr).trans (keep x u e))
/-- len of a set -/
theorem cr_lenSet {X : Cx} : CallR X (.builtin "len") (fun vs H Q => ∃ (a : Addr) (S : Int → Bool) (n : Nat), vs = [.ref a] ∧ H a = some (SetO X.w a S n) ∧ n ≤ 4000 ∧ Q (.int (n : Nat)) H) := by
  intro pins s σ H vs us Q I r h
  obtain ⟨a, S, n, rfl, ha, hn, q⟩ := h
  rw [Vals.ref1 r]
  obtain ⟨o, es, ep, t, ho, hex, hd, _, _, _, _, hf, hz, _, _⟩ := setO_get I ha
  exact call_len_set ho hex hd hf (by rw [hz]; omega) ⟨.int (n : Nat), H, I.tok _, ⟨_, by rw [hz]⟩, q⟩
/-- one & other, sets of cells -/
def rAnd (w : World) : V → V → Hp → VK → Prop := fun x y H Q => ∃ (a b : Addr) (S T : Int → Bool) (n m : Nat), x = V.ref a ∧ y = V.ref b ∧ a ≠ b ∧ H a = some (SetO w a S n) ∧ H b = some (SetO w b T m) ∧
  (∀ k, S k = true → Cell k) ∧ (∀ k, T k = true → Cell k) ∧ ∀ p c, H p = none → (∀ L : List Int, L.Nodup → (∀ k, k ∈ L ↔ (S k && T k) = true) → c = L.length) → Q (.ref p) (upd H p (SetO w p (fun k => S k && T k) c))
theorem op_andS {X : Cx} : OpR X (binaryOp .BitAnd) (rAnd X.w) := by
  intro pins s σ H x y v u Q I rx ry h
  obtain ⟨a, b, S, T, n, m, rfl, rfl, nab, ha, hb, hS, hT, q⟩ := h
  cases rx
  cases ry
  have Ra := setO_get I ha
  have Rb := setO_get I hb
  refine wpAny_binaryOp_same (op := .BitAnd) (T := "set") (set_typ Ra) (set_typ Rb) F.fills_set_and F.slot_set_and ?_
  refine call_and Ra Rb nab hS hT fun h' c k R => ⟨by simp, ?_⟩
  exact ⟨.ref _, _, I.laid (t' := s.toks) k (Nat.le_refl _) (setO_new R), rfl, q _ c (I.hok.fresh (Nat.le_refl _)) fun L hn hm => SetR.count (s := { s with heap := h' }) R hn hm⟩
end
end Par
namespace Par
open PySem PySem.Spec PyProof.Rows L2
/-! ### max(t, default = d), t a tuple of ints -/
/-- M is the greatest of the first i numbers -/
def Top (val : Nat → Int) (i : Nat) (M : Int) : Prop := (∃ j, j < i ∧ val j = M) ∧ ∀ j, j < i → val j ≤ M
def Cur (val : Nat → Int) (i : Nat) : Option Value → Prop
  | none => i = 0
  | some v => ∃ M t, v = .int M t ∧ Top val i M
def pair2 : Option Value → Array Value
  | none => #[]
  | some v => #[v, v]
section
variable {prog : Program} {w : World} {A : Around} {E : Value → Shared → Prop} {R : Result → Shared → Prop} {I : Addr} {fp wr : List Addr} {n : Nat} {P : Nat → Value → Prop} {St : Nat → Heap → Prop}
theorem gt_two {a b : Int} {t u : Tok} {s : Shared} {Q : Value → Shared → Prop} (h : Q (.bool (decide (a > b))) s) : wpAny (model prog w) A (richCompare .Gt (.int a t) (.int b u)) Q E s :=
  (CmpOf.ints_gt (prog := prog) (w := w) (A := A) (P := fun i v => if i = 0 then v = .int a t else v = .int b u) (fun i => if i = 0 then a else b) (fun i v hv => by
    by_cases z : i = 0
    · rw [if_pos z] at hv ⊢
      exact ⟨t, hv⟩
    · rw [if_neg z] at hv ⊢
      exact ⟨u, hv⟩)) 0 1 _ _ s Q E rfl rfl h
theorem maxD_loop (W : Walks prog w A.in1 I fp wr n P St) (val : Nat → Int) (hval : ∀ i v, P i v → ∃ t, v = .int (val i) t) (S : Addr) (far : S ∉ fp) (d : Value) :
    ∀ (k i : Nat) (s : Shared) (cur : Option Value) (c : Nat), n - i = k → i ≤ n → St i s.heap → Cur val i cur →
    s.heap.get? S = some { cls := .type "list", dict := none, data := .seq (pair2 cur) c, slots := #[] } →
    (∀ v h' tk, (n = 0 → v = d) → (0 < n → ∃ M t, v = .int M t ∧ Top val n M) → (∀ b o, b ∉ wr → b ≠ S → s.heap.get? b = some o → h'.get? b = some o) → R (.ok (.ret v)) { s with heap := h', toks := tk }) →
    codeAny (model prog w) A (.builtin "max.loop" ⟨[.ref I, .none, .ref S], [("default", d)]⟩) R s := by
  have farw : S ∉ wr := fun h => far (W.sub _ h)
  have nm : (toString "max" ++ toString ".loop" : String) = "max.loop" := by decide
  intro k
  induction k with
  | zero =>
    intro i s cur c hk hi hst hc hS out
    have hin : i = n := by omega
    subst hin
    refine codeAny_builtin F.entry_max_loop ?_
    rw [Around.under_plainId F.plain_max_loop _]
    show wpAny _ A.in1 (seqItems? (.ref S) >>= _) _ _ s
    refine wpAny_bind (wpAny_seqItems hS rfl ?_)
    show wpAny _ A.in1 (tryCatch (pyNext (.ref I)) _ >>= _) _ _ s
    refine wpAny_bind (wpAny_tryCatch (W.done s _ _ hst fun h' tk kp => ?_))
    have hS2 := kp S _ farw hS
    cases cur with
    | none =>
      have h0 : i = 0 := hc
      refine wpAny_bind (wpAny_rule (wpAny_pure ?_))
      exact out d h' tk (fun _ => rfl) (fun z => absurd h0 (by omega)) fun b o hb _ e => kp b o hb e
    | some v =>
      obtain ⟨M, t, ev, top⟩ := hc
      show wpAny _ A.in1 (updateSeq S (fun _ => #[]) >>= _) _ _ _
      refine wpAny_bind ?_
      refine wpAny_updateSeq hS2 rfl (wpAny_bind (wpAny_letGo (wpAny_pure ?_))) (hz := by show 2 ≤ sizeLine; decide)
      have h0 : 0 < i := by
        obtain ⟨j, hj, _⟩ := top.1
        omega
      exact out v _ tk (fun z => absurd z (by omega)) (fun _ => ⟨M, t, ev, top⟩) fun b o hb nb e => (Heap.get?_update_other _ _ (Ne.symm nb)).trans (kp b o hb e)
  | succ k ih =>
    intro i s cur c hk hi hst hc hS out
    have hlt : i < n := by omega
    refine codeAny_builtin F.entry_max_loop ?_
    rw [Around.under_plainId F.plain_max_loop _]
    show wpAny _ A.in1 (seqItems? (.ref S) >>= _) _ _ s
    refine wpAny_bind (wpAny_seqItems hS rfl ?_)
    show wpAny _ A.in1 (tryCatch (pyNext (.ref I)) _ >>= _) _ _ s
    refine wpAny_bind (wpAny_tryCatch (W.item i s _ _ hlt hst fun v h' tk hP hst2 kp => ?_))
    have hS2 := kp S _ farw hS
    obtain ⟨u, rfl⟩ := hval i v hP
    have go : ∀ (nv : Value) (g : Heap) (c2 : Nat), g.get? S = some { cls := .type "list", dict := none, data := .seq #[nv, nv] c2, slots := #[] } → (∀ b o, b ≠ S → h'.get? b = some o → g.get? b = some o) →
        (∃ M t, nv = .int M t ∧ Top val (i + 1) M) → codeAny (model prog w) A (.builtin "max.loop" ⟨[.ref I, .none, .ref S], [("default", d)]⟩) R { s with heap := g, toks := tk } := by
      intro nv g c2 hg kg top
      refine ih (i + 1) { s with heap := g, toks := tk } (some nv) c2 (by omega) hlt (W.frame _ _ _ hst2 fun b hb o e => kg b o (fun z => far (z ▸ hb)) e) top hg fun v2 h2 tk2 z1 z2 k2 => ?_
      exact out v2 h2 tk2 z1 z2 fun b o hb nb e => k2 b o hb nb (kg b o nb (kp b o hb e))
    cases cur with
    | none =>
      have h0 : i = 0 := hc
      subst h0
      show wpAny _ A.in1 (updateSeq S (fun _ => #[Value.int (val 0) u, Value.int (val 0) u]) >>= _) _ _ _
      refine wpAny_bind ?_
      refine wpAny_updateSeq hS2 rfl ?_
      rw [nm]
      refine wpAny_pure ⟨plainId_quiet F.plain_max_loop _, go _ _ _ (Heap.get?_update_self _ hS2 rfl) (fun b o nb e => (Heap.get?_update_other _ _ (Ne.symm nb)).trans e) ⟨_, u, rfl, ⟨0, by omega, rfl⟩, fun j hj => ?_⟩⟩
      have : j = 0 := by omega
      rw [this]
      exact Int.le_refl _
    | some b0 =>
      obtain ⟨M, t, rfl, top⟩ := hc
      show wpAny _ A.in1 (tryCatch (holding [Value.int (val i) u, Value.int (val i) u] (richCompare .Gt (.int (val i) u) (.int M t) >>= _)) _ >>= _) _ _ _
      refine wpAny_bind (wpAny_tryCatch (wpAny_holding (wpAny_bind (gt_two ?_))))
      refine wpAny_bind (wpAny_holding (wpAny_truthy_bool ?_))
      refine wpAny_bind (wpAny_letGo (wpAny_pure ?_))
      by_cases hb : val i > M
      · rw [decide_eq_true hb]
        simp only [if_true]
        refine wpAny_bind ?_
        refine wpAny_updateSeq hS2 rfl (wpAny_bind (wpAny_letGo ?_)) (hz := by show 2 ≤ sizeLine; decide)
        rw [nm]
        refine wpAny_pure ⟨plainId_quiet F.plain_max_loop _, go _ _ _ (Heap.get?_update_self _ hS2 rfl) (fun b o nb e => (Heap.get?_update_other _ _ (Ne.symm nb)).trans e) ⟨_, u, rfl, ⟨i, by omega, rfl⟩, fun j hj => ?_⟩⟩
        rcases (show j < i ∨ j = i by omega) with z | z
        · have := top.2 j z
          omega
        · rw [z]
          exact Int.le_refl _
      · rw [decide_eq_false hb]
        simp only [Bool.false_eq_true, if_false]
        refine wpAny_bind (wpAny_letGo ?_)
        rw [nm]
        refine wpAny_pure ⟨plainId_quiet F.plain_max_loop _, go _ _ _ hS2 (fun b o nb e => e) ⟨M, t, rfl, ?_, fun j hj => ?_⟩⟩
        · obtain ⟨j, hj, e⟩ := top.1
          exact ⟨j, by omega, e⟩
        · rcases (show j < i ∨ j = i by omega) with z | z
          · exact top.2 j z
          · rw [z]
            omega
end
theorem args_maxD (a d : Value) : argsOk "max" ⟨[a], [("default", d)]⟩ := by
  unfold argsOk
  kernel_rfl
section
variable {prog : Program} {w : World} {A : Around} {E : Value → Shared → Prop} {s : Shared}
/-- a built-in function called with a keyword, its code going on in another one -/
theorem tree_kw {id : String} {b : Builtin} {us : List Value} {kw : List (Str × Value)} {Q : Value → Shared → Prop} (hk : builtinKind id = none) (hp : plainId id = true) (hb : entryFor table id = some b) (ok : argsOk id ⟨us, kw⟩)
    (run : wpAny (model prog w) A.in1 (b ⟨us, kw⟩) (fun fin s' => match fin with
      | .done f => (match (Except.ok f : Result) with | .ok (.ret v) => Q v s' | .ok _ => False | .error e => E e s')
      | .again c' => c'.quiet = true ∧ codeAny (model prog w) A c' (fun r s' => match r with | .ok (.ret v) => Q v s' | .ok _ => False | .error e => E e s') s') E s) :
    wpAny (model prog w) A (call (.builtin id) us kw) Q E s := by
  refine wpAny_call (codeAny_call_builtin hp hb ?_)
  simp only [checkBuiltinCall, hk]
  cases sg : Manifest.signature? id with
  | none => exact wpAny_pure run
  | some z =>
    simp only [argsOk, sg] at ok
    have ok2 : Bind.checkArgs id z ⟨us, kw⟩ = pure () := ok
    show wpAny _ A.in1 (Bind.checkArgs id z ⟨us, kw⟩) _ _ s
    rw [ok2]
    exact wpAny_pure run
theorem max_tupD {l : Addr} {its : List Value} {ns : List Int} {d : Value} {Q : Value → Shared → Prop} (hh : A.handled = none) (hl : s.heap.IsTuple l its.toArray) (hi : IntsAre its ns)
    (h : ∀ v h' tk, (ns = [] → v = d) → (ns ≠ [] → ∃ M t, v = .int M t ∧ M ∈ ns ∧ ∀ y ∈ ns, y ≤ M) → (∀ b o, s.heap.get? b = some o → h'.get? b = some o) → Q v { s with heap := h', toks := tk }) :
    wpAny (model prog w) A (call (.builtin "max") [.ref l] [("default", d)]) Q E s := by
  have nm : (toString "max" ++ toString ".loop" : String) = "max.loop" := by decide
  have len := IntsAre.length hi
  have lt : l < s.heap.objs.size := by
    obtain ⟨_, e, _⟩ := hl
    exact Heap.lt_size e
  refine tree_kw F.kind_max F.plain_max F.entry_max (args_maxD _ _) ?_
  show wpAny _ A.in1 (Builtin.Builtins.bindParams "max" ["key", "default"] 0 ⟨[], [("default", d)]⟩ >>= _) _ _ s
  refine wpAny_bind (wpAny_of_eq (show Builtin.Builtins.bindParams "max" ["key", "default"] 0 ⟨[], [("default", d)]⟩ = pure [none, some d] from rfl) ?_)
  refine wpAny_bind (wpAny_pure ?_)
  refine wpAny_bind (wpAny_pyIter_tuple hl ?_)
  refine wpAny_bind (wpAny_newObj_type ?_)
  rw [nm]
  have hne : l ≠ s.heap.objs.size := Nat.ne_of_lt lt
  have h1z : (s.heap.push { cls := .type "tuple_iterator", data := .fields #[.ref l, .int 0 0] }).objs.size = s.heap.objs.size + 1 := Heap.size_push ..
  have far : (s.heap.push { cls := .type "tuple_iterator", data := .fields #[.ref l, .int 0 0] }).objs.size ∉ [s.heap.objs.size, l] := by
    rw [h1z]
    intro z
    rcases List.mem_cons.mp z with z | z
    · exact absurd z (Nat.succ_ne_self _)
    · have z2 := List.mem_singleton.mp z
      rw [← z2] at lt
      exact Nat.lt_irrefl _ (Nat.lt_trans (Nat.lt_succ_self _) lt)
  refine wpAny_pure ⟨plainId_quiet F.plain_max_loop _, maxD_loop (W := Walks.tuple (A := A.in1) hh s.heap.objs.size l hne its.toArray) (fun i => ns.getD i 0) (fun i v hv => ?_) _ far d its.length 0 _ none 0 (by simp) (Nat.zero_le _) ⟨⟨_, Heap.get?_push_of_some _ (Heap.get?_push_size _ rfl), rfl, rfl⟩, (hl.push _).push _⟩ rfl (Heap.get?_push_size _ rfl) fun v h' tk z1 z2 kp => ?_⟩
  · obtain ⟨t, e⟩ := PyProof.Rows.IntsAre.int_at hi i v (by simpa using hv)
    exact ⟨t, e⟩
  · have esz : its.toArray.size = ns.length := by simpa using len
    rw [esz] at z1 z2
    refine h v h' tk (fun e => z1 (by rw [e]; rfl)) (fun ne => ?_) fun b o e => ?_
    · obtain ⟨M, t, ev, ⟨j, hj, ej⟩, up⟩ := z2 (List.length_pos_iff.mpr ne)
      refine ⟨M, t, ev, ?_, fun y hy => ?_⟩
      · have ej2 : ns.getD j 0 = M := ej
        rw [← ej2, List.getD_eq_getElem?_getD, List.getElem?_eq_getElem hj]
        exact List.getElem_mem hj
      · obtain ⟨k, hk, e⟩ := List.getElem_of_mem hy
        have : ns.getD k 0 ≤ M := up k hk
        rw [List.getD_eq_getElem?_getD, List.getElem?_eq_getElem hk] at this
        rw [← e]
        exact this
    · have lb := Heap.lt_size e
      refine kp b o (fun z => ?_) (fun z => ?_) (Heap.get?_push_of_some _ (Heap.get?_push_of_some _ e))
      · rw [List.mem_singleton.mp z] at lb
        exact Nat.lt_irrefl _ lb
      · rw [z, h1z] at lb
        exact Nat.lt_irrefl _ (Nat.lt_trans (Nat.lt_succ_self _) lb)
end
/-- max(t, default = d) -/
def rMaxD (K : PySem.W.Frag) : List V → List V → Hp → VK → Prop := fun xs zs H Q => ∃ (a : Addr) (ns : List Int) (d : Int), xs = [.ref a] ∧ zs = [.int d] ∧ SqT K H a (ns.map V.int) ∧
  ∀ M, (ns = [] → M = d) → (ns ≠ [] → M ∈ ns ∧ ∀ y ∈ ns, y ≤ M) → Q (.int M) H
theorem cr_maxD {X : Cx} (hc : X.calm = true) : CallRK X (.builtin "max") ["default"] (rMaxD X.K) := by
  intro pins s σ H xs zs us ws Q I r rz h
  obtain ⟨a, ns, d, rfl, rfl, hq, q⟩ := h
  obtain ⟨its, rv, tup, hz⟩ := I.tuple hq
  rw [Vals.ref1 r]
  cases rz with
  | cons r1 r2 =>
    cases r2
    obtain ⟨tk0, rfl⟩ := r1
    refine max_tupD (ns := ns) (d := .int d tk0) (I.ok.hd hc) tup (by simpa using numbers_of rv) fun v h' tk z1 z2 kp => ?_
    by_cases hn : ns = []
    · have ev := z1 hn
      subst ev
      exact ⟨.int d, H, I.kept kp, ⟨_, rfl⟩, q d (fun _ => rfl) (fun z => absurd hn z)⟩
    · obtain ⟨M, t, rfl, m1, m2⟩ := z2 hn
      exact ⟨.int M, H, I.kept kp, ⟨_, rfl⟩, q M (fun z => absurd z hn) (fun _ => ⟨m1, m2⟩)⟩
end Par
namespace K33
open PySem PySem.Spec PyProof.Rows L2 Par
/-- how many of the first stand in the second, too -/
def comm (ns ms : List Int) : List Int := ns.filter fun k => decide (k ∈ ms)
theorem mem_comm {ns ms : List Int} (k : Int) : k ∈ comm ns ms ↔ (decide (k ∈ ns) && decide (k ∈ ms)) = true := by
  unfold comm
  rw [List.mem_filter, Bool.and_eq_true, decide_eq_true_eq, decide_eq_true_eq]
theorem comm_perm {ns ns' ms ms' : List Int} (h1 : ns'.Perm ns) (h2 : ms'.Perm ms) : (comm ns' ms').length = (comm ns ms).length := by
  have e : (fun k => decide (k ∈ ms')) = (fun k => decide (k ∈ ms)) := funext fun k => by
    by_cases z : k ∈ ms
    · rw [decide_eq_true z, decide_eq_true (h2.mem_iff.mpr z)]
    · rw [decide_eq_false z, decide_eq_false (fun q => z (h2.mem_iff.mp q))]
  unfold comm
  rw [e]
  exact (h1.filter _).length_eq
section
variable {P : Program} {w : World} {K : PySem.W.Frag} {mg : Str → Option Value} {base : Heap}
/-- share_odd of two tuples of cells -/
def spShare (K : PySem.W.Frag) : Sp := fun vs H Q _ => ∃ (a b : Addr) (ns ms : List Int), vs = [.ref a, .ref b] ∧ SqT K H a (ns.map V.int) ∧ SqT K H b (ms.map V.int) ∧ ns.length ≤ 500 ∧ ms.length ≤ 500 ∧ (∀ k ∈ ns, Cell k) ∧ (∀ k ∈ ms, Cell k) ∧ ns.Nodup ∧
  ∀ H', Same H H' → Q (.bl (decide ((comm ns ms).length % 2 = 1))) H'
theorem scShare : FnScope ["one", "other"] ["one", "other"] (defScope sShare) := ⟨rfl, rfl, rfl, by decide +kernel, rfl, by decide +kernel, by decide +kernel⟩
theorem ok_share {f : Addr} {fd : FuncData} (F : Fun K "share_odd" "share_odd" sShare f fd) (B : Bl mg) : FnOk P w K mg base CX0 2 f fd ["one", "other"] (spShare K) := by
  refine F.ok scShare (fun vs H Q E h => ?_) (fun cdv A outer s H vs Q E hr h => ?_)
  · obtain ⟨a, b, ns, ms, rfl, _⟩ := h
    rfl
  · obtain ⟨a, b, ns, ms, rfl, ha, hb, l1, l2, c1, c2, nd, out⟩ := h
    refine ⟨_, pss_one (ps_ret (pe_cmpR op_eq (pe_op op_mod (pe_callB cr_lenSet (by rfl) B.len PySem.boot_len (pa_cons (pe_op op_andS (pe_callTy (cr_setTup rfl) (by rfl) B.set (by decide +kernel) (pa_cons (pv 0) pa_nil)) (pe_callTy (cr_setTup rfl) (by rfl) B.set (by decide +kernel) (pa_cons (pv 1) pa_nil))) pa_nil)) pe_int) pe_int (nomark _))), ?_⟩
    refine ⟨_, rfl, a, ns, rfl, ha, by omega, fun p1 n1 hp1 => ?_⟩
    have s1 := same_new (o := SetO w p1 (fun j => decide (j ∈ ns)) n1) hp1
    refine ⟨_, rfl, b, ms, rfl, same_sqt s1 hb, by omega, fun p2 n2 hp2 => ?_⟩
    have s2 := same_new (o := SetO w p2 (fun j => decide (j ∈ ms)) n2) hp2
    have ne : p1 ≠ p2 := fun z => by
      rw [← z, upd_same] at hp2
      cases hp2
    refine ⟨p1, p2, _, _, n1, n2, rfl, rfl, ne, s2 _ _ upd_same, upd_same, fun k hk => c1 k (of_decide_eq_true hk), fun k hk => c2 k (of_decide_eq_true hk), fun p3 c hp3 hc => ?_⟩
    have s3 := same_new (o := SetO w p3 (fun k => decide (k ∈ ns) && decide (k ∈ ms)) c) hp3
    have ec : c = (comm ns ms).length := hc _ (nd.sublist List.filter_sublist) mem_comm
    have lc : (comm ns ms).length ≤ ns.length := List.length_filter_le ..
    subst ec
    refine ⟨p3, _, _, rfl, upd_same, by omega, _, _, rfl, rfl, (by show (0 : Int) < 2; decide), rfl, ?_⟩
    have := out _ ((s1.trans s2).trans s3)
    have e : decide ((comm ns ms).length % 2 = 1) = decide (V.int ((((comm ns ms).length : Nat) : Int) % 2) = V.int 1) := by
      by_cases z : (comm ns ms).length % 2 = 1
      · rw [decide_eq_true z, decide_eq_true (by congr 1; omega)]
      · rw [decide_eq_false z, decide_eq_false (fun q => z (by injection q with q; omega))]
    rw [e] at this
    exact this
/-- a flip at f, with these cells -/
def Fp (C : Addr) (H : Hp) (f : Addr) (ts hs : List Int) : Prop := ∃ dx t1 t2, H f = some (.ins C dx [("tested_cells", .ref t1), ("toggled_cells", .ref t2)]) ∧ H t1 = some (.tup (ts.map V.int)) ∧ H t2 = some (.tup (hs.map V.int))
theorem Fp.same {C : Addr} {H H' : Hp} {f : Addr} {ts hs : List Int} (s : Same H H') (h : Fp C H f ts hs) : Fp C H' f ts hs := by
  obtain ⟨dx, t1, t2, h1, h2, h3⟩ := h
  exact ⟨dx, t1, t2, s _ _ h1, s _ _ h2, s _ _ h3⟩
structure FC (K : PySem.W.Frag) (mg : Str → Option Value) (C : Addr) : Prop where
  cl : Cls K C
  nT : NoAttr K C "tested_cells"
  nG : NoAttr K C "toggled_cells"
  mgC : mg "Flip" = some (.ref C)
theorem fld1 {v u : V} : ([("tested_cells", v), ("toggled_cells", u)] : List (Str × V)).lookup ("tested_cells" : Str) = some v := by
  simp [List.lookup]
theorem fld2 {v u : V} : ([("tested_cells", v), ("toggled_cells", u)] : List (Str × V)).lookup ("toggled_cells" : Str) = some u := by
  have e : (("toggled_cells" : Str) == ("tested_cells" : Str)) = false := by decide +kernel
  simp [List.lookup, e]
theorem no2 {m : Str} {v u : V} (h : (m == ("tested_cells" : Str)) = false) (h2 : (m == ("toggled_cells" : Str)) = false) : ([("tested_cells", v), ("toggled_cells", u)] : List (Str × V)).lookup m = none := by
  simp [List.lookup, h, h2]
theorem put2 {v u : V} : putF "toggled_cells" u ([("tested_cells", v)] : List (Str × V)) = ([("tested_cells", v), ("toggled_cells", u)] : List (Str × V)) := by
  have e : ¬ (("tested_cells" : Str) = "toggled_cells") := by decide +kernel
  show (if ("tested_cells" : Str) = "toggled_cells" then _ else (("tested_cells" : Str), v) :: putF "toggled_cells" u []) = _
  rw [if_neg e]
  rfl
def spTested (C : Addr) : Sp := fun vs H Q _ => ∃ (f : Addr) (ts hs : List Int), vs = [.ref f] ∧ Fp C H f ts hs ∧ ∀ t, H t = some (.tup (ts.map V.int)) → Q (.ref t) H
def spToggled (C : Addr) : Sp := fun vs H Q _ => ∃ (f : Addr) (ts hs : List Int), vs = [.ref f] ∧ Fp C H f ts hs ∧ ∀ t, H t = some (.tup (hs.map V.int)) → Q (.ref t) H
theorem scTested : FnScope ["self"] ["self"] (defScope gTested) := ⟨rfl, rfl, rfl, by decide +kernel, rfl, by decide +kernel, by decide +kernel⟩
theorem scToggled : FnScope ["self"] ["self"] (defScope gToggled) := ⟨rfl, rfl, rfl, by decide +kernel, rfl, by decide +kernel, by decide +kernel⟩
theorem ok_tested {f C : Addr} {fd : FuncData} (F : Fun K "tested" "Flip.tested" gTested f fd) (T : FC K mg C) : FnOk P w K mg base CX0 2 f fd ["self"] (spTested C) := by
  refine F.ok scTested (fun vs H Q E h => ?_) (fun cdv A outer s H vs Q E hr h => ?_)
  · obtain ⟨b, ts, hs, rfl, _⟩ := h
    rfl
  · obtain ⟨b, ts, hs, rfl, ⟨dx, t1, t2, h1, h2, h3⟩, out⟩ := h
    refine ⟨_, pss_one (ps_ret (pe_fld (pv 0) rfl)), ?_⟩
    exact ⟨_, rfl, b, C, dx, _, _, rfl, h1, T.cl, T.nT, fld1, out t1 h2⟩
theorem ok_toggled {f C : Addr} {fd : FuncData} (F : Fun K "toggled" "Flip.toggled" gToggled f fd) (T : FC K mg C) : FnOk P w K mg base CX0 2 f fd ["self"] (spToggled C) := by
  refine F.ok scToggled (fun vs H Q E h => ?_) (fun cdv A outer s H vs Q E hr h => ?_)
  · obtain ⟨b, ts, hs, rfl, _⟩ := h
    rfl
  · obtain ⟨b, ts, hs, rfl, ⟨dx, t1, t2, h1, h2, h3⟩, out⟩ := h
    refine ⟨_, pss_one (ps_ret (pe_fld (pv 0) rfl)), ?_⟩
    exact ⟨_, rfl, b, C, dx, _, _, rfl, h1, T.cl, T.nG, fld2, out t2 h3⟩
/-- cell_tuple, called with its default size -/
def HasD (P : Program) (w : World) (K : PySem.W.Frag) (mg : Str → Option Value) (base : Heap) (x : Str) (lv : Nat) (y : Str) (sp : Sp) : Prop :=
  ∃ f fd ds, FnOk P w K mg base CX0 lv f fd [y, "size"] sp ∧ mg x = some (.ref f) ∧ PySem.W.keepIn K (.ref f) = true ∧ Vals [V.int 40] ds ∧ Binds K fd [y, "size"] ds
theorem Sq.updI {C b dx v : Addr} {H : Hp} {fs : List (Str × V)} {xs : List V} {o : HO} (hb : H b = some (.ins C dx fs)) (h : Sq K H v xs) : Sq K (upd H b o) v xs := by
  have ne : ∀ {u : HO}, H v = some u → (∀ C dx fs, u ≠ .ins C dx fs) → v ≠ b := fun {u} e n z => by
    rw [z, hb] at e
    exact n _ _ _ (Option.some.inj e).symm
  rcases h with (h | ⟨o2, h⟩) | (h | ⟨o2, h⟩)
  · rcases (show H v = some (.lst xs) ∨ ∃ o', H v = some (.frz o' (.lst xs)) from by first | exact .inl h | exact h) with h | ⟨o', h⟩
    · exact .inl (.inl (.inl (by rw [upd_ne (ne h (fun _ _ _ z => by cases z))]; exact h)))
    · exact .inl (.inl (.inr ⟨o', by rw [upd_ne (ne h (fun _ _ _ z => by cases z))]; exact h⟩))
  · exact .inl (.inr ⟨o2, h⟩)
  · rcases (show H v = some (.tup xs) ∨ ∃ o', H v = some (.frz o' (.tup xs)) from by first | exact .inl h | exact h) with h | ⟨o', h⟩
    · exact .inr (.inl (.inl (by rw [upd_ne (ne h (fun _ _ _ z => by cases z))]; exact h)))
    · exact .inr (.inl (.inr ⟨o', by rw [upd_ne (ne h (fun _ _ _ z => by cases z))]; exact h⟩))
  · exact .inr (.inr ⟨o2, h⟩)
/-- __init__ of a flip that can be made -/
def spFInit (K : PySem.W.Frag) (C : Addr) : Sp := fun vs H Q _ => ∃ (b dx u v : Addr) (ts hs : List Int), vs = [.ref b, .ref u, .ref v] ∧ H b = some (.ins C dx []) ∧ Sq K H u (ts.map V.int) ∧ Sq K H v (hs.map V.int) ∧ ts.length ≤ 500 ∧ hs.length ≤ 500 ∧
  (∀ k ∈ ts, 0 ≤ k ∧ k < 40) ∧ (∀ k ∈ hs, 1 ≤ k ∧ k < 40) ∧ ts.Nodup ∧ hs.Nodup ∧ (comm ts hs).length % 2 = 0 ∧
  ∀ H' (ts' hs' : List Int), But b H H' → ts'.Perm ts → hs'.Perm hs → ts'.Pairwise (· ≤ ·) → hs'.Pairwise (· ≤ ·) → Fp C H' b ts' hs' → Q .non H'
theorem scFInit : FnScope ["self", "tested", "toggled"] ["self", "tested", "toggled"] (defScope gInit) := ⟨rfl, rfl, rfl, by decide +kernel, rfl, by decide +kernel, by decide +kernel⟩
theorem ok_finit {f C : Addr} {fd : FuncData} (F : Fun K "__init__" "Flip.__init__" gInit f fd) (B : Bl mg) (T : FC K mg C) (DC : HasD P w K mg base "cell_tuple" 5 "things" (spCells K)) (DO : Has P w K mg base "share_odd" 2 ["one", "other"] (spShare K)) :
    FnOk P w K mg base CX0 6 f fd ["self", "tested", "toggled"] (spFInit K C) := by
  obtain ⟨fD, fdD, dsD, GD, mD, kD, hdD, bD⟩ := DC
  obtain ⟨fO, fdO, GO, mO, kO, bO⟩ := DO
  refine F.ok scFInit (fun vs H Q E h => ?_) (fun cdv A outer s H vs Q E hr h => ?_)
  · obtain ⟨b, dx, u, v, ts, hs, rfl, _⟩ := h
    rfl
  · obtain ⟨b, dx, u, v, ts, hs, rfl, hb, hu, hv, l1, l2, c1, c2, n1, n2, ev, out⟩ := h
    have r1 : Room 2 _ := hr.mono (by decide)
    refine ⟨_, pss_cons (ps_fld (pv 0) (pe_call GD hr (by rfl) mD kD bD hdD pass0 (pa_cons (pv 1) pa_nil)) rfl)
      (pss_cons (ps_fld (pv 0) (pe_call GD hr (by rfl) mD kD bD hdD pass0 (pa_cons (pv 2) pa_nil)) rfl)
      (pss_cons (ps_if (pt_cmpR op_in_seq pe_int (pe_fld (pv 0) rfl) (by rfl)) (pss_one ps_off) pss_nil)
      (pss_one (ps_if (pt_val (pe_call GO r1 (by rfl) mO kO bO .nil pass0 (pa_cons (pe_fld (pv 0) rfl) (pa_cons (pe_fld (pv 0) rfl) pa_nil)))) (pss_one ps_off) pss_nil)))), ?_⟩
    refine ⟨_, rfl, u, 40, ts, rfl, hu, l1, c1, n1, fun t1 ts' H1 ht1 s1 p1 w1 e1 => ?_⟩
    have nb1 : t1 ≠ b := fun z => by rw [z, hb] at ht1; cases ht1
    refine ⟨_, rfl, b, C, dx, [], rfl, s1 _ _ hb, T.cl, T.nT, (by show 0 < 1000; decide), ?_⟩
    have k2 : But b H (upd H1 b (.ins C dx [("tested_cells", .ref t1)])) := fun x o nx e => by
      rw [upd_ne nx]
      exact s1 _ _ e
    have hv2 : Sq K (upd H1 b (.ins C dx [("tested_cells", .ref t1)])) v (hs.map V.int) := (hv.same s1).updI (s1 _ _ hb)
    refine ⟨_, rfl, v, 40, hs, rfl, hv2, l2, fun k hk => by have := c2 k hk; omega, n2, fun t2 hs' H3 ht2 s3 p2 w2 e2 => ?_⟩
    have nb2 : t2 ≠ b := fun z => by rw [z, upd_same] at ht2; cases ht2
    have e13 : H3 t1 = some (.tup (ts'.map V.int)) := s3 _ _ (by rw [upd_ne nb1]; exact e1)
    refine ⟨_, rfl, b, C, dx, _, rfl, s3 _ _ upd_same, T.cl, T.nG, (by show 1 < 1000; decide), ?_⟩
    rw [show putF "toggled_cells" (V.ref t2) (putF "tested_cells" (V.ref t1) []) = ([("tested_cells", V.ref t1), ("toggled_cells", V.ref t2)] : List (Str × V)) from put2]
    have f1 : (upd H3 b (.ins C dx [("tested_cells", .ref t1), ("toggled_cells", .ref t2)])) t1 = some (.tup (ts'.map V.int)) := by
      rw [upd_ne nb1]
      exact e13
    have f2 : (upd H3 b (.ins C dx [("tested_cells", .ref t1), ("toggled_cells", .ref t2)])) t2 = some (.tup (hs'.map V.int)) := by
      rw [upd_ne nb2]
      exact e2
    refine ⟨_, rfl, b, C, dx, _, _, rfl, upd_same, T.cl, T.nG, fld2, t2, _, rfl, .inr (SqT.of f2), rfl, flat_ints _, _, rfl, ?_⟩
    have h0 : ¬ (0 : Int) ∈ hs' := fun z => by
      have := c2 0 (p2.mem_iff.mp z)
      omega
    show if inV (V.int 0) (hs'.map V.int) = true then _ else _
    rw [in_ints, decide_eq_false h0]
    refine iteF ?_
    refine ⟨_, rfl, b, C, dx, _, _, rfl, upd_same, T.cl, T.nT, fld1, _, rfl, b, C, dx, _, _, rfl, upd_same, T.cl, T.nG, fld2, t1, t2, ts', hs', rfl, SqT.of f1, SqT.of f2, by rw [p1.length_eq]; exact l1, by rw [p2.length_eq]; exact l2, ?_, ?_, p1.nodup_iff.mpr n1, fun H5 s5 => ⟨_, rfl, ?_⟩⟩
    · intro k hk
      have := c1 k (p1.mem_iff.mp hk)
      exact ⟨by omega, by omega⟩
    · intro k hk
      have := c2 k (p2.mem_iff.mp hk)
      exact ⟨by omega, by omega⟩
    have eo : decide ((comm ts' hs').length % 2 = 1) = false := decide_eq_false (by rw [comm_perm p1 p2]; omega)
    rw [eo]
    refine iteF ?_
    refine out H5 ts' hs' (fun x o nx e => ?_) p1 p2 w1 w2 ⟨dx, t1, t2, s5 _ _ upd_same, s5 _ _ f1, s5 _ _ f2⟩
    refine s5 _ _ ?_
    rw [upd_ne nx]
    exact s3 _ _ (k2 x o nx e)
end
end K33
namespace Par
open PySem PySem.Spec PyProof.Rows L2
/-- one + other, any two tuples: some tuple of all items, one of the two or a new one -/
def rCatB (K : PySem.W.Frag) : R2 := fun x y H Q => ∃ a b xs ys, x = .ref a ∧ y = .ref b ∧ SqT K H a xs ∧ SqT K H b ys ∧ xs.length + ys.length ≤ sizeLine ∧
  ∀ c H', Same H H' → SqT K H' c (xs ++ ys) → Q (.ref c) H'
theorem op_catB {X : Cx} : OpR X (binaryOp .Add) (rCatB X.K) := by
  intro pins s σ H x y v u Q I rx ry h
  obtain ⟨a, b, xs, ys, rfl, rfl, ha, hb, hz, q⟩ := h
  by_cases hx : xs = []
  · subst hx
    cases rx
    cases ry
    obtain ⟨its, r1, p1, _⟩ := I.tuple ha
    obtain ⟨its2, r2, p2, _⟩ := I.tuple hb
    cases r1
    obtain ⟨⟨c1, d1, da1, sl1⟩, ho, hc, n, hd⟩ := id p1
    obtain ⟨⟨c2, d2, da2, sl2⟩, ho2, hc2, n2, hd2⟩ := id p2
    simp only at hc hd hc2 hd2
    subst hc hd hc2 hd2
    exact concat_meets ⟨_, ho, rfl⟩ ⟨_, ho2, rfl⟩ noFill_tuple_add seq_tuple_add PySem.F.slot_tuple_add PySem.F.entry_tuple_add (PySem.F.args_tuple_add_2 _ _)
      (tuple_addW0 a b _ its2.toArray n n2 d1 d2 sl1 sl2 rfl) ⟨ho, ho2, ⟨.ref b, H, I, rfl, q b H (fun _ _ e => e) hb⟩⟩
  · refine op_catT pins s σ H (.ref a) (.ref b) v u Q I rx ry ⟨a, b, xs, ys, rfl, rfl, ha, hb, hx, hz, fun e => ?_, fun e p hp => ?_⟩
    · subst e
      exact q a H (fun _ _ e => e) (by rw [List.append_nil]; exact ha)
    · exact q p _ (fun z o e2 => by rw [upd_ne (ne_of_none e2 hp)]; exact e2) (SqT.of upd_same)
end Par
namespace K33
open PySem PySem.Spec PyProof.Rows L2 Par
section
variable {P : Program} {w : World} {K : PySem.W.Frag} {mg : Str → Option Value} {base : Heap}
/-- the least size that these cells fit -/
def Fits (ts hs : List Int) (M : Int) : Prop := (∀ k, k ∈ ts ∨ k ∈ hs → k < M) ∧ 1 ≤ M ∧ (M = 1 ∨ (M - 1) ∈ ts ∨ (M - 1) ∈ hs)
theorem Fits.one {ts hs : List Int} {M N : Int} (h1 : Fits ts hs M) (h2 : Fits ts hs N) : M = N := by
  have le : ∀ {M N : Int}, Fits ts hs M → Fits ts hs N → M ≤ N := fun {M N} a b => by
    rcases a.2.2 with z | z
    · have := b.2.1
      omega
    · have := b.1 _ z
      omega
  exact Int.le_antisymm (le h1 h2) (le h2 h1)
def spFWidth (C : Addr) : Sp := fun vs H Q _ => ∃ (f : Addr) (ts hs : List Int), vs = [.ref f] ∧ Fp C H f ts hs ∧ ts.length ≤ 500 ∧ hs.length ≤ 500 ∧ (∀ k ∈ ts, 0 ≤ k) ∧ (∀ k ∈ hs, 0 ≤ k) ∧ ∀ M H', Same H H' → Fits ts hs M → Q (.int M) H'
theorem scFWidth : FnScope ["self"] ["self"] (defScope gWidth) := ⟨rfl, rfl, rfl, by decide +kernel, rfl, by decide +kernel, by decide +kernel⟩
theorem ok_fwidth {f C : Addr} {fd : FuncData} (F : Fun K "width" "Flip.width" gWidth f fd) (B : Bl mg) (T : FC K mg C) : FnOk P w K mg base CX0 2 f fd ["self"] (spFWidth C) := by
  refine F.ok scFWidth (fun vs H Q E h => ?_) (fun cdv A outer s H vs Q E hr h => ?_)
  · obtain ⟨b, ts, hs, rfl, _⟩ := h
    rfl
  · obtain ⟨b, ts, hs, rfl, ⟨dx, t1, t2, h1, h2, h3⟩, l1, l2, p1, p2, out⟩ := h
    refine ⟨_, pss_one (ps_ret (pe_op op_add (pe_callBK (ks := ["default"]) (cr_maxD rfl) (by rfl) B.max (by decide +kernel) (pa_cons (pe_op op_catB (pe_fld (pv 0) rfl) (pe_fld (pv 0) rfl)) pa_nil) (pk_cons pe_int pk_nil)) pe_int)), ?_⟩
    refine ⟨_, rfl, b, C, dx, _, _, rfl, h1, T.cl, T.nT, fld1, _, rfl, b, C, dx, _, _, rfl, h1, T.cl, T.nG, fld2, t1, t2, _, _, rfl, rfl, SqT.of h2, SqT.of h3, (by rw [List.length_map, List.length_map, sizeLine_eq]; omega), fun c H1 s1 hc => ?_⟩
    rw [← List.map_append] at hc
    refine ⟨c, ts ++ hs, 0, rfl, rfl, hc, fun M m1 m2 => ⟨M, 1, rfl, rfl, out (M + 1) H1 s1 ?_⟩⟩
    by_cases hn : ts ++ hs = []
    · have e := m1 hn
      subst e
      refine ⟨fun k hk => ?_, by omega, .inl (by omega)⟩
      have : k ∈ ts ++ hs := List.mem_append.mpr hk
      rw [hn] at this
      cases this
    · obtain ⟨mm, up⟩ := m2 hn
      have m0 : 0 ≤ M := by
        rcases List.mem_append.mp mm with z | z
        · exact p1 M z
        · exact p2 M z
      refine ⟨fun k hk => ?_, by omega, .inr ?_⟩
      · have := up k (List.mem_append.mpr hk)
        omega
      · rw [show M + 1 - 1 = M by omega]
        exact List.mem_append.mp mm
end
end K33
namespace Par
open PySem PySem.Spec PyProof.Rows L2
/-- f(e, .., k = v, ..), what is raised wished for at the slots -/
def tCallNS (n m : Nat) (sp : Sp) (gV : List V → List V → List V) (E : L2.St → XK) (t tk : TA) : TE := fun σ H Q =>
  t σ H fun vs H1 => tk σ H1 fun zs H2 => vs.length = n ∧ zs.length = m ∧ sp (gV vs zs) H2 Q (E σ)
section
variable {X : Cx} {CX : CXT} {k n : Nat} {f : Addr} {fd : FuncData} {ps ks : List Str} {sp : Sp} {E : L2.St → XK} {x : Str} {p pos : Pos} {e : Expr} {es : List Expr} {kws : List Keyword} {t tk : TA}
  {g : List Value → List Value → List Value} {gV : List V → List V → List V}
theorem pe_callNS (F : FnOk X.prog X.w X.K X.mg X.base CX k f fd ps sp) (hr : Room k X.A) (hg : Gl X x) (hm : X.mg x = some (.ref f)) (hk : PySem.W.keepIn X.K (.ref f) = true)
    (hb : KBn X.K fd ps n ks g gV) (hx : ∀ σ, PassesAt CX X σ (E σ)) (ha : PA X (e :: es) t) (hkw : PK X kws tk)
    (hall : (backToKw pos (keywordEach kws X.env)).all (·.1.isSome) = true := by rfl)
    (hks : (backToKw pos (keywordEach kws X.env)).filterMap (·.1) = ks := by rfl)
    (hdb : (x == ("__debug__" : Str)) = false := by decide)
    (he : starEach (e :: es) X.env = (false, eval e X.env) :: starEach es X.env := by rfl)
    (hpl : ((backTo pos (starEach (e :: es) X.env)).any (·.1) || (backToKw pos (keywordEach kws X.env)).any (·.1.isNone)) = false := by rfl) :
    PE X (.Call (.Name x p) (e :: es) kws pos) (tCallNS n ks.length sp gV E t tk) := by
  constructor
  intro pins s σ H Q I h
  refine wpAny_Call_Name_kw (ld_glob I hg hm ?_ hdb)
  refine PySem.W.callWith_KW (h₀ := X.base) I.ok.mod.kin hk hall (thn (ha.run pos pins s σ H _ I h) ?_) hpl he
  rintro us s1 ⟨vs, H1, I1, r, q⟩
  refine thn (hkw.run pos pins s1 σ H1 _ I1 q) ?_
  rintro ws s2 ⟨zs, H2, I2, rz, l1, l2, q2⟩
  refine ⟨I2.kIn, ?_⟩
  rw [hks]
  refine wpAny_call (codeAny_mono (F.run X.A X.stack s2 H2 ⟨us, ks.zip ws⟩ (g us ws) (gV vs zs) Q (E σ) hr I2.env0
    (hb.to s2 us ws I2.kIn (r.length.symm.trans l1) (rz.length.symm.trans l2)) (hb.rel r rz) q2) ?_)
  intro res s3 hq
  cases res with
  | error er => exact hx σ pins H2 s2 er s3 I2 hq
  | ok fl =>
    cases fl with
    | ret u => exact I2.after hq
    | next => exact False.elim hq
    | brk => exact False.elim hq
    | cont => exact False.elim hq
end
section
variable {X : Cx} {a D : Addr} {oe : Obj} {cls : Value} {d : Option Addr} {pn : List (Addr × Obj)}
theorem held_inst {pins : List (Addr × Obj)} {σ : L2.St} {H : Hp} {s : Shared} {dd : Addr} {fs : List (Str × V)} (hz : Zc cls d oe) (hf : ∃ vs, oe.data = .fields vs)
    (I : L2.Inv (X.suite a ((a, oe) :: pn)) pins σ H s) (ec : cls = .ref D) (ed : d = some dd) (ea : H dd = some (.xd fs)) : ∃ od, PySem.W.InstAt s.heap a oe D (some od) := by
  subst ec ed
  have ha := (I.pin (a, oe) (List.mem_append_left _ List.mem_cons_self)).1
  obtain ⟨vs, hd⟩ := hf
  obtain ⟨mA, hns, hr⟩ := (show ObjOk X.prog X.w H s.heap dd (.xd fs) from I.hok dd _ ea)
  obtain ⟨od, ho, hl⟩ := lookIn_ns hns
  exact ⟨od, ha, hz.1, by unfold PySem.W.notCls; rw [hd] <;> rfl, by rw [hz.2]; exact ho⟩
theorem kit_held (C : ExcC X.K D) {od : Option Obj} : PySem.W.KitX X.K (.ref a) (.ref D) (fun h => PySem.W.InstAt h a oe D od) := by
  refine PySem.W.kitx_exc ?_ C.hg C.hk C.hs C.ha C.hn C.ht C.hm
  obtain ⟨cd, hc, _⟩ := PySem.W.any_some C.hd
  rw [hc]
  rfl
/-- isinstance(e, c), e the error that the suite holds, with its own dict -/
theorem call_isX (C : ExcC X.K D) (hz : Zc cls d oe) (hf : ∃ vs, oe.data = .fields vs) : CallR (X.suite a ((a, oe) :: pn)) (.builtin "isinstance")
    (fun xs H Q => ∃ (c : V) (u : Value) (b : Bool) (dd : Addr) (fs : List (Str × V)), xs = [.ref a, c] ∧ cls = .ref D ∧ d = some dd ∧ H dd = some (.xd fs) ∧ ClsV c u ∧ PySem.W.kitOne X.K (.ref D) u = some b ∧ Q (.bl b) H) := by
  intro pins s σ H xs us Q I r h
  obtain ⟨c, u, b, dd, fs, rfl, ec, ed, ea, k, e, q⟩ := h
  obtain ⟨u1, u2, rfl, r1, r2⟩ := vals2 r
  cases (show u1 = Value.ref a from r1)
  have e2 := k.eq r2
  subst e2
  obtain ⟨od, J⟩ := held_inst hz hf I ec ed ea
  exact PySem.W.kia_one (kit_held C) I.kIn J e (fun z => nomatch z) fun tk => ⟨.bl b, H, I.tok tk, rfl, q⟩
theorem call_isXT (C : ExcC X.K D) (hz : Zc cls d oe) (hf : ∃ vs, oe.data = .fields vs) : CallR (X.suite a ((a, oe) :: pn)) (.builtin "isinstance")
    (fun xs H Q => ∃ (tp : Addr) (cs : List V) (ws : List Value) (b : Bool) (dd : Addr) (fs : List (Str × V)), xs = [.ref a, .ref tp] ∧ H tp = some (.tup cs) ∧ Paired ClsV cs ws ∧ cls = .ref D ∧ d = some dd ∧ H dd = some (.xd fs) ∧
      PySem.W.kitAny X.K (.ref D) ws = some b ∧ Q (.bl b) H) := by
  intro pins s σ H xs us Q I r h
  obtain ⟨tp, cs, ws, b, dd, fs, rfl, hT, k, ec, ed, ea, e, q⟩ := h
  obtain ⟨u1, u2, rfl, r1, r2⟩ := vals2 r
  cases (show u1 = Value.ref a from r1)
  cases (show u2 = Value.ref tp from r2)
  obtain ⟨od, J⟩ := held_inst hz hf I ec ed ea
  obtain ⟨_, its, rv, o, h1, h2, n, h3⟩ := (show ObjOk X.prog X.w H s.heap tp (.tup cs) from I.hok tp _ hT)
  have e3 := ClsV.all k rv
  subst e3
  obtain ⟨oc, ood, dt, sl⟩ := o
  simp only at h2 h3
  subst h2 h3
  exact PySem.W.kia_tup (kit_held C) I.kIn J h1 e (fun z => nomatch z) fun tk => ⟨.bl b, H, I.tok tk, rfl, q⟩
end
end Par
namespace Par
open PySem PySem.Spec PyProof.Rows L2
/-! ### errors over any built-in base -/
/-- own classes, then the base's own line -/
def Over (tail l : List Value) : Prop := tail ≠ [] ∧ ∃ cs : List Addr, l = cs.map Value.ref ++ tail
theorem Over.cons {tail l : List Value} (h : Over tail l) (c : Addr) : Over tail (.ref c :: l) := by
  obtain ⟨h1, cs, e⟩ := h
  exact ⟨h1, c :: cs, by rw [e]; rfl⟩
theorem Over.nonempty {tail l : List Value} (h : Over tail l) : l.isEmpty = false := by
  obtain ⟨h1, cs, e⟩ := h
  subst e
  cases cs with
  | cons c cs => rfl
  | nil =>
    cases tail with
    | nil => exact absurd rfl h1
    | cons _ _ => rfl
theorem Over.has {tail l : List Value} (h : Over tail l) (T : String) : l.contains (.type T) = tail.contains (.type T) := by
  obtain ⟨_, cs, e⟩ := h
  subst e
  induction cs with
  | nil => rfl
  | cons c cs ih =>
    show ((Value.type T == Value.ref c) || _) = _
    rw [show (Value.type T == Value.ref c) = false from rfl, Bool.false_or]
    exact ih
theorem Over.lets {tail l : List Value} (h : Over tail l) (ok : ∀ self, refuseLoop self "__setattr__" tail = pure ()) (self : Value) : refuseLoop self "__setattr__" l = pure () := by
  obtain ⟨_, cs, e⟩ := h
  subst e
  induction cs with
  | nil => exact ok self
  | cons c cs ih =>
    show refuseLoop self "__setattr__" (Value.ref c :: (cs.map Value.ref ++ tail)) = pure ()
    rw [refuseLoop_ref]
    exact ih
section
variable {prog : Program} {w : World} {A : Around} {R : Result → Shared → Prop} {hp : Heap} {g : Array GenState} {d : Drawn} {t : Nat} {os : OsState}
open Builtin Builtin.ObjectAttr PySem.W PySem.HandSPX in
/-- the first field of an error -/
theorem first_field {K : PySem.W.Frag} {fld : Str} {tk : Tok} {v : Value} {x C : Addr} {fv : Array Value} {cd : ClassData} {tail : List Value} (X : K.In hp)
    (at_ : hp.get? x = some { cls := .ref C, data := .fields fv }) (isC : clsIn K C = some cd) (ov : Over tail cd.mro) (objd : tail.contains (.type "object") = true)
    (ok : ∀ self, refuseLoop self "__setattr__" tail = pure ()) (own : cd.hasDict = true) (no : findIn K (.ref C) fld = some none)
    (out : ∀ h' tk' dx, (∀ b o, b ≠ x → hp.get? b = some o → h'.get? b = some o) → hp.objs.size ≤ dx → dx ≠ x → h'.get? x = some { cls := .ref C, dict := some dx, data := .fields fv } →
      h'.Ns1 dx (fun y => if y = fld then some v else none) → R (.ok (.ret .none)) ⟨h', g, d, tk', os⟩) :
    codeAny (model prog w) A (.call (.builtin "object.__setattr__") ⟨[.ref x, .str fld tk, v], []⟩) R ⟨hp, g, d, t, os⟩ := by
  have inst : InstAt hp x { cls := .ref C, data := .fields fv } C none := ⟨at_, rfl, rfl, trivial⟩
  have st := F.store_object
  have hObj : cd.mro.contains (.type "object") = true := (ov.has "object").trans objd
  have far : x ≠ hp.objs.size := Nat.ne_of_lt (Heap.lt_size at_)
  have isObj : Looks (model prog w) hp (isInstance (.ref x) (.type "object")) true :=
    inst.type.andThen (looks_mroIn X (by unfold mroIn; rw [isC, Option.bind_some, if_neg (by rw [ov.nonempty]; decide), hObj]))
  refine codeAny_call_builtin st.slot.plain st.entry (@check_slot (model prog w) _ _ ⟨hp, g, d, t, os⟩ "object.__setattr__" "object" "__setattr__"
    (.ref x) [.str fld tk, v] [] _ st.kind st.split isObj (st.args (.ref x) (.str fld tk) v) ?_)
  have lm : Looks (model prog w) hp (mroOf (.ref C)) cd.mro := (looks_clsIn X isC).andThen .now
  have ln : Looks (model prog w) hp (storeTaker? none) none := .now
  have lc : Looks (model prog w) hp (classData C) cd := looks_clsIn X isC
  rw [osa_eq, refuse_eq]
  refine wpAny_bind (wpAny_bind (inst.type.at (wpAny_bind (lm.at ?_))))
  rw [ov.lets ok]
  refine wpAny_pure (wpAny_bind (inst.type.at (wpAny_bind ((looks_findIn X no).at (wpAny_bind (ln.at ?_))))))
  show wpAny _ _ (storeInOwnDict (.ref x) (.ref C) (.str fld tk) fld v false) _ _ _
  obtain ⟨nm, bs, mro, ns, qn, hd, sn, sb, ab, col, dl⟩ := cd
  dsimp only at own
  subst own
  unfold storeInOwnDict ownDictForStores
  repeat (first | with_reducible refine store_in_new ?_ ?_ | with_reducible refine wpAny_loadPart_at at_ ?_ | with_reducible refine lc.at ?_ | wp_step)
  · exact ⟨_, #[], _, (Heap.get?_update_ne _ _ _ _ far.symm).trans (Heap.get?_push_at rfl rfl), rfl, fun e z => absurd z (by simp), fun _ => rfl⟩
  · intro h' tk' made kept
    have old : (hp.push { cls := .type "dict", data := .dict #[] }).get? x = some { cls := .ref C, data := .fields fv } := Heap.get?_push_of_some _ at_
    refine out h' tk' hp.objs.size (fun b o nb e => ?_) (Nat.le_refl _) far.symm ?_ made
    · exact (kept.2 b (Nat.ne_of_lt (Heap.lt_size e))).trans ((Heap.get?_update_ne _ _ _ _ nb).trans (Heap.get?_push_of_some _ e))
    · exact (kept.2 x far).trans (Heap.get?_update_self _ old rfl)
open Builtin Builtin.ObjectAttr PySem.W PySem.HandSPX PySem.OEX in
/-- a further field of an error -/
theorem more_field {K : PySem.W.Frag} {fld : Str} {tk : Tok} {v : Value} {x C dx : Addr} {fv : Array Value} {cd : ClassData} {tail : List Value} {m0 : Str → Option Value} {nl : List Str} (X : K.In hp)
    (at_ : hp.get? x = some { cls := .ref C, dict := some dx, data := .fields fv }) (names : hp.Ns1 dx m0) (win : Within m0 nl) (few : nl.length ≤ 1000) (isC : clsIn K C = some cd) (ov : Over tail cd.mro)
    (objd : tail.contains (.type "object") = true) (ok : ∀ self, refuseLoop self "__setattr__" tail = pure ()) (own : cd.hasDict = true) (no : findIn K (.ref C) fld = some none)
    (out : ∀ h' tk', (∀ b o, b ≠ dx → hp.get? b = some o → h'.get? b = some o) → h'.Ns1 dx (fun y => if y = fld then some v else m0 y) → R (.ok (.ret .none)) ⟨h', g, d, tk', os⟩) :
    codeAny (model prog w) A (.call (.builtin "object.__setattr__") ⟨[.ref x, .str fld tk, v], []⟩) R ⟨hp, g, d, t, os⟩ := by
  obtain ⟨od, esd, epd, atD, dtD, _⟩ := names.count win
  have inst : InstAt hp x { cls := .ref C, dict := some dx, data := .fields fv } C (some od) := ⟨at_, rfl, rfl, atD⟩
  have st := F.store_object
  have hObj : cd.mro.contains (.type "object") = true := (ov.has "object").trans objd
  have isObj : Looks (model prog w) hp (isInstance (.ref x) (.type "object")) true :=
    inst.type.andThen (looks_mroIn X (by unfold mroIn; rw [isC, Option.bind_some, if_neg (by rw [ov.nonempty]; decide), hObj]))
  refine codeAny_call_builtin st.slot.plain st.entry (@check_slot (model prog w) _ _ ⟨hp, g, d, t, os⟩ "object.__setattr__" "object" "__setattr__"
    (.ref x) [.str fld tk, v] [] _ st.kind st.split isObj (st.args (.ref x) (.str fld tk) v) ?_)
  have lm : Looks (model prog w) hp (mroOf (.ref C)) cd.mro := (looks_clsIn X isC).andThen .now
  have ln : Looks (model prog w) hp (storeTaker? none) none := .now
  have lc : Looks (model prog w) hp (classData C) cd := looks_clsIn X isC
  rw [osa_eq, refuse_eq]
  refine wpAny_bind (wpAny_bind (inst.type.at (wpAny_bind (lm.at ?_))))
  rw [ov.lets ok]
  refine wpAny_pure (wpAny_bind (inst.type.at (wpAny_bind ((looks_findIn X no).at (wpAny_bind (ln.at ?_))))))
  show wpAny _ _ (storeInOwnDict (.ref x) (.ref C) (.str fld tk) fld v false) _ _ _
  obtain ⟨nm, bs, mro, ns, qn, hd, sn, sb, ab, col, dl⟩ := cd
  dsimp only at own
  subst own
  unfold storeInOwnDict ownDictForStores
  repeat (first | with_reducible refine store_in_old names win few ?_ | with_reducible refine wpAny_loadPart_at at_ ?_ | with_reducible refine lc.at ?_ | wp_step)
  intro h' tk' made kept
  exact out h' tk' (fun b o nb e => (kept.2 b nb).trans e) made
end
/-- what is known of a built-in base -/
structure Bas (newId : String) (tail : List Value) : Prop where
  base : ∃ B initId, ExcBaseFacts B newId initId tail
  full : tail ≠ []
  objd : tail.contains (.type "object") = true
  lets : ∀ self, refuseLoop self "__setattr__" tail = pure ()
theorem bas_value : Bas "ValueError.__new__" [.type "ValueError", .type "Exception", .type "BaseException", .type "object"] := ⟨⟨_, _, F.excBase_ValueError⟩, by simp, by decide +kernel, F.store_ValueError.passes⟩
theorem bas_lookup : Bas "LookupError.__new__" [.type "LookupError", .type "Exception", .type "BaseException", .type "object"] := ⟨⟨_, _, F.excBase_LookupError⟩, by simp, by decide +kernel, F.store_LookupError.passes⟩
theorem bas_runtime : Bas "RuntimeError.__new__" [.type "RuntimeError", .type "Exception", .type "BaseException", .type "object"] := ⟨⟨_, _, F.excBase_RuntimeError⟩, by simp, by decide +kernel, F.store_RuntimeError.passes⟩
theorem bas_arith : Bas "ArithmeticError.__new__" [.type "ArithmeticError", .type "Exception", .type "BaseException", .type "object"] := ⟨⟨_, _, F.excBase_ArithmeticError⟩, by simp, by decide +kernel, F.store_ArithmeticError.passes⟩
/-- an own class of errors over such a base -/
structure ErrC (K : PySem.W.Frag) (C : Addr) : Prop where
  is : ∃ newId tail nm q N bs bm sn sub ab col dd k0 k1 k2 k3 k5, Bas newId tail ∧ K.lookup C = some (excClassObj nm q C N bs bm true sn sub ab col dd k0 k1 k2 k3 k5 newId) ∧ ∃ cs : List Addr, bm = cs.map Value.ref ++ tail
  sets : PySem.W.findIn K (.ref C) "__setattr__" = some (some (.builtin "object.__setattr__"))
  exc : PySem.W.subIn K (.ref C) (.type "BaseException") = some true
  typ : PySem.W.typeIn K (.ref C) = some (.type "type")
  kept : PySem.W.keepIn K (.ref C) = true
section
variable {X : Cx} {pins : List (Addr × Obj)} {σ : L2.St} {H : Hp} {s : Shared} {a C dx : Addr} {f : Str} {y : V} {u : Value} {fs : List (Str × V)} {Q : Unit → Shared → Prop} {E : Value → Shared → Prop} {A : Around}
theorem err_first (T : ErrC X.K C) (I : L2.Inv X pins σ H s) (e : H a = some (exo a C none)) (no : PySem.W.findIn X.K (.ref C) f = some none) (ry : RelV y u)
    (out : ∀ dx s', H dx = none → dx ≠ a → L2.Inv X pins σ (upd (upd H dx (exd dx [(f, y)])) a (exo a C (some dx))) s' → Q () s') : wpAny (model X.prog X.w) A (setAttr (.ref a) f u) Q E s := by
  obtain ⟨newId, tail, nm, q, N, bs, bm, sn, sub, ab, col, dd, k0, k1, k2, k3, k5, bas, atC, cs, ebm⟩ := T.is
  have isC : PySem.W.clsIn X.K C = some { name := nm, bases := bs, mro := .ref C :: bm, ns := N, qualname := q, hasDict := true, slotNames := sn, subclasses := sub, abstract := ab, collection := col, hasDel := false } := by
    unfold PySem.W.clsIn
    rw [atC]
  have ov : Over tail (.ref C :: bm) := Over.cons ⟨bas.full, cs, ebm⟩ C
  obtain ⟨t1, ho⟩ := exo_at I.hok e
  obtain ⟨hp, g, d, t, os⟩ := s
  refine PySem.W.set_plain I.kIn (ox := { cls := .ref C, dict := none, data := .fields #[.ref t1, .none, .none, .none, .bool false, .none] }) (od := none) ⟨ho, rfl, rfl, trivial⟩ T.sets ?_
  refine first_field I.kIn ho isC ov bas.objd bas.lets rfl no fun h' tk' dx k dn dne hx hn => ?_
  have free : H dx = none := I.hok.fresh dn
  have apart : ∀ {b : Addr} {o : Obj}, hp.get? b = some o → b ≠ dx := fun {b o} z => Nat.ne_of_lt (Nat.lt_of_lt_of_le (Heap.lt_size z) dn)
  have else_ : ∀ {b : Addr}, H b = none → b ≠ a := fun {b} n z => by
    rw [z, e] at n
    cases n
  have un : Un X.fs [] H (upd (upd H dx (exd dx [(f, y)])) a (exo a C (some dx))) hp h' := {
    keep := fun b o z n _ _ => k b o (else_ n) z
    slot := fun b o z n _ _ => ⟨o.slots, k b o (else_ n) z⟩
    free := fun b o z n _ => by
      rw [upd_ne (else_ n), upd_ne (apart z)]
      exact n
    there := fun b o z _ => by
      by_cases hb : b = a
      · exact ⟨_, by rw [hb]; exact hx⟩
      · exact ⟨o, k b o hb z⟩
    tups := fun b xs z => by
      rw [upd_ne (at_ne e z exo_tup), upd_ne (ne_of_none z free)]
      exact z
    frzs := fun b o v z => by
      rw [upd_ne (at_ne e z exo_frz), upd_ne (ne_of_none z free)]
      exact z
    tbls := fun b ps z => ⟨#[], by
      rw [upd_ne (at_ne e z exo_tbl), upd_ne (ne_of_none z free), z]
      simp⟩ }
  refine out dx _ free dne (I.un (t' := tk') un fun b o z => ?_)
  by_cases hb : b = a
  · subst hb
    rw [upd_same] at z
    cases z
    exact exo_ok hx
  · rw [upd_ne hb] at z
    by_cases hd : b = dx
    · subst hd
      rw [upd_same] at z
      cases z
      exact exd_ok hn (relO_put (fs := []) ry fun g => True.intro)
    · rw [upd_ne hd] at z
      refine (I.hok b o z).stay (fun c v hc z2 => k c v ?_ z2) (fun c hc => ?_) (fun c xs hc => ?_)
      · rcases hc with hc | hc
        · rw [hc]
          exact hb
        · exact at_ne e hc exo_own
      · rw [upd_ne (at_ne e hc exo_own), upd_ne (ne_of_none hc free)]
        exact hc
      · rw [upd_ne (at_ne e hc exo_tup), upd_ne (ne_of_none hc free)]
        exact hc
theorem err_more (T : ErrC X.K C) (I : L2.Inv X pins σ H s) (e : H a = some (exo a C (some dx))) (ed : H dx = some (exd dx fs)) (few : fs.length ≤ 900) (no : PySem.W.findIn X.K (.ref C) f = some none) (ry : RelV y u)
    (out : ∀ s', L2.Inv X pins σ (upd H dx (exd dx ((f, y) :: fs))) s' → Q () s') : wpAny (model X.prog X.w) A (setAttr (.ref a) f u) Q E s := by
  obtain ⟨newId, tail, nm, q, N, bs, bm, sn, sub, ab, col, dd, k0, k1, k2, k3, k5, bas, atC, cs, ebm⟩ := T.is
  have isC : PySem.W.clsIn X.K C = some { name := nm, bases := bs, mro := .ref C :: bm, ns := N, qualname := q, hasDict := true, slotNames := sn, subclasses := sub, abstract := ab, collection := col, hasDel := false } := by
    unfold PySem.W.clsIn
    rw [atC]
  have ov : Over tail (.ref C :: bm) := Over.cons ⟨bas.full, cs, ebm⟩ C
  obtain ⟨t1, ho⟩ := exo_at I.hok e
  obtain ⟨mA, names, rel⟩ := exd_at I.hok ed
  have win := within_of rel
  obtain ⟨hp, g, d, t, os⟩ := s
  obtain ⟨oD, _, _, atD, _, _⟩ := names.count win
  refine PySem.W.set_plain I.kIn (ox := { cls := .ref C, dict := some dx, data := .fields #[.ref t1, .none, .none, .none, .bool false, .none] }) (od := some oD) ⟨ho, rfl, rfl, atD⟩ T.sets ?_
  refine more_field I.kIn ho names win (by rw [List.length_map]; omega) isC ov bas.objd bas.lets rfl no fun h' tk' k hn => ?_
  have stands : ∃ o, h'.get? dx = some o := by
    obtain ⟨o, _, _, z, _⟩ := hn
    exact ⟨o, z⟩
  exact out _ (I.write (t' := tk') (x := dx) (e := dx) (o := exd dx ((f, y) :: fs)) (by rw [ed]; exact True.intro) (.inl rfl) k stands (exd_ok hn (relO_put ry rel)))
end
/-- self.f = e in an error's __init__ -/
def tErrS (K : PySem.W.Frag) (f : Str) (to te : TE) : TS := fun D σ H => te σ H fun y H1 => to σ H1 fun x H2 => ∃ a C : Addr, x = .ref a ∧ ErrC K C ∧ PySem.W.findIn K (.ref C) f = some none ∧
  ((H2 a = some (exo a C none) ∧ ∀ dx, H2 dx = none → dx ≠ a → D.nx σ (upd (upd H2 dx (exd dx [(f, y)])) a (exo a C (some dx)))) ∨
    ∃ (dx : Addr) (fs : List (Str × V)), H2 a = some (exo a C (some dx)) ∧ H2 dx = some (exd dx fs) ∧ fs.length ≤ 900 ∧ D.nx σ (upd H2 dx (exd dx ((f, y) :: fs))))
section
variable {X : Cx} {o e : Expr} {es : List Expr} {to te : TE} {ta : TA} {f : Str} {p p' pos : Pos}
theorem ps_errS (ho : PE X o to) (he : PE X e te) (hs : swapsWith e (some (.Attribute o f p')) pos.line X.env = pure false := by rfl) : PS X (.Assign [.Attribute o f p'] e pos) (tErrS X.K f to te) := by
  refine ⟨fun pins s σ H D I h => ?_⟩
  refine plainObj_wpAny_Assign_Attribute (thn (he.run pins s σ H _ I h) ?_) hs
  rintro v s1 ⟨y, H1, I1, r1, q1⟩
  refine thn (ho.run pins s1 σ H1 _ I1 q1) ?_
  rintro u s2 ⟨x, H2, I2, r2, a, C, ex, T, no, q⟩
  subst ex
  obtain rfl : u = Value.ref a := r2
  rcases q with ⟨ea, q⟩ | ⟨dx, fs, ea, ed, few, q⟩
  · exact err_first T I2 ea no r1 fun dx s' n ne J => ⟨σ, _, J, q dx n ne⟩
  · exact err_more T I2 ea ed few no r1 fun s' J => ⟨σ, _, J, q⟩
/-- C(e, ..) of an error whose own __init__ keeps its promise -/
theorem pmk_err {CX : CXT} {x : Str} {C fI : Addr} {k : Nat} {fd : FuncData} {ps : List Str} {sp : Sp} {ds : List Value} {dvs : List V} (T : ErrC X.K C) (ini : PySem.W.findIn X.K (.ref C) "__init__" = some (some (.ref fI)))
    (isF : PySem.W.typeIn X.K (.ref fI) = some (.type "function")) (G : FnOk X.prog X.w X.K X.mg X.base CX k fI fd ps sp) (hr : Room (k + 1) X.A) (hb : Binds X.K fd ps ds) (hd : Vals dvs ds) (hx : Passes CX X (fun _ _ _ => False))
    (hg : Gl X x) (hm : X.mg x = some (.ref C)) (ha : PA X (e :: es) ta)
    (hdb : (x == ("__debug__" : Str)) = false := by decide) (he : starEach (e :: es) X.env = (false, eval e X.env) :: starEach es X.env := by rfl) (hpl : (backTo pos (starEach es X.env)).any (·.1) = false := by rfl) :
    PMk X (.Call (.Name x p) (e :: es) [] pos) (tMkO C sp dvs ta) := by
  intro pins s σ H Q I h
  obtain ⟨newId, tail, nm, q, N, bs, bm, sn, sub, ab, col, dd, k0, k1, k2, k3, k5, bas, atC, cs, ebm⟩ := T.is
  obtain ⟨B, initId, facts⟩ := bas.base
  have ov : Over tail bm := ⟨bas.full, cs, ebm⟩
  refine wpAny_Call_Name_kw (ld_glob I hg hm ?_ hdb)
  refine PySem.W.callWith_K (h₀ := X.base) I.ok.mod.kin T.kept (thn (ha.run pos pins s σ H _ I h) ?_) he hpl
  rintro us s1 ⟨vs, H1, I1, r1, few, q1⟩
  refine ⟨I1.kIn, ?_⟩
  show wpAny _ _ (call (.ref C) us) _ _ _
  obtain ⟨hp, g, dr, tk, os⟩ := s1
  have up : hp.objs.size ≤ hp.objs.size + 1 := Nat.le_succ _
  have want := q1 (hp.objs.size + 1) (I1.hok.fresh up)
  have old : ∀ b o, hp.get? b = some o → ((hp.push (PySem.W.kdv_tup us)).push (PySem.HandSPX.excO C hp.objs.size)).get? b = some o := fun b o z => Heap.get?_push_of_some _ (Heap.get?_push_of_some _ z)
  have made : ((hp.push (PySem.W.kdv_tup us)).push (PySem.HandSPX.excO C hp.objs.size)).get? (hp.objs.size + 1) = some (PySem.HandSPX.excO C hp.objs.size) := by heap_get
  have I2 : L2.Inv X pins σ (upd H1 (hp.objs.size + 1) (exo (hp.objs.size + 1) C none)) ⟨(hp.push (PySem.W.kdv_tup us)).push (PySem.HandSPX.excO C hp.objs.size), g, dr, tk, os⟩ :=
    I1.laid (t' := tk) (a := hp.objs.size + 1) (o := exo (hp.objs.size + 1) C none) (h' := (hp.push (PySem.W.kdv_tup us)).push (PySem.HandSPX.excO C hp.objs.size)) old up (exo_ok made)
  have rel : Vals (V.ref (hp.objs.size + 1) :: (vs ++ dvs)) (Value.ref (hp.objs.size + 1) :: (us ++ ds)) := .cons rfl (r1.append hd)
  have len : (Value.ref (hp.objs.size + 1) :: us ++ ds).length = ps.length := by
    have z := rel.length
    rw [G.len _ _ _ _ want] at z
    exact z.symm
  have short : us.length ≤ sizeLine := by
    rw [← Paired.length r1, sizeLine_eq]
    omega
  refine wpAny_call (PySem.HandSPX.call_own facts (fun Y => ov.has Y) (I1.kIn _ _ atC) (PySem.W.looks_findIn I1.kIn ini) (fun self => PySem.W.bind_fn I1.kIn self isF) short (codeAny_mono
    (G.run _ X.stack _ _ ⟨Value.ref (hp.objs.size + 1) :: us, []⟩ (Value.ref (hp.objs.size + 1) :: (us ++ ds)) _ _ (fun _ _ _ => False) (hr.make C us []) (I2.env0.make C us []) (hb _ (Value.ref (hp.objs.size + 1) :: us) I2.kIn len) rel want) ?_))
  intro r s' z
  cases r with
  | error er => exact hx pins σ _ _ er s' I2 z
  | ok fl =>
    cases fl with
    | next => exact False.elim z
    | brk => exact False.elim z
    | cont => exact False.elim z
    | ret u =>
      obtain ⟨v, H2, os2, bare2, un2, hok2, rv, ev, d, fs, ea, ed, hd1, q2⟩ := z
      subst ev
      obtain ⟨h2, g2, d2, t2, os'⟩ := s'
      exact ⟨rv, mk_end (raises_own T.exc T.typ) I1 up old un2 hok2 os2 bare2 ea ed hd1 q2⟩
end
end Par
namespace K33
open PySem PySem.Spec PyProof.Rows L2 Par
/-- what the module says of TooWide -/
structure WC (K : PySem.W.Frag) (mg : Str → Option Value) (C : Addr) : Prop where
  gC : mg "TooWide" = some (.ref C)
  err : ErrC K C
  no : PySem.W.findIn K (.ref C) "needed" = some none
section
variable {P : Program} {w : World} {K : PySem.W.Frag} {mg : Str → Option Value} {base : Heap}
def spWIni (C : Addr) : Sp := fun vs H Q _ => ∃ (a : Addr) (v : V), vs = [.ref a, v] ∧ H a = some (exo a C none) ∧
  ∀ dx, H dx = none → dx ≠ a → Q .non (upd (upd H dx (exd dx [("needed", v)])) a (exo a C (some dx)))
theorem scWIni : FnScope ["self", "needed"] ["self", "needed"] (defScope sWIni) := ⟨rfl, rfl, rfl, by decide +kernel, rfl, by decide +kernel, by decide +kernel⟩
theorem ok_wini {f C : Addr} {fd : FuncData} (F : Fun K "__init__" "TooWide.__init__" sWIni f fd) (T : WC K mg C) : FnOk P w K mg base CX0 2 f fd ["self", "needed"] (spWIni C) := by
  refine F.ok scWIni (fun vs H Q E h => ?_) (fun cdv A outer s H vs Q E hr h => ?_)
  · obtain ⟨a, v, rfl, _⟩ := h
    rfl
  · obtain ⟨a, v, rfl, ha, out⟩ := h
    refine ⟨_, pss_one (ps_errS (pv 0) (pv 1)), ?_⟩
    exact ⟨_, rfl, _, rfl, a, C, rfl, T.err, T.no, .inl ⟨ha, out⟩⟩
def HasW (P : Program) (w : World) (K : PySem.W.Frag) (mg : Str → Option Value) (base : Heap) (C : Addr) : Prop :=
  ∃ f fd, FnOk P w K mg base CX0 2 f fd ["self", "needed"] (spWIni C) ∧ PySem.W.findIn K (.ref C) "__init__" = some (some (.ref f)) ∧ PySem.W.typeIn K (.ref f) = some (.type "function") ∧ Binds K fd ["self", "needed"] []
/-- what raise TooWide(v) leads to -/
theorem made_wide {C : Addr} {H : Hp} {v : V} {W : Value → Option Addr → Hp → Prop} (h : ∀ d H', H d = none → Same H H' → H' d = some (.xd [("needed", v)]) → W (.ref C) (some d) H') :
    ∀ a, H a = none → spWIni C (.ref a :: ([v] ++ [])) (upd H a (exo a C none)) (fun u H2 => u = .non ∧ ∃ (d : Addr) (fs : List (Str × V)), H2 a = some (exo a C (some d)) ∧ H2 d = some (exd d fs) ∧ H d = none ∧
      W (.ref C) (some d) (upd (del H2 a) d (.xd fs))) (fun _ _ _ => False) := by
  intro a ha
  refine ⟨a, v, rfl, upd_same, fun dx hd ne => ?_⟩
  rw [upd_ne ne] at hd
  refine ⟨rfl, dx, [("needed", v)], upd_same, by rw [upd_ne ne, upd_same], hd, ?_⟩
  refine h dx _ hd (fun b o e => ?_) upd_same
  have n1 := ne_of_none e hd
  have n2 := ne_of_none e ha
  rw [upd_ne n1, del_ne n2, upd_ne n2, upd_ne n1, upd_ne n2]
  exact e
/-- cells that a flip may have -/
def OkF (ts hs : List Int) : Prop := (∀ k ∈ ts, 0 ≤ k ∧ k < 40) ∧ (∀ k ∈ hs, 1 ≤ k ∧ k < 40) ∧ ts.Nodup ∧ hs.Nodup ∧ ts.length ≤ 40 ∧ hs.length ≤ 40
def aftB (bs ts hs : List Int) : List Int := if decide (parB bs ts = 1) = true then flipB bs hs else bs
/-- check_fit -/
def spFit (CF CW : Addr) : Sp := fun vs H Q E => ∃ (f : Addr) (ts hs : List Int) (n : Int), vs = [.ref f, .int n] ∧ Fp CF H f ts hs ∧ OkF ts hs ∧
  (∀ M, Fits ts hs M → M ≤ n → ∀ H', Same H H' → Q .non H') ∧
  (∀ M, Fits ts hs M → n < M → ∀ d H', H d = none → Same H H' → H' d = some (.xd [("needed", .int M)]) → E (.ref CW) (some d) H')
theorem scFit : FnScope ["flip", "size"] ["flip", "size"] (defScope sFit) := ⟨rfl, rfl, rfl, by decide +kernel, rfl, by decide +kernel, by decide +kernel⟩
theorem ok_fit {f CF CW : Addr} {fd : FuncData} (F : Fun K "check_fit" "check_fit" sFit f fd) (TF : FC K mg CF) (TW : WC K mg CW) (DW : HasM P w K mg base CF "width" 2 ["self"] (spFWidth CF)) (DI : HasW P w K mg base CW) :
    FnOk P w K mg base (L2.CX P w) 4 f fd ["flip", "size"] (spFit CF CW) := by
  obtain ⟨fW, fdW, GW, mW, bW⟩ := DW
  obtain ⟨fI, fdI, GI, iI, tI, bI⟩ := DI
  refine F.okX scFit (fun vs H Q E h => ?_) (fun cdv A outer s H vs Q E hr h => ?_)
  · obtain ⟨g, ts, hs, n, rfl, _⟩ := h
    rfl
  · obtain ⟨g, ts, hs, n, rfl, hF, hK, good, bad⟩ := h
    obtain ⟨k1, k2, k3, k4, k5, k6⟩ := id hK
    have r1 : Room 2 _ := hr.mono (by decide)
    obtain ⟨dg, t1, t2, f1, f2, f3⟩ := id hF
    refine ⟨_, pss_one (ps_if (pt_cmpR op_gt (pe_meth0 (pv 0) TF.cl mW GW r1 bW .nil pass0) (pv 1) (nomark _)) (pss_one (ps_raise rfl (takes_of rfl rfl rfl rfl) (pmk_err TW.err iI tI GI hr bI .nil pass0 (by rfl) TW.gC (pa_cons (pe_meth0 (pv 0) TF.cl mW GW r1 bW .nil pass0) pa_nil)))) pss_nil), ?_⟩
    have n1 := no2 (v := V.ref t1) (u := V.ref t2) (m := "width") (by decide +kernel) (by decide +kernel)
    refine ⟨_, rfl, g, dg, _, rfl, f1, n1, g, ts, hs, rfl, hF, by omega, by omega, fun k hk => (k1 k hk).1, fun k hk => by have := k2 k hk; omega, fun M H1 s1 fit => ?_⟩
    refine ⟨_, rfl, M, n, rfl, rfl, _, rfl, ite2 (fun hgt => ?_) (fun hle => ?_)⟩
    · have gt : n < M := of_decide_eq_true hgt
      refine ⟨_, rfl, g, dg, _, rfl, s1 _ _ f1, n1, g, ts, hs, rfl, hF.same s1, by omega, by omega, fun k hk => (k1 k hk).1, fun k hk => by have := k2 k hk; omega, fun M2 H2 s2 fit2 => ?_⟩
      have e := fit.one fit2
      subst e
      refine ⟨(by show 1 ≤ 1000; decide), made_wide fun d H' hd sm ed => ?_⟩
      exact bad M fit gt d H' ((s1.trans s2).free hd) ((s1.trans s2).trans sm) ed
    · have le : M ≤ n := by
        have : ¬ (M > n) := fun z => hle (decide_eq_true z)
        omega
      exact good M fit le H1 s1
def HasFit (P : Program) (w : World) (K : PySem.W.Frag) (mg : Str → Option Value) (base : Heap) (CF CW : Addr) : Prop :=
  ∃ f fd, FnOk P w K mg base (L2.CX P w) 4 f fd ["flip", "size"] (spFit CF CW) ∧ mg "check_fit" = some (.ref f) ∧ PySem.W.keepIn K (.ref f) = true ∧ Binds K fd ["flip", "size"] []
theorem flip_nil (bs : List Int) : flipB bs [] = bs := by
  refine List.ext_getElem (by rw [flipB_len]) fun i h1 h2 => ?_
  unfold flipB
  simp [List.getElem?_eq_getElem h2]
end
end K33
namespace K33
open PySem PySem.Spec PyProof.Rows L2 Par
theorem up_cons {bs : List Int} (h : OkB bs) : ∃ t, bs = 1 :: t ∧ upF 0 bs = 0 :: upF 1 t := by
  cases bs with
  | nil => cases h.2.1
  | cons b t =>
    have e : b = 1 := by simpa using h.2.1
    subst e
    exact ⟨t, rfl, rfl⟩
theorem mk_all {bs : List Int} (h : OkB bs) : (mkB bs.length fun k => decide (k ∈ upF 0 bs)) = bs := by
  refine List.ext_getElem (mkB_len _ _) fun i h1 h2 => ?_
  have e : (mkB bs.length fun k => decide (k ∈ upF 0 bs))[i] = if (decide (i = 0) || decide ((i : Int) ∈ upF 0 bs)) = true then 1 else 0 := by
    unfold mkB
    simp
  rw [e]
  have g : bs.getD i 0 = bs[i] := by
    rw [List.getD_eq_getElem?_getD, List.getElem?_eq_getElem h2]
    rfl
  by_cases z : i = 0
  · subst z
    rw [decide_eq_true rfl, Bool.true_or, if_pos rfl, ← g, List.getD_eq_getElem?_getD, h.2.1]
    rfl
  · rw [decide_eq_false z, Bool.false_or]
    by_cases u : (i : Int) ∈ upF 0 bs
    · rw [decide_eq_true u, if_pos rfl, ← g]
      exact ((up_iff i h2).mp u).symm
    · rw [decide_eq_false u, if_neg Bool.false_ne_true, ← g]
      exact ((bit_at h h2).resolve_right fun q => u ((up_iff i h2).mpr q)).symm
theorem parB_perm {bs ns ms : List Int} (h : ns.Perm ms) : parB bs ns = parB bs ms := by
  unfold parB
  rw [perm_sum (h.map _)]
theorem flip_perm {bs ns ms : List Int} (h : ns.Perm ms) : flipB bs ns = flipB bs ms := by
  unfold flipB
  refine List.map_congr_left fun i _ => ?_
  have e : decide ((i : Int) ∈ ns) = decide ((i : Int) ∈ ms) := by
    by_cases z : (i : Int) ∈ ms
    · rw [decide_eq_true z, decide_eq_true (h.mem_iff.mpr z)]
    · rw [decide_eq_false z, decide_eq_false (fun q => z (h.mem_iff.mp q))]
  rw [e]
theorem aft_perm {bs ts hs ts' hs' : List Int} (h1 : ts'.Perm ts) (h2 : hs'.Perm hs) : aftB bs ts' hs' = aftB bs ts hs := by
  unfold aftB
  rw [parB_perm h1, flip_perm h2]
section
variable {P : Program} {w : World} {K : PySem.W.Frag} {mg : Str → Option Value} {base : Heap}
/-- a board of these bits -/
def spMade (C : Addr) : Sp := fun vs H Q _ => ∃ (a : Addr) (bs : List Int), vs = [.ref a] ∧ H a = some (.lst (bs.map V.int)) ∧ OkB bs ∧ ∀ q H', H q = none → Same H H' → Bd C H' q bs → Q (.ref q) H'
theorem scMade : FnScope ["_law_bits_here"] ["_law_bits_here"] (defScope sMade) := ⟨rfl, rfl, rfl, by decide +kernel, rfl, by decide +kernel, by decide +kernel⟩
theorem ok_made {f C : Addr} {fd : FuncData} (F : Fun K "_law_made" "_law_made" sMade f fd) (B : Bl mg) (T : BC K mg C) (DV : Has P w K mg base "_law_up" 2 ["_law_bits_here"] (spUpL K)) (DI : HasIni P w K mg base C) : FnOk P w K mg base CX0 8 f fd ["_law_bits_here"] (spMade C) := by
  obtain ⟨fV, fdV, GV, mV, kV, bV⟩ := DV
  obtain ⟨fI, fdI, GI, MI, kb2, _⟩ := DI
  refine F.ok scMade (fun vs H Q E h => ?_) (fun cdv A outer s H vs Q E hr h => ?_)
  · obtain ⟨a, bs, rfl, _⟩ := h
    rfl
  · obtain ⟨a, bs, rfl, ha, hO, out⟩ := h
    have r1 : Room 2 _ := hr.mono (by decide)
    have h40 := hO.2.2
    refine ⟨_, pss_one (ps_ret (pe_makeN (n := 1) (ks := ["up"]) (E := E0) MI GI hr (by rfl) T.mgC kb2 pass0 (pa_cons (pe_callB call_len_seq (by rfl) B.len PySem.boot_len (pa_cons (pv 0) pa_nil)) pa_nil) (pk_cons (pe_call GV r1 (by rfl) mV kV bV .nil pass0 (pa_cons (pv 0) pa_nil)) pk_nil))), ?_⟩
    refine ⟨_, rfl, a, _, rfl, .inl (SqL.of ha), ?_⟩
    rw [List.length_map]
    refine ⟨_, rfl, a, bs, rfl, ha, h40, fun u H1 hu s1 hu1 => ?_⟩
    have hl := upF_len 0 bs
    have h1 : 1 ≤ bs.length := by
      have := (List.getElem?_eq_some_iff.mp hO.2.1).1
      omega
    refine ⟨rfl, rfl, made_board (n := bs.length) (ns := upF 0 bs) (.inl (SqL.of hu1)) (by omega) h1 h40 (fun k hk => upF_in hk) (nodup_lt_ (upF_up 0 bs)) fun x H2 hx s2 hB => ?_⟩
    rw [mk_all hO] at hB
    exact out x H2 (s1.free hx) (s1.trans s2) hB
/-- two lists of cells that make a flip, in a tuple -/
def Pr (K : PySem.W.Frag) (H : Hp) (p : Addr) (ts hs : List Int) : Prop := ∃ t h, SqT K H p [.ref t, .ref h] ∧ H t = some (.lst (ts.map V.int)) ∧ H h = some (.lst (hs.map V.int))
theorem Pr.same {H H' : Hp} {p : Addr} {ts hs : List Int} (s : Same H H') (h : Pr K H p ts hs) : Pr K H' p ts hs := by
  obtain ⟨t, g, h1, h2, h3⟩ := h
  exact ⟨t, g, same_sqt s h1, s _ _ h2, s _ _ h3⟩
/-- Flip as a class whose __init__ keeps its promise -/
def HasFI (P : Program) (w : World) (K : PySem.W.Frag) (mg : Str → Option Value) (base : Heap) (C : Addr) : Prop :=
  ∃ f fd, FnOk P w K mg base CX0 6 f fd ["self", "tested", "toggled"] (spFInit K C) ∧ Mk K C f ∧ Binds K fd ["self", "tested", "toggled"] []
def spFlipOf (K : PySem.W.Frag) (C : Addr) : Sp := fun vs H Q _ => ∃ (p : Addr) (ts hs : List Int), vs = [.ref p] ∧ Pr K H p ts hs ∧ OkF ts hs ∧ (comm ts hs).length % 2 = 0 ∧
  ∀ q (ts' hs' : List Int) H', H q = none → Same H H' → ts'.Perm ts → hs'.Perm hs → Fp C H' q ts' hs' → Q (.ref q) H'
theorem scFlipOf : FnScope ["_law_pair_here"] ["_law_pair_here"] (defScope sFlipOf) := ⟨rfl, rfl, rfl, by decide +kernel, rfl, by decide +kernel, by decide +kernel⟩
theorem ok_flipOf {f C : Addr} {fd : FuncData} (F : Fun K "_law_flip_of" "_law_flip_of" sFlipOf f fd) (B : Bl mg) (T : FC K mg C) (DI : HasFI P w K mg base C) : FnOk P w K mg base CX0 8 f fd ["_law_pair_here"] (spFlipOf K C) := by
  obtain ⟨fI, fdI, GI, MI, bI⟩ := DI
  refine F.ok scFlipOf (fun vs H Q E h => ?_) (fun cdv A outer s H vs Q E hr h => ?_)
  · obtain ⟨p, ts, hs, rfl, _⟩ := h
    rfl
  · obtain ⟨p, ts, hs, rfl, ⟨t, g, h1, h2, h3⟩, ⟨k1, k2, k3, k4, k5, k6⟩, ev, out⟩ := h
    refine ⟨_, pss_one (ps_ret (pe_make (E := E0) MI GI hr (by rfl) T.mgC bI .nil pass0 (pa_cons (pe_callTy call_list_of (by rfl) B.list (by decide +kernel) (pa_cons (pe_ix ix_tup (pv 0) pe_int (fun _ _ => rfl)) pa_nil)) (pa_cons (pe_callTy call_list_of (by rfl) B.list (by decide +kernel) (pa_cons (pe_ix ix_tup (pv 0) pe_int (fun _ _ => rfl)) pa_nil)) pa_nil)))), ?_⟩
    refine ⟨_, rfl, p, _, 0, .ref t, rfl, rfl, h1, rfl, t, _, rfl, .inl (SqL.of h2), fun l1 hl1 => ?_⟩
    have s1 := same_new (o := .lst (ts.map V.int)) hl1
    refine ⟨_, rfl, p, _, 1, .ref g, rfl, rfl, same_sqt s1 h1, rfl, g, _, rfl, .inl (SqL.of (s1 _ _ h3)), fun l2 hl2 => ?_⟩
    have s2 := same_new (o := .lst (hs.map V.int)) hl2
    intro x dx hx hdx ne
    have s3 : Same (upd (upd H l1 (.lst (ts.map V.int))) l2 (.lst (hs.map V.int))) (upd (upd (upd (upd H l1 (.lst (ts.map V.int))) l2 (.lst (hs.map V.int))) dx (.own x)) x (.ins C dx [])) := fun z o e => by
      rw [upd_ne (ne_of_none e hx), upd_ne (ne_of_none e hdx)]
      exact e
    refine ⟨x, dx, l1, l2, ts, hs, rfl, upd_same, .inl (SqL.of (s3 _ _ (s2 _ _ upd_same))), .inl (SqL.of (s3 _ _ upd_same)), by omega, by omega, k1, k2, k3, k4, ev, fun H' ts' hs' bt p1 p2 _ _ fp => ⟨rfl, ?_⟩⟩
    have s12 := s1.trans s2
    refine out x ts' hs' H' (s12.free hx) (fun z o e => ?_) p1 p2 fp
    have e2 := s12 z o e
    exact bt z o (ne_of_none e2 hx) (s3 _ _ e2)
/-- the bits after a flip -/
def spAfter (K : PySem.W.Frag) : Sp := fun vs H Q _ => ∃ (a p : Addr) (bs ts hs : List Int), vs = [.ref a, .ref p] ∧ H a = some (.lst (bs.map V.int)) ∧ bs.length ≤ 40 ∧ Pr K H p ts hs ∧ ts.length ≤ 500 ∧ (∀ k ∈ ts, 0 ≤ k ∧ k < bs.length) ∧
  ∀ q H', H q = none → Same H H' → H' q = some (.lst ((aftB bs ts hs).map V.int)) → Q (.ref q) H'
abbrev nAfter : List Str := ["_law_bits_here", "_law_pair_here", "_law_spot", "_law_bit"]
theorem scAfter : FnScope nAfter ["_law_bits_here", "_law_pair_here"] (defScope sAfter) := ⟨rfl, rfl, rfl, by decide +kernel, rfl, by decide +kernel, by decide +kernel⟩
theorem ok_after {f : Addr} {fd : FuncData} (F : Fun K "_law_after" "_law_after" sAfter f fd) (B : Bl mg) (DP : Has P w K mg base "_law_parity" 2 ["_law_bits_here", "_law_spots_here"] (spParity K)) : FnOk P w K mg base CX0 3 f fd ["_law_bits_here", "_law_pair_here"] (spAfter K) := by
  obtain ⟨fP, fdP, GP, mP, kP, bP⟩ := DP
  refine F.ok scAfter (fun vs H Q E h => ?_) (fun cdv A outer s H vs Q E hr h => ?_)
  · obtain ⟨a, p, bs, ts, hs, rfl, _⟩ := h
    rfl
  · obtain ⟨a, p, bs, ts, hs, rfl, ha, h40, ⟨t, g, h1, h2, h3⟩, l1, hin, out⟩ := h
    refine ⟨_, pss_cons (ps_if (pt_cmpR op_eq (pe_call GP hr (by rfl) mP kP bP .nil pass0 (pa_cons (pv 0) (pa_cons (pe_ix ix_tup (pv 1) pe_int (fun _ _ => rfl)) pa_nil))) pe_int (nomark _)) (pss_one (ps_ret (pe_callTy call_list_of (by rfl) B.list (by decide +kernel) (pa_cons (pv 0) pa_nil)))) pss_nil)
      (pss_one (ps_ret (pe_lc (own := [("_law_spot", 2), ("_law_bit", 3)]) (g := gTup K 2 (gCons (gName 2) (gCons (gName 3) gNil))) (te := tIf (tTest (tOp (rIn K false) (tVar 2) (tOp (rIxT K) (tVar 1) (tC (.int 1))))) (tOp (rI0 fun i j => .int (i - j)) (tC (.int 1)) (tVar 3)) (tVar 3)) rfl scAfter.nd (pi_enum (by rfl) B.enumerate (pa_cons (pv 0) pa_nil)) (blkOk_by (own := [("_law_spot", 2), ("_law_bit", 3)]) (N := nAfter) (sc := defScope sAfter) (by decide +kernel))
        (fun _ _ _ _ _ => by exact pg_tup rfl (pgs_cons (pg_name (i := 2) scAfter.nd rfl (Or.inl rfl)) (pgs_cons (pg_name (i := 3) scAfter.nd rfl (Or.inl rfl)) pgs_nil))) (fun _ _ _ _ _ => pts_nil)
        (fun _ _ _ _ _ => by exact pe_ifExp (pt_cmpR op_in_seq (pv 2) (pe_ix ix_tup (pv 1) pe_int (fun _ _ => rfl)) (by rfl)) (pe_op op_sub pe_int (pv 3)) (pv 3))))), ?_⟩
    refine ⟨_, rfl, _, rfl, p, _, 0, .ref t, rfl, rfl, h1, rfl, a, t, bs, ts, rfl, ha, h2, l1, hin, fun H1 s1 => ⟨rfl, _, rfl, ite2 (fun hz => ?_) (fun hz => ?_)⟩⟩
    · have z : parB bs ts = 0 := by
        have q := of_decide_eq_true hz
        injection q
      refine ⟨_, rfl, a, _, rfl, .inl (SqL.of (s1 _ _ ha)), fun l hl => ?_⟩
      refine out l _ (s1.free hl) (s1.trans (same_new hl)) ?_
      have e : aftB bs ts hs = bs := by
        unfold aftB
        rw [decide_eq_false (by rw [z]; decide), if_neg Bool.false_ne_true]
      rw [e]
      exact upd_same
    · have z : parB bs ts = 1 := by
        have n0 : ¬ parB bs ts = 0 := fun q => hz (decide_eq_true (by rw [q]))
        have b0 := Int.emod_nonneg ((ts.map fun k => bs.getD k.toNat 0).sum) (b := 2) (by decide)
        have b1 := Int.emod_lt_of_pos ((ts.map fun k => bs.getD k.toNat 0).sum) (b := 2) (by decide)
        have e : parB bs ts = (ts.map fun k => bs.getD k.toNat 0).sum % 2 := rfl
        omega
      have e : aftB bs ts hs = flipB bs hs := by
        unfold aftB
        rw [decide_eq_true z, if_pos rfl]
      rw [e] at out
      refine ⟨_, rfl, a, _, rfl, SqL.of (s1 _ _ ha), fun D hD => ?_⟩
      refine lc_it walk_enum (fun i H' => Same H1 H' ∧ H' D = some (.lst (((List.range i).map fun (i : Nat) => if decide ((i : Int) ∈ hs) = true then 1 - bs.getD i 0 else bs.getD i 0).map V.int)))
        ⟨same_new hD, upd_same⟩ (fun i H' _ h => SqL.of (h.1 _ _ (s1 _ _ ha))) ?_ ?_
      · rintro i x H4 H5 hi ⟨s4, hD4⟩ ⟨T1, x1, y1, rfl, hT, rfl, ex, ey⟩
        have hi2 : i < bs.length := by rw [List.length_map] at hi; exact hi
        have ey2 : y1 = .int (bs.getD i 0) := by
          have ey' : (bs.map V.int)[i]? = some y1 := ey
          rw [List.getElem?_map, List.getElem?_eq_getElem hi2] at ey'
          rw [List.getD_eq_getElem?_getD, List.getElem?_eq_getElem hi2]
          exact (Option.some.inj ey').symm
        have ex2 : x1 = .int (i : Nat) := (Option.some.inj ex).symm
        subst ey2 ex2
        have s5 := s4.trans (same_new (o := .tup [.int (i : Nat), .int (bs.getD i 0)]) hT)
        have hD5 := (same_new (o := .tup [.int (i : Nat), .int (bs.getD i 0)]) hT) _ _ hD4
        have step : ∀ z : Int, (if decide ((i : Int) ∈ hs) = true then 1 - bs.getD i 0 else bs.getD i 0) = z → ∃ acc, (upd H4 T1 (.tup [.int (i : Nat), .int (bs.getD i 0)])) D = some (.lst acc) ∧ acc.length < sizeLine ∧
            Same H1 (upd (upd H4 T1 (.tup [.int (i : Nat), .int (bs.getD i 0)])) D (.lst (acc ++ [V.int z]))) ∧
            (upd (upd H4 T1 (.tup [.int (i : Nat), .int (bs.getD i 0)])) D (.lst (acc ++ [V.int z]))) D = some (.lst (((List.range (i + 1)).map fun (i : Nat) => if decide ((i : Int) ∈ hs) = true then 1 - bs.getD i 0 else bs.getD i 0).map V.int)) := by
          intro z hz
          refine ⟨_, hD5, by rw [List.length_map, List.length_map, List.length_range]; exact small1000 (by omega), ?_, ?_⟩
          · intro y o e
            rw [upd_ne (ne_of_none e hD)]
            exact s5 y o e
          · rw [upd_same, List.range_succ, List.map_append, List.map_append]
            show some (HO.lst (_ ++ [V.int z])) = some (HO.lst (_ ++ [V.int (if decide ((i : Int) ∈ hs) = true then 1 - bs.getD i 0 else bs.getD i 0)]))
            rw [hz]
        have s15 := s1.trans s5
        refine ⟨T1, _, rfl, SqT.of upd_same, rfl, _, _, rfl, _, _, rfl, rfl, rfl, yesT ?_⟩
        refine ⟨_, rfl, _, rfl, p, _, 1, .ref g, rfl, rfl, same_sqt s15 h1, rfl, g, _, rfl, .inl (SqL.of (s15 _ _ h3)), rfl, flat_ints _, _, rfl, ?_⟩
        show if inV (V.int ((i : Nat) : Int)) (hs.map V.int) = true then _ else _
        rw [in_ints]
        by_cases hm : ((i : Nat) : Int) ∈ hs
        · rw [decide_eq_true hm]
          exact iteT ⟨_, rfl, 1, bs.getD i 0, rfl, rfl, step _ (by rw [decide_eq_true hm]; rfl)⟩
        · rw [decide_eq_false hm]
          exact iteF ⟨_, rfl, step _ (by rw [decide_eq_false hm]; rfl)⟩
      · rintro H4 ⟨s4, hD4⟩
        rw [List.length_map] at hD4
        exact out D H4 (s1.free hD) (s1.trans s4) hD4
end
end K33
namespace K33
open PySem PySem.Spec PyProof.Rows L2 Par
theorem pot_ne {H : Hp} {p q : Addr} (h : PotAt H p) (hq : H q = none) : q ≠ p := fun z => by
  obtain ⟨_, _, y, _⟩ := h
  rw [← z, hq] at y
  cases y
theorem filter_one {l : List Int} {g : Int} (hn : l.Nodup) (hg : g ∈ l) : (l.filter fun k => decide (¬ k = g)).length + 1 = l.length := by
  induction l with
  | nil => cases hg
  | cons a l ih =>
    obtain ⟨h1, h2⟩ := List.nodup_cons.mp hn
    by_cases e : a = g
    · subst e
      have same : (l.filter fun k => decide (¬ k = a)) = l := List.filter_eq_self.mpr fun k hk => decide_eq_true fun z => h1 (z ▸ hk)
      rw [List.filter_cons_of_neg (by simp), same, List.length_cons]
    · have hg2 : g ∈ l := by
        rcases List.mem_cons.mp hg with z | z
        · exact absurd z.symm e
        · exact z
      rw [List.filter_cons_of_pos (by simp [e]), List.length_cons, List.length_cons, ih h2 hg2]
theorem comm_left {ts hs : List Int} (g : Int) : comm (ts.filter fun k => decide (¬ k = g)) hs = (comm ts hs).filter fun k => decide (¬ k = g) := by
  unfold comm
  rw [List.filter_filter, List.filter_filter]
  congr 1
  funext k
  exact Bool.and_comm _ _
theorem comm_right {ts hs : List Int} (g : Int) : comm ts (hs.filter fun k => decide (¬ k = g)) = (comm ts hs).filter fun k => decide (¬ k = g) := by
  unfold comm
  rw [List.filter_filter]
  congr 1
  funext k
  by_cases z : k = g
  · subst z
    simp
  · simp [List.mem_filter, z]
theorem filt_step {l : List Int} {f : Int → Bool} {i : Nat} {k : Int} (h : l[i]? = some k) : (l.take (i + 1)).filter f = (l.take i).filter f ++ (if f k = true then [k] else []) := by
  rw [List.take_succ, h, List.filter_append]
  congr 1
  by_cases z : f k = true
  · simp [z]
  · simp [z]
section
variable {P : Program} {w : World} {K : PySem.W.Frag} {mg : Str → Option Value} {base : Heap}
/-- a tuple of two lists, none of them at p -/
def PrP (p : Addr) (H : Hp) (q : Addr) (ts hs : List Int) : Prop := ∃ t h, t ≠ p ∧ h ≠ p ∧ H q = some (.tup [.ref t, .ref h]) ∧ H t = some (.lst (ts.map V.int)) ∧ H h = some (.lst (hs.map V.int))
theorem PrP.pr {p q : Addr} {H : Hp} {ts hs : List Int} (h : PrP p H q ts hs) : Pr K H q ts hs := by
  obtain ⟨t, g, _, _, h1, h2, h3⟩ := h
  exact ⟨t, g, SqT.of h1, h2, h3⟩
theorem PrP.same {p q : Addr} {H H' : Hp} {ts hs : List Int} (s : Same H H') (h : PrP p H q ts hs) : PrP p H' q ts hs := by
  obtain ⟨t, g, n1, n2, h1, h2, h3⟩ := h
  exact ⟨t, g, n1, n2, s _ _ h1, s _ _ h2, s _ _ h3⟩
theorem PrP.but {p q : Addr} {H H' : Hp} {ts hs : List Int} (hp : PotAt H p) (s : But p H H') (h : PrP p H q ts hs) : PrP p H' q ts hs := by
  obtain ⟨t, g, n1, n2, h1, h2, h3⟩ := h
  have nq : q ≠ p := fun z => by
    obtain ⟨_, _, e, _⟩ := hp
    rw [z, e] at h1
    cases h1
  exact ⟨t, g, n1, n2, s _ _ nq h1, s _ _ n1 h2, s _ _ n2 h3⟩
/-- the same, both lists new since H0 -/
def PrF (H0 : Hp) (p : Addr) (H : Hp) (q : Addr) (ts hs : List Int) : Prop := ∃ t h, H0 t = none ∧ H0 h = none ∧ t ≠ p ∧ h ≠ p ∧ H q = some (.tup [.ref t, .ref h]) ∧ H t = some (.lst (ts.map V.int)) ∧ H h = some (.lst (hs.map V.int))
theorem PrF.prp {H0 : Hp} {p q : Addr} {H : Hp} {ts hs : List Int} (h : PrF H0 p H q ts hs) : PrP p H q ts hs := by
  obtain ⟨t, g, _, _, r⟩ := h
  exact ⟨t, g, r⟩
/-- two lists that make a flip of this width -/
def spPairL : Sp := fun vs H Q _ => ∃ (p : Addr) (m : Nat), vs = [.ref p, .int (m : Nat)] ∧ PotAt H p ∧ 1 ≤ m ∧ m ≤ 40 ∧
  ∀ q (ts hs : List Int) H', H q = none → But p H H' → PotAt H' p → PrF H p H' q ts hs → OkF ts hs → (∀ k ∈ ts, k < m) → (∀ k ∈ hs, k < m) → (comm ts hs).length % 2 = 0 → ts.Pairwise (· < ·) → hs.Pairwise (· < ·) → Q (.ref q) H'
abbrev nPair : List Str := ["_law_pot_here", "_law_width_here", "_law_tests", "_law_hits", "_law_both", "_law_gone", "_law_spot"]
theorem scPair : FnScope nPair ["_law_pot_here", "_law_width_here"] (defScope sPair) := ⟨rfl, rfl, rfl, by decide +kernel, rfl, by decide +kernel, by decide +kernel⟩
theorem ok_pair {f : Addr} {fd : FuncData} (F : Fun K "_law_pair" "_law_pair" sPair f fd) (B : Bl mg) (DD : Has P w K mg base "_law_draw" 2 ["_law_pot_here", "_law_many"] spDraw) (DS : Has P w K mg base "_law_spots" 3 ["_law_pot_here", "_law_least", "_law_width_here"] spSpots) :
    FnOk P w K mg base CX0 4 f fd ["_law_pot_here", "_law_width_here"] spPairL := by
  obtain ⟨fD, fdD, GD, mD, kD, bD⟩ := DD
  obtain ⟨fS, fdS, GS, mS, kS, bS⟩ := DS
  refine F.ok scPair (fun vs H Q E h => ?_) (fun cdv A outer s H vs Q E hr h => ?_)
  · obtain ⟨p, m, rfl, _⟩ := h
    rfl
  · obtain ⟨p, m, rfl, hp, m1, m2, out⟩ := h
    have r1 : Room 2 _ := hr.mono (by decide)
    refine ⟨_, pss_cons (ps_asg (pe_tup (pa_cons (pe_call GS hr (by rfl) mS kS bS .nil pass0 (pa_cons (pv 0) (pa_cons pe_int (pa_cons (pv 1) pa_nil)))) (pa_cons (pe_call GS hr (by rfl) mS kS bS .nil pass0 (pa_cons (pv 0) (pa_cons pe_int (pa_cons (pv 1) pa_nil)))) pa_nil))) (pg_tup rfl (pgs_cons (pg_name (i := 2) scPair.nd rfl (Or.inl rfl)) (pgs_cons (pg_name (i := 3) scPair.nd rfl (Or.inr rfl)) pgs_nil))))
      (pss_cons (ps_setLc (i := 4) (own := [("_law_spot", 6)]) (g := gName 6) (tt := tTest (tOp (rIn K false) (tVar 6) (tVar 3))) rfl scPair.nd rfl rfl (sw_true rfl rfl rfl (by decide +kernel)) (pi_list (pv 2)) (blkOk_by (own := [("_law_spot", 6)]) (N := nPair) (sc := defScope sPair) (by decide +kernel))
          (fun _ _ _ _ _ => pg_name (i := 6) scPair.nd rfl (Or.inl rfl)) (fun _ _ _ _ _ => by exact pts_one (pt_cmpR op_in_seq (pv 6) (pv 3) (by rfl))) (fun _ _ _ _ _ => pv 6))
      (pss_cons (ps_if (pt_cmpR op_eq (pe_op op_mod (pe_callB call_len_seq (by rfl) B.len PySem.boot_len (pa_cons (pv 4) pa_nil)) pe_int) pe_int (nomark _)) (pss_one (ps_ret (pe_tup (pa_cons (pv 2) (pa_cons (pv 3) pa_nil))))) pss_nil)
      (pss_cons (ps_set (i := 5) scPair.nd rfl (Or.inr rfl) (pe_ix ix_list (pv 4) (pe_call GD r1 (by rfl) mD kD bD .nil pass0 (pa_cons (pv 0) (pa_cons (pe_callB call_len_seq (by rfl) B.len PySem.boot_len (pa_cons (pv 4) pa_nil)) pa_nil))) (fun _ _ => rfl)))
      (pss_cons (ps_if (pt_cmpR op_eq (pe_call GD r1 (by rfl) mD kD bD .nil pass0 (pa_cons (pv 0) (pa_cons pe_int pa_nil))) pe_int (nomark _)) (pss_one (ps_ret (pe_tup (pa_cons (pe_lc (own := [("_law_spot", 6)]) (g := gName 6) rfl scPair.nd (pi_list (pv 2)) (blkOk_by (own := [("_law_spot", 6)]) (N := nPair) (sc := defScope sPair) (by decide +kernel)) (fun _ _ _ _ _ => pg_name (i := 6) scPair.nd rfl (Or.inl rfl)) (fun _ _ _ _ _ => pts_one (pt_cmpR op_ne (pv 6) (pv 5) (nomark _))) (fun _ _ _ _ _ => pv 6)) (pa_cons (pv 3) pa_nil))))) pss_nil)
      (pss_one (ps_ret (pe_tup (pa_cons (pv 2) (pa_cons (pe_lc (own := [("_law_spot", 6)]) (g := gName 6) rfl scPair.nd (pi_list (pv 3)) (blkOk_by (own := [("_law_spot", 6)]) (N := nPair) (sc := defScope sPair) (by decide +kernel)) (fun _ _ _ _ _ => pg_name (i := 6) scPair.nd rfl (Or.inl rfl)) (fun _ _ _ _ _ => pts_one (pt_cmpR op_ne (pv 6) (pv 5) (nomark _))) (fun _ _ _ _ _ => pv 6)) pa_nil))))))))), ?_⟩
    refine ⟨_, rfl, _, rfl, p, 0, (m : Nat), rfl, hp, by decide, by decide, by omega, by omega, fun a1 ts H1 ha1 w1 i1 b1 pot1 e1 => ?_⟩
    refine ⟨_, rfl, _, rfl, p, 1, (m : Nat), rfl, pot1, by decide, by decide, by omega, by omega, fun a2 hs H2 ha2 w2 i2 b2 pot2 e2 => ?_⟩
    have na1 := pot_ne hp ha1
    have na2 := pot_ne pot1 ha2
    have nd1 := nodup_lt_ w1
    have nd2 := nodup_lt_ w2
    have len1 : ts.length ≤ 40 := cells_few nd1 fun k hk => by
      have := i1 k hk
      exact ⟨by omega, by omega⟩
    have len2 : hs.length ≤ 40 := cells_few nd2 fun k hk => by
      have := i2 k hk
      exact ⟨by omega, by omega⟩
    have b02 : But p H H2 := b1.trans b2
    have e12 : H2 a1 = some (.lst (ts.map V.int)) := b2 a1 _ na1 e1
    refine ⟨(by show 2 ≤ sizeLine; decide), fun T hT => ⟨T, _, rfl, SqT.of upd_same, rfl, _, _, rfl, _, _, rfl, rfl, ?_⟩⟩
    have s3 := same_new (o := .tup [.ref a1, .ref a2]) hT
    -- both
    refine ⟨_, rfl, a1, rfl, ⟨_, SqL.of (s3 _ _ e12)⟩, fun D hD => ?_⟩
    have hDH2 : H2 D = none := s3.free hD
    refine lc_list (K := K) (a := a1) (xs := ts.map V.int) (fun i H' => Same (upd H2 T (.tup [.ref a1, .ref a2])) H' ∧ H' D = some (.lst (((ts.take i).filter fun k => decide (k ∈ hs)).map V.int))) ⟨same_new hD, upd_same⟩ (fun i H' _ h => SqL.of (h.1 _ _ (s3 _ _ e12))) ?_ ?_
    · rintro i x H4 hx ⟨s4, hD4⟩
      rw [List.getElem?_map] at hx
      obtain ⟨k, hk, rfl⟩ : ∃ k, ts[i]? = some k ∧ x = V.int k := by
        cases e : ts[i]? with
        | none => rw [e] at hx; cases hx
        | some k => rw [e] at hx; exact ⟨k, rfl, (Option.some.inj hx).symm⟩
      have st := filt_step (f := fun k => decide (k ∈ hs)) hk
      refine ⟨rfl, ?_⟩
      refine ⟨_, rfl, _, rfl, a2, _, rfl, .inl (SqL.of (s4 _ _ (s3 _ _ e2))), rfl, flat_ints _, _, rfl, ?_⟩
      show if inV (V.int k) (hs.map V.int) = true then _ else _
      rw [in_ints]
      by_cases hm : k ∈ hs
      · rw [decide_eq_true hm] at st ⊢
        refine iteT ⟨_, rfl, _, hD4, ?_, ?_, ?_⟩
        · have := List.length_filter_le (fun k => decide (k ∈ hs)) (ts.take i)
          rw [List.length_take] at this
          rw [List.length_map]
          exact small1000 (by omega)
        · intro y o e
          rw [upd_ne (ne_of_none e hD)]
          exact s4 y o e
        · rw [upd_same, st, if_pos rfl, List.map_append]
          rfl
      · rw [decide_eq_false hm] at st ⊢
        refine iteF ⟨s4, ?_⟩
        rw [st, if_neg Bool.false_ne_true, List.append_nil]
        exact hD4
    rintro H4 ⟨s4, hD4⟩
    rw [List.length_map, List.take_length] at hD4
    have hD4' : H4 D = some (.lst ((comm ts hs).map V.int)) := hD4
    have s24 : Same H2 H4 := s3.trans s4
    have nD := pot_ne pot2 hDH2
    have pot4 := pot2.same s24
    have c1 : H4 a1 = some (.lst (ts.map V.int)) := s24 _ _ e12
    have c2 : H4 a2 = some (.lst (hs.map V.int)) := s24 _ _ e2
    have ndc : (comm ts hs).Nodup := nd1.sublist List.filter_sublist
    have lenc : (comm ts hs).length ≤ ts.length := List.length_filter_le ..
    have fr2 : H a2 = none := b1.free hp ha2 pot1
    -- what is returned
    have fin : ∀ (ts' hs' : List Int) (x1 x2 : Addr) (H6 : Hp), But p H H6 → PotAt H6 p → H x1 = none → H x2 = none → x1 ≠ p → x2 ≠ p → H6 x1 = some (.lst (ts'.map V.int)) → H6 x2 = some (.lst (hs'.map V.int)) → (∀ k ∈ ts', k ∈ ts) → (∀ k ∈ hs', k ∈ hs) →
        ts'.Pairwise (· < ·) → hs'.Pairwise (· < ·) → ts'.length ≤ 40 → hs'.length ≤ 40 → (comm ts' hs').length % 2 = 0 → ∀ q, H6 q = none → Q (.ref q) (upd H6 q (.tup [.ref x1, .ref x2])) := by
      intro ts' hs' x1 x2 H6 b6 pot6 o1 o2 n1 n2 g1 g2 m1' m2' v1 v2 l1 l2 ev q hq
      have d1 := nodup_lt_ v1
      have d2 := nodup_lt_ v2
      have sq := same_new (o := .tup [.ref x1, .ref x2]) hq
      refine out q ts' hs' _ (b6.free hp hq pot6) (b6.trans (But.same sq)) (pot6.same sq) ⟨x1, x2, o1, o2, n1, n2, upd_same, sq _ _ g1, sq _ _ g2⟩ ⟨fun k hk => ?_, fun k hk => ?_, d1, d2, l1, l2⟩ (fun k hk => ?_) (fun k hk => ?_) ev v1 v2
      · have := i1 k (m1' k hk)
        omega
      · have := i2 k (m2' k hk)
        omega
      · exact (i1 k (m1' k hk)).2
      · exact (i2 k (m2' k hk)).2
    have b04 : But p H H4 := b02.trans (But.same s24)
    refine ⟨_, rfl, D, _, rfl, .inl (SqL.of hD4'), _, _, rfl, rfl, (by show (0 : Int) < 2; decide), rfl, _, rfl, ite2 (fun heven => ?_) (fun hodd => ?_)⟩
    · have ev : (comm ts hs).length % 2 = 0 := by
        have z := of_decide_eq_true heven
        rw [List.length_map] at z
        have z2 : (((comm ts hs).length : Nat) : Int) % 2 = 0 := by injection z
        omega
      exact ⟨_, rfl, _, rfl, (by show 2 ≤ sizeLine; decide), fin ts hs a1 a2 H4 b04 pot4 ha1 fr2 na1 na2 c1 c2 (fun _ h => h) (fun _ h => h) w1 w2 len1 len2 ev⟩
    · have od : (comm ts hs).length % 2 = 1 := by
        have z : ¬ (V.int (((((comm ts hs).map V.int).length : Nat) : Int) % 2) = V.int 0) := fun q => hodd (decide_eq_true q)
        rw [List.length_map] at z
        have z2 : ¬ (((comm ts hs).length : Nat) : Int) % 2 = 0 := fun q => z (by rw [q])
        omega
      refine ⟨_, rfl, _, rfl, _, rfl, D, _, rfl, .inl (SqL.of hD4'), p, _, rfl, pot4, ?_, ?_, fun d H5 d0 d1 b5 pot5 => ?_⟩
      · rw [List.length_map]
        omega
      · rw [List.length_map]
        omega
      rw [List.length_map] at d1
      have dl : d.toNat < (comm ts hs).length := by omega
      obtain ⟨gone, eg⟩ : ∃ gone, (comm ts hs)[d.toNat]? = some gone := ⟨_, List.getElem?_eq_getElem dl⟩
      have gm : gone ∈ comm ts hs := List.mem_of_getElem? eg
      have hat : atI ((comm ts hs).map V.int) d = some (.int gone) := by
        have z : atI ((comm ts hs).map V.int) ((d.toNat : Nat) : Int) = some (.int gone) := atI_nat (by rw [List.getElem?_map, eg]; rfl)
        rwa [Int.toNat_of_nonneg d0] at z
      refine ⟨D, _, d, .int gone, rfl, rfl, SqL.of (b5 D _ nD hD4'), hat, ?_⟩
      refine ⟨_, rfl, p, 2, rfl, pot5, by decide, by decide, fun c H6 c0 c1' b6 pot6 => ⟨rfl, _, rfl, ?_⟩⟩
      have b46 : But p H4 H6 := b5.trans b6
      have g1 : H6 a1 = some (.lst (ts.map V.int)) := b46 a1 _ na1 c1
      have g2 : H6 a2 = some (.lst (hs.map V.int)) := b46 a2 _ na2 c2
      have b06 : But p H H6 := b04.trans b46
      have one := filter_one ndc gm
      refine ite2 (fun _ => ?_) (fun _ => ?_)
      · skip
        refine ⟨_, rfl, a1, rfl, ⟨_, SqL.of g1⟩, fun D2 hD2 => ?_⟩
        have hD2H : H6 D2 = none := hD2
        have nD2 := pot_ne pot6 hD2
        refine lc_list (K := K) (a := a1) (xs := ts.map V.int) (fun i H' => Same H6 H' ∧ H' D2 = some (.lst (((ts.take i).filter fun k => decide (¬ k = gone)).map V.int))) ⟨same_new hD2, upd_same⟩ (fun i H' _ h => SqL.of (h.1 _ _ g1)) ?_ ?_
        · rintro i x H7 hx ⟨s7, hD7⟩
          rw [List.getElem?_map] at hx
          obtain ⟨k, hk, rfl⟩ : ∃ k, ts[i]? = some k ∧ x = V.int k := by
            cases e : ts[i]? with
            | none => rw [e] at hx; cases hx
            | some k => rw [e] at hx; exact ⟨k, rfl, (Option.some.inj hx).symm⟩
          have st := filt_step (f := fun k => decide (¬ k = gone)) hk
          refine ⟨rfl, ?_⟩
          refine ⟨_, rfl, _, rfl, rfl, _, rfl, ?_⟩
          by_cases hm : k = gone
          · subst hm
            refine iteNS rfl ⟨s7, ?_⟩
            rw [st, if_neg (by simp), List.append_nil]
            exact hD7
          · have hv : ¬ V.int k = V.int gone := fun z => hm (by injection z)
            rw [decide_eq_false hv]
            refine iteT ⟨_, rfl, _, hD7, ?_, ?_, ?_⟩
            · have := List.length_filter_le (fun k => decide (¬ k = gone)) (ts.take i)
              rw [List.length_take] at this
              rw [List.length_map]
              exact small1000 (by omega)
            · intro y o e
              rw [upd_ne (ne_of_none e hD2)]
              exact s7 y o e
            · rw [upd_same, st, if_pos (by simp [hm]), List.map_append]
              rfl
        rintro H7 ⟨s7, hD7⟩
        rw [List.length_map, List.take_length] at hD7
        refine ⟨_, rfl, (by show 2 ≤ sizeLine; decide), fin (ts.filter fun k => decide (¬ k = gone)) hs D2 a2 H7 (b06.trans (But.same s7)) (pot6.same s7) (b06.free hp hD2 pot6) fr2 nD2 na2 hD7 (s7 _ _ g2) (fun k hk => (List.mem_filter.mp hk).1) (fun _ h => h) (w1.sublist List.filter_sublist) w2 (Nat.le_trans (List.length_filter_le ..) len1) len2 ?_⟩
        rw [comm_left]
        omega
      · refine ⟨_, rfl, _, rfl, a2, rfl, ⟨_, SqL.of g2⟩, fun D2 hD2 => ?_⟩
        have hD2H : H6 D2 = none := hD2
        have nD2 := pot_ne pot6 hD2
        refine lc_list (K := K) (a := a2) (xs := hs.map V.int) (fun i H' => Same H6 H' ∧ H' D2 = some (.lst (((hs.take i).filter fun k => decide (¬ k = gone)).map V.int))) ⟨same_new hD2, upd_same⟩ (fun i H' _ h => SqL.of (h.1 _ _ g2)) ?_ ?_
        · rintro i x H7 hx ⟨s7, hD7⟩
          rw [List.getElem?_map] at hx
          obtain ⟨k, hk, rfl⟩ : ∃ k, hs[i]? = some k ∧ x = V.int k := by
            cases e : hs[i]? with
            | none => rw [e] at hx; cases hx
            | some k => rw [e] at hx; exact ⟨k, rfl, (Option.some.inj hx).symm⟩
          have st := filt_step (f := fun k => decide (¬ k = gone)) hk
          refine ⟨rfl, ?_⟩
          refine ⟨_, rfl, _, rfl, rfl, _, rfl, ?_⟩
          by_cases hm : k = gone
          · subst hm
            refine iteNS rfl ⟨s7, ?_⟩
            rw [st, if_neg (by simp), List.append_nil]
            exact hD7
          · have hv : ¬ V.int k = V.int gone := fun z => hm (by injection z)
            rw [decide_eq_false hv]
            refine iteT ⟨_, rfl, _, hD7, ?_, ?_, ?_⟩
            · have := List.length_filter_le (fun k => decide (¬ k = gone)) (hs.take i)
              rw [List.length_take] at this
              rw [List.length_map]
              exact small1000 (by omega)
            · intro y o e
              rw [upd_ne (ne_of_none e hD2)]
              exact s7 y o e
            · rw [upd_same, st, if_pos (by simp [hm]), List.map_append]
              rfl
        rintro H7 ⟨s7, hD7⟩
        rw [List.length_map, List.take_length] at hD7
        refine ⟨(by show 2 ≤ sizeLine; decide), fin ts (hs.filter fun k => decide (¬ k = gone)) a1 D2 H7 (b06.trans (But.same s7)) (pot6.same s7) ha1 (b06.free hp hD2 pot6) na1 nD2 (s7 _ _ g1) hD7 (fun _ h => h) (fun k hk => (List.mem_filter.mp hk).1) w1 (w2.sublist List.filter_sublist) len1 (Nat.le_trans (List.length_filter_le ..) len2) ?_⟩
        rw [comm_right]
        omega
end
end K33
namespace Par
open PySem PySem.Spec PyProof.Rows L2
/-- a class of the text's own with an own ==, no own != -/
structure EqC (K : PySem.W.Frag) (C f : Addr) : Prop where
  is : ∃ nm q N bs hd sn sub ab col dd k0 k1 k2 k3 k5 newId, K.lookup C = some (excClassObj nm q C N bs [.type "object"] hd sn sub ab col dd k0 k1 k2 k3 k5 newId) ∧ PySem.W.nsOkIn K N = true ∧ PySem.W.nsIn K N "__eq__" = some (some (.ref f)) ∧ PySem.W.nsIn K N "__ne__" = some none
  eq : PySem.W.findIn K (.ref C) "__eq__" = some (some (.ref f))
  fn : PySem.W.isFn K (.ref f) = true
theorem look_eq : typeLookup (.type "object") "__eq__" = pure (some (.builtin "object.__eq__")) := by
  rw [typeLookup_type, builtinLookup_eq_fast]
  kernel_rfl
theorem ns_some_of {K : PySem.W.Frag} {h : Heap} {N : Addr} {mg : Str → Option Value} {n : Str} {v : Value} (X : K.In h) (G : h.Ns N mg) (e : PySem.W.nsIn K N n = some (some v)) : mg n = some v := by
  obtain ⟨o, es, ep, ho, hd, _, hf⟩ := G
  unfold PySem.W.nsIn at e
  split at e
  · rename_i c d es' n' sl q
    have := X _ _ q
    rw [ho] at this
    cases this
    cases hd
    split at e
    · rename_i x he
      rw [← hf]
      unfold nsFind findBy
      rw [← Array.find?_toList, he]
      simpa using e
    · split at e <;> cases e
  · cases e
theorem fn_at {K : PySem.W.Frag} {h : Heap} {f : Addr} (X : K.In h) (e : PySem.W.isFn K (.ref f) = true) : ∃ o : Obj, h.get? f = some o ∧ o.cls = .type "function" := by
  unfold PySem.W.isFn PySem.W.typeIn at e
  cases q : K.lookup f with
  | none => simp [q] at e
  | some o =>
    simp [q] at e
    exact ⟨o, X _ _ q, e⟩
section
variable {X : Cx} {C f : Addr} {CX : CXT} {n : Nat} {fd : FuncData} {ps : List Str} {sp : Sp} {E : XK}
/-- the own ==, or !=, of two instances of the class -/
def rOwn (C : Addr) (sp : Sp) (E : XK) (neg : Bool) : R2 := fun x y H Q => ∃ a b dx dy fs gs, x = .ref a ∧ y = .ref b ∧ H a = some (.ins C dx fs) ∧ H b = some (.ins C dy gs) ∧
  sp [.ref a, .ref b] H (fun v H' => ∃ r : Bool, v = .bl r ∧ Q (.bl (xor neg r)) H') E
theorem own_call {pins : List (Addr × Obj)} {s : Shared} {σ : L2.St} {H : Hp} {a b : Addr} {A : Around} {Q : V → Hp → Prop} (I : Inv X pins σ H s) (F : FnOk X.prog X.w X.K X.mg X.base CX n f fd ps sp) (hr : Room n A) (hA : A.frames = X.A.frames) (hb : Binds X.K fd ps []) (hx : Passes CX X E)
    (h : sp [.ref a, .ref b] H Q E) : wpAny (model X.prog X.w) A (call (.ref f) [.ref a, .ref b]) (fun v s' => ∃ u H', Inv X pins σ H' s' ∧ RelV u v ∧ Q u H') X.xe s := by
  have e0 : Env0 X.prog X.w X.K X.mg X.base A X.stack s H := by
    have e := I.env0
    exact ⟨by rw [hA]; exact e.frames, e.mod, e.bs, e.bsz, e.funs, e.frf, e.hok, e.bare⟩
  have hl := F.len _ _ _ _ h
  have r2 : Vals [V.ref a, V.ref b] [Value.ref a, Value.ref b] := .cons rfl (.cons rfl .nil)
  refine wpAny_call (codeAny_mono (F.run A X.stack s H ⟨[.ref a, .ref b], []⟩ [.ref a, .ref b] [.ref a, .ref b] Q E hr e0 (by
    have := hb s [.ref a, .ref b] I.kIn (by simpa using hl)
    simpa using this) r2 h) fun r s' hq => ?_)
  cases r with
  | error e => exact hx pins σ H s e s' I hq
  | ok fl =>
    cases fl with
    | ret w =>
      obtain ⟨z, H', I', rz, q⟩ := I.after hq
      exact ⟨z, H', I', rz, q⟩
    | next => exact False.elim hq
    | brk => exact False.elim hq
    | cont => exact False.elim hq
theorem op_ownNe (T : EqC X.K C f) (F : FnOk X.prog X.w X.K X.mg X.base CX n f fd ps sp) (hr : Room (n + 1) X.A) (hb : Binds X.K fd ps []) (hx : Passes CX X E) : OpR X (compareOp .NotEq) (rOwn C sp E true) := by
  intro pins s σ H x y v u Q I rx ry h
  obtain ⟨a, b, dx, dy, fs, gs, rfl, rfl, ha, hb', h⟩ := h
  cases rx
  cases ry
  obtain ⟨mA, J, _⟩ := ins_get I.hok ha
  obtain ⟨mB, J', _⟩ := ins_get I.hok hb'
  obtain ⟨oda, Ja, _⟩ := J.look
  obtain ⟨odb, Jb, _⟩ := J'.look
  obtain ⟨nm, q, N, bs, hd, sn, sub, ab, col, dd, k0, k1, k2, k3, k5, newId, hC, hN, hE, hNe⟩ := T.is
  obtain ⟨of, h1, h2⟩ := fn_at I.kIn T.fn
  have G : s.heap.Ns N (s.heap.nsMap N) := .of_isNs (PySem.W.isNs_of_in I.kIn hN)
  have O : s.heap.OwnEqNoNe a C f "object" [.type "object"] := ⟨_, of, nm, q, N, bs, hd, sn, sub, ab, col, dd, k0, k1, k2, k3, k5, newId, _, _, Ja.at_, Ja.cls, I.kIn _ _ hC, G, ns_some_of I.kIn G hE, h1, h2, PySem.F.cmp_object.mro, look_eq, PySem.W.ns_none_of I.kIn G hNe⟩
  refine compareOp_ne_ownEq PySem.F.cmp_object O Jb.at_ Jb.cls (by have := hr.units; omega) ?_
  refine wpAny_mono (own_call I F hr.in1 rfl hb hx h) (fun v s' hv => ?_) fun _ _ e => e
  obtain ⟨z, H', I', rz, r, rfl, q⟩ := hv
  cases rz
  exact ⟨r, rfl, .bl (!r), H', I', rfl, by simpa using q⟩
theorem op_ownEq (T : EqC X.K C f) (F : FnOk X.prog X.w X.K X.mg X.base CX n f fd ps sp) (hr : Room n X.A) (hb : Binds X.K fd ps []) (hx : Passes CX X E) : OpR X (compareOp .Eq) (rOwn C sp E false) := by
  intro pins s σ H x y v u Q I rx ry h
  obtain ⟨a, b, dx, dy, fs, gs, rfl, rfl, ha, hb', h⟩ := h
  cases rx
  cases ry
  obtain ⟨mA, J, _⟩ := ins_get I.hok ha
  obtain ⟨mB, J', _⟩ := ins_get I.hok hb'
  obtain ⟨oda, Ja, _⟩ := J.look
  obtain ⟨odb, Jb, _⟩ := J'.look
  obtain ⟨m, hF⟩ := I.fr
  show wpAny (model X.prog X.w) X.A (richCompare .Eq (.ref a) (.ref b)) (EP X pins σ Q) X.xe s
  refine PySem.W.cmp_K (op := .Eq) (tb := .ref C) hr.units0 hF I.ok.mod.kin Ja Jb.type (by simp [PySem.W.notFirst]) T.eq T.fn ?_
  refine wpAny_mono (own_call I F hr rfl hb hx h) (fun v s' hv => ?_) fun _ _ e => e
  obtain ⟨z, H', I', rz, r, rfl, q⟩ := hv
  cases rz
  exact ⟨.bl r, H', I', rfl, by simpa using q⟩
end
end Par
namespace Par
open PySem PySem.Spec PyProof.Rows L2
section
variable {X : Cx} {C f : Addr} {CX : CXT} {n : Nat} {fd : FuncData} {ps : List Str} {sp : Sp} {E : XK}
/-- str(o), repr(o): by the own method -/
def rTxtOwn (C : Addr) (sp : Sp) (E : XK) : List V → Hp → VK → Prop := fun xs H Q => ∃ a dx fs, xs = [.ref a] ∧ H a = some (.ins C dx fs) ∧ sp [.ref a] H (fun v H' => ∃ t : Str, v = .str t ∧ Q (.str t) H') E
theorem one_call {pins : List (Addr × Obj)} {s : Shared} {σ : L2.St} {H : Hp} {a : Addr} {A : Around} {Q : V → Hp → Prop} (I : Inv X pins σ H s) (F : FnOk X.prog X.w X.K X.mg X.base CX n f fd ps sp) (hr : Room n A) (hA : A.frames = X.A.frames) (hb : Binds X.K fd ps []) (hx : Passes CX X E)
    (h : sp [.ref a] H Q E) : wpAny (model X.prog X.w) A (call (.ref f) [.ref a]) (fun v s' => ∃ u H', Inv X pins σ H' s' ∧ RelV u v ∧ Q u H') X.xe s := by
  have e0 : Env0 X.prog X.w X.K X.mg X.base A X.stack s H := by
    have e := I.env0
    exact ⟨by rw [hA]; exact e.frames, e.mod, e.bs, e.bsz, e.funs, e.frf, e.hok, e.bare⟩
  have hl := F.len _ _ _ _ h
  refine wpAny_call (codeAny_mono (F.run A X.stack s H ⟨[.ref a], []⟩ [.ref a] [.ref a] Q E hr e0 (by
    have := hb s [.ref a] I.kIn (by simpa using hl)
    simpa using this) (.cons rfl .nil) h) fun r s' hq => ?_)
  cases r with
  | error e => exact hx pins σ H s e s' I hq
  | ok fl =>
    cases fl with
    | ret w =>
      obtain ⟨z, H', I', rz, q⟩ := I.after hq
      exact ⟨z, H', I', rz, q⟩
    | next => exact False.elim hq
    | brk => exact False.elim hq
    | cont => exact False.elim hq
theorem one_callG {pins : List (Addr × Obj)} {s : Shared} {σ : L2.St} {H : Hp} {a : Addr} {A : Around} {Q : V → Hp → Prop} (I : Inv X pins σ H s) (F : FnG X.prog X.w X.K X.mg X.base CX n f fd ps sp) (gs : A.guards = some []) (hr : Room n A) (hA : A.frames = X.A.frames) (hb : Binds X.K fd ps []) (hx : Passes CX X E)
    (h : sp [.ref a] H Q E) : wpAny (model X.prog X.w) A (call (.ref f) [.ref a]) (fun v s' => ∃ u H', Inv X pins σ H' s' ∧ RelV u v ∧ Q u H') X.xe s := by
  have e0 : Env0 X.prog X.w X.K X.mg X.base A X.stack s H := by
    have e := I.env0
    exact ⟨by rw [hA]; exact e.frames, e.mod, e.bs, e.bsz, e.funs, e.frf, e.hok, e.bare⟩
  have hl := F.arity _ _ _ _ h
  refine wpAny_call (codeAny_mono (F.go A X.stack s H ⟨[.ref a], []⟩ [.ref a] [.ref a] Q E gs hr e0 (by
    have := hb s [.ref a] I.kIn (by simpa using hl)
    simpa using this) (.cons rfl .nil) h) fun r s' hq => ?_)
  cases r with
  | error e => exact hx pins σ H s e s' I hq
  | ok fl =>
    cases fl with
    | ret w =>
      obtain ⟨z, H', I', rz, q⟩ := I.after hq
      exact ⟨z, H', I', rz, q⟩
    | next => exact False.elim hq
    | brk => exact False.elim hq
    | cont => exact False.elim hq
theorem cr_reprOwn (c : PySem.W.findIn X.K (.ref C) "__repr__" = some (some (.ref f))) (hf : PySem.W.isFn X.K (.ref f) = true) (F : FnG X.prog X.w X.K X.mg X.base CX n f fd ps sp) (gs : X.A.guards = some []) (hr : Room (n + 1) X.A) (hb : Binds X.K fd ps []) (hx : Passes CX X E) :
    CallR X (.builtin "repr") (rTxtOwn C sp E) := by
  intro pins s σ H xs us Q I r h
  obtain ⟨a, dx, fs, rfl, ha, h⟩ := h
  cases r with
  | @cons _ u _ _ r1 r2 =>
    cases r2
    cases r1
    obtain ⟨mA, J, _⟩ := ins_get I.hok ha
    obtain ⟨oda, Ja, _⟩ := J.look
    obtain ⟨m, hF⟩ := I.fr
    refine PySem.W.repr_K (hr.in1).units0 hF I.ok.mod.kin Ja c hf ?_
    refine wpAny_mono (one_callG I F gs hr.in1 rfl hb hx h) (fun v s' hv => ?_) fun _ _ e => e
    obtain ⟨z, H', I', rz, t, rfl, q⟩ := hv
    obtain ⟨tk, rfl⟩ := rz
    exact ⟨.str t, H', I', ⟨_, rfl⟩, q⟩
theorem cr_strOwn (c : PySem.W.findIn X.K (.ref C) "__str__" = some (some (.ref f))) (hf : PySem.W.isFn X.K (.ref f) = true) (F : FnOk X.prog X.w X.K X.mg X.base CX n f fd ps sp) (hr : Room (n + 2) X.A) (hb : Binds X.K fd ps []) (hx : Passes CX X E) :
    CallR X (.type "str") (rTxtOwn C sp E) := by
  intro pins s σ H xs us Q I r h
  obtain ⟨a, dx, fs, rfl, ha, h⟩ := h
  cases r with
  | @cons _ u _ _ r1 r2 =>
    cases r2
    cases r1
    obtain ⟨mA, J, _⟩ := ins_get I.hok ha
    obtain ⟨oda, Ja, _⟩ := J.look
    refine PySem.W.kso_call (hr.in1.in1).units0 I.kIn Ja c hf ?_
    refine wpAny_mono (one_call I F hr.in1.in1 rfl hb hx h) (fun v s' hv => ?_) fun _ _ e => e
    obtain ⟨z, H', I', rz, t, rfl, q⟩ := hv
    obtain ⟨tk, rfl⟩ := rz
    exact ⟨.str t, H', I', ⟨_, rfl⟩, q⟩
/-- {x!r}, x a list or tuple of data, where the guards are none -/
def tFmtD (K : PySem.W.Frag) (te : TE) : TE := fun σ H Q => te σ H fun x H1 => ∃ (a : Addr) (d : PyData), x = .ref a ∧ Dp K H1 x d ∧ d.showable = true ∧ d.depth ≤ 40 ∧ d.shown.length ≤ sizeLine ∧ Q (.str d.shown) H1
theorem pe_fmtD {e : Expr} {te : TE} {pos : Pos} (gs : X.A.guards = some []) (hu : X.A.units + 64 < cLine) (he : PE X e te) : PE X (.FormattedValue e 114 none pos) (tFmtD X.K te) := by
  refine ⟨fun pins s σ H Q I h => ?_⟩
  refine wpAny_FormattedValue_repr (thn (he.run pins s σ H _ I h) fun w1 t1 got => ?_)
  obtain ⟨x, H1, I1, r1, a, d, rfl, hd, sh, dep, len, q⟩ := got
  cases r1
  obtain ⟨as, rd⟩ := Dp.reads I1 d _ _ hd rfl
  refine pyReprObj_of_reads rd sh (fun z => by rw [dp_nodict d _ hd] at z; cases z) gs (by omega) (fun _ _ z => z) ?_ len
  intro h' tk u k
  exact wpAny_formatField_str ⟨.str d.shown, H1, I1.un (Un.kept k) (I1.hok.kept k), ⟨_, rfl⟩, q⟩ ⟨.str d.shown, H1, I1.un (Un.kept k) (I1.hok.kept k), ⟨_, rfl⟩, q⟩ len
end
end Par
namespace K33
open PySem PySem.Spec PyProof.Rows L2 Par
theorem flip_at {bs hs : List Int} {i : Nat} (hi : i < bs.length) : (flipB bs hs).getD i 0 = if decide ((i : Int) ∈ hs) = true then 1 - bs.getD i 0 else bs.getD i 0 := by
  rw [List.getD_eq_getElem?_getD]
  unfold flipB
  rw [List.getElem?_map, List.getElem?_range hi]
  rfl
theorem sum_flip {bs hs : List Int} : ∀ (ts : List Int), (∀ k ∈ ts, 0 ≤ k ∧ k < bs.length) →
    ((ts.map fun k => (flipB bs hs).getD k.toNat 0).sum - (ts.map fun k => bs.getD k.toNat 0).sum - ((comm ts hs).length : Int)) % 2 = 0
  | [], _ => by simp [comm]
  | k :: ts, h => by
    have ih := sum_flip (bs := bs) (hs := hs) ts fun x hx => h x (List.mem_cons_of_mem _ hx)
    obtain ⟨h0, h1⟩ := h k (List.mem_cons_self ..)
    have e := flip_at (bs := bs) (hs := hs) (i := k.toNat) (by omega)
    rw [Int.toNat_of_nonneg h0] at e
    rw [List.map_cons, List.map_cons, List.sum_cons, List.sum_cons, e]
    by_cases z : k ∈ hs
    · have ec : comm (k :: ts) hs = k :: comm ts hs := by
        unfold comm
        rw [List.filter_cons_of_pos (by simp [z])]
      rw [ec, List.length_cons, decide_eq_true z, if_pos rfl]
      omega
    · have ec : comm (k :: ts) hs = comm ts hs := by
        unfold comm
        rw [List.filter_cons_of_neg (by simp [z])]
      rw [ec, decide_eq_false z, if_neg Bool.false_ne_true]
      omega
theorem par_flip {bs ts hs : List Int} (h : ∀ k ∈ ts, 0 ≤ k ∧ k < bs.length) (ev : (comm ts hs).length % 2 = 0) : parB (flipB bs hs) ts = parB bs ts := by
  have := sum_flip (bs := bs) (hs := hs) ts h
  unfold parB
  omega
theorem aft_len (bs ts hs : List Int) : (aftB bs ts hs).length = bs.length := by
  unfold aftB
  split
  · exact flipB_len _ _
  · rfl
theorem aft_ok {bs ts hs : List Int} (h : OkB bs) (h0 : ∀ k ∈ hs, 1 ≤ k) : OkB (aftB bs ts hs) := by
  unfold aftB
  split
  · exact flip_ok h h0
  · exact h
theorem aft_par {bs ts hs : List Int} (h : ∀ k ∈ ts, 0 ≤ k ∧ k < bs.length) (ev : (comm ts hs).length % 2 = 0) : parB (aftB bs ts hs) ts = parB bs ts := by
  unfold aftB
  split
  · exact par_flip h ev
  · rfl
theorem aft_back {bs ts hs : List Int} (h : ∀ k ∈ ts, 0 ≤ k ∧ k < bs.length) (ev : (comm ts hs).length % 2 = 0) : aftB (aftB bs ts hs) ts hs = bs := by
  have e := aft_par h ev
  unfold aftB at e ⊢
  by_cases z : parB bs ts = 1
  · rw [decide_eq_true z, if_pos rfl] at e ⊢
    rw [e, decide_eq_true z, if_pos rfl]
    exact flip_flip
  · rw [decide_eq_false z, if_neg Bool.false_ne_true] at e ⊢
    rw [decide_eq_false z, if_neg Bool.false_ne_true]
theorem fits_le {ts hs : List Int} {M : Int} {n : Nat} (f : Fits ts hs M) (h1 : ∀ k ∈ ts, k < n) (h2 : ∀ k ∈ hs, k < n) (h3 : 1 ≤ n) : M ≤ n := by
  rcases f.2.2 with z | z | z
  · omega
  · have := h1 _ z
    omega
  · have := h2 _ z
    omega
theorem par01 (bs t : List Int) : parB bs t = 0 ∨ parB bs t = 1 := by
  unfold parB
  omega
theorem aft_at {bs t h : List Int} {i : Nat} (hi : i < bs.length) : (aftB bs t h).getD i 0 = if parB bs t = 1 ∧ (i : Int) ∈ h then 1 - bs.getD i 0 else bs.getD i 0 := by
  unfold aftB
  by_cases z : parB bs t = 1
  · rw [decide_eq_true z, if_pos rfl, flip_at hi]
    by_cases y : (i : Int) ∈ h
    · rw [decide_eq_true y, if_pos rfl, if_pos ⟨z, y⟩]
    · rw [decide_eq_false y, if_neg Bool.false_ne_true, if_neg fun q => y q.2]
  · rw [decide_eq_false z, if_neg Bool.false_ne_true, if_neg fun q => z q.1]
theorem par_aft {bs t1 h1 t2 : List Int} (h : ∀ k ∈ t2, 0 ≤ k ∧ k < bs.length) : parB (aftB bs t1 h1) t2 = if parB bs t1 = 1 ∧ (comm t2 h1).length % 2 = 1 then 1 - parB bs t2 else parB bs t2 := by
  have f := sum_flip (bs := bs) (hs := h1) t2 h
  have p := par01 bs t2
  unfold aftB
  by_cases z : parB bs t1 = 1
  · rw [decide_eq_true z, if_pos rfl]
    by_cases y : (comm t2 h1).length % 2 = 1
    · rw [if_pos ⟨z, y⟩]
      unfold parB at p ⊢
      omega
    · rw [if_neg fun q => y q.2]
      unfold parB at p ⊢
      omega
  · rw [decide_eq_false z, if_neg Bool.false_ne_true, if_neg fun q => z q.1]
theorem depth_ints : ∀ ns : List Int, PyData.depthAll (ns.map PyData.int) = 0
  | [] => rfl
  | n :: ns => by
    show max 0 (PyData.depthAll (ns.map PyData.int)) = 0
    rw [depth_ints ns]
    rfl
theorem lay_ints : ∀ ns : List Int, (PyData.list (ns.map PyData.int)).canLay0 = true := by
  intro ns
  induction ns with
  | nil => rfl
  | cons n ns ih => exact ih
theorem shaped_ints (ns : List Int) : SeqAt.shaped (.list (ns.map PyData.int)) = true := by
  unfold SeqAt.shaped
  rw [lay_ints]
  have : (PyData.list (ns.map PyData.int)).depth = 1 := by
    show PyData.depthAll (ns.map PyData.int) + 1 = 1
    rw [depth_ints]
  rw [this]
  rfl
theorem sort_same {ns ms : List Int} (h : ms.Perm ns) (w1 : ms.Pairwise (· ≤ ·)) (w2 : ns.Pairwise (· < ·)) : ms = ns :=
  List.Perm.eq_of_pairwise (fun a b _ _ h1 h2 => Int.le_antisymm h1 h2) w1 (w2.imp (fun h => by omega)) h
/-- what isinstance asks of an own class -/
structure IsC (K : PySem.W.Frag) (C : Addr) : Prop where
  ha : PySem.W.findIn K (.ref C) "__class__" = some (some (.builtin "object.__class__"))
  hn : PySem.W.specialIn K (.builtin "object.__class__") "__get__" = some (some (.builtin "getset_descriptor.__get__"))
  ht : PySem.W.takesIn K (.builtin "object.__class__") = some true
  hm : PySem.W.mroIn K C (.type "object") = some true
theorem kit_self {K : PySem.W.Frag} {C : Addr} : PySem.W.kitOne K (.ref C) (.ref C) = some true := by
  show (if (Value.ref C == Value.ref C) = true then some true else _) = some true
  rw [if_pos (by simp)]
/-- what stands in just one of both -/
def symm (ns ms : List Int) : List Int := (ns.filter fun k => !decide (k ∈ ms)) ++ (ms.filter fun k => !decide (k ∈ ns))
theorem mem_symm {ns ms : List Int} (k : Int) : k ∈ symm ns ms ↔ xor (decide (k ∈ ns)) (decide (k ∈ ms)) = true := by
  unfold symm
  by_cases a : k ∈ ns <;> by_cases b : k ∈ ms <;> simp [List.mem_append, List.mem_filter, a, b]
theorem symm_nodup {ns ms : List Int} (h1 : ns.Nodup) (h2 : ms.Nodup) : (symm ns ms).Nodup := by
  unfold symm
  refine List.nodup_append.mpr ⟨h1.sublist List.filter_sublist, h2.sublist List.filter_sublist, fun a ha b hb e => ?_⟩
  subst e
  have z := (List.mem_filter.mp ha).2
  have y := (List.mem_filter.mp hb).1
  simp [y] at z
/-- the cells moved past a flip -/
def moved (ns ts hs : List Int) : List Int := if (comm ns hs).length % 2 = 1 then symm ns ts else ns
theorem up_same {l m : List Int} (h1 : l.Pairwise (· < ·)) (h2 : m.Pairwise (· < ·)) (h : ∀ k, k ∈ l ↔ k ∈ m) : l = m := by
  have n1 : l.Nodup := nodup_lt_ h1
  have n2 : m.Nodup := nodup_lt_ h2
  exact List.Perm.eq_of_pairwise (fun a b _ _ h1 h2 => by omega) h1 h2 ((List.perm_ext_iff_of_nodup n1 n2).mpr h)
theorem sum_part (f : Int → Int) (p : Int → Bool) : ∀ l : List Int, ((l.filter p).map f).sum + ((l.filter fun k => !p k).map f).sum = (l.map f).sum
  | [] => rfl
  | a :: l => by
    have ih := sum_part f p l
    by_cases z : p a = true
    · rw [List.filter_cons_of_pos z, List.filter_cons_of_neg (by simp [z]), List.map_cons, List.map_cons, List.sum_cons, List.sum_cons]
      omega
    · rw [List.filter_cons_of_neg z, List.filter_cons_of_pos (by simp [z]), List.map_cons, List.map_cons, List.sum_cons, List.sum_cons]
      omega
theorem sum_symm (f : Int → Int) {ns ms : List Int} (h1 : ns.Nodup) (h2 : ms.Nodup) : ((symm ns ms).map f).sum % 2 = ((ns.map f).sum + (ms.map f).sum) % 2 := by
  have a := sum_part f (fun k => decide (k ∈ ms)) ns
  have b := sum_part f (fun k => decide (k ∈ ns)) ms
  have pm : (ns.filter fun k => decide (k ∈ ms)).Perm (ms.filter fun k => decide (k ∈ ns)) := by
    refine (List.perm_ext_iff_of_nodup (h1.sublist List.filter_sublist) (h2.sublist List.filter_sublist)).mpr fun k => ?_
    simp [List.mem_filter, and_comm]
  have c := perm_sum (pm.map f)
  unfold symm
  rw [List.map_append, List.sum_append]
  omega
theorem comm_sum (ns ms : List Int) : ((comm ns ms).length : Int) = (ns.map fun k => if k ∈ ms then (1 : Int) else 0).sum := by
  induction ns with
  | nil => rfl
  | cons a l ih =>
    unfold comm at ih ⊢
    rw [List.map_cons, List.sum_cons, ← ih]
    by_cases z : a ∈ ms
    · rw [List.filter_cons_of_pos (by simp [z]), List.length_cons, if_pos z]
      omega
    · rw [List.filter_cons_of_neg (by simp [z]), if_neg z]
      omega
theorem comm_swap {ns ms : List Int} (h1 : ns.Nodup) (h2 : ms.Nodup) : (comm ns ms).length = (comm ms ns).length := by
  have pm : (comm ns ms).Perm (comm ms ns) := by
    unfold comm
    refine (List.perm_ext_iff_of_nodup (h1.sublist List.filter_sublist) (h2.sublist List.filter_sublist)).mpr fun k => ?_
    simp [List.mem_filter, and_comm]
  exact pm.length_eq
theorem comm_symm_l {a b c : List Int} (h1 : a.Nodup) (h2 : b.Nodup) : (comm (symm a b) c).length % 2 = ((comm a c).length + (comm b c).length) % 2 := by
  have z := sum_symm (fun k => if k ∈ c then (1 : Int) else 0) h1 h2
  rw [← comm_sum, ← comm_sum, ← comm_sum] at z
  omega
theorem comm_symm_r {a b c : List Int} (h1 : a.Nodup) (h2 : b.Nodup) (h3 : c.Nodup) : (comm a (symm b c)).length % 2 = ((comm a b).length + (comm a c).length) % 2 := by
  rw [comm_swap h1 (symm_nodup h2 h3), comm_symm_l h2 h3, comm_swap h2 h1, comm_swap h3 h1]
theorem par_symm {bs ns ms : List Int} (h1 : ns.Nodup) (h2 : ms.Nodup) : parB bs (symm ns ms) = (parB bs ns + parB bs ms) % 2 := by
  have a := sum_part (fun k => bs.getD k.toNat 0) (fun k => decide (k ∈ ms)) ns
  have b := sum_part (fun k => bs.getD k.toNat 0) (fun k => decide (k ∈ ns)) ms
  have pm : (ns.filter fun k => decide (k ∈ ms)).Perm (ms.filter fun k => decide (k ∈ ns)) := by
    refine (List.perm_ext_iff_of_nodup (h1.sublist List.filter_sublist) (h2.sublist List.filter_sublist)).mpr fun k => ?_
    simp [List.mem_filter, and_comm]
  have c := perm_sum (pm.map fun k => bs.getD k.toNat 0)
  unfold parB symm
  rw [List.map_append, List.sum_append]
  omega
/-- the parity before is the parity of the moved cells after -/
theorem par_moved {bs ns ts hs : List Int} (h1 : ∀ k ∈ ns, 0 ≤ k ∧ k < bs.length) (h2 : ∀ k ∈ ts, 0 ≤ k ∧ k < bs.length) (n1 : ns.Nodup) (n2 : ts.Nodup) (ev : (comm ts hs).length % 2 = 0) : parB (aftB bs ts hs) (moved ns ts hs) = parB bs ns := by
  have a := par_aft (bs := bs) (t1 := ts) (h1 := hs) (t2 := ns) h1
  have b := aft_par (bs := bs) h2 ev
  have p := par01 bs ns
  have q := par01 bs ts
  unfold moved
  by_cases z : (comm ns hs).length % 2 = 1
  · rw [if_pos z, par_symm n1 n2, b]
    by_cases y : parB bs ts = 1
    · rw [if_pos ⟨y, z⟩] at a
      omega
    · rw [if_neg fun c => y c.1] at a
      omega
  · rw [if_neg z, a, if_neg fun c => z c.2]
theorem le_lt {l : List Int} (h : l.Pairwise (· ≤ ·)) (n : l.Nodup) : l.Pairwise (· < ·) := (h.and n).imp fun ⟨a, b⟩ => by omega
end K33
namespace K33
open PySem PySem.Spec PyProof.Rows L2 Par
theorem lay_tints : ∀ ns : List Int, (PyData.tuple (ns.map PyData.int)).canLay0 = true := by
  intro ns
  induction ns with
  | nil => rfl
  | cons n ns ih => exact ih
theorem shaped_tints (ns : List Int) : SeqAt.shaped (.tuple (ns.map PyData.int)) = true := by
  unfold SeqAt.shaped
  rw [lay_tints]
  have : (PyData.tuple (ns.map PyData.int)).depth = 1 := by
    show PyData.depthAll (ns.map PyData.int) + 1 = 1
    rw [depth_ints]
  rw [this]
  rfl
theorem eqv_ints : ∀ ns ms : List Int, PyData.eqvAll (ns.map PyData.int) (ms.map PyData.int) = decide (ns = ms)
  | [], [] => by simp [PyData.eqvAll]
  | [], _ :: _ => by simp [PyData.eqvAll]
  | _ :: _, [] => by simp [PyData.eqvAll]
  | n :: ns, m :: ms => by
    have ih := eqv_ints ns ms
    show ((n == m) && PyData.eqvAll (ns.map PyData.int) (ms.map PyData.int)) = _
    rw [ih]
    by_cases z : n = m <;> by_cases y : ns = ms <;> simp [z, y]
theorem eqv_tints (ns ms : List Int) : PyData.eqv (.tuple (ns.map PyData.int)) (.tuple (ms.map PyData.int)) = decide (ns = ms) := eqv_ints ns ms
theorem len2 : ∀ n : Nat, n < 40 → (Str.ofString (toString ((n : Nat) : Int))).length ≤ 2 := by decide +kernel
theorem lenK {k : Int} (h : 0 ≤ k ∧ k < 40) : (Str.ofString (toString k)).length ≤ 2 := by
  have := len2 k.toNat (by omega)
  rwa [Int.toNat_of_nonneg h.1] at this
/-- the text of cells -/
def cellsT (ns : List Int) : Str := if ns.isEmpty = true then "-" else Txt.join "," (ns.map fun k => Str.ofString (toString k))
theorem join_len (y : Str) : ∀ parts : List Str, (Str.join y parts).length ≤ (parts.map (·.length)).sum + parts.length * y.length
  | [] => Nat.zero_le _
  | [x] => by
    show x.length ≤ _
    simp
  | x :: z :: r => by
    have ih := join_len y (z :: r)
    have e : (Str.join y (x :: z :: r)).length = x.length + y.length + (Str.join y (z :: r)).length := by
      show (x ++ y ++ Str.join y (z :: r)).length = _
      simp [Str.length, Str.cps_append]
      omega
    have f : (r.length + 1 + 1) * y.length = (r.length + 1) * y.length + y.length := Nat.succ_mul _ _
    simp only [List.map_cons, List.sum_cons, List.length_cons] at ih ⊢
    omega
theorem two_sum : ∀ {ns : List Int}, (∀ k ∈ ns, 0 ≤ k ∧ k < 40) → ((ns.map fun k => Str.ofString (toString k)).map (·.length)).sum ≤ 2 * ns.length
  | [], _ => by simp
  | k :: ns, h => by
    have ih := two_sum fun x hx => h x (List.mem_cons_of_mem _ hx)
    have := lenK (h k (List.mem_cons_self ..))
    simp only [List.map_cons, List.sum_cons, List.length_cons] at ih ⊢
    omega
theorem cellsT_len {ns : List Int} (h : ∀ k ∈ ns, 0 ≤ k ∧ k < 40) (l : ns.length ≤ 40) : (cellsT ns).length ≤ 200 := by
  unfold cellsT
  split
  · decide +kernel
  · have a := join_len "," (ns.map fun k => Str.ofString (toString k))
    rw [← TL.join_eq] at a
    have b := two_sum h
    rw [List.length_map] at a
    have c : (Str.ofString ",").length = 1 := by decide +kernel
    rw [c] at a
    omega
section
variable {P : Program} {w : World} {K : PySem.W.Frag} {mg : Str → Option Value} {base : Heap}
/-- the flips at fs are these -/
def Fls (CF : Addr) (H : Hp) : List Addr → List (List Int × List Int) → Prop
  | [], [] => True
  | f :: fs, p :: ps => Fp CF H f p.1 p.2 ∧ OkF p.1 p.2 ∧ Fls CF H fs ps
  | _, _ => False
theorem Fls.same {CF : Addr} {H H' : Hp} (s : Same H H') : ∀ {fs : List Addr} {ps : List (List Int × List Int)}, Fls CF H fs ps → Fls CF H' fs ps
  | [], [], _ => True.intro
  | _ :: _, _ :: _, h => ⟨h.1.same s, h.2.1, h.2.2.same s⟩
  | [], _ :: _, h => h.elim
  | _ :: _, [], h => h.elim
theorem Fls.len {CF : Addr} {H : Hp} : ∀ {fs : List Addr} {ps : List (List Int × List Int)}, Fls CF H fs ps → fs.length = ps.length
  | [], [], _ => rfl
  | _ :: _, _ :: _, h => by
    rw [List.length_cons, List.length_cons, h.2.2.len]
  | [], _ :: _, h => h.elim
  | _ :: _, [], h => h.elim
theorem Fls.at {CF : Addr} {H : Hp} : ∀ {fs : List Addr} {ps : List (List Int × List Int)} {i : Nat} {f : Addr}, Fls CF H fs ps → fs[i]? = some f → ∃ p, ps[i]? = some p ∧ Fp CF H f p.1 p.2 ∧ OkF p.1 p.2
  | [], [], _, _, _, h => nomatch h
  | _ :: _, p :: _, 0, _, h, e => ⟨p, rfl, by
      have : _ = _ := Option.some.inj e
      exact this ▸ h.1, h.2.1⟩
  | _ :: _, _ :: _, i + 1, _, h, e => h.2.2.at (i := i) e
  | [], _ :: _, _, _, h, _ => h.elim
  | _ :: _, [], _, _, h, _ => h.elim
/-- the bits after these flips -/
def runB (bs : List Int) (ps : List (List Int × List Int)) : List Int := ps.foldl (fun b p => aftB b p.1 p.2) bs
theorem run_len : ∀ (ps : List (List Int × List Int)) (bs : List Int), (runB bs ps).length = bs.length
  | [], _ => rfl
  | p :: ps, bs => by
    show (runB (aftB bs p.1 p.2) ps).length = _
    rw [run_len ps, aft_len]
theorem run_ok {CF : Addr} {H : Hp} : ∀ {fs : List Addr} {ps : List (List Int × List Int)} {bs : List Int}, Fls CF H fs ps → OkB bs → OkB (runB bs ps)
  | [], [], _, _, h => h
  | _ :: _, p :: ps, bs, h, ok => (show OkB (runB (aftB bs p.1 p.2) ps) from run_ok h.2.2 (aft_ok ok fun k hk => (h.2.1.2.1 k hk).1))
  | [], _ :: _, _, h, _ => h.elim
  | _ :: _, [], _, h, _ => h.elim
theorem run_take {ps : List (List Int × List Int)} {bs : List Int} {i : Nat} {p : List Int × List Int} (h : ps[i]? = some p) : runB bs (ps.take (i + 1)) = aftB (runB bs (ps.take i)) p.1 p.2 := by
  unfold runB
  rw [List.take_succ, h, List.foldl_append]
  rfl
theorem fit_some (ts hs : List Int) (h : OkF ts hs) : ∃ M, Fits ts hs M := by
  obtain ⟨k1, k2, _⟩ := h
  have big : ∀ l : List Int, (∀ k ∈ l, 0 ≤ k) → ∃ M : Int, 1 ≤ M ∧ (∀ k ∈ l, k < M) ∧ (M = 1 ∨ M - 1 ∈ l) := by
    intro l
    induction l with
    | nil => exact fun _ => ⟨1, by decide, (fun k hk => nomatch hk), .inl rfl⟩
    | cons a l ih =>
      intro h
      obtain ⟨M, m1, m2, m3⟩ := ih fun k hk => h k (List.mem_cons_of_mem _ hk)
      by_cases z : a < M
      · refine ⟨M, m1, fun k hk => ?_, m3.imp id fun q => List.mem_cons_of_mem _ q⟩
        rcases List.mem_cons.mp hk with rfl | q
        · exact z
        · exact m2 k q
      · have a0 := h a (List.mem_cons_self ..)
        refine ⟨a + 1, by omega, fun k hk => ?_, .inr (by rw [show a + 1 - 1 = a by omega]; exact List.mem_cons_self ..)⟩
        rcases List.mem_cons.mp hk with rfl | q
        · omega
        · have := m2 k q
          omega
  obtain ⟨M, m1, m2, m3⟩ := big (ts ++ hs) fun k hk => by
    rcases List.mem_append.mp hk with q | q
    · exact (k1 k q).1
    · have := (k2 k q).1
      omega
  exact ⟨M, fun k hk => m2 k (List.mem_append.mpr hk), m1, m3.imp id fun q => List.mem_append.mp q⟩
def spFlipS (K : PySem.W.Frag) (C : Addr) : Sp := fun vs H Q _ => ∃ (p : Addr) (ts hs : List Int), vs = [.ref p] ∧ Pr K H p ts hs ∧ OkF ts hs ∧ (comm ts hs).length % 2 = 0 ∧
  ∀ q (ts' hs' : List Int) H', H q = none → Same H H' → ts'.Perm ts → hs'.Perm hs → ts'.Pairwise (· ≤ ·) → hs'.Pairwise (· ≤ ·) → Fp C H' q ts' hs' → Q (.ref q) H'
theorem scFlipS : FnScope ["_law_pair_here"] ["_law_pair_here"] (defScope sFlipOf) := ⟨rfl, rfl, rfl, by decide +kernel, rfl, by decide +kernel, by decide +kernel⟩
theorem ok_flipS {f C : Addr} {fd : FuncData} (F : Fun K "_law_flip_of" "_law_flip_of" sFlipOf f fd) (B : Bl mg) (T : FC K mg C) (DI : HasFI P w K mg base C) : FnOk P w K mg base CX0 8 f fd ["_law_pair_here"] (spFlipS K C) := by
  obtain ⟨fI, fdI, GI, MI, bI⟩ := DI
  refine F.ok scFlipS (fun vs H Q E h => ?_) (fun cdv A outer s H vs Q E hr h => ?_)
  · obtain ⟨p, ts, hs, rfl, _⟩ := h
    rfl
  · obtain ⟨p, ts, hs, rfl, ⟨t, g, h1, h2, h3⟩, ⟨k1, k2, k3, k4, k5, k6⟩, ev, out⟩ := h
    refine ⟨_, pss_one (ps_ret (pe_make (E := E0) MI GI hr (by rfl) T.mgC bI .nil pass0 (pa_cons (pe_callTy call_list_of (by rfl) B.list (by decide +kernel) (pa_cons (pe_ix ix_tup (pv 0) pe_int (fun _ _ => rfl)) pa_nil)) (pa_cons (pe_callTy call_list_of (by rfl) B.list (by decide +kernel) (pa_cons (pe_ix ix_tup (pv 0) pe_int (fun _ _ => rfl)) pa_nil)) pa_nil)))), ?_⟩
    refine ⟨_, rfl, p, _, 0, .ref t, rfl, rfl, h1, rfl, t, _, rfl, .inl (SqL.of h2), fun l1 hl1 => ?_⟩
    have s1 := same_new (o := .lst (ts.map V.int)) hl1
    refine ⟨_, rfl, p, _, 1, .ref g, rfl, rfl, same_sqt s1 h1, rfl, g, _, rfl, .inl (SqL.of (s1 _ _ h3)), fun l2 hl2 => ?_⟩
    have s2 := same_new (o := .lst (hs.map V.int)) hl2
    intro x dx hx hdx ne
    have s3 : Same (upd (upd H l1 (.lst (ts.map V.int))) l2 (.lst (hs.map V.int))) (upd (upd (upd (upd H l1 (.lst (ts.map V.int))) l2 (.lst (hs.map V.int))) dx (.own x)) x (.ins C dx [])) := fun z o e => by
      rw [upd_ne (ne_of_none e hx), upd_ne (ne_of_none e hdx)]
      exact e
    refine ⟨x, dx, l1, l2, ts, hs, rfl, upd_same, .inl (SqL.of (s3 _ _ (s2 _ _ upd_same))), .inl (SqL.of (s3 _ _ upd_same)), by omega, by omega, k1, k2, k3, k4, ev, fun H' ts' hs' bt p1 p2 w1 w2 fp => ⟨rfl, ?_⟩⟩
    have s12 := s1.trans s2
    refine out x ts' hs' H' (s12.free hx) (fun z o e => ?_) p1 p2 w1 w2 fp
    have e2 := s12 z o e
    exact bt z o (ne_of_none e2 hx) (s3 _ _ e2)
end
theorem good_cells {ns : List Int} (h : ∀ k ∈ ns, 0 ≤ k ∧ k < 40) (l : ns.length ≤ 40) : good (.list (ns.map PyData.int)) := good_list (fun d hd => by
  obtain ⟨k, hk, rfl⟩ := List.mem_map.mp hd
  have := h k hk
  exact small_int (by omega)) (by rw [List.length_map]; omega)
theorem good_cellsT {ns : List Int} (h : ∀ k ∈ ns, 0 ≤ k ∧ k < 40) (l : ns.length ≤ 40) : good (.tuple (ns.map PyData.int)) := good_tuple (fun d hd => by
  obtain ⟨k, hk, rfl⟩ := List.mem_map.mp hd
  have := h k hk
  exact small_int (by omega)) (by rw [List.length_map]; omega)
end K33
namespace K33
open PySem PySem.Spec PyProof.Rows L2 Par
section
variable {P : Program} {w : World} {K : PySem.W.Frag} {mg : Str → Option Value} {base : Heap}
/-- what Flip(..) leads to -/
theorem made_flip {C u v : Addr} {H : Hp} {ts hs : List Int} {W : Addr → Hp → Prop} (hu : Sq K H u (ts.map V.int)) (hv : Sq K H v (hs.map V.int)) (l1 : ts.length ≤ 500) (l2 : hs.length ≤ 500) (c1 : ∀ k ∈ ts, 0 ≤ k ∧ k < 40) (c2 : ∀ k ∈ hs, 1 ≤ k ∧ k < 40) (n1 : ts.Nodup) (n2 : hs.Nodup) (ev : (comm ts hs).length % 2 = 0)
    (out : ∀ x (ts' hs' : List Int) H', H x = none → Same H H' → ts'.Perm ts → hs'.Perm hs → ts'.Pairwise (· ≤ ·) → hs'.Pairwise (· ≤ ·) → Fp C H' x ts' hs' → W x H') :
    ∀ x dx, H x = none → H dx = none → dx ≠ x → spFInit K C [.ref x, .ref u, .ref v] (upd (upd H dx (.own x)) x (.ins C dx [])) (fun v H3 => v = .non ∧ W x H3) (fun _ _ _ => False) := by
  intro x dx hx hdx ne
  have s3 : Same H (upd (upd H dx (.own x)) x (.ins C dx [])) := fun z o e => by
    rw [upd_ne (ne_of_none e hx), upd_ne (ne_of_none e hdx)]
    exact e
  refine ⟨x, dx, u, v, ts, hs, rfl, upd_same, hu.same s3, hv.same s3, l1, l2, c1, c2, n1, n2, ev, fun H' ts' hs' bt p1 p2 w1 w2 fp => ⟨rfl, ?_⟩⟩
  exact out x ts' hs' H' hx (fun z o e => bt z o (ne_of_none e hx) (s3 _ _ e)) p1 p2 w1 w2 fp
/-- the pairs at as are these -/
def Prs (K : PySem.W.Frag) (H : Hp) : List Addr → List (List Int × List Int) → Prop
  | [], [] => True
  | a :: as, p :: ps => Pr K H a p.1 p.2 ∧ Prs K H as ps
  | _, _ => False
theorem Prs.same {H H' : Hp} (s : Same H H') : ∀ {as : List Addr} {ps : List (List Int × List Int)}, Prs K H as ps → Prs K H' as ps
  | [], [], _ => True.intro
  | _ :: _, _ :: _, h => ⟨h.1.same s, h.2.same s⟩
  | [], _ :: _, h => h.elim
  | _ :: _, [], h => h.elim
theorem Prs.len {H : Hp} : ∀ {as : List Addr} {ps : List (List Int × List Int)}, Prs K H as ps → as.length = ps.length
  | [], [], _ => rfl
  | _ :: _, _ :: _, h => by
    rw [List.length_cons, List.length_cons, h.2.len]
  | [], _ :: _, h => h.elim
  | _ :: _, [], h => h.elim
theorem Prs.at {H : Hp} : ∀ {as : List Addr} {ps : List (List Int × List Int)} {i : Nat} {a : Addr}, Prs K H as ps → as[i]? = some a → ∃ p, ps[i]? = some p ∧ Pr K H a p.1 p.2
  | [], [], _, _, _, h => nomatch h
  | _ :: _, p :: _, 0, _, h, e => ⟨p, rfl, by
      have : _ = _ := Option.some.inj e
      exact this ▸ h.1⟩
  | _ :: _, _ :: _, i + 1, _, h, e => h.2.at (i := i) e
  | [], _ :: _, _, _, h, _ => h.elim
  | _ :: _, [], _, _, h, _ => h.elim
def spAfterAll (K : PySem.W.Frag) : Sp := fun vs H Q _ => ∃ (a l : Addr) (bs : List Int) (as : List Addr) (ps : List (List Int × List Int)), vs = [.ref a, .ref l] ∧ H a = some (.lst (bs.map V.int)) ∧ bs.length ≤ 40 ∧ H l = some (.lst (as.map V.ref)) ∧ Prs K H as ps ∧
  (∀ p ∈ ps, p.1.length ≤ 500 ∧ ∀ k ∈ p.1, 0 ≤ k ∧ k < bs.length) ∧ ∀ q H', Same H H' → H' q = some (.lst ((runB bs ps).map V.int)) → Q (.ref q) H'
abbrev nAfterAll : List Str := ["_law_bits_here", "_law_pairs", "_law_found", "_law_pair_here"]
theorem scAfterAll : FnScope nAfterAll ["_law_bits_here", "_law_pairs"] (defScope slAfterAll) := ⟨rfl, rfl, rfl, by decide +kernel, rfl, by decide +kernel, by decide +kernel⟩
theorem ok_afterAll {f : Addr} {fd : FuncData} (F : Fun K "_law_after_all" "_law_after_all" slAfterAll f fd) (B : Bl mg) (DA : Has P w K mg base "_law_after" 3 ["_law_bits_here", "_law_pair_here"] (spAfter K)) : FnOk P w K mg base CX0 4 f fd ["_law_bits_here", "_law_pairs"] (spAfterAll K) := by
  obtain ⟨fA, fdA, GA, mA, kA, bA⟩ := DA
  refine F.ok scAfterAll (fun vs H Q E h => ?_) (fun cdv A outer s H vs Q E hr h => ?_)
  · obtain ⟨a, l, bs, as, ps, rfl, _⟩ := h
    rfl
  · obtain ⟨a, l, bs, as, ps, rfl, ha, h40, hl, hp, hin, out⟩ := h
    refine ⟨_, pss_cons (ps_set (i := 2) scAfterAll.nd rfl (Or.inl rfl) (pe_callTy call_list_of (by rfl) B.list (by decide +kernel) (pa_cons (pv 0) pa_nil)))
      (pss_cons (ps_for PassesOwn.never rfl (pi_list (pv 1)) (pg_name (i := 3) scAfterAll.nd rfl (Or.inl rfl)) (pss_one (ps_set (i := 2) scAfterAll.nd rfl (Or.inl rfl) (pe_call GA hr (by rfl) mA kA bA .nil pass0 (pa_cons (pv 2) (pa_cons (pv 3) pa_nil))))))
      (pss_one (ps_ret (pv 2)))), ?_⟩
    refine ⟨_, rfl, a, _, rfl, .inl (SqL.of ha), fun c hc => ?_⟩
    have s1 := same_new (o := .lst (bs.map V.int)) hc
    refine ⟨_, rfl, l, rfl, ⟨_, SqL.of (s1 _ _ hl)⟩, ?_⟩
    refine for_list (K := K) (a := l) (xs := as.map V.ref) (fun i σ H' => Same H H' ∧ ∃ (q : Addr) (v3 : Option V), σ = [some (.ref a), some (.ref l), some (.ref q), v3] ∧ H' q = some (.lst ((runB bs (ps.take i)).map V.int)))
      ⟨s1, c, none, rfl, upd_same⟩ (fun i σ H' _ h => SqL.of (h.1 _ _ hl)) ?_ ?_
    · rintro i x σ H2 hx ⟨s2, q, v3, rfl, hq⟩
      rw [List.getElem?_map] at hx
      obtain ⟨g, hg, rfl⟩ : ∃ g, as[i]? = some g ∧ x = V.ref g := by
        cases e : as[i]? with
        | none => rw [e] at hx; cases hx
        | some k => rw [e] at hx; exact ⟨k, rfl, (Option.some.inj hx).symm⟩
      obtain ⟨p, hpp, pr⟩ := hp.at hg
      obtain ⟨l1, l2⟩ := hin p (List.mem_of_getElem? hpp)
      refine ⟨_, rfl, _, rfl, q, g, runB bs (ps.take i), p.1, p.2, rfl, hq, by rw [run_len]; exact h40, pr.same s2, l1, fun k hk => by rw [run_len]; exact l2 k hk, fun r H3 hr3 s3 e3 => ?_⟩
      refine ⟨s2.trans s3, r, _, rfl, ?_⟩
      rw [run_take hpp]
      exact e3
    · rintro σ H2 ⟨s2, q, v3, rfl, hq⟩
      rw [List.length_map, hp.len, List.take_length] at hq
      exact ⟨_, rfl, out q H2 s2 hq⟩
theorem seq_outE {te : TE} {g : TG} {rest : TS} {D : Ends} {σ : L2.St} {H : Hp} (R : V → Hp → Prop) (out : ∀ v H', R v H' → tSeq (tAsg (tC v) g) rest D σ H') (h : ∀ Q' : VK, (∀ v H', R v H' → Q' v H') → te σ H Q') : tSeq (tAsg te g) rest D σ H := h _ out
end
end K33
namespace K33
open PySem PySem.Spec PyProof.Rows L2 Par
theorem rg_eq (n : Nat) : rgV 0 ((n : Nat) : Int) = ((List.range n).map fun i => (0 : Int) + ((i : Nat) : Int)).map V.int := by
  unfold rgV
  rw [List.map_map, show (((n : Nat) : Int) - 0).toNat = n by omega]
  rfl
theorem all_bitsL (bs : List Int) : (List.range bs.length).map (fun i => bs.getD i 0) = bs := by
  refine List.ext_getElem (by simp) fun i h1 h2 => ?_
  simp [List.getElem?_eq_getElem h2]
theorem sum_all (bs : List Int) : (((List.range bs.length).map fun i => (0 : Int) + ((i : Nat) : Int)).map fun k => bs.getD k.toNat 0).sum = bs.sum := by
  rw [List.map_map]
  have e : (List.range bs.length).map ((fun k : Int => bs.getD k.toNat 0) ∘ fun i => (0 : Int) + ((i : Nat) : Int)) = (List.range bs.length).map (fun i => bs.getD i 0) := List.map_congr_left fun i _ => by
    show bs.getD ((0 : Int) + ((i : Nat) : Int)).toNat 0 = bs.getD i 0
    rw [Int.zero_add, Int.toNat_natCast]
  rw [e, all_bitsL]
theorem map_bits (bs : List Int) : (List.range bs.length).map (fun i => decide (bs.getD i 0 = 1)) = bs.map fun b => decide (b = 1) := by
  have := congrArg (List.map fun b : Int => decide (b = 1)) (all_bitsL bs)
  rw [List.map_map] at this
  exact this
theorem bit_eq (k : Int) : decide (V.int k = V.int 1) = decide (k = 1) := by
  by_cases z : k = 1
  · rw [decide_eq_true z, decide_eq_true (by rw [z])]
  · rw [decide_eq_false z, decide_eq_false fun q => z (by injection q)]
section
variable {P : Program} {w : World} {K : PySem.W.Frag} {mg : Str → Option Value} {base : Heap}
def spIsSo (C : Addr) : Sp := fun vs H Q _ => ∃ (b a : Addr) (bs : List Int), vs = [.ref b, .ref a] ∧ Bd C H b bs ∧ OkB bs ∧ H a = some (.lst (bs.map V.int)) ∧ ∀ H', Same H H' → Q (.bl true) H'
abbrev nIsSo : List Str := ["_law_found", "_law_bits_here", "_law_told", "_law_spot", "_law_bit"]
theorem scIsSo : FnScope nIsSo ["_law_found", "_law_bits_here"] (defScope sIsSo) := ⟨rfl, rfl, rfl, by decide +kernel, rfl, by decide +kernel, by decide +kernel⟩
theorem ok_isSo {f C : Addr} {fd : FuncData} (F : Fun K "_law_is_so" "_law_is_so" sIsSo f fd) (B : Bl mg) (T : BC K mg C) (TI : IsC K C) (DS : HasM P w K mg base C "size" 2 ["self"] (spSize C)) (DU : HasM P w K mg base C "up" 2 ["self"] (spUps C))
    (DX : HasM P w K mg base C "is_up" 4 ["self", "cell"] (spIsUp C)) (DY : HasM P w K mg base C "parity" 6 ["self", "cells"] (spPar K C)) (DV : Has P w K mg base "_law_up" 2 ["_law_bits_here"] (spUpL K)) : FnG P w K mg base CX0 7 f fd ["_law_found", "_law_bits_here"] (spIsSo C) := by
  obtain ⟨fS, fdS, GS, mS, bS⟩ := DS
  obtain ⟨fU, fdU, GU, mU, bU⟩ := DU
  obtain ⟨fX, fdX, GX, mX, bX⟩ := DX
  obtain ⟨fY, fdY, GY, mY, bY⟩ := DY
  obtain ⟨fV, fdV, GV, mV, kV, bV⟩ := DV
  refine fnG_of F scIsSo (fun vs H Q E h => ?_) (fun cdv A outer s H vs Q E gs hr h => ?_)
  · obtain ⟨b, a, bs, rfl, _⟩ := h
    rfl
  · obtain ⟨b, a, bs, rfl, hB, hO, ha, out⟩ := h
    obtain ⟨dx, t, h1, h2⟩ := id hB
    have hb40 := hO.2.2
    have hu := hr.units
    have r1 : Room 2 _ := hr.mono (by decide)
    have r3 : Room 4 _ := hr.mono (by decide)
    refine ⟨_, pss_cons (ps_if (PW.pt (pw_or (pt_not (pt_val (pe_callB call_isi (by rfl) B.isinstance (by decide +kernel) (pa_cons (pv 0) (pa_cons (pe_glob (v := .ref C) (by rfl) T.mgC rfl) pa_nil))))) (pw_or1 (pt_cmpR op_ne (pe_meth0 (pv 0) T.cl mS GS r1 bS .nil pass0) (pe_callB call_len_seq (by rfl) B.len PySem.boot_len (pa_cons (pv 1) pa_nil)) (nomark _))))) (pss_one (ps_ret pe_bl)) pss_nil)
      (pss_cons (ps_set (i := 2) scIsSo.nd rfl (Or.inl rfl) (pe_op op_cat (pe_lc (own := [("_law_spot", 3)]) (g := gName 3) (te := tMeth C "is_up" (spIsUp C) [] E0 (tVar 0) (tCons (tVar 3) tNil)) rfl scIsSo.nd (pi_range1 (by rfl) B.range (pa_cons (pe_callB call_len_seq (by rfl) B.len PySem.boot_len (pa_cons (pv 1) pa_nil)) pa_nil)) (blkOk_by (own := [("_law_spot", 3)]) (N := nIsSo) (sc := defScope sIsSo) (by decide +kernel))
          (fun _ _ _ _ _ => pg_name (i := 3) scIsSo.nd rfl (Or.inl rfl)) (fun _ _ _ _ _ => pts_nil) (fun _ _ _ _ _ => by exact pe_meth (pv 0) T.cl mX GX r3 bX .nil pass0 (pa_cons (pv 3) pa_nil)))
        (pe_lst (pa_cons (pe_meth (pv 0) T.cl mY GY hr bY .nil pass0 (pa_cons (pe_listRg rfl (by rfl) B.list (prg_1 (by rfl) B.range (pe_callB call_len_seq (by rfl) B.len PySem.boot_len (pa_cons (pv 1) pa_nil)))) pa_nil)) pa_nil))))
      (pss_cons (ps_if (pt_cmpR op_ne (pe_callB (cr_repr gs hu) (by rfl) B.repr (by decide +kernel) (pa_cons (pv 2) pa_nil)) (pe_callB (cr_repr gs hu) (by rfl) B.repr (by decide +kernel) (pa_cons (pe_op op_cat (pe_lc (own := [("_law_bit", 4)]) (g := gName 4) rfl scIsSo.nd (pi_list (pv 1)) (blkOk_by (own := [("_law_bit", 4)]) (N := nIsSo) (sc := defScope sIsSo) (by decide +kernel))
          (fun _ _ _ _ _ => pg_name (i := 4) scIsSo.nd rfl (Or.inl rfl)) (fun _ _ _ _ _ => pts_nil) (fun _ _ _ _ _ => pe_cmpR op_eq (pv 4) pe_int (nomark _))) (pe_lst (pa_cons (pe_op op_mod (pe_callB (cr_sum rfl) (by rfl) B.sum (by decide +kernel) (pa_cons (pv 1) pa_nil)) pe_int) pa_nil))) pa_nil)) (nomark _)) (pss_one (ps_ret pe_bl)) pss_nil)
      (pss_one (ps_ret (pe_cmpR op_eq (pe_callB (cr_repr gs hu) (by rfl) B.repr (by decide +kernel) (pa_cons (pe_meth0 (pv 0) T.cl mU GU r1 bU .nil pass0) pa_nil)) (pe_callB (cr_repr gs hu) (by rfl) B.repr (by decide +kernel) (pa_cons (pe_callTy call_tuple_of (by rfl) B.tuple (by decide +kernel) (pa_cons (pe_call GV r1 (by rfl) mV kV bV .nil pass0 (pa_cons (pv 1) pa_nil)) pa_nil)) pa_nil)) (nomark _)))))), ?_⟩
    refine ⟨_, rfl, _, _, _, _, true, rfl, .own C, .base (.ins h1 T.cl TI.ha TI.hn TI.ht TI.hm), kit_self, _, rfl, iteF ?_⟩
    refine ⟨_, rfl, b, dx, _, rfl, h1, no_fld (by decide +kernel), b, bs, rfl, hB, _, rfl, a, _, rfl, .inl (SqL.of ha), ?_⟩
    rw [List.length_map]
    refine ⟨rfl, _, rfl, iteNS rfl ?_⟩
    refine ⟨_, rfl, a, _, rfl, .inl (SqL.of ha), _, rfl, ?_, ?_, fun D hD => ?_⟩
    · rw [List.length_map]
      omega
    · rw [List.length_map]
      omega
    rw [List.length_map, Int.toNat_natCast]
    refine lc_range (lo := 0) (n := bs.length) (fun i H' => Same H H' ∧ H' D = some (.lst (((List.range i).map fun i => decide (bs.getD i 0 = 1)).map V.bl))) ⟨same_new hD, upd_same⟩ ?_ ?_
    · rintro i H4 hi ⟨s4, hD4⟩
      refine ⟨rfl, yesT ?_⟩
      refine ⟨_, rfl, b, dx, _, rfl, s4 _ _ h1, no_fld (by decide +kernel), _, rfl, b, bs, i, (by rw [Int.zero_add]; rfl), hB.same s4, hi, ?_⟩
      refine ⟨_, hD4, ?_, ?_, ?_⟩
      · rw [List.length_map, List.length_map, List.length_range]
        exact small1000 (by omega)
      · intro z o e
        rw [upd_ne (ne_of_none e hD)]
        exact s4 z o e
      · rw [upd_same, List.range_succ, List.map_append, List.map_append]
        rfl
    rintro H4 ⟨s4, hD4⟩
    rw [map_bits] at hD4
    refine ⟨_, rfl, b, dx, _, rfl, s4 _ _ h1, no_fld (by decide +kernel), _, rfl, a, _, rfl, .inl (SqL.of (s4 _ _ ha)), _, rfl, RgOk.of_le (by first | omega | (rw [List.length_map]; omega)) (by first | omega | (rw [List.length_map]; omega)) (by first | omega | (rw [List.length_map]; omega)) (by first | omega | (rw [List.length_map]; omega)), fun q hq => ?_⟩
    rw [List.length_map, rg_eq]
    have s5 := same_new (o := .lst (((List.range bs.length).map fun i => (0 : Int) + ((i : Nat) : Int)).map V.int)) hq
    have s05 := s4.trans s5
    refine ⟨b, q, bs, (List.range bs.length).map fun i => (0 : Int) + ((i : Nat) : Int), rfl, hB.same s05, .inl (SqL.of upd_same), ?_, ?_, ?_, fun H6 s6 => ?_⟩
    · rw [List.length_map, List.length_range]
      omega
    · intro k hk
      obtain ⟨i, hi, rfl⟩ := List.mem_map.mp hk
      have := List.mem_range.mp hi
      omega
    · refine nodup_lt_ ?_
      rw [List.pairwise_map]
      exact List.pairwise_lt_range.imp (fun h => by omega)
    rw [sum_all]
    have s06 := s05.trans s6
    refine ⟨(by show 1 ≤ sizeLine; decide), fun L7 hL7 => ?_⟩
    have s7 := same_new (o := .lst [.int (bs.sum % 2)]) hL7
    have eD : H6 D = some (.lst ((bs.map fun b => decide (b = 1)).map V.bl)) := s6 _ _ (s5 _ _ hD4)
    refine ⟨D, L7, _, _, rfl, rfl, s7 _ _ eD, upd_same, (by rw [List.length_map, List.length_map, sizeLine_eq]; show _ + 1 ≤ _; omega), fun L8 hL8 => ?_⟩
    have s8 := same_new (o := .lst ((bs.map fun b => decide (b = 1)).map V.bl ++ [.int (bs.sum % 2)])) hL8
    have s08 := (s06.trans s7).trans s8
    have dps : ∀ {H' : Hp}, DpAll K H' ((bs.map fun b => decide (b = 1)).map V.bl ++ [.int (bs.sum % 2)]) ((bs.map fun b => decide (b = 1)).map PyData.bool ++ [.int (bs.sum % 2)]) := fun {H'} => dps_append (dps_bools _) (.cons (.int _) .nil)
    obtain ⟨sh, dep, len⟩ := shown_good (good_list (ds := (bs.map fun b => decide (b = 1)).map PyData.bool ++ [.int (bs.sum % 2)]) (fun d hd => by
      rcases List.mem_append.mp hd with z | z
      · obtain ⟨c, _, rfl⟩ := List.mem_map.mp z
        exact small_bool c
      · have e : d = .int (bs.sum % 2) := by simpa using z
        rw [e]
        exact small_int (by omega)) (by rw [List.length_append, List.length_map, List.length_map]; show _ + 1 ≤ _; omega))
    refine ⟨_, rfl, _, _, rfl, .dp (.lst (SqL.of upd_same) dps), sh, dep, len, ?_⟩
    refine ⟨_, rfl, a, rfl, ⟨_, SqL.of (s08 _ _ ha)⟩, fun D2 hD2 => ?_⟩
    refine lc_list (K := K) (a := a) (xs := bs.map V.int) (fun i H' => Same H H' ∧ H' D2 = some (.lst (((bs.take i).map fun b => decide (b = 1)).map V.bl))) ⟨s08.trans (same_new hD2), upd_same⟩ (fun i H' _ h => SqL.of (h.1 _ _ ha)) ?_ ?_
    · rintro i x H5 hx ⟨s5, hD5⟩
      rw [List.getElem?_map] at hx
      obtain ⟨k, hk, rfl⟩ : ∃ k, bs[i]? = some k ∧ x = V.int k := by
        cases e : bs[i]? with
        | none => rw [e] at hx; cases hx
        | some k => rw [e] at hx; exact ⟨k, rfl, (Option.some.inj hx).symm⟩
      refine ⟨rfl, yesT ?_⟩
      refine ⟨_, rfl, rfl, _, hD5, ?_, ?_, ?_⟩
      · rw [List.length_map, List.length_map, List.length_take]
        exact small1000 (by omega)
      · intro z o e
        rw [upd_ne (ne_of_none e (s08.free hD2))]
        exact s5 z o e
      · rw [upd_same, List.take_succ, hk, List.map_append, List.map_append]
        show some (HO.lst (_ ++ [V.bl (decide (V.int k = V.int 1))])) = some (HO.lst (_ ++ [V.bl (decide (k = 1))]))
        rw [bit_eq]
    rintro H9 ⟨s9, hD9⟩
    rw [List.length_map, List.take_length] at hD9
    refine ⟨_, rfl, a, bs, rfl, SqL.of (s9 _ _ ha), _, _, rfl, rfl, (by show (0 : Int) < 2; decide), (by show 1 ≤ sizeLine; decide), fun L10 hL10 => ?_⟩
    have s10 := same_new (o := .lst [.int (bs.sum % 2)]) hL10
    refine ⟨D2, L10, _, _, rfl, rfl, s10 _ _ hD9, upd_same, (by rw [List.length_map, List.length_map, sizeLine_eq]; show _ + 1 ≤ _; omega), fun L11 hL11 => ?_⟩
    have s11 := same_new (o := .lst ((bs.map fun b => decide (b = 1)).map V.bl ++ [.int (bs.sum % 2)])) hL11
    refine ⟨_, _, rfl, .dp (.lst (SqL.of upd_same) dps), sh, dep, len, rfl, _, rfl, iteNS rfl ?_⟩
    have s011 := (s9.trans s10).trans s11
    refine ⟨_, rfl, b, dx, _, rfl, s011 _ _ h1, no_fld (by decide +kernel), b, bs, rfl, hB.same s011, hb40, fun p H12 hp s12 hp12 => ?_⟩
    obtain ⟨sh2, dep2, len2⟩ := shown_good (good_cellsT (ns := upF 0 bs) (fun k hk => by
      have := upF_in hk
      omega) (by
      have := upF_len 0 bs
      omega))
    refine ⟨_, _, rfl, .dp (.tup (SqT.of hp12) (dps_ints _)), sh2, dep2, len2, ?_⟩
    have s012 := s011.trans s12
    refine ⟨_, rfl, a, bs, rfl, s012 _ _ ha, hb40, fun p2 H13 hp2 s13 hp13 => ?_⟩
    refine ⟨p2, _, rfl, .inl ⟨SqL.of hp13, fun l hl => ?_⟩⟩
    have s14 := same_new (o := .tup ((upF 0 bs).map V.int)) hl
    refine ⟨_, _, rfl, .dp (.tup (SqT.of upd_same) (dps_ints _)), sh2, dep2, len2, rfl, ?_⟩
    rw [decide_eq_true rfl]
    exact out _ ((s012.trans s13).trans s14)
end
end K33
namespace Par
open PySem PySem.Spec PyProof.Rows L2
/-! ### list(it), it an iterator that walks by itself and whose length hint is silent -/
section
variable {prog : Program} {w : World} {A : Around} {E : Value → Shared → Prop} {s : Shared}
variable {J : Addr} {fp wr : List Addr} {G : Array GenState → Array GenState → Prop} {n : Nat} {Pi : Nat → Value → Prop} {St : Nat → Shared → Prop} {T : String}
/-- what list(..) asks of the iterator besides its walk -/
structure Quiet (prog : Program) (w : World) (J : Addr) (St : Nat → Shared → Prop) (T : String) : Prop where
  ty : ∀ i s, St i s → s.TypeIs (.ref J) T
  is : T = "list_reverseiterator" ∨ T = "reversed"
  hint : ∀ (A : Around) (E : Value → Shared → Prop) (s : Shared) (Q : Bool → Shared → Prop), St 0 s → (∀ b tk, s.toks ≤ tk → Q b { s with toks := tk }) → wpAny (model prog w) A (Builtin.List.listLengthHint (.ref J)) Q E s
theorem made_it {R : Result → Shared → Prop} (W : WalksS prog w A.in1 J fp wr G n Pi St) (q : Quiet prog w J St T) (S : Addr) (hst : St 0 s) (hSf : S ∉ fp) (hJ : J ∈ fp) (hn : n ≤ sizeLine)
    (hS : s.heap.get? S = some { cls := .type "list", data := .seq #[] })
    (hR : ∀ s' acc c, Moved (S :: wr) G s s' → s'.heap.get? S = some { cls := .type "list", dict := none, data := .seq acc c, slots := #[] } → ItemsOf Pi acc n → R (.ok (.ret .none)) s') :
    wpAny (model prog w) A.in1 (Builtin.«list.__init__» ⟨[.ref S, .ref J], []⟩)
      (fun fin s' => match fin with | .done f => R (.ok f) s' | .again c => c.quiet = true ∧ codeAny (model prog w) A c R s') (fun e s' => R (.error e) s') s := by
  have ne : S ≠ J := by
    intro e
    exact hSf (e ▸ hJ)
  show wpAny _ A.in1 (do let old ← Builtin.List.listItems (.ref S); Builtin.List.listUpdate (.ref S) (fun _ => #[]); letGo old.toList.reverse
                         Builtin.List.listExtendWith (.ref S) (.ref J) .none) _ _ s
  refine wpAny_bind ?_
  unfold Builtin.List.listItems
  refine wpAny_bind (wpAny_seqItems hS rfl (wpAny_pure ?_))
  show wpAny _ A.in1 (updateSeq S (fun _ => #[]) >>= fun _ => letGo (#[] : Array Value).toList.reverse >>= fun _ =>
    Builtin.List.listExtendWith (.ref S) (.ref J) .none) _ _ s
  refine wpAny_bind (wpAny_updateSeq hS rfl ?_)
  have hS2 := Heap.get?_update_self (Obj.mapSeq (fun _ => (#[] : Array Value))) hS rfl
  have oth : ∀ b o, b ≠ S → s.heap.get? b = some o → (s.heap.update S (Obj.mapSeq (fun _ => (#[] : Array Value)))).get? b = some o := by
    intro b o hb e
    exact (Heap.get?_update_other _ _ (Ne.symm hb)).trans e
  refine wpAny_bind (wpAny_letGo ?_)
  have st2 := W.frame 0 s (s.heap.update S (Obj.mapSeq (fun _ => (#[] : Array Value)))) s.toks hst (Nat.le_refl _) (by
    intro b hb o e
    exact oth b o (fun h => hSf (h ▸ hb)) e)
  unfold Builtin.List.listExtendWith
  refine wpAny_bind (wpAny_typeOf (q.ty 0 _ st2) ?_)
  have same : Builtin.List.listSameRef (.ref S) (.ref J) = false := by simp [Builtin.List.listSameRef, ne]
  have nl : (Value.type T == Value.type "list") = false := by rcases q.is with rfl | rfl <;> decide
  have nt : (Value.type T == Value.type "tuple") = false := by rcases q.is with rfl | rfl <;> decide
  simp only [same, nl, nt, Bool.or_false, Bool.false_eq_true, if_false]
  refine wpAny_bind (W.self 0 _ _ _ st2 ?_)
  refine wpAny_bind (wpAny_holding (q.hint _ _ _ _ st2 ?_))
  intro b tk le
  have rest : ∀ (h3 : Heap) (c0 : Nat), h3.get? S = some { cls := .type "list", dict := none, data := .seq #[] c0, slots := #[] } → (∀ b o, b ≠ S → s.heap.get? b = some o → h3.get? b = some o) →
      codeAny (model prog w) A (.builtin "list.extend.loop" ⟨[.ref S, .ref J, .none], []⟩) R { s with heap := h3, toks := tk } := by
    intro h3 c0 e3 o3
    have st3 := W.frame 0 s h3 tk hst le (by
      intro b hb o e
      exact o3 b o (fun h => hSf (h ▸ hb)) e)
    refine codeAny_extend_loopS W hn _ hSf _ n 0 _ _ _ rfl (Nat.zero_le _) st3 e3 (ItemsOf.nil Pi) ?_
    intro s' acc c hm hS' hacc
    refine hR s' acc c (Moved.trans W.gtrans ((Moved.refl W.grefl).then_heap le ?_) hm) hS' hacc
    intro b o hb e
    exact o3 b o (fun h => hb (h ▸ List.mem_cons_self)) e
  cases b with
  | false =>
    rw [if_neg (by rcases q.is with rfl | rfl <;> decide)]
    exact wpAny_pure ⟨plainId_quiet F.plain_extend_loop _, rest _ _ hS2 oth⟩
  | true =>
    rw [if_pos (by rcases q.is with rfl | rfl <;> decide)]
    refine wpAny_bind (wpAny_rule ?_)
    refine wpAny_bind ?_
    show wpAny _ A.in1 (updateSeq S (·.push .none) >>= fun _ => updateSeq S (·.pop)) _ _ _
    refine wpAny_bind (wpAny_updateSeq hS2 rfl ?_)
    have hS3 := Heap.get?_update_self (Obj.mapSeq (·.push Value.none)) hS2 rfl
    refine wpAny_updateSeq (hz := by seq_fits) hS3 rfl ?_
    have hS4 := Heap.get?_update_self (Obj.mapSeq (·.pop)) hS3 rfl
    refine wpAny_pure ⟨plainId_quiet F.plain_extend_loop _, rest _ _ hS4 ?_⟩
    intro b o hb e
    exact (Heap.get?_update_other _ _ (Ne.symm hb)).trans ((Heap.get?_update_other _ _ (Ne.symm hb)).trans (oth b o hb e))
theorem call_list_it {Q : Value → Shared → Prop} (W : WalksS prog w A.in1.in1 J fp wr G n Pi St) (q : Quiet prog w J St T) (hst : St 0 s) (hfp : ∀ b ∈ fp, b < s.heap.objs.size) (hJ : J ∈ fp) (hn : n ≤ sizeLine)
    (hQ : ∀ s' acc c, Moved (s.heap.objs.size :: wr) G { s with heap := s.heap.push { cls := .type "list", data := .seq #[] } } s' →
      s'.heap.get? s.heap.objs.size = some { cls := .type "list", dict := none, data := .seq acc c, slots := #[] } → ItemsOf Pi acc n → Q (.ref s.heap.objs.size) s') :
    wpAny (model prog w) A (call (.type "list") [.ref J]) Q E s := by
  have out : s.heap.objs.size ∉ fp := by
    intro hm
    exact Nat.lt_irrefl _ (hfp _ hm)
  refine callType_codes (Q₁ := fun obj t => obj = .ref s.heap.objs.size ∧ t = { s with heap := s.heap.push { cls := .type "list", data := .seq #[] } }) F.called_list (F.typeCall_list_1 _) F.entry_list_init (code_list_new _ ⟨rfl, rfl⟩) ?_
  rintro obj t ⟨rfl, rfl⟩
  have hS : (s.heap.push { cls := .type "list", data := .seq #[] }).get? s.heap.objs.size = some { cls := .type "list", data := .seq #[] } := Heap.get?_push_size _ rfl
  have st2 := W.frame 0 s (s.heap.push { cls := .type "list", data := .seq #[] }) s.toks hst (Nat.le_refl _) (by
    intro b _ o e
    exact Heap.get?_push_of_some _ e)
  refine ⟨⟨_, hS, rfl⟩, F.args_list_init_2 _ _, made_it W q _ st2 out hJ hn hS ?_⟩
  intro s' acc c hm hS' hacc
  exact ⟨rfl, hQ s' acc c hm hS' hacc⟩
end
/-! ### reversed(list), reversed(tuple) as such iterators -/
theorem nolen_rv : typeLookup (.type "reversed") "__len__" = pure none := by rw [typeLookup_type, builtinLookup_eq_fast]; kernel_rfl
theorem hint_rv : typeLookup (.type "reversed") "__length_hint__" = pure (some (.builtin "reversed.__length_hint__")) := by rw [typeLookup_type, builtinLookup_eq_fast]; kernel_rfl
section
variable {prog : Program} {w : World}
theorem slot_rv_hint : Slot "reversed" "__length_hint__" "reversed.__length_hint__" :=
  .of (owner := "reversed") (n := "__length_hint__") hint_rv (by decide +kernel) (by decide +kernel) (by decide +kernel) (by first | exact .inl (by decide +kernel) | exact .inr (by decide +kernel)) (by rw [isSubtype_type]; kernel_rfl)
theorem entry_rv_hint : entryFor table "reversed.__length_hint__" = some Builtin.«reversed.__length_hint__» := entryFor_of_tree (by kernel_rfl)
theorem args_rv_hint (a : Value) : argsOk "reversed.__length_hint__" ⟨[a], []⟩ := by
  unfold argsOk
  rw [signature?_of (id := "reversed.__length_hint__") (n := "__length_hint__".toList.reverse) (o := ['d', 'e', 's', 'r', 'e', 'v', 'e', 'r']) (by kernel_rfl) RT.owner_rt]
  kernel_rfl
theorem hint_lri {A : Around} {E : Value → Shared → Prop} {s : Shared} {J : Addr} (hT : s.TypeIs (.ref J) "list_reverseiterator") {Q : Bool → Shared → Prop} (h : Q false s) :
    wpAny (model prog w) A (Builtin.List.listLengthHint (.ref J)) Q E s := by
  unfold Builtin.List.listLengthHint
  refine wpAny_bind (wpAny_specialOf hT RT.nolen_lri ?_)
  show wpAny _ A (specialOf (Value.ref J) (Str.ofString "__length_hint__") >>= _) _ _ _
  refine wpAny_bind (wpAny_specialOf hT RT.hint_lri ?_)
  generalize hid : ("list_reverseiterator.__length_hint__" : String) = id0
  wp_delta
  rw [show splitId id0 = some ("list_reverseiterator", "__length_hint__") from by subst hid; decide +kernel]
  subst hid
  refine wpAny_bind (wpAny_isInstance (b := true) hT (by rw [isSubtype_type]; kernel_rfl) ?_)
  exact wpAny_pure h
theorem call_hint {A : Around} {E : Value → Shared → Prop} {s : Shared} {J t : Addr} {items : Array Value} (hit : RT.IsRt s.heap J t ((items.size : Int) - 1)) (ht : IsTup s.heap t items) (hz : items.size ≤ sizeLine) {Q : Value → Shared → Prop}
    (h : ∀ u tk, s.toks ≤ tk → Q (.int (items.size : Int) u) { s with toks := tk }) : wpAny (model prog w) A (call (.builtin "reversed.__length_hint__") [.ref J]) Q E s := by
  obtain ⟨o, ho, hc, hd⟩ := id hit
  rw [sizeLine_eq] at hz
  refine wpAny_call_entry slot_rv_hint hit.typeIs entry_rv_hint ?_ (args_rv_hint _)
  unfold Builtin.«reversed.__length_hint__»
  refine wpAny_bind (wpAny_of_eq (a := Value.ref J) rfl ?_)
  try dsimp only
  refine wpAny_bind (wpAny_field ho hd (x := .ref t) rfl ?_)
  try dsimp only
  rw [if_neg (show ¬ ((Value.ref t == Value.none) = true) from by simp)]
  refine wpAny_bind (PyProof.Rows.len_tuple ht (by omega) ?_)
  refine wpAny_bind (wpAny_of_eq (a := some ((items.size : Nat) : Int)) rfl ?_)
  try dsimp only
  refine wpAny_bind (wpAny_field (s := { s with toks := s.toks + 1 + 1 }) ho hd (x := rawInt ((items.size : Int) - 1)) rfl ?_)
  try dsimp only
  show wpAny _ _ (if ((items.size : Nat) : Int) < ((items.size : Int) - 1 + 1) then _ else retInt ((items.size : Int) - 1 + 1)) _ _ _
  rw [show ((items.size : Int) - 1 + 1) = (items.size : Int) by omega, if_neg (by omega)]
  unfold retInt
  refine wpAny_bind (wpAny_mkInt ?_)
  exact wpAny_pure ⟨_, rfl, h _ _ (by show s.toks ≤ s.toks + 1 + 1 + 1; omega)⟩
theorem hint_rt {A : Around} {E : Value → Shared → Prop} {s : Shared} {J t : Addr} {items : Array Value} (hit : RT.IsRt s.heap J t ((items.size : Int) - 1)) (ht : IsTup s.heap t items) (hz : items.size ≤ sizeLine) {Q : Bool → Shared → Prop}
    (h : ∀ b tk, s.toks ≤ tk → Q b { s with toks := tk }) : wpAny (model prog w) A (Builtin.List.listLengthHint (.ref J)) Q E s := by
  have hT := hit.typeIs
  unfold Builtin.List.listLengthHint
  refine wpAny_bind (wpAny_specialOf hT nolen_rv ?_)
  show wpAny _ A (specialOf (Value.ref J) (Str.ofString "__length_hint__") >>= _) _ _ _
  refine wpAny_bind (wpAny_specialOf hT hint_rv ?_)
  generalize hid : ("reversed.__length_hint__" : String) = id0
  wp_delta
  rw [show splitId id0 = some ("reversed", "__length_hint__") from by subst hid; decide +kernel]
  subst hid
  refine wpAny_bind (wpAny_isInstance (b := true) hT (by rw [isSubtype_type]; kernel_rfl) ?_)
  simp only [Bool.not_true, Bool.false_eq_true, if_false]
  rw [if_neg (by decide)]
  refine wpAny_bind (wpAny_rule ?_)
  refine wpAny_bind (wpAny_of_eq (slot_rv_hint.bind _) ?_)
  try dsimp only
  refine wpAny_bind (wpAny_attempt (call_hint hit ht hz ?_))
  intro u tk le
  show wpAny _ A (asInt? (Value.int ((items.size : Nat) : Int) u) >>= _) _ _ _
  refine wpAny_bind ?_
  show wpAny _ A (pure (some ((items.size : Nat) : Int))) _ _ _
  refine wpAny_pure ?_
  dsimp only
  have fits : Builtin.List.listFitsIndex ((items.size : Nat) : Int) = true := by
    rw [sizeLine_eq] at hz
    unfold Builtin.List.listFitsIndex
    simp only [Bool.and_eq_true, decide_eq_true_eq]
    omega
  rw [fits, if_neg (by decide), if_neg (by omega)]
  have short : Builtin.List.listTooLong ((items.size : Nat) : Int).toNat = false := by
    unfold Builtin.List.listTooLong
    simp
    omega
  rw [short, if_neg (by decide)]
  exact wpAny_pure (h _ tk le)
theorem walk_rt {A : Around} (hh : A.handled = none) (J t : Addr) (hne : t ≠ J) (items : Array Value) (hz : items.size ≤ sizeLine) :
    Walks prog w A J [J, t] [J] items.size (fun i v => items[items.size - 1 - i]? = some v) (fun i h => i ≤ items.size ∧ RT.IsRt h J t ((items.size : Int) - 1 - (i : Int)) ∧ IsTup h t items) where
  sub := by
    intro b hb
    simp at hb
    simp [hb]
  frame := by
    rintro i h h' ⟨x1, x2, o, e, r⟩ hk
    exact ⟨x1, x2.at fun o e => hk J (by simp) o e, o, hk t (by simp) o e, r⟩
  item := by
    rintro i s Q E hi ⟨x1, x2, x3⟩ hQ
    have e : (items.size : Int) - 1 - (i : Int) = ((items.size - 1 - i : Nat) : Int) := by omega
    rw [e] at x2
    have hx : items[items.size - 1 - i]? = some items[items.size - 1 - i] := by simp
    refine RT.next_rt_item x2 x3 hx hz fun h' st sb => ?_
    have e2 : ((items.size - 1 - i : Nat) : Int) - 1 = (items.size : Int) - 1 - ((i + 1 : Nat) : Int) := by omega
    rw [e2] at st
    obtain ⟨o, ho, r⟩ := x3
    refine hQ _ h' _ hx ⟨hi, st, o, (sb.2 t hne).trans ho, r⟩ fun b u hb eb => (sb.2 b (by simpa using hb)).trans eb
  done := by
    rintro s Q E ⟨x1, x2, x3⟩ hQ
    have e : (items.size : Int) - 1 - ((items.size : Nat) : Int) = -1 := by omega
    rw [e] at x2
    exact RT.next_rt_end hh x2 fun h' eb => hQ h' s.toks fun b u hb e => eb b u (by simpa using hb) e
  self := fun i s Q E st h => RT.iter_rt st.2.1 h
end
/-- list(reversed(x)), x a list or a tuple: a new list -/
def tLstRev (K : PySem.W.Frag) (te : TE) : TE := fun σ H Q => te σ H fun v H1 => ∃ (a : Addr) (xs : List V), v = .ref a ∧ (SqL K H1 a xs ∨ SqT K H1 a xs) ∧ ∀ q, H1 q = none → Q (.ref q) (upd H1 q (.lst xs.reverse))
section
variable {X : Cx}
theorem pe_listRev {e : Expr} {te : TE} {p p2 pos pos2 : Pos} (hc : X.calm = true) (hg : Gl X "list") (hm : X.mg "list" = none) (hg2 : Gl X "reversed") (hm2 : X.mg "reversed" = none) (he : PE X e te)
    (hs : starEach [e] X.env = (false, eval e X.env) :: starEach [] X.env := by rfl)
    (hs2 : starEach [.Call (.Name "reversed" p2) [e] [] pos2] X.env = (false, eval (.Call (.Name "reversed" p2) [e] [] pos2) X.env) :: starEach [] X.env := by rfl) :
    PE X (.Call (.Name "list" p) [.Call (.Name "reversed" p2) [e] [] pos2] [] pos) (tLstRev X.K te) := by
  constructor
  intro pins s σ H Q I h
  refine Call_ (ld_blt I hg hm (show bootBuiltins (Str.ofString "list") = some (Value.type "list") by decide +kernel) (PyProof.Rows.callWith_type1 (args_cons (Call_ (ld_blt I hg2 hm2 PyProof.Rows.boot_reversed (PyProof.Rows.callWith_type1 (args_cons (thn (he.run pins s σ H _ I h) ?_) hs) hs rfl))) hs2) hs2 rfl))
  rintro u s1 ⟨v, H1, I1, r1, q1⟩
  refine args_nil ?_
  obtain ⟨a, xs, ev, hq, q⟩ := q1
  subst ev
  obtain rfl : u = Value.ref a := r1
  obtain ⟨f0, f1, f2, f3, f4, f5⟩ := I1.fpOk (H' := H1) (b := s1.heap.objs.size) (Nat.le_refl _) (I1.hok.fresh (Nat.le_refl _))
  have fin : ∀ (its : List Value) (ob : Obj) (tk0 : Nat), Vals xs its → xs.length ≤ sizeLine → ∀ (s' : Shared) (acc : Array Value) (c : Nat),
      Moved ((s1.heap.push ob).objs.size :: [s1.heap.objs.size]) (fun a b => b = a) { s1 with heap := (s1.heap.push ob).push { cls := .type "list", data := .seq #[] }, toks := tk0 } s' →
      s'.heap.get? (s1.heap.push ob).objs.size = some { cls := .type "list", dict := none, data := .seq acc c, slots := #[] } → ItemsOf (fun i v => its.toArray[its.toArray.size - 1 - i]? = some v) acc its.toArray.size → EP X pins σ Q (.ref (s1.heap.push ob).objs.size) s' := by
    intro its ob tk0 rv hz s' acc c mv got items
    have sz : (s1.heap.push ob).objs.size = s1.heap.objs.size + 1 := by simp [Heap.push]
    have lt : s1.heap.objs.size < (s1.heap.push ob).objs.size := by rw [sz]; exact Nat.lt_succ_self _
    have ne : s1.heap.objs.size ≠ (s1.heap.push ob).objs.size := Nat.ne_of_lt lt
    have I2 : L2.Inv X pins σ H1 { s1 with heap := s1.heap.push ob } := I1.kept (t' := s1.toks) fun b o e => Heap.get?_push_of_some _ e
    have I3 := I2.laid (t' := s1.toks) (a := (s1.heap.push ob).objs.size) (o := .lst xs.reverse) (h' := (s1.heap.push ob).push { cls := .type "list", dict := none, data := .seq acc c, slots := #[] }) (fun b o e => Heap.get?_push_of_some _ e) (Nat.le_refl _)
      (show ObjOk X.prog X.w _ _ _ (.lst xs.reverse) from ⟨by rw [List.length_reverse]; exact hz, acc.toList, c, RT.vals_rev rv items, by rw [Array.toArray_toList]; exact Heap.get?_push_size _ rfl⟩)
    have I4 := I3.turned (t' := s'.toks) (it := s1.heap.objs.size) (h' := s'.heap) (by
      intro b o hb e
      rcases Heap.get?_push_cases e with ⟨z, eo⟩ | e2
      · rw [z, eo]
        exact got
      · refine mv.heap b o ?_ (Heap.get?_push_of_some _ e2)
        intro hm
        rcases List.mem_cons.mp hm with z | z
        · exact absurd (Heap.lt_size e2) (by rw [z]; exact Nat.lt_irrefl _)
        · exact hb (List.mem_singleton.mp z)) (by rw [upd_ne ne]; exact f0) f1 f3 f4 f5
    rw [Moved.eq_with mv]
    refine ⟨.ref (s1.heap.push ob).objs.size, _, I4, rfl, q _ (I1.hok.fresh ?_)⟩
    exact Nat.le_of_lt lt
  rcases hq with hq | hq
  · obtain ⟨its, rv, p', hz⟩ := I1.list hq
    have hl := p'.isList
    obtain ⟨ol, hol, _⟩ := id hl
    have hna : a ≠ s1.heap.objs.size := Nat.ne_of_lt (Heap.lt_size hol)
    refine call_reversed_list hl (args_nil ?_)
    have W := (Walks.listRev (prog := X.prog) (w := X.w) (A := X.A.in1.in1) (I1.ok.hd hc) s1.heap.objs.size a hna its.toArray).toS
    have qt : Quiet X.prog X.w s1.heap.objs.size (fun i s => i ≤ its.toArray.size ∧ s.heap.IsRevIter s1.heap.objs.size a ((its.toArray.size : Int) - 1 - (i : Int)) ∧ s.heap.IsList a its.toArray) "list_reverseiterator" :=
      ⟨fun i s st => st.2.1.typeIs, .inl rfl, fun A E s Q st h => hint_lri st.2.1.typeIs (h false s.toks (Nat.le_refl _))⟩
    refine call_list_it W qt ⟨Nat.zero_le _, ?_, hl.push _⟩ ?_ (by simp) (by rw [List.size_toArray, ← rv.length]; exact hz) ?_
    · rw [show ((its.toArray.size : Int) - 1 - ((0 : Nat) : Int)) = (its.toArray.size : Int) - 1 by omega]
      exact ⟨_, Heap.get?_push_size _ rfl, rfl, rfl⟩
    · intro b hb
      have sz : (s1.heap.push (revObj a ((its.toArray.size : Int) - 1))).objs.size = s1.heap.objs.size + 1 := by simp [Heap.push]
      show b < (s1.heap.push (revObj a ((its.toArray.size : Int) - 1))).objs.size
      rw [sz]
      rcases List.mem_cons.mp hb with z | z
      · rw [z]
        exact Nat.lt_succ_self _
      · rw [List.mem_singleton.mp z]
        exact Nat.lt_succ_of_lt (Heap.lt_size hol)
    · intro s' acc c mv got items
      exact fin its _ _ rv hz s' acc c mv got items
  · obtain ⟨its, rv, p', hz⟩ := I1.tuple hq
    have hsz : its.toArray.size ≤ sizeLine := by rw [List.size_toArray, ← rv.length]; exact hz
    obtain ⟨ol, hol, hcl⟩ := id p'
    have hna : a ≠ s1.heap.objs.size := Nat.ne_of_lt (Heap.lt_size hol)
    have hn := line63
    refine RT.call_reversed_tup p' (fun A E Q k => PyProof.Rows.len_tuple p' (by simp only [List.size_toArray] at hsz ⊢; omega) k) (args_nil ?_)
    have W := (walk_rt (prog := X.prog) (w := X.w) (A := X.A.in1.in1) (I1.ok.hd hc) s1.heap.objs.size a hna its.toArray hsz).toS
    have qt : Quiet X.prog X.w s1.heap.objs.size (fun i s => i ≤ its.toArray.size ∧ RT.IsRt s.heap s1.heap.objs.size a ((its.toArray.size : Int) - 1 - (i : Int)) ∧ IsTup s.heap a its.toArray) "reversed" :=
      ⟨fun i s st => st.2.1.typeIs, .inr rfl, fun A E s Q st h => hint_rt (by
        have := st.2.1
        rw [show ((its.toArray.size : Int) - 1 - ((0 : Nat) : Int)) = (its.toArray.size : Int) - 1 by omega] at this
        exact this) st.2.2 hsz h⟩
    refine call_list_it W qt ⟨Nat.zero_le _, ?_, ol, Heap.get?_push_of_some _ hol, hcl⟩ ?_ (by simp) hsz ?_
    · rw [show ((its.toArray.size : Int) - 1 - ((0 : Nat) : Int)) = (its.toArray.size : Int) - 1 by omega]
      exact ⟨_, Heap.get?_push_size _ rfl, rfl, rfl⟩
    · intro b hb
      have sz : (s1.heap.push (RT.rtObj a ((its.toArray.size : Int) - 1))).objs.size = s1.heap.objs.size + 1 := by simp [Heap.push]
      show b < (s1.heap.push (RT.rtObj a ((its.toArray.size : Int) - 1))).objs.size
      rw [sz]
      rcases List.mem_cons.mp hb with z | z
      · rw [z]
        exact Nat.lt_succ_self _
      · rw [List.mem_singleton.mp z]
        exact Nat.lt_succ_of_lt (Heap.lt_size hol)
    · intro s' acc c mv got items
      exact fin its _ _ rv hz s' acc c mv got items
end
end Par
namespace K33
open PySem PySem.Spec PyProof.Rows L2 Par
section
variable {P : Program} {w : World} {K : PySem.W.Frag} {mg : Str → Option Value} {base : Heap}
/-- a tuple of two lists, none of them among N -/
def PrQ (N : List Addr) (H : Hp) (q : Addr) (ts hs : List Int) : Prop := ∃ t h, t ∉ N ∧ h ∉ N ∧ H q = some (.tup [.ref t, .ref h]) ∧ H t = some (.lst (ts.map V.int)) ∧ H h = some (.lst (hs.map V.int))
theorem PrQ.pr {N : List Addr} {q : Addr} {H : Hp} {ts hs : List Int} (h : PrQ N H q ts hs) : Pr K H q ts hs := by
  obtain ⟨t, g, _, _, h1, h2, h3⟩ := h
  exact ⟨t, g, SqT.of h1, h2, h3⟩
/-- what is not among N stays, and no tuple is among N -/
theorem PrQ.keep {N M : List Addr} {q : Addr} {H H' : Hp} {ts hs : List Int} (sub : ∀ b ∈ M, b ∈ N) (no : ∀ b ∈ N, ∀ xs, H b ≠ some (.tup xs)) (k : ∀ b o, b ∉ N → H b = some o → H' b = some o) (h : PrQ N H q ts hs) : PrQ M H' q ts hs := by
  obtain ⟨t, g, n1, n2, h1, h2, h3⟩ := h
  exact ⟨t, g, fun z => n1 (sub _ z), fun z => n2 (sub _ z), k _ _ (fun z => no q z _ h1) h1, k _ _ n1 h2, k _ _ n2 h3⟩
/-- a pair that makes a flip of width m -/
def Okp (m : Nat) (t : List Int × List Int) : Prop := OkF t.1 t.2 ∧ (∀ k ∈ t.1, k < m) ∧ (∀ k ∈ t.2, k < m) ∧ (comm t.1 t.2).length % 2 = 0 ∧ t.1.Pairwise (· < ·) ∧ t.2.Pairwise (· < ·)
def PrsQ (N : List Addr) (H : Hp) (m : Nat) : List Addr → List (List Int × List Int) → Prop
  | [], [] => True
  | a :: as, t :: ts => (PrQ N H a t.1 t.2 ∧ Okp m t) ∧ PrsQ N H m as ts
  | _, _ => False
theorem PrsQ.mono {N M : List Addr} {H H' : Hp} {m : Nat} (k : ∀ a ts hs, PrQ N H a ts hs → PrQ M H' a ts hs) : ∀ {as : List Addr} {ps : List (List Int × List Int)}, PrsQ N H m as ps → PrsQ M H' m as ps
  | [], [], _ => True.intro
  | _ :: _, _ :: _, h => ⟨⟨k _ _ _ h.1.1, h.1.2⟩, h.2.mono k⟩
  | [], _ :: _, h => h.elim
  | _ :: _, [], h => h.elim
theorem PrsQ.len {N : List Addr} {H : Hp} {m : Nat} : ∀ {as : List Addr} {ps : List (List Int × List Int)}, PrsQ N H m as ps → as.length = ps.length
  | [], [], _ => rfl
  | _ :: _, _ :: _, h => by rw [List.length_cons, List.length_cons, h.2.len]
  | [], _ :: _, h => h.elim
  | _ :: _, [], h => h.elim
theorem PrsQ.prs {N : List Addr} {H : Hp} {m : Nat} : ∀ {as : List Addr} {ps : List (List Int × List Int)}, PrsQ N H m as ps → Prs K H as ps
  | [], [], _ => True.intro
  | _ :: _, _ :: _, h => ⟨h.1.1.pr, h.2.prs⟩
  | [], _ :: _, h => h.elim
  | _ :: _, [], h => h.elim
theorem PrsQ.ok {N : List Addr} {H : Hp} {m : Nat} : ∀ {as : List Addr} {ps : List (List Int × List Int)}, PrsQ N H m as ps → ∀ t ∈ ps, Okp m t
  | [], [], _, _, ht => nomatch ht
  | _ :: _, _ :: _, h, t, ht => by
    rcases List.mem_cons.mp ht with rfl | ht
    · exact h.1.2
    · exact h.2.ok t ht
  | [], _ :: _, h, _, _ => h.elim
  | _ :: _, [], h, _, _ => h.elim
theorem PrsQ.append {N : List Addr} {H : Hp} {m : Nat} {bs : List Addr} {qs : List (List Int × List Int)} (h2 : PrsQ N H m bs qs) : ∀ {as : List Addr} {ps : List (List Int × List Int)}, PrsQ N H m as ps → PrsQ N H m (as ++ bs) (ps ++ qs)
  | [], [], _ => h2
  | _ :: _, _ :: _, h => ⟨h.1, PrsQ.append h2 h.2⟩
  | [], _ :: _, h => h.elim
  | _ :: _, [], h => h.elim
end
end K33
namespace K33
open PySem PySem.Spec PyProof.Rows L2 Par
section
variable {P : Program} {w : World} {K : PySem.W.Frag} {mg : Str → Option Value} {base : Heap}
/-- the flips at fs are made of these pairs: their cells in order -/
def FlsS (C : Addr) (H : Hp) : List Addr → List (List Int × List Int) → Prop
  | [], [] => True
  | f :: fs, t :: ts => (∃ ks js : List Int, Fp C H f ks js ∧ ks.Perm t.1 ∧ js.Perm t.2 ∧ ks.Pairwise (· ≤ ·) ∧ js.Pairwise (· ≤ ·)) ∧ FlsS C H fs ts
  | _, _ => False
theorem FlsS.same {C : Addr} {H H' : Hp} (s : Same H H') : ∀ {fs : List Addr} {ps : List (List Int × List Int)}, FlsS C H fs ps → FlsS C H' fs ps
  | [], [], _ => True.intro
  | _ :: _, _ :: _, h => ⟨by
      obtain ⟨ks, js, a, r⟩ := h.1
      exact ⟨ks, js, a.same s, r⟩, h.2.same s⟩
  | [], _ :: _, h => h.elim
  | _ :: _, [], h => h.elim
theorem FlsS.len {C : Addr} {H : Hp} : ∀ {fs : List Addr} {ps : List (List Int × List Int)}, FlsS C H fs ps → fs.length = ps.length
  | [], [], _ => rfl
  | _ :: _, _ :: _, h => by rw [List.length_cons, List.length_cons, h.2.len]
  | [], _ :: _, h => h.elim
  | _ :: _, [], h => h.elim
theorem FlsS.append {C : Addr} {H : Hp} {gs : List Addr} {qs : List (List Int × List Int)} (h2 : FlsS C H gs qs) : ∀ {fs : List Addr} {ps : List (List Int × List Int)}, FlsS C H fs ps → FlsS C H (fs ++ gs) (ps ++ qs)
  | [], [], _ => h2
  | _ :: _, _ :: _, h => ⟨h.1, FlsS.append h2 h.2⟩
  | [], _ :: _, h => h.elim
  | _ :: _, [], h => h.elim
theorem FlsS.reverse {C : Addr} {H : Hp} : ∀ {fs : List Addr} {ps : List (List Int × List Int)}, FlsS C H fs ps → FlsS C H fs.reverse ps.reverse
  | [], [], _ => True.intro
  | f :: fs, t :: ts, h => by
    rw [List.reverse_cons, List.reverse_cons]
    exact FlsS.append (show FlsS C H [f] [t] from ⟨h.1, True.intro⟩) h.2.reverse
  | [], _ :: _, h => h.elim
  | _ :: _, [], h => h.elim
/-- [_law_flip_of(x) for x in l], x in slot i -/
theorem lc_flips {C l : Addr} {as : List Addr} {ps : List (List Int × List Int)} {i : Nat} {σ : L2.St} {H1 : Hp} {D : Addr} {Qd : Hp → Prop} (hi : i < σ.length) (hD : H1 D = none) (el : SqL K H1 l (as.map V.ref)) (pr : Prs K H1 as ps)
    (ok : ∀ t ∈ ps, OkF t.1 t.2 ∧ (comm t.1 t.2).length % 2 = 0) (few : as.length ≤ 1000) (out : ∀ fs H', Same H1 H' → H' D = some (.lst (fs.map V.ref)) → FlsS C H' fs ps → Qd H') :
    ∃ W : Nat → Nat → Hp → Prop, (∃ m, W 0 m (upd H1 D (.lst []))) ∧ ∀ j m H, W j m H →
      ((Itl K l).stop j H ∧ Qd H) ∨ ((Itl K l).go j H ∧ ∃ Nx : Hp → Prop, (∀ H', Nx H' → ∃ m', m' < m ∧ W (j + 1) m' H') ∧ ∀ x H', (Itl K l).yld j H x H' → gName i x (wipe σ [i]) H' fun σ2 H2 => wipe σ2 [i] = wipe σ [i] ∧ tYes σ2 H2 fun b H3 =>
        if b = true then tCall (spFlipS K C) [] E0 (tCons (tVar i) tNil) σ2 H3 fun y H4 => ∃ acc, H4 D = some (.lst acc) ∧ acc.length < sizeLine ∧ Nx (upd H4 D (.lst (acc ++ [y]))) else Nx H3) := by
  refine lc_list (K := K) (a := l) (xs := as.map V.ref) (fun j H' => ∃ fs : List Addr, Same H1 H' ∧ H' D = some (.lst (fs.map V.ref)) ∧ FlsS C H' fs (ps.take j) ∧ fs.length = j) ⟨[], same_new hD, upd_same, True.intro, rfl⟩ (fun j H' _ h => by
    obtain ⟨fs, s, _⟩ := h
    exact same_sq s el) ?_ ?_
  · rintro j x H2 hx ⟨fs, s2, hD2, f2, l2⟩
    rw [List.getElem?_map] at hx
    obtain ⟨a, ha, rfl⟩ : ∃ a, as[j]? = some a ∧ x = V.ref a := by
      cases e : as[j]? with
      | none => rw [e] at hx; cases hx
      | some a => rw [e] at hx; exact ⟨a, rfl, (Option.some.inj hx).symm⟩
    obtain ⟨t, ht, pa⟩ := pr.at ha
    obtain ⟨o1, ev⟩ := ok t (List.mem_of_getElem? ht)
    have jl : j < as.length := (List.getElem?_eq_some_iff.mp ha).1
    refine ⟨by simp [wipe], yesT ?_⟩
    refine ⟨.ref a, by simp [wipe, hi], a, t.1, t.2, rfl, pa.same s2, o1, ev, fun q ks js H3 hq s3 p1 p2 w1 w2 fp => ?_⟩
    have dd := s3 _ _ hD2
    have keep : Same H2 H3 := s3
    have fpD : Fp C (upd H3 D (.lst (fs.map V.ref ++ [V.ref q]))) q ks js := by
      obtain ⟨dx, u1, u2, e1, e2, e3⟩ := fp
      have n0 : q ≠ D := fun z => by rw [z, dd] at e1; cases e1
      have n1 : u1 ≠ D := fun z => by rw [z, dd] at e2; cases e2
      have n2 : u2 ≠ D := fun z => by rw [z, dd] at e3; cases e3
      exact ⟨dx, u1, u2, by rw [upd_ne n0]; exact e1, by rw [upd_ne n1]; exact e2, by rw [upd_ne n2]; exact e3⟩
    have old : ∀ {gs : List Addr} {qs : List (List Int × List Int)}, FlsS C H3 gs qs → FlsS C (upd H3 D (.lst (fs.map V.ref ++ [V.ref q]))) gs qs := by
      intro gs
      induction gs with
      | nil =>
        intro qs h
        cases qs with
        | nil => exact True.intro
        | cons _ _ => exact h.elim
      | cons g gs ih =>
        intro qs h
        cases qs with
        | nil => exact h.elim
        | cons t2 qs =>
          refine ⟨?_, ih h.2⟩
          obtain ⟨ks2, js2, ⟨dx, u1, u2, e1, e2, e3⟩, r⟩ := h.1
          have n0 : g ≠ D := fun z => by rw [z, dd] at e1; cases e1
          have n1 : u1 ≠ D := fun z => by rw [z, dd] at e2; cases e2
          have n2 : u2 ≠ D := fun z => by rw [z, dd] at e3; cases e3
          exact ⟨ks2, js2, ⟨dx, u1, u2, by rw [upd_ne n0]; exact e1, by rw [upd_ne n1]; exact e2, by rw [upd_ne n2]; exact e3⟩, r⟩
    refine ⟨_, dd, ?_, fs ++ [q], ?_, ?_, ?_, ?_⟩
    · rw [List.length_map, l2, sizeLine_eq]
      omega
    · intro b o e
      rw [upd_ne (ne_of_none e hD)]
      exact s3 _ _ (s2 b o e)
    · rw [upd_same, List.map_append]
      rfl
    · rw [List.take_succ, ht]
      exact FlsS.append (show FlsS C _ [q] [t] from ⟨⟨ks, js, fpD, p1, p2, w1, w2⟩, True.intro⟩) (old (f2.same s3))
    · rw [List.length_append, l2]
      rfl
  · rintro H2 ⟨fs, s2, hD2, f2, l2⟩
    have e : ps.take (as.map V.ref).length = ps := by
      rw [List.length_map, pr.len, List.take_length]
    rw [e] at f2
    exact out fs H2 s2 hD2 f2
end
end K33
/-! Sets of cells as numbers: bits, sums without carry, independence. Nothing of Python here. -/
namespace Msk
/-- the number of binary digits -/
def bl (m : Nat) : Nat := if m = 0 then 0 else m.log2 + 1
theorem bl_pos {m : Nat} (h : m ≠ 0) : 1 ≤ bl m := by
  unfold bl
  rw [if_neg h]
  omega
theorem lt_bl (m : Nat) : m < 2 ^ bl m := by
  unfold bl
  split
  · rename_i h
    rw [h]
    decide
  · rename_i h
    exact Nat.lt_log2_self
theorem bl_le {m n : Nat} (h : m < 2 ^ n) : bl m ≤ n := by
  unfold bl
  split
  · exact Nat.zero_le _
  · rename_i hm
    have := (Nat.log2_lt hm).mpr h
    omega
theorem top_bit {m : Nat} (h : m ≠ 0) : m.testBit (bl m - 1) = true := by
  unfold bl
  rw [if_neg h, Nat.add_sub_cancel]
  exact Nat.testBit_log2 h
theorem high_bit {m i : Nat} (h : bl m ≤ i) : m.testBit i = false :=
  Nat.testBit_lt_two_pow (Nat.lt_of_lt_of_le (lt_bl m) (Nat.pow_le_pow_right (by decide) h))
theorem bit_lt {m i : Nat} (h : m.testBit i = true) : i < bl m := by
  rcases Nat.lt_or_ge i (bl m) with z | z
  · exact z
  · rw [high_bit z] at h
    cases h
theorem bl_xor {a b : Nat} (ha : a ≠ 0) (e : bl a = bl b) : bl (a ^^^ b) < bl a := by
  have h1 := bl_pos ha
  have hb : b ≠ 0 := fun z => by
    rw [z] at e
    unfold bl at e h1
    simp at e
    omega
  have : a ^^^ b < 2 ^ (bl a - 1) := by
    refine Nat.lt_pow_two_of_testBit _ fun i hi => ?_
    rw [Nat.testBit_xor]
    by_cases z : i = bl a - 1
    · rw [z, top_bit ha, e, top_bit hb]
      rfl
    · rw [high_bit (by omega : bl a ≤ i), high_bit (by omega : bl b ≤ i)]
      rfl
  have := bl_le this
  omega
theorem xor_ne {a b : Nat} (h : a ≠ b) : a ^^^ b ≠ 0 := fun z => h (by
  have e : a ^^^ b ^^^ b = 0 ^^^ b := by rw [z]
  rw [Nat.xor_assoc, Nat.xor_self, Nat.xor_zero, Nat.zero_xor] at e
  exact e)
theorem xor_lt {a b n : Nat} (h1 : a < 2 ^ n) (h2 : b < 2 ^ n) : a ^^^ b < 2 ^ n := Nat.xor_lt_two_pow h1 h2
/-! ### the sum without carry of those that s tells -/
def comb : List Nat → Nat → Nat
  | [], _ => 0
  | m :: ms, s => (if s.testBit 0 then m else 0) ^^^ comb ms (s >>> 1)
theorem comb_zero : ∀ ms : List Nat, comb ms 0 = 0
  | [] => rfl
  | m :: ms => by
    show (if (0 : Nat).testBit 0 then m else 0) ^^^ comb ms (0 >>> 1) = 0
    rw [Nat.zero_shiftRight, comb_zero ms, Nat.zero_testBit]
    simp
theorem swap4 (a b c d : Nat) : (a ^^^ b) ^^^ (c ^^^ d) = (a ^^^ c) ^^^ (b ^^^ d) := by
  rw [Nat.xor_assoc, Nat.xor_assoc, ← Nat.xor_assoc b, Nat.xor_comm b c, Nat.xor_assoc c]
theorem comb_xor : ∀ (ms : List Nat) (s t : Nat), comb ms (s ^^^ t) = comb ms s ^^^ comb ms t
  | [], _, _ => (Nat.xor_self 0).symm
  | m :: ms, s, t => by
    show (if (s ^^^ t).testBit 0 then m else 0) ^^^ comb ms ((s ^^^ t) >>> 1) = ((if s.testBit 0 then m else 0) ^^^ comb ms (s >>> 1)) ^^^ ((if t.testBit 0 then m else 0) ^^^ comb ms (t >>> 1))
    rw [Nat.shiftRight_xor_distrib, comb_xor ms, swap4, Nat.testBit_xor]
    congr 1
    cases s.testBit 0 <;> cases t.testBit 0 <;> simp
theorem comb_one : ∀ (ms : List Nat) (i : Nat), comb ms (2 ^ i) = ms.getD i 0
  | [], i => by simp [comb]
  | m :: ms, 0 => by
    show (if (1 : Nat).testBit 0 then m else 0) ^^^ comb ms (1 >>> 1) = m
    have e : (1 : Nat) >>> 1 = 0 := by decide
    rw [e, comb_zero]
    simp
  | m :: ms, i + 1 => by
    show (if (2 ^ (i + 1)).testBit 0 then m else 0) ^^^ comb ms (2 ^ (i + 1) >>> 1) = ms.getD i 0
    have e : 2 ^ (i + 1) >>> 1 = 2 ^ i := by
      rw [Nat.shiftRight_eq_div_pow, Nat.pow_succ]
      omega
    have e2 : (2 ^ (i + 1)).testBit 0 = false := by
      rw [Nat.testBit_two_pow]
      simp
    rw [e, comb_one ms i, e2]
    simp
theorem comb_lt {n : Nat} : ∀ (ms : List Nat) (s : Nat), (∀ m ∈ ms, m < 2 ^ n) → comb ms s < 2 ^ n
  | [], _, _ => Nat.two_pow_pos n
  | m :: ms, s, h => by
    refine xor_lt ?_ (comb_lt ms _ fun x hx => h x (List.mem_cons_of_mem _ hx))
    split
    · exact h m (List.mem_cons_self ..)
    · exact Nat.two_pow_pos n
/-- no sum of some of them is nothing -/
def Indep (ms : List Nat) : Prop := ∀ s, s < 2 ^ ms.length → comb ms s = 0 → s = 0
/-- what is left of the j-th behind sums of those ahead of it -/
theorem left_ne {ms : List Nat} {j a : Nat} (h : Indep ms) (hj : j < ms.length) (ha : a < 2 ^ j) : ms.getD j 0 ^^^ comb ms a ≠ 0 := fun z => by
  have hs : a ^^^ 2 ^ j < 2 ^ ms.length := xor_lt (Nat.lt_of_lt_of_le ha (Nat.pow_le_pow_right (by decide) (by omega))) (Nat.pow_lt_pow_right (by decide) hj)
  have e : comb ms (a ^^^ 2 ^ j) = 0 := by
    rw [comb_xor, comb_one, Nat.xor_comm]
    exact z
  have e2 := h _ hs e
  have e3 : (a ^^^ 2 ^ j).testBit j = true := by
    rw [Nat.testBit_xor, Nat.testBit_lt_two_pow ha, Nat.testBit_two_pow_self]
    rfl
  rw [e2, Nat.zero_testBit] at e3
  cases e3
theorem add_bit {a j : Nat} (ha : a < 2 ^ j) : a ^^^ 2 ^ j < 2 ^ (j + 1) := xor_lt (Nat.lt_of_lt_of_le ha (Nat.pow_le_pow_right (by decide) (by omega))) (Nat.pow_lt_pow_right (by decide) (by omega))
/-! ### the cells of a number -/
def cellsI (m : Nat) : List Int := ((List.range (bl m)).filter fun i => m.testBit i).map fun (i : Nat) => (i : Int)
theorem mem_cellsI {m : Nat} {k : Int} : k ∈ cellsI m ↔ ∃ i : Nat, k = (i : Int) ∧ m.testBit i = true := by
  unfold cellsI
  simp only [List.mem_map, List.mem_filter, List.mem_range]
  constructor
  · rintro ⟨i, ⟨_, h⟩, rfl⟩
    exact ⟨i, rfl, h⟩
  · rintro ⟨i, rfl, h⟩
    exact ⟨i, ⟨bit_lt h, h⟩, rfl⟩
theorem mem_cellsN {m i : Nat} : (i : Int) ∈ cellsI m ↔ m.testBit i = true := by
  rw [mem_cellsI]
  constructor
  · rintro ⟨j, e, h⟩
    have : i = j := by omega
    rw [this]
    exact h
  · intro h
    exact ⟨i, rfl, h⟩
theorem range_up (n : Nat) : (List.range n).Pairwise (· < ·) := List.pairwise_lt_range
theorem cellsI_up (m : Nat) : (cellsI m).Pairwise (· < ·) := by
  unfold cellsI
  refine List.Pairwise.map _ (fun a b h => ?_) ((range_up (bl m)).filter _)
  show (a : Int) < (b : Int)
  exact Int.ofNat_lt.mpr h
theorem up_nodup {l : List Int} (h : l.Pairwise (· < ·)) : l.Nodup := h.imp fun {a b} z => by
  show a ≠ b
  omega
theorem cellsI_nodup (m : Nat) : (cellsI m).Nodup := up_nodup (cellsI_up m)
theorem cellsI_in {m n : Nat} (h : m < 2 ^ n) : ∀ k ∈ cellsI m, 0 ≤ k ∧ k < (n : Nat) := fun k hk => by
  obtain ⟨i, rfl, hi⟩ := mem_cellsI.mp hk
  have := bit_lt hi
  have := bl_le h
  omega
/-- those of the first i places -/
def cellsT (m i : Nat) : List Int := ((List.range i).filter fun j => m.testBit j).map fun (j : Nat) => (j : Int)
theorem cellsT_step (m i : Nat) : cellsT m (i + 1) = cellsT m i ++ (if m.testBit i = true then [(i : Int)] else []) := by
  unfold cellsT
  rw [List.range_succ, List.filter_append, List.map_append]
  congr 1
  cases h : m.testBit i <;> simp [h]
theorem cellsT_len (m i : Nat) : (cellsT m i).length ≤ i := by
  unfold cellsT
  rw [List.length_map]
  have := List.length_filter_le (fun j => m.testBit j) (List.range i)
  rw [List.length_range] at this
  exact this
/-! ### the number of some cells -/
def maskI (ns : List Int) : Nat := ns.foldr (fun k a => 2 ^ k.toNat ^^^ a) 0
theorem mask_bit : ∀ {ns : List Int} {i : Nat}, ns.Nodup → (∀ k ∈ ns, 0 ≤ k) → (maskI ns).testBit i = decide ((i : Int) ∈ ns)
  | [], i, _, _ => by simp [maskI]
  | k :: ns, i, hn, h0 => by
    have hk := h0 k (List.mem_cons_self ..)
    have h1 := List.nodup_cons.mp hn
    have ih := mask_bit (i := i) h1.2 fun x hx => h0 x (List.mem_cons_of_mem _ hx)
    show (2 ^ k.toNat ^^^ maskI ns).testBit i = _
    rw [Nat.testBit_xor, ih, Nat.testBit_two_pow]
    by_cases z : k.toNat = i
    · have e : (i : Int) = k := by omega
      rw [e, decide_eq_false h1.1, decide_eq_true z, decide_eq_true (List.mem_cons_self ..)]
      rfl
    · have e : ¬ (i : Int) = k := by omega
      rw [decide_eq_false z, Bool.false_xor]
      by_cases y : (i : Int) ∈ ns
      · rw [decide_eq_true y, decide_eq_true (List.mem_cons_of_mem _ y)]
      · rw [decide_eq_false y, decide_eq_false fun q => (List.mem_cons.mp q).elim e y]
theorem mask_cells {ns : List Int} {m : Nat} (hn : ns.Nodup) (h : ∀ k, k ∈ ns ↔ k ∈ cellsI m) : maskI ns = m := by
  refine Nat.eq_of_testBit_eq fun i => ?_
  rw [mask_bit hn fun k hk => by
    obtain ⟨j, rfl, _⟩ := mem_cellsI.mp ((h k).mp hk)
    omega]
  cases e : m.testBit i with
  | true => exact decide_eq_true ((h _).mpr (mem_cellsN.mpr e))
  | false =>
    refine decide_eq_false fun z => ?_
    have := mem_cellsN.mp ((h _).mp z)
    rw [e] at this
    cases this
theorem cells_mask {ns : List Int} (hn : ns.Nodup) (h0 : ∀ k ∈ ns, 0 ≤ k) (k : Int) : k ∈ cellsI (maskI ns) ↔ k ∈ ns := by
  rw [mem_cellsI]
  constructor
  · rintro ⟨i, rfl, h⟩
    rw [mask_bit hn h0] at h
    exact of_decide_eq_true h
  · intro h
    have := h0 k h
    refine ⟨k.toNat, by omega, ?_⟩
    rw [mask_bit hn h0, Int.toNat_of_nonneg this]
    exact decide_eq_true h
theorem mask_lt {ns : List Int} {n : Nat} (h : ∀ k ∈ ns, 0 ≤ k ∧ k < (n : Nat)) : maskI ns < 2 ^ n := by
  induction ns with
  | nil => exact Nat.two_pow_pos n
  | cons k ns ih =>
    have := h k (List.mem_cons_self ..)
    exact xor_lt (Nat.pow_lt_pow_right (by decide) (by omega)) (ih fun x hx => h x (List.mem_cons_of_mem _ hx))
theorem xor_mod2 {a b : Nat} : (a ^^^ b) % 2 = (a + b) % 2 := by
  have h := @Nat.xor_mod_two_eq_one a b
  omega
/-- a power that is not in, added or put in: the same -/
theorem add_pow : ∀ (k m : Nat), m.testBit k = false → 2 ^ k + m = 2 ^ k ^^^ m
  | 0, m, h => by
    have h2 : m % 2 = 0 := by
      rw [Nat.testBit_zero] at h
      have := of_decide_eq_false h
      omega
    have e1 : (1 ^^^ m) / 2 = 1 / 2 ^^^ m / 2 := Nat.xor_div_two
    have e2 : (1 ^^^ m) % 2 = (1 + m) % 2 := xor_mod2
    have e3 : (1 : Nat) / 2 = 0 := by decide
    rw [e3, Nat.zero_xor] at e1
    show 1 + m = 1 ^^^ m
    omega
  | k + 1, m, h => by
    have h2 : (m / 2).testBit k = false := by
      rw [← Nat.testBit_succ]
      exact h
    have ih := add_pow k (m / 2) h2
    have e1 : (2 ^ (k + 1) ^^^ m) / 2 = 2 ^ (k + 1) / 2 ^^^ m / 2 := Nat.xor_div_two
    have e2 : (2 ^ (k + 1) ^^^ m) % 2 = (2 ^ (k + 1) + m) % 2 := xor_mod2
    have e3 : 2 ^ (k + 1) / 2 = 2 ^ k := by
      rw [Nat.pow_succ]
      omega
    have e4 : 2 ^ (k + 1) = 2 * 2 ^ k := by
      rw [Nat.pow_succ]
      omega
    rw [e3, ← ih] at e1
    omega
theorem mask_sum : ∀ {ns : List Int}, ns.Nodup → (∀ k ∈ ns, 0 ≤ k) → (ns.map fun k => 2 ^ k.toNat).sum = maskI ns
  | [], _, _ => rfl
  | k :: ns, hn, h0 => by
    have h1 := List.nodup_cons.mp hn
    have hk := h0 k (List.mem_cons_self ..)
    have h2 : ∀ x ∈ ns, 0 ≤ x := fun x hx => h0 x (List.mem_cons_of_mem _ hx)
    rw [List.map_cons, List.sum_cons, mask_sum h1.2 h2]
    show 2 ^ k.toNat + maskI ns = 2 ^ k.toNat ^^^ maskI ns
    refine add_pow _ _ ?_
    rw [mask_bit h1.2 h2, Int.toNat_of_nonneg hk]
    exact decide_eq_false h1.1
/-! ### sums of rows -/
def addM (ms : List Nat) (ns : List Int) : Nat := ns.foldl (fun a k => a ^^^ ms.getD k.toNat 0) 0
theorem addM_from (ms : List Nat) : ∀ (ns : List Int) (a : Nat), ns.foldl (fun a k => a ^^^ ms.getD k.toNat 0) a = a ^^^ addM ms ns
  | [], a => (Nat.xor_zero a).symm
  | k :: ns, a => by
    unfold addM
    rw [List.foldl_cons, List.foldl_cons, addM_from ms ns, addM_from ms ns (0 ^^^ _), Nat.zero_xor, Nat.xor_assoc]
theorem addM_snoc (ms : List Nat) (ns : List Int) (k : Int) : addM ms (ns ++ [k]) = addM ms ns ^^^ ms.getD k.toNat 0 := by
  unfold addM
  rw [List.foldl_append]
  rfl
theorem addM_lt {ms : List Nat} {n : Nat} (h : ∀ m ∈ ms, m < 2 ^ n) : ∀ ns : List Int, addM ms ns < 2 ^ n := by
  have at_ : ∀ i, ms.getD i 0 < 2 ^ n := fun i => by
    rw [List.getD_eq_getElem?_getD]
    cases e : ms[i]? with
    | none => exact Nat.two_pow_pos n
    | some m => exact h m (List.mem_of_getElem? e)
  intro ns
  induction ns with
  | nil => exact Nat.two_pow_pos n
  | cons k ns ih =>
    have e : addM ms (k :: ns) = ms.getD k.toNat 0 ^^^ addM ms ns := by
      unfold addM
      rw [List.foldl_cons, addM_from, Nat.zero_xor]
      rfl
    rw [e]
    exact xor_lt (at_ _) ih
/-- the rows behind a flip -/
def aftM (ms : List Nat) (ts hs : List Int) : List Nat := (List.range ms.length).map fun (i : Nat) => if decide ((i : Int) ∈ hs) = true then ms.getD i 0 ^^^ addM ms ts else ms.getD i 0
theorem aftM_len (ms : List Nat) (ts hs : List Int) : (aftM ms ts hs).length = ms.length := by simp [aftM]
theorem aftM_at {ms : List Nat} {ts hs : List Int} {i : Nat} (hi : i < ms.length) : (aftM ms ts hs).getD i 0 = if decide ((i : Int) ∈ hs) = true then ms.getD i 0 ^^^ addM ms ts else ms.getD i 0 := by
  unfold aftM
  rw [List.getD_eq_getElem?_getD, List.getElem?_map, List.getElem?_range hi]
  rfl
theorem getD_lt {ms : List Nat} {n : Nat} (h : ∀ m ∈ ms, m < 2 ^ n) (i : Nat) : ms.getD i 0 < 2 ^ n := by
  rw [List.getD_eq_getElem?_getD]
  cases e : ms[i]? with
  | none => exact Nat.two_pow_pos n
  | some m => exact h m (List.mem_of_getElem? e)
theorem aftM_lt {ms : List Nat} {ts hs : List Int} {n : Nat} (h : ∀ m ∈ ms, m < 2 ^ n) : ∀ m ∈ aftM ms ts hs, m < 2 ^ n := fun m hm => by
  unfold aftM at hm
  obtain ⟨i, _, rfl⟩ := List.mem_map.mp hm
  split
  · exact xor_lt (getD_lt h i) (addM_lt h ts)
  · exact getD_lt h i
/-- the rows of the identity -/
def oneM (n : Nat) : List Nat := (List.range n).map fun i => 2 ^ i
theorem oneM_len (n : Nat) : (oneM n).length = n := by simp [oneM]
theorem oneM_at {n i : Nat} (h : i < n) : (oneM n).getD i 0 = 2 ^ i := by
  unfold oneM
  rw [List.getD_eq_getElem?_getD, List.getElem?_map, List.getElem?_range h]
  rfl
theorem oneM_lt {n : Nat} : ∀ m ∈ oneM n, m < 2 ^ n := fun m hm => by
  unfold oneM at hm
  obtain ⟨i, hi, rfl⟩ := List.mem_map.mp hm
  exact Nat.pow_lt_pow_right (by decide) (List.mem_range.mp hi)
end Msk
namespace K33
open PySem PySem.Spec PyProof.Rows L2 Par
theorem run_snoc (bs : List Int) (ps : List (List Int × List Int)) (p : List Int × List Int) : runB bs (ps ++ [p]) = aftB (runB bs ps) p.1 p.2 := by
  unfold runB
  rw [List.foldl_append]
  rfl
/-- the same flips in reverse order lead back -/
theorem run_back : ∀ (ps : List (List Int × List Int)) (bs : List Int), (∀ t ∈ ps, (∀ k ∈ t.1, 0 ≤ k ∧ k < bs.length) ∧ (comm t.1 t.2).length % 2 = 0) → runB (runB bs ps) ps.reverse = bs
  | [], _, _ => rfl
  | p :: ps, bs, h => by
    have h1 := h p (List.mem_cons_self ..)
    have ih := run_back ps (aftB bs p.1 p.2) fun t ht => by
      rw [aft_len]
      exact h t (List.mem_cons_of_mem _ ht)
    rw [List.reverse_cons, run_snoc]
    show aftB (runB (runB (aftB bs p.1 p.2) ps) ps.reverse) p.1 p.2 = bs
    rw [ih]
    exact aft_back h1.1 h1.2
theorem FlsS.fls {C : Addr} {H : Hp} : ∀ {fs : List Addr} {ps : List (List Int × List Int)}, FlsS C H fs ps → (∀ t ∈ ps, OkF t.1 t.2 ∧ t.1.Pairwise (· < ·) ∧ t.2.Pairwise (· < ·)) → Fls C H fs ps
  | [], [], _, _ => True.intro
  | _ :: _, t :: _, h, ok => by
    obtain ⟨⟨ks, js, fp, p1, p2, w1, w2⟩, r⟩ := h
    obtain ⟨o1, u1, u2⟩ := ok t (List.mem_cons_self ..)
    rw [sort_same p1 w1 u1, sort_same p2 w2 u2] at fp
    exact ⟨fp, o1, r.fls fun x hx => ok x (List.mem_cons_of_mem _ hx)⟩
  | [], _ :: _, h, _ => h.elim
  | _ :: _, [], h, _ => h.elim
end K33
namespace K33
open PySem PySem.Spec PyProof.Rows L2 Par Msk
/-! ### rows of a table, and what a sequence of flips does to every board -/
theorem par_zero (bs : List Int) : parB bs (cellsI 0) = 0 := by
  have e : cellsI 0 = [] := rfl
  rw [e]
  rfl
theorem cells_perm (a b : Nat) : (cellsI (a ^^^ b)).Perm (symm (cellsI a) (cellsI b)) := by
  refine (List.perm_ext_iff_of_nodup (cellsI_nodup _) (symm_nodup (cellsI_nodup a) (cellsI_nodup b))).mpr fun k => ?_
  rw [mem_symm, mem_cellsI]
  constructor
  · rintro ⟨i, rfl, h⟩
    rw [Nat.testBit_xor] at h
    have e : ∀ m : Nat, decide ((i : Int) ∈ cellsI m) = m.testBit i := fun m => by
      cases z : m.testBit i with
      | true => exact decide_eq_true (mem_cellsN.mpr z)
      | false => exact decide_eq_false fun y => by rw [mem_cellsN.mp y] at z; cases z
    rw [e, e]
    exact h
  · intro h
    have some : k ∈ cellsI a ∨ k ∈ cellsI b := by
      by_cases z : k ∈ cellsI a
      · exact .inl z
      · rw [decide_eq_false z, Bool.false_xor] at h
        exact .inr (of_decide_eq_true h)
    obtain ⟨i, rfl⟩ : ∃ i : Nat, k = (i : Int) := by
      rcases some with z | z
      · obtain ⟨i, e, _⟩ := mem_cellsI.mp z
        exact ⟨i, e⟩
      · obtain ⟨i, e, _⟩ := mem_cellsI.mp z
        exact ⟨i, e⟩
    refine ⟨i, rfl, ?_⟩
    have e : ∀ m : Nat, decide ((i : Int) ∈ cellsI m) = m.testBit i := fun m => by
      cases z : m.testBit i with
      | true => exact decide_eq_true (mem_cellsN.mpr z)
      | false => exact decide_eq_false fun y => by rw [mem_cellsN.mp y] at z; cases z
    rw [e, e] at h
    rw [Nat.testBit_xor]
    exact h
theorem par_xor (bs : List Int) (a b : Nat) : parB bs (cellsI (a ^^^ b)) = (parB bs (cellsI a) + parB bs (cellsI b)) % 2 := by
  rw [parB_perm (cells_perm a b)]
  exact par_symm (cellsI_nodup a) (cellsI_nodup b)
theorem addM_cons (R : List Nat) (k : Int) (ns : List Int) : addM R (k :: ns) = R.getD k.toNat 0 ^^^ addM R ns := by
  have e : addM R (k :: ns) = ns.foldl (fun a k => a ^^^ R.getD k.toNat 0) (0 ^^^ R.getD k.toNat 0) := rfl
  rw [e, addM_from, Nat.zero_xor]
theorem par_add (bs : List Int) (R : List Nat) : ∀ ns : List Int, parB bs (cellsI (addM R ns)) = (ns.map fun k => parB bs (cellsI (R.getD k.toNat 0))).sum % 2
  | [] => par_zero bs
  | k :: ns => by
    rw [addM_cons, par_xor, par_add bs R ns, List.map_cons, List.sum_cons]
    omega
theorem comb_add (R : List Nat) : ∀ ns : List Int, comb R (maskI ns) = addM R ns
  | [] => comb_zero R
  | k :: ns => by
    rw [addM_cons, ← comb_add R ns]
    show comb R (2 ^ k.toNat ^^^ maskI ns) = _
    rw [comb_xor, comb_one]
theorem comb_cells (R : List Nat) (s : Nat) : comb R s = addM R (cellsI s) := by
  have e : maskI (cellsI s) = s := mask_cells (cellsI_nodup s) fun k => Iff.rfl
  have h := comb_add R (cellsI s)
  rw [e] at h
  exact h
/-- the rows tell what the flips do -/
structure Rep (R : List Nat) (n : Nat) (ps : List (List Int × List Int)) : Prop where
  len : R.length = n
  lt : ∀ m ∈ R, m < 2 ^ n
  does : ∀ bs, OkB bs → bs.length = n → ∀ i, i < n → parB bs (cellsI (R.getD i 0)) = (runB bs ps).getD i 0
theorem cells_pow (i : Nat) : cellsI (2 ^ i) = [(i : Int)] := by
  refine up_same (cellsI_up _) (List.pairwise_singleton _ _) fun k => ?_
  rw [mem_cellsI, List.mem_singleton]
  constructor
  · rintro ⟨j, rfl, h⟩
    rw [Nat.testBit_two_pow] at h
    have := of_decide_eq_true h
    omega
  · rintro rfl
    exact ⟨i, rfl, Nat.testBit_two_pow_self⟩
theorem par_one1 {bs : List Int} {i : Nat} : parB bs [(i : Int)] = bs.getD i 0 % 2 := by
  unfold parB
  rw [List.map_cons, List.map_nil, List.sum_cons, List.sum_nil, Int.toNat_natCast, Int.add_zero]
theorem rep_one (n : Nat) : Rep (oneM n) n [] := by
  refine ⟨oneM_len n, oneM_lt, fun bs ok hl i hi => ?_⟩
  rw [oneM_at hi, cells_pow, par_one1]
  show bs.getD i 0 % 2 = bs.getD i 0
  rcases bit_at ok (i := i) (by omega) with e | e <;> rw [e] <;> rfl
theorem sum_congr {f g : Int → Int} : ∀ {ns : List Int}, (∀ k ∈ ns, f k = g k) → (ns.map f).sum = (ns.map g).sum
  | [], _ => rfl
  | k :: ns, h => by
    rw [List.map_cons, List.map_cons, List.sum_cons, List.sum_cons, h k (List.mem_cons_self ..), sum_congr fun x hx => h x (List.mem_cons_of_mem _ hx)]
/-- the parity of cells behind the flips, by the rows -/
theorem Rep.par {R : List Nat} {n : Nat} {ps : List (List Int × List Int)} (r : Rep R n ps) {bs : List Int} (ok : OkB bs) (hl : bs.length = n) {ns : List Int} (h : ∀ k ∈ ns, 0 ≤ k ∧ k < (n : Nat)) :
    parB (runB bs ps) ns = parB bs (cellsI (addM R ns)) := by
  rw [par_add]
  show (ns.map fun k => (runB bs ps).getD k.toNat 0).sum % 2 = _
  rw [sum_congr fun k hk => (r.does bs ok hl k.toNat (by have := h k hk; omega)).symm]
theorem rep_step {R : List Nat} {n : Nat} {ps : List (List Int × List Int)} {t : List Int × List Int} (r : Rep R n ps) (h : ∀ k ∈ t.1, 0 ≤ k ∧ k < (n : Nat)) : Rep (aftM R t.1 t.2) n (ps ++ [t]) := by
  refine ⟨(aftM_len _ _ _).trans r.len, aftM_lt r.lt, fun bs ok hl i hi => ?_⟩
  have hi2 : i < (runB bs ps).length := by
    rw [run_len]
    omega
  rw [aftM_at (by rw [r.len]; exact hi), run_snoc, aft_at hi2]
  have x := r.does bs ok hl i hi
  have p := r.par ok hl h
  have q := par01 bs (cellsI (R.getD i 0))
  have q2 := par01 (runB bs ps) t.1
  by_cases z : (i : Int) ∈ t.2
  · rw [decide_eq_true z, if_pos rfl, par_xor, x, ← p]
    rw [x] at q
    rcases q2 with e | e
    · rw [if_neg (fun y => by rw [e] at y; exact absurd y.1 (by decide))]
      omega
    · rw [if_pos ⟨e, z⟩]
      omega
  · rw [decide_eq_false z, if_neg Bool.false_ne_true, x, if_neg fun y => z y.2]
theorem run_okp : ∀ {ps : List (List Int × List Int)} {bs : List Int}, (∀ t ∈ ps, ∀ k ∈ t.2, 1 ≤ k) → OkB bs → OkB (runB bs ps)
  | [], _, _, h => h
  | t :: ps, bs, h, ok => run_okp (ps := ps) (bs := aftB bs t.1 t.2) (fun x hx => h x (List.mem_cons_of_mem _ hx)) (aft_ok ok (h t (List.mem_cons_self ..)))
/-- a board of this size -/
def bs1 (n : Nat) : List Int := mkB n fun _ => false
theorem bs1_ok {n : Nat} (h1 : 1 ≤ n) (h2 : n ≤ 40) : OkB (bs1 n) := mkB_ok h1 h2
theorem bs1_len (n : Nat) : (bs1 n).length = n := mkB_len _ _
theorem bits_zero {n d : Nat} (h1 : 1 ≤ n) (h2 : n ≤ 40) (hd : d < 2 ^ n) (h : ∀ bs, OkB bs → bs.length = n → parB bs (cellsI d) = 0) : d = 0 := by
  have no : ∀ i : Nat, 1 ≤ i → d.testBit i = false := fun i hi => by
    cases e : d.testBit i with
    | false => rfl
    | true =>
      exfalso
      have a := h _ (bs1_ok h1 h2) (bs1_len n)
      have b := h (flipB (bs1 n) [(i : Int)]) (flip_ok (bs1_ok h1 h2) fun k hk => by
        rw [List.mem_singleton.mp hk]
        omega) (by rw [flipB_len, bs1_len])
      have c := sum_flip (bs := bs1 n) (hs := [(i : Int)]) (cellsI d) fun k hk => by
        rw [bs1_len]
        exact cellsI_in hd k hk
      have l : (comm (cellsI d) [(i : Int)]).length = 1 := by
        rw [comm_swap (cellsI_nodup d) (List.nodup_cons.mpr ⟨by simp, List.nodup_nil⟩)]
        unfold comm
        simp [mem_cellsN.mpr e]
      rw [l] at c
      unfold parB at a b
      omega
  have z : d.testBit 0 = false := by
    cases e : d.testBit 0 with
    | false => rfl
    | true =>
      exfalso
      have one : d = 2 ^ 0 := Nat.eq_of_testBit_eq fun i => by
        cases i with
        | zero =>
          rw [e]
          rfl
        | succ i =>
          rw [no (i + 1) (by omega), Nat.testBit_two_pow]
          rfl
      have a := h _ (bs1_ok h1 h2) (bs1_len n)
      rw [one, cells_pow, par_one1, List.getD_eq_getElem?_getD, (bs1_ok h1 h2).2.1] at a
      exact absurd a (by decide)
  refine Nat.eq_of_testBit_eq fun i => ?_
  rw [Nat.zero_testBit]
  cases i with
  | zero => exact z
  | succ i => exact no (i + 1) (by omega)
/-- flips that fit, of this size -/
def Fit1 (n : Nat) (ps : List (List Int × List Int)) : Prop := ∀ t ∈ ps, (∀ k ∈ t.1, 0 ≤ k ∧ k < (n : Nat)) ∧ (∀ k ∈ t.2, 1 ≤ k ∧ k < (n : Nat)) ∧ (comm t.1 t.2).length % 2 = 0
theorem rep_indep {R : List Nat} {n : Nat} {ps : List (List Int × List Int)} (r : Rep R n ps) (f : Fit1 n ps) (h1 : 1 ≤ n) (h2 : n ≤ 40) : Indep R := fun s hs e => by
  rw [r.len] at hs
  refine bits_zero h1 h2 hs fun y ok hl => ?_
  have okr : OkB (runB y ps.reverse) := run_okp (fun t ht k hk => ((f t (List.mem_reverse.mp ht)).2.1 k hk).1) ok
  have len : (runB y ps.reverse).length = n := by rw [run_len, hl]
  have back : runB (runB y ps.reverse) ps = y := by
    have b := run_back ps.reverse y fun t ht => by
      have := f t (List.mem_reverse.mp ht)
      rw [hl]
      exact ⟨this.1, this.2.2⟩
    rwa [List.reverse_reverse] at b
  have p := r.par okr len (cellsI_in hs)
  rw [back, ← comb_cells, e, par_zero] at p
  exact p
theorem rep_eq {R R' : List Nat} {n : Nat} {ps qs : List (List Int × List Int)} (r : Rep R n ps) (r' : Rep R' n qs) (h1 : 1 ≤ n) (h2 : n ≤ 40) (h : ∀ bs, OkB bs → bs.length = n → runB bs ps = runB bs qs) : R = R' := by
  refine List.ext_getElem (r.len.trans r'.len.symm) fun i a b => ?_
  have g : ∀ (S : List Nat) (hS : i < S.length), S[i] = S.getD i 0 := fun S hS => by
    rw [List.getD_eq_getElem?_getD, List.getElem?_eq_getElem hS]
    rfl
  rw [g R a, g R' b]
  have hi : i < n := by
    rw [← r.len]
    exact a
  have z := bits_zero h1 h2 (xor_lt (getD_lt r.lt i) (getD_lt r'.lt i)) fun bs ok hl => by
    have q := par01 bs (cellsI (R'.getD i 0))
    rw [par_xor, r.does bs ok hl i hi, h bs ok hl, ← r'.does bs ok hl i hi]
    rcases q with e | e <;> rw [e] <;> rfl
  by_cases y : R.getD i 0 = R'.getD i 0
  · exact y
  · exact absurd z (xor_ne y)
theorem rep_first {R : List Nat} {n : Nat} {ps : List (List Int × List Int)} (r : Rep R n ps) (f : Fit1 n ps) (h1 : 1 ≤ n) (h2 : n ≤ 40) : R.getD 0 0 = 1 := by
  have z := bits_zero h1 h2 (xor_lt (getD_lt r.lt 0) (Nat.one_lt_two_pow (by omega) : 1 < 2 ^ n)) fun bs ok hl => by
    have o := run_okp (fun t ht k hk => ((f t ht).2.1 k hk).1) ok
    have e1 : (runB bs ps).getD 0 0 = 1 := by
      rw [List.getD_eq_getElem?_getD, o.2.1]
      rfl
    have e2 : bs.getD 0 0 = 1 := by
      rw [List.getD_eq_getElem?_getD, ok.2.1]
      rfl
    have e3 : cellsI 1 = [((0 : Nat) : Int)] := cells_pow 0
    rw [par_xor, r.does bs ok hl 0 (by omega), e1, e3, par_one1, e2]
    rfl
  by_cases y : R.getD 0 0 = 1
  · exact y
  · exact absurd z (xor_ne y)
/-- rows that make a table -/
structure GoodT (R : List Nat) : Prop where
  l1 : 1 ≤ R.length
  l40 : R.length ≤ 40
  lt : ∀ m ∈ R, m < 2 ^ R.length
  first : R.getD 0 0 = 1
  ind : Indep R
theorem rep_good {R : List Nat} {n : Nat} {ps : List (List Int × List Int)} (r : Rep R n ps) (f : Fit1 n ps) (h1 : 1 ≤ n) (h2 : n ≤ 40) : GoodT R := by
  have e := r.len
  exact ⟨by omega, by omega, by rw [e]; exact r.lt, rep_first r f h1 h2, rep_indep r f h1 h2⟩
end K33
namespace K33
open PySem PySem.Spec PyProof.Rows L2 Par Msk
abbrev sMaskOf : Stmt := topS 53
abbrev sCellsOf : Stmt := topS 54
abbrev sPivots : Stmt := topS 55
abbrev sReduced : Stmt := topS 56
abbrev sRank : Stmt := topS 57
theorem pow_sum : ∀ {ns : List Int}, ns.Nodup → (∀ k ∈ ns, 0 ≤ k) → (ns.map fun k => (2 : Int) ^ k.toNat).sum = ((maskI ns : Nat) : Int) := fun {ns} hn h0 => by
  rw [← mask_sum hn h0]
  clear hn h0
  induction ns with
  | nil => rfl
  | cons k ns ih =>
    rw [List.map_cons, List.map_cons, List.sum_cons, List.sum_cons, ih, Int.natCast_add, Int.natCast_pow]
    rfl
/-- numbers as values -/
def mV (ms : List Nat) : List V := ms.map fun (m : Nat) => V.int ((m : Nat) : Int)
theorem mV_len (ms : List Nat) : (mV ms).length = ms.length := by simp [mV]
theorem mV_at {ms : List Nat} {i : Nat} (h : i < ms.length) : (mV ms)[i]? = some (.int ((ms.getD i 0 : Nat) : Int)) := by
  unfold mV
  rw [List.getElem?_map, List.getD_eq_getElem?_getD, List.getElem?_eq_getElem h]
  rfl
theorem bits_bl (m : Nat) : Builtin.Int.intBits (m : Int) = bl m := by
  unfold Builtin.Int.intBits bl
  by_cases h : m = 0
  · subst h
    rfl
  · rw [if_neg h, if_neg (by simp; exact h)]
    rfl
theorem bitX (a b : Nat) : Builtin.bitXor (a : Int) (b : Int) = ((a ^^^ b : Nat) : Int) := by
  rw [Bits.bitXor_pp (by omega) (by omega)]
  rfl
theorem bit_test (m j : Nat) : decide (V.int (((m / 2 ^ j) % 2 : Nat) : Int) = V.int 1) = m.testBit j := by
  rw [Nat.testBit_eq_decide_div_mod_eq]
  by_cases h : m / 2 ^ j % 2 = 1
  · rw [h, decide_eq_true rfl]
    exact decide_eq_true rfl
  · rw [decide_eq_false h, decide_eq_false fun z => h (by injection z with z; omega)]
theorem cellsT_all (m : Nat) : Msk.cellsT m (bl m) = cellsI m := rfl
section
variable {P : Program} {w : World} {K : PySem.W.Frag} {mg : Str → Option Value} {base : Heap}
/-- mask_of -/
def spMaskOf (K : PySem.W.Frag) : Sp := fun vs H Q _ => ∃ (a : Addr) (ns : List Int), vs = [.ref a] ∧ Sq K H a (ns.map V.int) ∧ ns.Nodup ∧ ns.length ≤ 40 ∧ (∀ k ∈ ns, 0 ≤ k ∧ k < 40) ∧ ∀ H', Same H H' → Q (.int ((maskI ns : Nat) : Int)) H'
abbrev nMaskOf : List Str := ["cells", "cell"]
theorem scMaskOf : FnScope nMaskOf ["cells"] (defScope sMaskOf) := ⟨rfl, rfl, rfl, by decide +kernel, rfl, by decide +kernel, by decide +kernel⟩
theorem ok_maskOf {f : Addr} {fd : FuncData} (F : Fun K "mask_of" "mask_of" sMaskOf f fd) (B : Bl mg) : FnOk P w K mg base CX0 2 f fd ["cells"] (spMaskOf K) := by
  refine F.ok scMaskOf (fun vs H Q E h => ?_) (fun cdv A outer s H vs Q E hr h => ?_)
  · obtain ⟨a, ns, rfl, _⟩ := h
    rfl
  · obtain ⟨a, ns, rfl, hq | hq, hn, hl, hc, out⟩ := h
    · refine ⟨_, pss_one (ps_ret (pe_callB (cr_sum rfl) (by rfl) B.sum (by decide +kernel) (pa_cons (pe_lc (own := [("cell", 1)]) (g := gName 1) rfl scMaskOf.nd (pi_list (pv 0)) (blkOk_by (own := [("cell", 1)]) (N := nMaskOf) (sc := defScope sMaskOf) (by decide +kernel))
        (fun _ _ _ _ _ => pg_name (i := 1) scMaskOf.nd rfl (Or.inl rfl)) (fun _ _ _ _ _ => pts_nil) (fun _ _ _ _ _ => pe_op op_oneShl pe_int (pv 1))) pa_nil))), ?_⟩
      refine ⟨_, rfl, a, rfl, ⟨_, hq⟩, fun D hD => ?_⟩
      refine lc_list (K := K) (a := a) (xs := ns.map V.int) (fun i H' => Same H H' ∧ H' D = some (.lst (((ns.take i).map fun k => (2 : Int) ^ k.toNat).map V.int))) ⟨same_new hD, upd_same⟩ (fun i H' _ h => same_sq h.1 hq) ?_ ?_
      · rintro i x H2 hx ⟨s2, hD2⟩
        rw [List.getElem?_map] at hx
        obtain ⟨k, hk, rfl⟩ : ∃ k, ns[i]? = some k ∧ x = V.int k := by
          cases e : ns[i]? with
          | none => rw [e] at hx; cases hx
          | some k => rw [e] at hx; exact ⟨k, rfl, (Option.some.inj hx).symm⟩
        obtain ⟨k0, k1⟩ := hc k (List.mem_of_getElem? hk)
        refine ⟨rfl, yesT ?_⟩
        refine ⟨_, rfl, k.toNat, rfl, (by rw [Int.toNat_of_nonneg k0]), by omega, _, hD2, ?_, ?_, ?_⟩
        · rw [List.length_map, List.length_map, List.length_take]
          exact small1000 (by omega)
        · intro z o e
          rw [upd_ne (ne_of_none e hD)]
          exact s2 z o e
        · rw [upd_same, List.take_succ, hk, List.map_append, List.map_append]
          rfl
      · rintro H2 ⟨s2, hD2⟩
        rw [List.length_map, List.take_length] at hD2
        refine ⟨D, _, rfl, SqL.of hD2, ?_⟩
        rw [pow_sum hn fun k hk => (hc k hk).1]
        exact out H2 s2
    · refine ⟨_, pss_one (ps_ret (pe_callB (cr_sum rfl) (by rfl) B.sum (by decide +kernel) (pa_cons (pe_lc (own := [("cell", 1)]) (g := gName 1) rfl scMaskOf.nd (pi_tup (pv 0)) (blkOk_by (own := [("cell", 1)]) (N := nMaskOf) (sc := defScope sMaskOf) (by decide +kernel))
        (fun _ _ _ _ _ => pg_name (i := 1) scMaskOf.nd rfl (Or.inl rfl)) (fun _ _ _ _ _ => pts_nil) (fun _ _ _ _ _ => pe_op op_oneShl pe_int (pv 1))) pa_nil))), ?_⟩
      refine ⟨_, rfl, a, rfl, ⟨_, hq⟩, fun D hD => ?_⟩
      refine lc_tup (K := K) (a := a) (xs := ns.map V.int) (fun i H' => Same H H' ∧ H' D = some (.lst (((ns.take i).map fun k => (2 : Int) ^ k.toNat).map V.int))) ⟨same_new hD, upd_same⟩ (fun i H' _ h => same_sqt h.1 hq) ?_ ?_
      · rintro i x H2 hx ⟨s2, hD2⟩
        rw [List.getElem?_map] at hx
        obtain ⟨k, hk, rfl⟩ : ∃ k, ns[i]? = some k ∧ x = V.int k := by
          cases e : ns[i]? with
          | none => rw [e] at hx; cases hx
          | some k => rw [e] at hx; exact ⟨k, rfl, (Option.some.inj hx).symm⟩
        obtain ⟨k0, k1⟩ := hc k (List.mem_of_getElem? hk)
        refine ⟨rfl, yesT ?_⟩
        refine ⟨_, rfl, k.toNat, rfl, (by rw [Int.toNat_of_nonneg k0]), by omega, _, hD2, ?_, ?_, ?_⟩
        · rw [List.length_map, List.length_map, List.length_take]
          exact small1000 (by omega)
        · intro z o e
          rw [upd_ne (ne_of_none e hD)]
          exact s2 z o e
        · rw [upd_same, List.take_succ, hk, List.map_append, List.map_append]
          rfl
      · rintro H2 ⟨s2, hD2⟩
        rw [List.length_map, List.take_length] at hD2
        refine ⟨D, _, rfl, SqL.of hD2, ?_⟩
        rw [pow_sum hn fun k hk => (hc k hk).1]
        exact out H2 s2
/-- cells_of -/
def spCellsOf : Sp := fun vs H Q _ => ∃ m : Nat, vs = [.int (m : Int)] ∧ m < 2 ^ 40 ∧ ∀ p H', H p = none → Same H H' → H' p = some (.tup ((cellsI m).map V.int)) → Q (.ref p) H'
abbrev nCellsOf : List Str := ["mask", "cell"]
theorem scCellsOf : FnScope nCellsOf ["mask"] (defScope sCellsOf) := ⟨rfl, rfl, rfl, by decide +kernel, rfl, by decide +kernel, by decide +kernel⟩
theorem ok_cellsOf {f : Addr} {fd : FuncData} (F : Fun K "cells_of" "cells_of" sCellsOf f fd) (B : Bl mg) : FnOk P w K mg base CX0 2 f fd ["mask"] spCellsOf := by
  refine F.ok scCellsOf (fun vs H Q E h => ?_) (fun cdv A outer s H vs Q E hr h => ?_)
  · obtain ⟨m, rfl, _⟩ := h
    rfl
  · obtain ⟨m, rfl, hm, out⟩ := h
    have b40 := bl_le hm
    refine ⟨_, pss_one (ps_ret (pe_callTy call_tuple_of (by rfl) B.tuple (by decide +kernel) (pa_cons (pe_lc (own := [("cell", 1)]) (g := gName 1) rfl scCellsOf.nd (pi_range1 (by rfl) B.range (pa_cons (pe_bits (pv 0)) pa_nil)) (blkOk_by (own := [("cell", 1)]) (N := nCellsOf) (sc := defScope sCellsOf) (by decide +kernel))
        (fun _ _ _ _ _ => pg_name (i := 1) scCellsOf.nd rfl (Or.inl rfl)) (fun _ _ _ _ _ => pts_one (pt_cmpR op_eq (pe_op op_odd (pe_op op_shrN (pv 0) (pv 1)) pe_int) pe_int (nomark _))) (fun _ _ _ _ _ => pv 1)) pa_nil))), ?_⟩
    refine ⟨_, rfl, _, rfl, ?_⟩
    rw [bits_bl]
    refine ⟨_, rfl, by omega, by omega, fun D hD => ?_⟩
    rw [Int.toNat_natCast]
    refine lc_range (lo := 0) (n := bl m) (fun i H' => Same H H' ∧ H' D = some (.lst ((Msk.cellsT m i).map V.int))) ⟨same_new hD, upd_same⟩ ?_ ?_
    · rintro i H2 hi ⟨s2, hD2⟩
      have st := Msk.cellsT_step m i
      rw [Int.zero_add]
      refine ⟨rfl, _, rfl, _, rfl, (m : Int), i, rfl, rfl, m / 2 ^ i, (by rw [Int.natCast_ediv, Int.natCast_pow]; rfl), rfl, rfl, _, rfl, ?_⟩
      rw [bit_test]
      cases z : m.testBit i with
      | true =>
        rw [z, if_pos rfl] at st
        refine iteT ⟨_, rfl, _, hD2, ?_, ?_, ?_⟩
        · rw [List.length_map]
          have := Msk.cellsT_len m i
          exact small1000 (by omega)
        · intro y o e
          rw [upd_ne (ne_of_none e hD)]
          exact s2 y o e
        · rw [upd_same, st, List.map_append]
          rfl
      | false =>
        rw [z, if_neg Bool.false_ne_true, List.append_nil] at st
        refine iteF ⟨s2, ?_⟩
        rw [st]
        exact hD2
    · rintro H2 ⟨s2, hD2⟩
      rw [cellsT_all] at hD2
      refine ⟨D, _, rfl, .inl ⟨SqL.of hD2, fun l hl2 => ?_⟩⟩
      exact out l _ (s2.free hl2) (s2.trans (same_new hl2)) upd_same
/-! ### pivots -/
/-- the pivots' dict: each sum by its bit length -/
def PvL (H : Hp) : List (Nat × Nat) → List (Key × V) → Prop
  | [], [] => True
  | p :: ps, kv :: kvs => (kv.1 = Sum.inl ((bl p.1 : Nat) : Int) ∧ ∃ t, kv.2 = .ref t ∧ H t = some (.tup [.int (p.1 : Int), .int (p.2 : Int)])) ∧ PvL H ps kvs
  | _, _ => False
def PvAt (H : Hp) (d : Addr) (ps : List (Nat × Nat)) : Prop := ∃ kvs, H d = some (.dK kvs) ∧ PvL H ps kvs
/-- what the pivots are sums of -/
structure PvOk (ms : List Nat) (j : Nat) (ps : List (Nat × Nat)) : Prop where
  each : ∀ p ∈ ps, p.1 ≠ 0 ∧ p.1 = comb ms p.2 ∧ p.2 < 2 ^ j
  keys : (ps.map fun p => bl p.1).Nodup
theorem PvL.same {H H' : Hp} (s : ∀ t x y, H t = some (.tup [.int x, .int y]) → H' t = some (.tup [.int x, .int y])) : ∀ {ps : List (Nat × Nat)} {kvs : List (Key × V)}, PvL H ps kvs → PvL H' ps kvs
  | [], [], _ => True.intro
  | _ :: _, _ :: _, ⟨⟨e, t, e2, h⟩, r⟩ => ⟨⟨e, t, e2, s _ _ _ h⟩, r.same s⟩
  | [], _ :: _, h => h.elim
  | _ :: _, [], h => h.elim
theorem PvAt.same {H H' : Hp} {d : Addr} {ps : List (Nat × Nat)} (s : Same H H') (h : PvAt H d ps) : PvAt H' d ps := by
  obtain ⟨kvs, e, pl⟩ := h
  exact ⟨kvs, s _ _ e, pl.same fun t x y q => s _ _ q⟩
theorem PvL.len {H : Hp} : ∀ {ps : List (Nat × Nat)} {kvs : List (Key × V)}, PvL H ps kvs → kvs.length = ps.length
  | [], [], _ => rfl
  | _ :: _, _ :: _, h => by rw [List.length_cons, List.length_cons, h.2.len]
  | [], _ :: _, h => h.elim
  | _ :: _, [], h => h.elim
theorem PvL.snoc {H : Hp} {q : Nat × Nat} {t : Addr} (hq : H t = some (.tup [.int (q.1 : Int), .int (q.2 : Int)])) : ∀ {ps : List (Nat × Nat)} {kvs : List (Key × V)}, PvL H ps kvs → PvL H (ps ++ [q]) (kvs ++ [(Sum.inl ((bl q.1 : Nat) : Int), .ref t)])
  | [], [], _ => ⟨⟨rfl, t, rfl, hq⟩, True.intro⟩
  | _ :: _, _ :: _, ⟨h, r⟩ => ⟨h, r.snoc hq⟩
  | [], _ :: _, h => h.elim
  | _ :: _, [], h => h.elim
theorem PvL.find {H : Hp} {b : Nat} : ∀ {ps : List (Nat × Nat)} {kvs : List (Key × V)}, PvL H ps kvs → (∀ v, valV kvs (Sum.inl (b : Int)) = some v → ∃ p ∈ ps, bl p.1 = b ∧ ∃ t, v = .ref t ∧ H t = some (.tup [.int (p.1 : Int), .int (p.2 : Int)])) ∧
    (valV kvs (Sum.inl (b : Int)) = none → ∀ p ∈ ps, bl p.1 ≠ b)
  | [], [], _ => ⟨fun v h => (by rw [valV_nil] at h; cases h), fun _ p hp => (nomatch hp)⟩
  | p :: ps, kv :: kvs, ⟨⟨e, t, e2, h⟩, r⟩ => by
    have ih := r.find (b := b)
    by_cases z : bl p.1 = b
    · have ek : kv.1 = Sum.inl ((b : Nat) : Int) := by rw [e, z]
      rw [valV_pos ek]
      refine ⟨fun v hv => ⟨p, List.mem_cons_self .., z, t, ?_, h⟩, fun y => nomatch y⟩
      rw [← e2]
      exact (Option.some.inj hv).symm
    · have ek : ¬ kv.1 = Sum.inl ((b : Nat) : Int) := fun y => z (by
        rw [e] at y
        injection y with y
        omega)
      rw [valV_neg ek]
      refine ⟨fun v hv => ?_, fun hn q hq => ?_⟩
      · obtain ⟨q, hq, r⟩ := ih.1 v hv
        exact ⟨q, List.mem_cons_of_mem _ hq, r⟩
      · rcases List.mem_cons.mp hq with rfl | hq
        · exact z
        · exact ih.2 hn q hq
  | [], _ :: _, h => h.elim
  | _ :: _, [], h => h.elim
theorem PvL.put {H : Hp} {b : Nat} {v : V} : ∀ {ps : List (Nat × Nat)} {kvs : List (Key × V)}, PvL H ps kvs → (∀ p ∈ ps, bl p.1 ≠ b) → putK kvs (Sum.inl (b : Int)) v = kvs ++ [(Sum.inl (b : Int), v)] := fun {ps kvs} h no => by
  have none_ : (kvs.any fun kv => decide (kv.1 = Sum.inl ((b : Nat) : Int))) = false := by
    rw [Bool.eq_false_iff]
    intro z
    obtain ⟨kv, hkv, e⟩ := List.any_eq_true.mp z
    have e2 := of_decide_eq_true e
    clear z e
    induction ps generalizing kvs with
    | nil =>
      cases kvs with
      | nil => cases hkv
      | cons _ _ => exact h
    | cons p ps ih =>
      cases kvs with
      | nil => cases hkv
      | cons k kvs =>
        rcases List.mem_cons.mp hkv with rfl | hkv
        · have := h.1.1
          rw [e2] at this
          injection this with this
          exact no p (List.mem_cons_self ..) (by omega)
        · exact ih h.2 (fun q hq => no q (List.mem_cons_of_mem _ hq)) hkv
  unfold putK
  rw [none_, if_neg Bool.false_ne_true]
def spReduced : Sp := fun vs H Q _ => ∃ (d : Addr) (m : Nat) (ms : List Nat) (j : Nat) (ps : List (Nat × Nat)), vs = [.ref d, .int (m : Int)] ∧ PvAt H d ps ∧ PvOk ms j ps ∧
  ∀ p r a H', H p = none → Same H H' → H' p = some (.tup [.int ((r : Nat) : Int), .int ((a : Nat) : Int)]) → r = m ^^^ comb ms a → a < 2 ^ j → (∀ q ∈ ps, bl q.1 ≠ bl r) → Q (.ref p) H'
abbrev nReduced : List Str := ["pivots", "mask", "rest", "added", "pivot", "indexes"]
theorem scReduced : FnScope nReduced ["pivots", "mask"] (defScope sReduced) := ⟨rfl, rfl, rfl, by decide +kernel, rfl, by decide +kernel, by decide +kernel⟩
theorem ok_reduced {f : Addr} {fd : FuncData} (F : Fun K "reduced" "reduced" sReduced f fd) : FnOk P w K mg base CX0 2 f fd ["pivots", "mask"] spReduced := by
  refine F.ok scReduced (fun vs H Q E h => ?_) (fun cdv A outer s H vs Q E hr h => ?_)
  · obtain ⟨d, m, ms, j, ps, rfl, _⟩ := h
    rfl
  · obtain ⟨d, m, ms, j, ps, rfl, ⟨kvs, hd, pl⟩, po, out⟩ := h
    have hu1 := hr.units
    have hu : (A.deeper (envOfC "reduced" (defScope sReduced) s.heap.objs.size f cdv)).units + 1 < cLine := by omega
    refine ⟨_, pss_cons (ps_set (i := 2) scReduced.nd rfl (Or.inl rfl) (pv 1))
      (pss_cons (ps_set (i := 3) scReduced.nd rfl (Or.inl rfl) pe_int)
      (pss_cons (ps_while PassesOwn.never (pt_cmp (pc_din hu (pe_bits (pv 2)) (pv 0)))
        (pss_cons (ps_asg (pe_dget hu (pv 0) (pe_bits (pv 2)) (fun _ _ => rfl)) (pg_tup rfl (pgs_cons (pg_name (i := 4) scReduced.nd rfl (Or.inl rfl)) (pgs_cons (pg_name (i := 5) scReduced.nd rfl (Or.inl rfl)) pgs_nil))))
        (pss_cons (ps_set (i := 2) scReduced.nd rfl (Or.inl rfl) (pe_op op_xor (pv 2) (pv 4)))
        (pss_one (ps_set (i := 3) scReduced.nd rfl (Or.inl rfl) (pe_op op_xor (pv 3) (pv 5)))))))
      (pss_one (ps_ret (pe_tup (pa_cons (pv 2) (pa_cons (pv 3) pa_nil))))))), ?_⟩
    refine ⟨_, rfl, ?_⟩
    refine while_by (fun σ H' => ∃ (r a : Nat) (v4 v5 : Option V), σ = [some (.ref d), some (.int (m : Int)), some (.int ((r : Nat) : Int)), some (.int ((a : Nat) : Int)), v4, v5] ∧ H' = H ∧ r = m ^^^ comb ms a ∧ a < 2 ^ j)
      (fun σ _ => match σ with
        | [_, _, some (.int r), _, _, _] => bl r.toNat
        | _ => 0) ⟨m, 0, none, none, rfl, rfl, by rw [comb_zero, Nat.xor_zero], Nat.two_pow_pos j⟩ ?_ ?_
    · rintro σ H' ⟨r, a, v4, v5, rfl, rfl, er, ha⟩
      refine ⟨_, rfl, _, rfl, ?_⟩
      rw [bits_bl]
      refine ⟨_, rfl, d, _, rfl, DGet.k (k := Sum.inl ((bl r : Nat) : Int)) hd, _, rfl, ?_⟩
      have fd := pl.find (b := bl r)
      have dg : DGet H' d (.int ((bl r : Nat) : Int)) (valV kvs (Sum.inl ((bl r : Nat) : Int))) := DGet.k (k := Sum.inl ((bl r : Nat) : Int)) hd
      cases e : valV kvs (Sum.inl ((bl r : Nat) : Int)) with
      | none =>
        refine iteF ⟨_, rfl, _, rfl, (by show 2 ≤ sizeLine; decide), fun p hp => ?_⟩
        exact out p r a _ hp (same_new hp) upd_same er ha (fd.2 e)
      | some v =>
        obtain ⟨q, hq, eb, t, rfl, ht⟩ := fd.1 v e
        rw [e] at dg
        obtain ⟨q0, q1, q2⟩ := po.each q hq
        refine iteT ⟨_, rfl, _, rfl, _, rfl, ?_⟩
        rw [bits_bl]
        refine ⟨d, _, rfl, dg, t, _, rfl, SqT.of ht, rfl, _, _, rfl, _, _, rfl, rfl, ?_⟩
        refine ⟨_, rfl, _, rfl, _, _, rfl, rfl, ?_⟩
        refine ⟨_, rfl, _, rfl, _, _, rfl, rfl, ?_⟩
        dsimp only []
        rw [bitX, bitX]
        have r0 : r ≠ 0 := fun z => by
          rw [z] at eb
          have := bl_pos q0
          have z2 : bl 0 = 0 := rfl
          omega
        refine ⟨⟨r ^^^ q.1, a ^^^ q.2, _, _, rfl, rfl, ?_, xor_lt ha q2⟩, ?_⟩
        · rw [comb_xor, ← Nat.xor_assoc, ← er, ← q1]
        · show bl ((r ^^^ q.1 : Nat) : Int).toNat < bl ((r : Nat) : Int).toNat
          rw [Int.toNat_natCast, Int.toNat_natCast]
          exact bl_xor r0 eb.symm
    · rintro σ H' Q1 Q2 hm h
      obtain ⟨v, e, i, e2, u, e3, a, o, e4, e5, b, e6, e7⟩ := h
      exact ⟨v, e, i, e2, u, e3, a, o, e4, e5, b, e6, hm _ _ e7⟩
def spPivots (K : PySem.W.Frag) : Sp := fun vs H Q _ => ∃ (t : Addr) (ms : List Nat), vs = [.ref t] ∧ SqT K H t (mV ms) ∧ ms.length ≤ 40 ∧ Indep ms ∧
  ∀ d ps H', H d = none → Same H H' → PvAt H' d ps → PvOk ms ms.length ps → ps.length = ms.length → Q (.ref d) H'
abbrev nPivots : List Str := ["masks", "pivots", "index", "mask", "rest", "added"]
theorem scPivots : FnScope nPivots ["masks"] (defScope sPivots) := ⟨rfl, rfl, rfl, by decide +kernel, rfl, by decide +kernel, by decide +kernel⟩
theorem pv_snoc {ms : List Nat} {j : Nat} {ps : List (Nat × Nat)} {r a : Nat} (h : PvOk ms j ps) (ind : Indep ms) (hj : j < ms.length) (er : r = ms.getD j 0 ^^^ comb ms a) (ha : a < 2 ^ j) (no : ∀ q ∈ ps, bl q.1 ≠ bl r) : PvOk ms (j + 1) (ps ++ [(r, a ^^^ 2 ^ j)]) := by
  refine ⟨fun p hp => ?_, ?_⟩
  · rcases List.mem_append.mp hp with z | z
    · obtain ⟨h1, h2, h3⟩ := h.each p z
      exact ⟨h1, h2, Nat.lt_of_lt_of_le h3 (Nat.pow_le_pow_right (by decide) (by omega))⟩
    · rw [List.mem_singleton.mp z]
      refine ⟨by rw [er]; exact left_ne ind hj ha, ?_, add_bit ha⟩
      show r = comb ms (a ^^^ 2 ^ j)
      rw [comb_xor, comb_one, Nat.xor_comm]
      exact er
  · rw [List.map_append]
    refine List.nodup_append.mpr ⟨h.keys, by simp, fun x hx y hy => ?_⟩
    obtain ⟨q, hq, rfl⟩ := List.mem_map.mp hx
    have : y = bl r := by simpa using hy
    rw [this]
    exact no q hq
theorem ok_pivots {f : Addr} {fd : FuncData} (F : Fun K "pivots_of" "pivots_of" sPivots f fd) (B : Bl mg) (D : Has P w K mg base "reduced" 2 ["pivots", "mask"] spReduced) : FnOk P w K mg base CX0 3 f fd ["masks"] (spPivots K) := by
  obtain ⟨fD, fdD, GD, mD, kD, bD⟩ := D
  refine F.ok scPivots (fun vs H Q E h => ?_) (fun cdv A outer s H vs Q E hr h => ?_)
  · obtain ⟨t, ms, rfl, _⟩ := h
    rfl
  · obtain ⟨t, ms, rfl, hq, l40, ind, out⟩ := h
    have hu1 := hr.units
    have hu : (A.deeper (envOfC "pivots_of" (defScope sPivots) s.heap.objs.size f cdv)).units + 1 < cLine := by omega
    refine ⟨_, pss_cons (ps_set (i := 1) scPivots.nd rfl (Or.inl rfl) pe_dnewK)
      (pss_cons (ps_for PassesOwn.never rfl (pi_enumT (by rfl) B.enumerate (pa_cons (pv 0) pa_nil)) (pg_tup rfl (pgs_cons (pg_name (i := 2) scPivots.nd rfl (Or.inl rfl)) (pgs_cons (pg_name (i := 3) scPivots.nd rfl (Or.inl rfl)) pgs_nil)))
        (pss_cons (ps_asg (pe_call GD hr (by rfl) mD kD bD .nil pass0 (pa_cons (pv 1) (pa_cons (pv 3) pa_nil))) (pg_tup rfl (pgs_cons (pg_name (i := 4) scPivots.nd rfl (Or.inl rfl)) (pgs_cons (pg_name (i := 5) scPivots.nd rfl (Or.inl rfl)) pgs_nil))))
        (pss_one (ps_if (pt_cmpR op_ne (pv 4) pe_int (nomark _)) (pss_one (ps_dput hu (pv 1) (pe_bits (pv 4)) (pe_tup (pa_cons (pv 4) (pa_cons (pe_op op_xor (pv 5) (pe_op op_oneShl pe_int (pv 2))) pa_nil))) rfl)) pss_nil))))
      (pss_one (ps_ret (pv 1)))), ?_⟩
    intro d hd
    refine ⟨_, rfl, t, _, rfl, same_sqt (same_new hd) hq, ?_⟩
    refine for_it walk_enumT (fun i σ H' => ∃ (v2 v3 v4 v5 : Option V) (ps : List (Nat × Nat)), σ = [some (.ref t), some (.ref d), v2, v3, v4, v5] ∧ Same H H' ∧ PvAt H' d ps ∧ PvOk ms i ps ∧ ps.length = i)
      ⟨none, none, none, none, [], rfl, same_new hd, ⟨[], upd_same, True.intro⟩, ⟨fun p hp => (nomatch hp), List.nodup_nil⟩, rfl⟩ (fun i σ H' _ ⟨_, _, _, _, _, _, s1, _⟩ => same_sqt s1 hq) ?_ ?_
    · rintro i x σ H1 H2 hi ⟨v2, v3, v4, v5, ps, rfl, s1, pa, po, lp⟩ ⟨T, x1, y1, rfl, hT, rfl, ex, ey⟩
      have hi2 : i < ms.length := by rw [mV_len] at hi; exact hi
      have ey2 : y1 = .int ((ms.getD i 0 : Nat) : Int) := (Option.some.inj ((mV_at hi2).symm.trans ey)).symm
      have ex2 : x1 = .int (i : Nat) := (Option.some.inj ex).symm
      subst ey2 ex2
      have s2 := same_new (o := .tup [.int (i : Nat), .int ((ms.getD i 0 : Nat) : Int)]) hT
      have pa2 : PvAt (upd H1 T (.tup [.int (i : Nat), .int ((ms.getD i 0 : Nat) : Int)])) d ps := pa.same s2
      refine ⟨T, _, rfl, SqT.of upd_same, rfl, _, _, rfl, _, _, rfl, rfl, ?_⟩
      refine ⟨_, rfl, _, rfl, d, ms.getD i 0, ms, i, ps, rfl, pa2, po, fun p r a H3 hp s3 ep er ha no => ?_⟩
      refine ⟨p, _, rfl, SqT.of ep, rfl, _, _, rfl, _, _, rfl, rfl, ?_⟩
      have r0 : r ≠ 0 := by
        rw [er]
        exact left_ne ind hi2 ha
      refine ⟨_, rfl, rfl, _, rfl, ?_⟩
      rw [decide_eq_false (fun z => r0 (by injection z with z; omega) : ¬ V.int ((r : Nat) : Int) = V.int 0)]
      refine iteT ⟨_, rfl, _, rfl, _, rfl, i, rfl, rfl, by omega, _, _, rfl, rfl, (by show 2 ≤ sizeLine; decide), fun t2 ht2 => ?_⟩
      have e2 : ((2 : Int) ^ i) = ((2 ^ i : Nat) : Int) := by
        rw [Int.natCast_pow]
        rfl
      dsimp only []
      rw [e2, bitX]
      have s13 := (s1.trans s2).trans s3
      have s4 := same_new (o := .tup [.int ((r : Nat) : Int), .int ((a ^^^ 2 ^ i : Nat) : Int)]) ht2
      obtain ⟨kvs, ek, pl⟩ := (pa2.same s3).same s4
      refine ⟨_, rfl, _, rfl, _, rfl, ?_⟩
      rw [bits_bl]
      have hdH : H d = none := hd
      refine ⟨d, _, rfl, DPut.k (k := Sum.inl ((bl r : Nat) : Int)) ek (by rw [pl.len, lp]; exact small1000 (by omega)), ?_⟩
      rw [pl.put no]
      refine ⟨_, _, _, _, ps ++ [(r, a ^^^ 2 ^ i)], rfl, fun b o e => ?_, ⟨_, upd_same, ?_⟩, pv_snoc po ind hi2 er ha no, by rw [List.length_append, lp]; rfl⟩
      · rw [upd_ne (ne_of_none e hdH)]
        exact s4 _ _ (s13 b o e)
      · skip
        refine (PvL.snoc (q := (r, a ^^^ 2 ^ i)) upd_same pl).same fun t' x' y' e' => ?_
        rw [upd_ne fun z => by rw [z, ek] at e'; cases e']
        exact e'
    · rintro σ H1 ⟨v2, v3, v4, v5, ps, rfl, s1, pa, po, lp⟩
      rw [mV_len] at po lp
      exact ⟨_, rfl, out d ps H1 hd s1 pa po lp⟩
end
end K33
namespace K33
open PySem PySem.Spec PyProof.Rows L2 Par Msk
abbrev sRows : Stmt := topS 60
abbrev sAddedM : Stmt := topS 37
abbrev sSingle : Stmt := topS 38
abbrev sTabWith : Stmt := topS 39
abbrev sTabOf : Stmt := topS 40
abbrev sAfterM : Stmt := topS 41
abbrev hInit : Stmt := inClass (topS 59) 0
abbrev hEq : Stmt := inClass (topS 59) 1
abbrev hLen : Stmt := inClass (topS 59) 2
abbrev hRepr : Stmt := inClass (topS 59) 3
abbrev hSize : Stmt := inClass (topS 59) 4
abbrev hRow : Stmt := inClass (topS 59) 5
abbrev hImage : Stmt := inClass (topS 59) 7
abbrev hCheck : Stmt := inClass (topS 59) 11
section
variable {P : Program} {w : World} {K : PySem.W.Frag} {mg : Str → Option Value} {base : Heap}
/-- rank_of independent masks -/
def spRank (K : PySem.W.Frag) : Sp := fun vs H Q _ => ∃ (t : Addr) (ms : List Nat), vs = [.ref t] ∧ SqT K H t (mV ms) ∧ ms.length ≤ 40 ∧ Indep ms ∧ ∀ H', Same H H' → Q (.int ((ms.length : Nat) : Int)) H'
theorem scRank : FnScope ["masks"] ["masks"] (defScope sRank) := ⟨rfl, rfl, rfl, by decide +kernel, rfl, by decide +kernel, by decide +kernel⟩
theorem ok_rank {f : Addr} {fd : FuncData} (F : Fun K "rank_of" "rank_of" sRank f fd) (B : Bl mg) (D : Has P w K mg base "pivots_of" 3 ["masks"] (spPivots K)) : FnOk P w K mg base CX0 4 f fd ["masks"] (spRank K) := by
  obtain ⟨fD, fdD, GD, mD, kD, bD⟩ := D
  refine F.ok scRank (fun vs H Q E h => ?_) (fun cdv A outer s H vs Q E hr h => ?_)
  · obtain ⟨t, ms, rfl, _⟩ := h
    rfl
  · obtain ⟨t, ms, rfl, hq, l40, ind, out⟩ := h
    refine ⟨_, pss_one (ps_ret (pe_callB call_lenD (by rfl) B.len PySem.boot_len (pa_cons (pe_call GD hr (by rfl) mD kD bD .nil pass0 (pa_cons (pv 0) pa_nil)) pa_nil))), ?_⟩
    refine ⟨_, rfl, t, ms, rfl, hq, l40, ind, fun d ps H1 hd s1 pa po lp => ?_⟩
    obtain ⟨kvs, ek, pl⟩ := pa
    refine ⟨d, kvs, rfl, ek, ?_⟩
    rw [pl.len, lp]
    exact out _ s1
/-- lists or tuples of cells, at these places -/
def RowsAt (K : PySem.W.Frag) (H : Hp) : List Addr → List (List Int) → Prop
  | [], [] => True
  | x :: xs, ns :: nss => Sq K H x (ns.map V.int) ∧ RowsAt K H xs nss
  | _, _ => False
theorem RowsAt.same {H H' : Hp} (s : Same H H') : ∀ {xs : List Addr} {nss : List (List Int)}, RowsAt K H xs nss → RowsAt K H' xs nss
  | [], [], _ => True.intro
  | _ :: _, _ :: _, h => ⟨h.1.same s, h.2.same s⟩
  | [], _ :: _, h => h.elim
  | _ :: _, [], h => h.elim
theorem RowsAt.len {H : Hp} : ∀ {xs : List Addr} {nss : List (List Int)}, RowsAt K H xs nss → xs.length = nss.length
  | [], [], _ => rfl
  | _ :: _, _ :: _, h => by rw [List.length_cons, List.length_cons, h.2.len]
  | [], _ :: _, h => h.elim
  | _ :: _, [], h => h.elim
theorem RowsAt.at {H : Hp} : ∀ {xs : List Addr} {nss : List (List Int)} {i : Nat} {x : Addr}, RowsAt K H xs nss → xs[i]? = some x → ∃ ns, nss[i]? = some ns ∧ Sq K H x (ns.map V.int)
  | [], [], _, _, _, h => nomatch h
  | _ :: _, ns :: _, 0, _, h, e => ⟨ns, rfl, by
      have : _ = _ := Option.some.inj e
      exact this ▸ h.1⟩
  | _ :: _, _ :: _, i + 1, _, h, e => h.2.at (i := i) e
  | [], _ :: _, _, _, h, _ => h.elim
  | _ :: _, [], _, _, h, _ => h.elim
theorem RowsAt.snoc {H : Hp} {x : Addr} {ns : List Int} (hx : Sq K H x (ns.map V.int)) : ∀ {xs : List Addr} {nss : List (List Int)}, RowsAt K H xs nss → RowsAt K H (xs ++ [x]) (nss ++ [ns])
  | [], [], _ => ⟨hx, True.intro⟩
  | _ :: _, _ :: _, h => ⟨h.1, h.2.snoc hx⟩
  | [], _ :: _, h => h.elim
  | _ :: _, [], h => h.elim
/-- rows of cells of a size -/
def OkRows (nss : List (List Int)) : Prop := ∀ ns ∈ nss, ns.Nodup ∧ ∀ k ∈ ns, 0 ≤ k ∧ k < ((nss.length : Nat) : Int)
def spRows (K : PySem.W.Frag) : Sp := fun vs H Q _ => ∃ (a : Addr) (xs : List Addr) (nss : List (List Int)), vs = [.ref a] ∧ Sq K H a (xs.map V.ref) ∧ RowsAt K H xs nss ∧ 1 ≤ nss.length ∧ nss.length ≤ 40 ∧ OkRows nss ∧ ∀ H', Same H H' → Q (.bl true) H'
abbrev nRows : List Str := ["things", "thing"]
theorem scRows : FnScope nRows ["things"] (defScope sRows) := ⟨rfl, rfl, rfl, by decide +kernel, rfl, by decide +kernel, by decide +kernel⟩
theorem ok_rows {f : Addr} {fd : FuncData} (F : Fun K "are_rows" "are_rows" sRows f fd) (B : Bl mg) (hM : ∃ t, mg "MOST_CELLS" = some (.int 40 t)) (D : Has P w K mg base "are_cells" 4 ["things", "size"] (spAre K)) : FnOk P w K mg base CX0 5 f fd ["things"] (spRows K) := by
  obtain ⟨fD, fdD, GD, mD, kD, bD⟩ := D
  obtain ⟨tM, hM⟩ := hM
  refine F.ok scRows (fun vs H Q E h => ?_) (fun cdv A outer s H vs Q E hr h => ?_)
  · obtain ⟨a, xs, nss, rfl, _⟩ := h
    rfl
  · obtain ⟨a, xs, nss, rfl, hq | hq, hl, l1, l40, ok, out⟩ := h
    · refine ⟨_, pss_cons (ps_if (PW.pt (pw_or (pt_not (pt_val (pe_callB call_isiT (by rfl) B.isinstance (by decide +kernel) (pa_cons (pv 0) (pa_cons (pe_tup (pa_cons (pe_bltn (v := .ty "list") (by rfl) B.list (by decide +kernel) rfl) (pa_cons (pe_bltn (v := .ty "tuple") (by rfl) B.tuple (by decide +kernel) rfl) pa_nil))) pa_nil))))) (pw_or1 (pt_not (pt_chain op_le op_le pe_int (pe_callB call_len_seq (by rfl) B.len PySem.boot_len (pa_cons (pv 0) pa_nil)) (pe_glob (v := .int 40) (by rfl) hM ⟨_, rfl⟩)))))) (pss_one (ps_ret pe_bl)) pss_nil)
        (pss_one (ps_ret (pe_callB (cr_all rfl) (by rfl) B.all (by decide +kernel) (pa_cons (pe_lc (own := [("thing", 1)]) (g := gName 1) (te := tCall (spAre K) [] E0 (tCons (tVar 1) (tCons (tCB (rLenQ K) (tCons (tVar 0) tNil)) tNil))) rfl scRows.nd (pi_list (pv 0)) (blkOk_by (own := [("thing", 1)]) (N := nRows) (sc := defScope sRows) (by decide +kernel))
          (fun _ _ _ _ _ => pg_name (i := 1) scRows.nd rfl (Or.inl rfl)) (fun _ _ _ _ _ => pts_nil) (fun _ _ _ _ _ => by exact pe_call GD hr (by rfl) mD kD bD .nil pass0 (pa_cons (pv 1) (pa_cons (pe_callB call_len_seq (by rfl) B.len PySem.boot_len (pa_cons (pv 0) pa_nil)) pa_nil)))) pa_nil)))), ?_⟩
      refine ⟨_, rfl, by decide, fun p hp => ?_⟩
      have s1 : Same H (upd H p (.tup [.ty "list", .ty "tuple"])) := same_new hp
      refine ⟨_, p, _, _, _, true, rfl, upd_same, .cons (.ty _) (.cons (.ty _) .nil), sq_ty (same_sq s1 hq), kit_seq (by simp), _, rfl, iteF ?_⟩
      refine ⟨_, rfl, a, _, rfl, .inl (same_sq s1 hq), 1, _, rfl, rfl, _, rfl, ?_⟩
      rw [List.length_map, hl.len]
      rw [show decide ((1 : Int) ≤ ((nss.length : Nat) : Int)) = true from decide_eq_true (by omega)]
      refine iteT ⟨_, 40, rfl, rfl, _, rfl, ?_⟩
      rw [show decide (((nss.length : Nat) : Int) ≤ 40) = true from decide_eq_true (by omega)]
      refine iteF ⟨_, rfl, a, rfl, ⟨_, same_sq s1 hq⟩, fun D hD => ?_⟩
      have hDH : H D = none := s1.free hD
      refine lc_list (K := K) (a := a) (xs := xs.map V.ref) (fun i H' => Same H H' ∧ H' D = some (.lst (List.replicate i (.bl true)))) ⟨s1.trans (same_new hD), upd_same⟩ (fun i H' _ h => same_sq h.1 hq) ?_ ?_
      · rintro i x H2 hx ⟨s2, hD2⟩
        rw [List.getElem?_map] at hx
        obtain ⟨r, hr', rfl⟩ : ∃ r, xs[i]? = some r ∧ x = V.ref r := by
          cases e : xs[i]? with
          | none => rw [e] at hx; cases hx
          | some r => rw [e] at hx; exact ⟨r, rfl, (Option.some.inj hx).symm⟩
        have hi : i < xs.length := (List.getElem?_eq_some_iff.mp hr').1
        obtain ⟨ns, en, hs⟩ := hl.at hr'
        obtain ⟨nd, inn⟩ := ok ns (List.mem_of_getElem? en)
        have few : ns.length ≤ 40 := cells_few nd fun k hk => by
          have := inn k hk
          exact ⟨by omega, by omega⟩
        refine ⟨rfl, yesT ?_⟩
        refine ⟨_, rfl, _, rfl, a, _, rfl, .inl (same_sq s2 hq), ?_⟩
        rw [List.length_map, hl.len]
        refine ⟨r, ((nss.length : Nat) : Int), ns, rfl, hs.same s2, by omega, inn, nd, fun H3 s3 => ⟨_, s3 _ _ hD2, ?_, ?_, ?_⟩⟩
        · rw [List.length_replicate]
          have := hl.len
          exact small1000 (by omega)
        · intro z o e
          rw [upd_ne (ne_of_none e hDH)]
          exact s3 _ _ (s2 z o e)
        · rw [upd_same, List.replicate_succ']
      · rintro H2 ⟨s2, hD2⟩
        refine ⟨D, List.replicate xs.length true, rfl, SqL.of (by rw [hD2, List.length_map, List.map_replicate]), ?_⟩
        rw [List.all_replicate]
        have e : (if xs.length = 0 then true else id true) = true := by split <;> rfl
        first
          | (rw [e]; exact out _ s2)
          | (simp only [id]; simpa using out _ s2)
    · refine ⟨_, pss_cons (ps_if (PW.pt (pw_or (pt_not (pt_val (pe_callB call_isiT (by rfl) B.isinstance (by decide +kernel) (pa_cons (pv 0) (pa_cons (pe_tup (pa_cons (pe_bltn (v := .ty "list") (by rfl) B.list (by decide +kernel) rfl) (pa_cons (pe_bltn (v := .ty "tuple") (by rfl) B.tuple (by decide +kernel) rfl) pa_nil))) pa_nil))))) (pw_or1 (pt_not (pt_chain op_le op_le pe_int (pe_callB call_len_seq (by rfl) B.len PySem.boot_len (pa_cons (pv 0) pa_nil)) (pe_glob (v := .int 40) (by rfl) hM ⟨_, rfl⟩)))))) (pss_one (ps_ret pe_bl)) pss_nil)
        (pss_one (ps_ret (pe_callB (cr_all rfl) (by rfl) B.all (by decide +kernel) (pa_cons (pe_lc (own := [("thing", 1)]) (g := gName 1) (te := tCall (spAre K) [] E0 (tCons (tVar 1) (tCons (tCB (rLenQ K) (tCons (tVar 0) tNil)) tNil))) rfl scRows.nd (pi_tup (pv 0)) (blkOk_by (own := [("thing", 1)]) (N := nRows) (sc := defScope sRows) (by decide +kernel))
          (fun _ _ _ _ _ => pg_name (i := 1) scRows.nd rfl (Or.inl rfl)) (fun _ _ _ _ _ => pts_nil) (fun _ _ _ _ _ => by exact pe_call GD hr (by rfl) mD kD bD .nil pass0 (pa_cons (pv 1) (pa_cons (pe_callB call_len_seq (by rfl) B.len PySem.boot_len (pa_cons (pv 0) pa_nil)) pa_nil)))) pa_nil)))), ?_⟩
      refine ⟨_, rfl, by decide, fun p hp => ?_⟩
      have s1 : Same H (upd H p (.tup [.ty "list", .ty "tuple"])) := same_new hp
      refine ⟨_, p, _, _, _, true, rfl, upd_same, .cons (.ty _) (.cons (.ty _) .nil), sqt_ty (same_sqt s1 hq), kit_seq (by simp), _, rfl, iteF ?_⟩
      refine ⟨_, rfl, a, _, rfl, .inr (same_sqt s1 hq), 1, _, rfl, rfl, _, rfl, ?_⟩
      rw [List.length_map, hl.len]
      rw [show decide ((1 : Int) ≤ ((nss.length : Nat) : Int)) = true from decide_eq_true (by omega)]
      refine iteT ⟨_, 40, rfl, rfl, _, rfl, ?_⟩
      rw [show decide (((nss.length : Nat) : Int) ≤ 40) = true from decide_eq_true (by omega)]
      refine iteF ⟨_, rfl, a, rfl, ⟨_, same_sqt s1 hq⟩, fun D hD => ?_⟩
      have hDH : H D = none := s1.free hD
      refine lc_tup (K := K) (a := a) (xs := xs.map V.ref) (fun i H' => Same H H' ∧ H' D = some (.lst (List.replicate i (.bl true)))) ⟨s1.trans (same_new hD), upd_same⟩ (fun i H' _ h => same_sqt h.1 hq) ?_ ?_
      · rintro i x H2 hx ⟨s2, hD2⟩
        rw [List.getElem?_map] at hx
        obtain ⟨r, hr', rfl⟩ : ∃ r, xs[i]? = some r ∧ x = V.ref r := by
          cases e : xs[i]? with
          | none => rw [e] at hx; cases hx
          | some r => rw [e] at hx; exact ⟨r, rfl, (Option.some.inj hx).symm⟩
        have hi : i < xs.length := (List.getElem?_eq_some_iff.mp hr').1
        obtain ⟨ns, en, hs⟩ := hl.at hr'
        obtain ⟨nd, inn⟩ := ok ns (List.mem_of_getElem? en)
        have few : ns.length ≤ 40 := cells_few nd fun k hk => by
          have := inn k hk
          exact ⟨by omega, by omega⟩
        refine ⟨rfl, yesT ?_⟩
        refine ⟨_, rfl, _, rfl, a, _, rfl, .inr (same_sqt s2 hq), ?_⟩
        rw [List.length_map, hl.len]
        refine ⟨r, ((nss.length : Nat) : Int), ns, rfl, hs.same s2, by omega, inn, nd, fun H3 s3 => ⟨_, s3 _ _ hD2, ?_, ?_, ?_⟩⟩
        · rw [List.length_replicate]
          have := hl.len
          exact small1000 (by omega)
        · intro z o e
          rw [upd_ne (ne_of_none e hDH)]
          exact s3 _ _ (s2 z o e)
        · rw [upd_same, List.replicate_succ']
      · rintro H2 ⟨s2, hD2⟩
        refine ⟨D, List.replicate xs.length true, rfl, SqL.of (by rw [hD2, List.length_map, List.map_replicate]), ?_⟩
        rw [List.all_replicate]
        have e : (if xs.length = 0 then true else id true) = true := by split <;> rfl
        first
          | (rw [e]; exact out _ s2)
          | (simp only [id]; simpa using out _ s2)
end
theorem mV_atI {ms : List Nat} {k : Int} (h0 : 0 ≤ k) (h1 : k < ((ms.length : Nat) : Int)) : atI (mV ms) k = some (.int ((ms.getD k.toNat 0 : Nat) : Int)) := by
  have z : atI (mV ms) ((k.toNat : Nat) : Int) = some (.int ((ms.getD k.toNat 0 : Nat) : Int)) := atI_nat (mV_at (by omega))
  rwa [Int.toNat_of_nonneg h0] at z
end K33
namespace K33
open PySem PySem.Spec PyProof.Rows L2 Par Msk
theorem fldM {v : V} : ([("masks", v)] : List (Str × V)).lookup ("masks" : Str) = some v := by
  simp [List.lookup]
theorem no_fldM {m : Str} {v : V} (h : (m == ("masks" : Str)) = false) : ([("masks", v)] : List (Str × V)).lookup m = none := by
  simp [List.lookup, h]
/-- a table at b, with these rows -/
def Tb (C : Addr) (H : Hp) (b : Addr) (ms : List Nat) : Prop := ∃ dx t, H b = some (.ins C dx [("masks", .ref t)]) ∧ H t = some (.tup (mV ms))
theorem Tb.same {C : Addr} {H H' : Hp} {b : Addr} {ms : List Nat} (s : Same H H') (h : Tb C H b ms) : Tb C H' b ms := by
  obtain ⟨dx, t, h1, h2⟩ := h
  exact ⟨dx, t, s _ _ h1, s _ _ h2⟩
theorem Tb.but {C p : Addr} {H H' : Hp} {b : Addr} {ms : List Nat} (hp : PotAt H p) (s : But p H H') (h : Tb C H b ms) : Tb C H' b ms := by
  obtain ⟨dx, t, h1, h2⟩ := h
  obtain ⟨x, y, e, _⟩ := hp
  have n1 : b ≠ p := fun z => by rw [z, e] at h1; cases h1
  have n2 : t ≠ p := fun z => by rw [z, e] at h2; cases h2
  exact ⟨dx, t, s _ _ n1 h1, s _ _ n2 h2⟩
structure TC (K : PySem.W.Frag) (mg : Str → Option Value) (C : Addr) : Prop where
  cl : Cls K C
  nM : NoAttr K C "masks"
  mgC : mg "Table" = some (.ref C)
section
variable {P : Program} {w : World} {K : PySem.W.Frag} {mg : Str → Option Value} {base : Heap}
/-- Table.__init__ of rows that make a table -/
def spTInit (K : PySem.W.Frag) (C : Addr) : Sp := fun vs H Q _ => ∃ (b dx a : Addr) (xs : List Addr) (nss : List (List Int)), vs = [.ref b, .ref a] ∧ H b = some (.ins C dx []) ∧ Sq K H a (xs.map V.ref) ∧ RowsAt K H xs nss ∧ OkRows nss ∧ GoodT (nss.map maskI) ∧
  ∀ H', But b H H' → Tb C H' b (nss.map maskI) → Q .non H'
abbrev nTInit : List Str := ["self", "rows", "row"]
theorem scTInit : FnScope nTInit ["self", "rows"] (defScope hInit) := ⟨rfl, rfl, rfl, by decide +kernel, rfl, by decide +kernel, by decide +kernel⟩
theorem ok_tinit {f C : Addr} {fd : FuncData} (F : Fun K "__init__" "Table.__init__" hInit f fd) (B : Bl mg) (T : TC K mg C) (DR : Has P w K mg base "are_rows" 5 ["things"] (spRows K)) (DM : Has P w K mg base "mask_of" 2 ["cells"] (spMaskOf K)) (DN : Has P w K mg base "rank_of" 4 ["masks"] (spRank K)) :
    FnOk P w K mg base CX0 6 f fd ["self", "rows"] (spTInit K C) := by
  obtain ⟨fR, fdR, GR, mR, kR, bR⟩ := DR
  obtain ⟨fM, fdM, GM, mM, kM, bM⟩ := DM
  obtain ⟨fN, fdN, GN, mN, kN, bN⟩ := DN
  refine F.ok scTInit (fun vs H Q E h => ?_) (fun cdv A outer s H vs Q E hr h => ?_)
  · obtain ⟨b, dx, a, xs, nss, rfl, _⟩ := h
    rfl
  · obtain ⟨b, dx, a, xs, nss, rfl, hb, hq, hl, ok, gt, out⟩ := h
    have r2 : Room 2 (A.deeper (envOfC "Table.__init__" (defScope hInit) s.heap.objs.size f cdv)) := hr.mono (by decide)
    have r4 : Room 4 (A.deeper (envOfC "Table.__init__" (defScope hInit) s.heap.objs.size f cdv)) := hr.mono (by decide)
    have r5 : Room 5 (A.deeper (envOfC "Table.__init__" (defScope hInit) s.heap.objs.size f cdv)) := hr.mono (by decide)
    have l1 : 1 ≤ nss.length := by
      have := gt.l1
      rwa [List.length_map] at this
    have l40 : nss.length ≤ 40 := by
      have := gt.l40
      rwa [List.length_map] at this
    have a0 : atI (mV (nss.map maskI)) 0 = some (.int 1) := by
      have z := mV_atI (ms := nss.map maskI) (k := 0) (by decide) (by rw [List.length_map]; omega)
      have e : (nss.map maskI).getD (0 : Int).toNat 0 = 1 := gt.first
      rw [e] at z
      exact z
    rcases hq with hq | hq
    · refine ⟨_, pss_cons (ps_if (pt_not (pt_val (pe_call GR r5 (by rfl) mR kR bR .nil pass0 (pa_cons (pv 1) pa_nil)))) (pss_one ps_off) pss_nil)
        (pss_cons (ps_fld (pv 0) (pe_callTy call_tuple_of (by rfl) B.tuple (by decide +kernel) (pa_cons (pe_lc (own := [("row", 2)]) (g := gName 2) (te := tCall (spMaskOf K) [] E0 (tCons (tVar 2) tNil)) rfl scTInit.nd (pi_list (pv 1)) (blkOk_by (own := [("row", 2)]) (N := nTInit) (sc := defScope hInit) (by decide +kernel))
          (fun _ _ _ _ _ => pg_name (i := 2) scTInit.nd rfl (Or.inl rfl)) (fun _ _ _ _ _ => pts_nil) (fun _ _ _ _ _ => by exact (pe_call GM r2 (by rfl) mM kM bM .nil pass0 (pa_cons (pv 2) pa_nil)))) pa_nil)) rfl)
        (pss_cons (ps_if (pt_cmpR op_ne (pe_ix ix_tup (pe_fld (pv 0) rfl) pe_int (fun _ _ => rfl)) pe_int (nomark _)) (pss_one ps_off) pss_nil)
        (pss_one (ps_if (pt_cmpR op_ne (pe_call GN r4 (by rfl) mN kN bN .nil pass0 (pa_cons (pe_fld (pv 0) rfl) pa_nil)) (pe_callB call_len_seq (by rfl) B.len PySem.boot_len (pa_cons (pe_fld (pv 0) rfl) pa_nil)) (nomark _)) (pss_one ps_off) pss_nil)))), ?_⟩
      refine ⟨_, rfl, a, xs, nss, rfl, .inl hq, hl, l1, l40, ok, fun H1 s1 => ⟨_, rfl, iteF ?_⟩⟩
      refine ⟨_, rfl, a, rfl, ⟨_, same_sq s1 hq⟩, fun D hD => ?_⟩
      have hDH : H D = none := s1.free hD
      refine lc_list (K := K) (a := a) (xs := xs.map V.ref) (fun i H' => Same H H' ∧ H' D = some (.lst (mV ((nss.take i).map maskI)))) ⟨s1.trans (same_new hD), upd_same⟩ (fun i H' _ h => same_sq h.1 hq) ?_ ?_
      · rintro i x H2 hx ⟨s2, hD2⟩
        rw [List.getElem?_map] at hx
        obtain ⟨r, hr', rfl⟩ : ∃ r, xs[i]? = some r ∧ x = V.ref r := by
          cases e : xs[i]? with
          | none => rw [e] at hx; cases hx
          | some r => rw [e] at hx; exact ⟨r, rfl, (Option.some.inj hx).symm⟩
        obtain ⟨ns, en, hs⟩ := hl.at hr'
        obtain ⟨nd, inn⟩ := ok ns (List.mem_of_getElem? en)
        have inn2 : ∀ k ∈ ns, 0 ≤ k ∧ k < 40 := fun k hk => by
          have := inn k hk
          omega
        have few : ns.length ≤ 40 := cells_few nd fun k hk => ⟨(inn2 k hk).1, by have := (inn2 k hk).2; omega⟩
        refine ⟨rfl, yesT ?_⟩
        refine ⟨_, rfl, r, ns, rfl, hs.same s2, nd, few, inn2, fun H3 s3 => ⟨_, s3 _ _ hD2, ?_, ?_, ?_⟩⟩
        · rw [mV_len, List.length_map, List.length_take]
          exact small1000 (by omega)
        · intro z o e
          rw [upd_ne (ne_of_none e hDH)]
          exact s3 _ _ (s2 z o e)
        · rw [upd_same, List.take_succ, en, List.map_append]
          unfold mV
          rw [List.map_append]
          rfl
      · rintro H2 ⟨s2, hD2⟩
        rw [List.length_map, hl.len, List.take_length] at hD2
        refine ⟨D, _, rfl, .inl ⟨SqL.of hD2, fun t ht => ?_⟩⟩
        have s123 : Same H _ := s2.trans (same_new (o := .tup (mV (nss.map maskI))) ht)
        have nb : t ≠ b := fun z => by
          have := s2 _ _ hb
          rw [← z, ht] at this
          cases this
        refine ⟨_, rfl, b, C, dx, [], rfl, s123 _ _ hb, T.cl, T.nM, (by show 0 < 1000; decide), ?_⟩
        have bt : But b H (upd (upd H2 t (.tup (mV (nss.map maskI)))) b (.ins C dx [("masks", .ref t)])) := fun x o nx e => by
          rw [upd_ne nx]
          exact s123 _ _ e
        have eb : upd (upd H2 t (.tup (mV (nss.map maskI)))) b (.ins C dx [("masks", .ref t)]) b = some (.ins C dx [("masks", .ref t)]) := upd_same
        have et : upd (upd H2 t (.tup (mV (nss.map maskI)))) b (.ins C dx [("masks", .ref t)]) t = some (.tup (mV (nss.map maskI))) := by rw [upd_ne nb, upd_same]
        rw [show putF "masks" (V.ref t) [] = ([("masks", V.ref t)] : List (Str × V)) from rfl]
        generalize upd (upd H2 t (.tup (mV (nss.map maskI)))) b (.ins C dx [("masks", .ref t)]) = G at bt eb et ⊢
        refine ⟨_, rfl, b, C, dx, _, _, rfl, eb, T.cl, T.nM, fldM, t, _, 0, .int 1, rfl, rfl, SqT.of et, a0, rfl, _, rfl, iteNS rfl ?_⟩
        refine ⟨_, rfl, b, C, dx, _, _, rfl, eb, T.cl, T.nM, fldM, t, _, rfl, SqT.of et, by rw [List.length_map]; exact l40, gt.ind, fun H4 s4 => ?_⟩
        refine ⟨_, rfl, b, C, dx, _, _, rfl, s4 _ _ eb, T.cl, T.nM, fldM, t, _, rfl, .inr (SqT.of (s4 _ _ et)), ?_⟩
        rw [mV_len]
        refine ⟨rfl, _, rfl, iteNS rfl ?_⟩
        exact out H4 (bt.trans (But.same s4)) ⟨dx, t, s4 _ _ eb, s4 _ _ et⟩
    · refine ⟨_, pss_cons (ps_if (pt_not (pt_val (pe_call GR r5 (by rfl) mR kR bR .nil pass0 (pa_cons (pv 1) pa_nil)))) (pss_one ps_off) pss_nil)
        (pss_cons (ps_fld (pv 0) (pe_callTy call_tuple_of (by rfl) B.tuple (by decide +kernel) (pa_cons (pe_lc (own := [("row", 2)]) (g := gName 2) (te := tCall (spMaskOf K) [] E0 (tCons (tVar 2) tNil)) rfl scTInit.nd (pi_tup (pv 1)) (blkOk_by (own := [("row", 2)]) (N := nTInit) (sc := defScope hInit) (by decide +kernel))
          (fun _ _ _ _ _ => pg_name (i := 2) scTInit.nd rfl (Or.inl rfl)) (fun _ _ _ _ _ => pts_nil) (fun _ _ _ _ _ => by exact (pe_call GM r2 (by rfl) mM kM bM .nil pass0 (pa_cons (pv 2) pa_nil)))) pa_nil)) rfl)
        (pss_cons (ps_if (pt_cmpR op_ne (pe_ix ix_tup (pe_fld (pv 0) rfl) pe_int (fun _ _ => rfl)) pe_int (nomark _)) (pss_one ps_off) pss_nil)
        (pss_one (ps_if (pt_cmpR op_ne (pe_call GN r4 (by rfl) mN kN bN .nil pass0 (pa_cons (pe_fld (pv 0) rfl) pa_nil)) (pe_callB call_len_seq (by rfl) B.len PySem.boot_len (pa_cons (pe_fld (pv 0) rfl) pa_nil)) (nomark _)) (pss_one ps_off) pss_nil)))), ?_⟩
      refine ⟨_, rfl, a, xs, nss, rfl, .inr hq, hl, l1, l40, ok, fun H1 s1 => ⟨_, rfl, iteF ?_⟩⟩
      refine ⟨_, rfl, a, rfl, ⟨_, same_sqt s1 hq⟩, fun D hD => ?_⟩
      have hDH : H D = none := s1.free hD
      refine lc_tup (K := K) (a := a) (xs := xs.map V.ref) (fun i H' => Same H H' ∧ H' D = some (.lst (mV ((nss.take i).map maskI)))) ⟨s1.trans (same_new hD), upd_same⟩ (fun i H' _ h => same_sqt h.1 hq) ?_ ?_
      · rintro i x H2 hx ⟨s2, hD2⟩
        rw [List.getElem?_map] at hx
        obtain ⟨r, hr', rfl⟩ : ∃ r, xs[i]? = some r ∧ x = V.ref r := by
          cases e : xs[i]? with
          | none => rw [e] at hx; cases hx
          | some r => rw [e] at hx; exact ⟨r, rfl, (Option.some.inj hx).symm⟩
        obtain ⟨ns, en, hs⟩ := hl.at hr'
        obtain ⟨nd, inn⟩ := ok ns (List.mem_of_getElem? en)
        have inn2 : ∀ k ∈ ns, 0 ≤ k ∧ k < 40 := fun k hk => by
          have := inn k hk
          omega
        have few : ns.length ≤ 40 := cells_few nd fun k hk => ⟨(inn2 k hk).1, by have := (inn2 k hk).2; omega⟩
        refine ⟨rfl, yesT ?_⟩
        refine ⟨_, rfl, r, ns, rfl, hs.same s2, nd, few, inn2, fun H3 s3 => ⟨_, s3 _ _ hD2, ?_, ?_, ?_⟩⟩
        · rw [mV_len, List.length_map, List.length_take]
          exact small1000 (by omega)
        · intro z o e
          rw [upd_ne (ne_of_none e hDH)]
          exact s3 _ _ (s2 z o e)
        · rw [upd_same, List.take_succ, en, List.map_append]
          unfold mV
          rw [List.map_append]
          rfl
      · rintro H2 ⟨s2, hD2⟩
        rw [List.length_map, hl.len, List.take_length] at hD2
        refine ⟨D, _, rfl, .inl ⟨SqL.of hD2, fun t ht => ?_⟩⟩
        have s123 : Same H _ := s2.trans (same_new (o := .tup (mV (nss.map maskI))) ht)
        have nb : t ≠ b := fun z => by
          have := s2 _ _ hb
          rw [← z, ht] at this
          cases this
        refine ⟨_, rfl, b, C, dx, [], rfl, s123 _ _ hb, T.cl, T.nM, (by show 0 < 1000; decide), ?_⟩
        have bt : But b H (upd (upd H2 t (.tup (mV (nss.map maskI)))) b (.ins C dx [("masks", .ref t)])) := fun x o nx e => by
          rw [upd_ne nx]
          exact s123 _ _ e
        have eb : upd (upd H2 t (.tup (mV (nss.map maskI)))) b (.ins C dx [("masks", .ref t)]) b = some (.ins C dx [("masks", .ref t)]) := upd_same
        have et : upd (upd H2 t (.tup (mV (nss.map maskI)))) b (.ins C dx [("masks", .ref t)]) t = some (.tup (mV (nss.map maskI))) := by rw [upd_ne nb, upd_same]
        rw [show putF "masks" (V.ref t) [] = ([("masks", V.ref t)] : List (Str × V)) from rfl]
        generalize upd (upd H2 t (.tup (mV (nss.map maskI)))) b (.ins C dx [("masks", .ref t)]) = G at bt eb et ⊢
        refine ⟨_, rfl, b, C, dx, _, _, rfl, eb, T.cl, T.nM, fldM, t, _, 0, .int 1, rfl, rfl, SqT.of et, a0, rfl, _, rfl, iteNS rfl ?_⟩
        refine ⟨_, rfl, b, C, dx, _, _, rfl, eb, T.cl, T.nM, fldM, t, _, rfl, SqT.of et, by rw [List.length_map]; exact l40, gt.ind, fun H4 s4 => ?_⟩
        refine ⟨_, rfl, b, C, dx, _, _, rfl, s4 _ _ eb, T.cl, T.nM, fldM, t, _, rfl, .inr (SqT.of (s4 _ _ et)), ?_⟩
        rw [mV_len]
        refine ⟨rfl, _, rfl, iteNS rfl ?_⟩
        exact out H4 (bt.trans (But.same s4)) ⟨dx, t, s4 _ _ eb, s4 _ _ et⟩
/-- Table as a class whose __init__ keeps its promise -/
def HasTI (P : Program) (w : World) (K : PySem.W.Frag) (mg : Str → Option Value) (base : Heap) (C : Addr) : Prop :=
  ∃ f fd, FnOk P w K mg base CX0 6 f fd ["self", "rows"] (spTInit K C) ∧ Mk K C f ∧ Binds K fd ["self", "rows"] []
/-- what Table(..) leads to -/
theorem made_table {C : Addr} {H : Hp} {a : Addr} {xs : List Addr} {nss : List (List Int)} {W : Addr → Hp → Prop} (hq : Sq K H a (xs.map V.ref)) (hl : RowsAt K H xs nss) (ok : OkRows nss) (gt : GoodT (nss.map maskI))
    (out : ∀ x H', H x = none → Same H H' → Tb C H' x (nss.map maskI) → W x H') :
    ∀ x dx, H x = none → H dx = none → dx ≠ x → spTInit K C [.ref x, .ref a] (upd (upd H dx (.own x)) x (.ins C dx [])) (fun v H3 => v = .non ∧ W x H3) (fun _ _ _ => False) := by
  intro x dx hx hdx ne
  have s1 : Same H (upd (upd H dx (.own x)) x (.ins C dx [])) := fun z o e => by
    rw [upd_ne (ne_of_none e hx), upd_ne (ne_of_none e hdx)]
    exact e
  refine ⟨x, dx, a, xs, nss, rfl, upd_same, hq.same s1, hl.same s1, ok, gt, fun H' bt h1 => ⟨rfl, ?_⟩⟩
  exact out x H' hx (fun z o e => bt z o (ne_of_none e hx) (s1 z o e)) h1
/-- new tuples of cells -/
def TupsAt (H : Hp) : List Addr → List (List Int) → Prop
  | [], [] => True
  | x :: xs, ns :: nss => H x = some (.tup (ns.map V.int)) ∧ TupsAt H xs nss
  | _, _ => False
theorem TupsAt.mono {H H' : Hp} (s : ∀ x us, H x = some (.tup us) → H' x = some (.tup us)) : ∀ {xs : List Addr} {nss : List (List Int)}, TupsAt H xs nss → TupsAt H' xs nss
  | [], [], _ => True.intro
  | _ :: _, _ :: _, h => ⟨s _ _ h.1, h.2.mono s⟩
  | [], _ :: _, h => h.elim
  | _ :: _, [], h => h.elim
theorem TupsAt.rows {H : Hp} : ∀ {xs : List Addr} {nss : List (List Int)}, TupsAt H xs nss → RowsAt K H xs nss
  | [], [], _ => True.intro
  | _ :: _, _ :: _, h => ⟨.inr (SqT.of h.1), h.2.rows⟩
  | [], _ :: _, h => h.elim
  | _ :: _, [], h => h.elim
theorem TupsAt.snoc {H : Hp} {x : Addr} {ns : List Int} (hx : H x = some (.tup (ns.map V.int))) : ∀ {xs : List Addr} {nss : List (List Int)}, TupsAt H xs nss → TupsAt H (xs ++ [x]) (nss ++ [ns])
  | [], [], _ => ⟨hx, True.intro⟩
  | _ :: _, _ :: _, h => ⟨h.1, h.2.snoc hx⟩
  | [], _ :: _, h => h.elim
  | _ :: _, [], h => h.elim
theorem TupsAt.len {H : Hp} : ∀ {xs : List Addr} {nss : List (List Int)}, TupsAt H xs nss → xs.length = nss.length
  | [], [], _ => rfl
  | _ :: _, _ :: _, h => by rw [List.length_cons, List.length_cons, h.2.len]
  | [], _ :: _, h => h.elim
  | _ :: _, [], h => h.elim
theorem rows_back (ms : List Nat) : (ms.map cellsI).map maskI = ms := by
  rw [List.map_map]
  have : ∀ m ∈ ms, (maskI ∘ cellsI) m = m := fun m _ => mask_cells (cellsI_nodup m) fun k => Iff.rfl
  rw [List.map_congr_left this]
  simp
theorem rows_ok {ms : List Nat} (gt : GoodT ms) : OkRows (ms.map cellsI) := fun ns hn => by
  obtain ⟨m, hm, rfl⟩ := List.mem_map.mp hn
  rw [List.length_map]
  exact ⟨cellsI_nodup m, cellsI_in (gt.lt m hm)⟩
end
end K33
namespace Msk
/-! ### tables one behind the other, inverses, powers -/
/-- numbers below n, all unlike, as many as n: each is among them -/
theorem erase_few : ∀ (n : Nat) (l : List Nat), l.Nodup → (∀ x ∈ l, x < n) → l.length ≤ n
  | 0, [], _, _ => Nat.le_refl 0
  | 0, x :: _, _, h => absurd (h x (List.mem_cons_self ..)) (Nat.not_lt_zero _)
  | n + 1, l, nd, h => by
    have z := erase_few n (l.erase n) (nd.erase n) fun x hx => by
      obtain ⟨ne, hx⟩ := (List.Nodup.mem_erase_iff nd).mp hx
      have := h x hx
      omega
    have := List.length_erase (a := n) (l := l)
    split at this <;> omega
theorem full {n : Nat} {l : List Nat} (nd : l.Nodup) (len : l.length = n) (h : ∀ x ∈ l, 1 ≤ x ∧ x ≤ n) {b : Nat} (h1 : 1 ≤ b) (h2 : b ≤ n) : b ∈ l := by
  cases e : decide (b ∈ l) with
  | true => exact of_decide_eq_true e
  | false =>
    exfalso
    have nb : b ∉ l := of_decide_eq_false e
    have nd2 : (0 :: b :: l).Nodup := by
      refine List.nodup_cons.mpr ⟨fun z => ?_, List.nodup_cons.mpr ⟨nb, nd⟩⟩
      rcases List.mem_cons.mp z with z | z
      · omega
      · have := h 0 z
        omega
    have := erase_few (n + 1) _ nd2 fun x hx => by
      rcases List.mem_cons.mp hx with z | hx
      · omega
      · rcases List.mem_cons.mp hx with z | z
        · omega
        · have := h x z
          omega
    rw [List.length_cons, List.length_cons] at this
    omega
/-- A first, then B -/
def comp (A B : List Nat) : List Nat := B.map (comb A)
theorem comp_len (A B : List Nat) : (comp A B).length = B.length := by simp [comp]
theorem comp_at {A B : List Nat} (i : Nat) : (comp A B).getD i 0 = comb A (B.getD i 0) := by
  unfold comp
  rw [List.getD_eq_getElem?_getD, List.getElem?_map, List.getD_eq_getElem?_getD]
  cases B[i]? with
  | none => exact (comb_zero A).symm
  | some _ => rfl
theorem comb_if (A : List Nat) (c : Bool) (m : Nat) : comb A (if c then m else 0) = if c then comb A m else 0 := by
  cases c
  · exact comb_zero A
  · rfl
theorem comb_comp (A : List Nat) : ∀ (B : List Nat) (s : Nat), comb (comp A B) s = comb A (comb B s)
  | [], s => (comb_zero A).symm
  | m :: B, s => by
    show (if s.testBit 0 then comb A m else 0) ^^^ comb (comp A B) (s >>> 1) = comb A ((if s.testBit 0 then m else 0) ^^^ comb B (s >>> 1))
    rw [comb_xor, comb_if, comb_comp A B]
theorem comp_assoc (A B C : List Nat) : comp (comp A B) C = comp A (comp B C) := by
  unfold comp
  rw [List.map_map]
  exact List.map_congr_left fun m _ => comb_comp A B m
theorem comp_lt {A B : List Nat} {n : Nat} (h : ∀ m ∈ A, m < 2 ^ n) : ∀ m ∈ comp A B, m < 2 ^ n := fun m hm => by
  obtain ⟨x, _, rfl⟩ := List.mem_map.mp hm
  exact comb_lt A x h
theorem comp_one (A : List Nat) {n : Nat} (h : A.length = n) : comp A (oneM n) = A := by
  refine List.ext_getElem (by rw [comp_len, oneM_len, h]) fun i h1 h2 => ?_
  have e : ∀ (S : List Nat) (hS : i < S.length), S[i] = S.getD i 0 := fun S hS => by
    rw [List.getD_eq_getElem?_getD, List.getElem?_eq_getElem hS]
    rfl
  rw [e _ h1, e _ h2, comp_at, oneM_at (by omega), comb_one]
/-- bits told one by one -/
theorem comb_bit : ∀ (ms : List Nat) (s i : Nat), (∀ k, (hk : k < ms.length) → ms[k] = 2 ^ (k + i)) → s < 2 ^ ms.length → comb ms s = s * 2 ^ i
  | [], s, i, _, hs => by
    have : s = 0 := by simpa using hs
    rw [this, Nat.zero_mul]
    rfl
  | m :: ms, s, i, h, hs => by
    have h0 : m = 2 ^ i := by
      have := h 0 (by simp)
      simpa using this
    have ih := comb_bit ms (s >>> 1) (i + 1) (fun k hk => by
      have := h (k + 1) (by simpa using hk)
      rw [List.getElem_cons_succ] at this
      rw [this]
      congr 1
      omega) (by
      rw [Nat.shiftRight_eq_div_pow, List.length_cons, Nat.pow_succ] at *
      omega)
    show (if s.testBit 0 then m else 0) ^^^ comb ms (s >>> 1) = s * 2 ^ i
    rw [ih, h0, Nat.shiftRight_eq_div_pow, Nat.pow_one]
    have b : s.testBit 0 = decide (s % 2 = 1) := by rw [Nat.testBit_zero]
    have even : (s / 2 * 2 ^ (i + 1)).testBit i = false := by
      rw [Nat.pow_succ, show s / 2 * (2 ^ i * 2) = 2 ^ i * (s / 2 * 2) by rw [Nat.mul_comm (2 ^ i) 2, ← Nat.mul_assoc, Nat.mul_comm], Nat.testBit_two_pow_mul]
      simp
    rcases Nat.mod_two_eq_zero_or_one s with z | z
    · rw [b, z]
      simp only [show decide ((0 : Nat) = 1) = false from rfl, Bool.false_eq_true, if_false, Nat.zero_xor]
      rw [Nat.pow_succ, Nat.mul_comm (2 ^ i) 2, ← Nat.mul_assoc]
      congr 1
      omega
    · rw [b, z, decide_eq_true rfl, if_pos rfl, ← add_pow i _ even, Nat.pow_succ, Nat.mul_comm (2 ^ i) 2, ← Nat.mul_assoc]
      have e : s = s / 2 * 2 + 1 := by omega
      rw [show s * 2 ^ i = (s / 2 * 2 + 1) * 2 ^ i by rw [← e], Nat.add_mul]
      omega
theorem comb_oneM {n s : Nat} (h : s < 2 ^ n) : comb (oneM n) s = s := by
  have := comb_bit (oneM n) s 0 (fun k hk => by
    rw [oneM_len] at hk
    have e := oneM_at hk
    rw [List.getD_eq_getElem?_getD, List.getElem?_eq_getElem (by rw [oneM_len]; exact hk)] at e
    exact e) (by rw [oneM_len]; exact h)
  rwa [Nat.pow_zero, Nat.mul_one] at this
theorem one_comp {A : List Nat} {n : Nat} (h : ∀ m ∈ A, m < 2 ^ n) : comp (oneM n) A = A := by
  unfold comp
  rw [List.map_congr_left fun m hm => comb_oneM (h m hm)]
  simp
/-- as many times A -/
def pw (A : List Nat) (n : Nat) : Nat → List Nat
  | 0 => oneM n
  | k + 1 => comp A (pw A n k)
/-- what is a table of size n, for this -/
structure Sz (n : Nat) (A : List Nat) : Prop where
  len : A.length = n
  lt : ∀ m ∈ A, m < 2 ^ n
theorem Sz.one (n : Nat) : Sz n (oneM n) := ⟨oneM_len n, oneM_lt⟩
theorem Sz.comp {n : Nat} {A B : List Nat} (a : Sz n A) (b : Sz n B) : Sz n (comp A B) := ⟨(comp_len A B).trans b.len, comp_lt a.lt⟩
theorem Sz.pw {n : Nat} {A : List Nat} (a : Sz n A) : ∀ k, Sz n (pw A n k)
  | 0 => Sz.one n
  | k + 1 => a.comp (a.pw k)
theorem pw_add {n : Nat} {A : List Nat} (a : Sz n A) (j : Nat) : ∀ i, comp (pw A n i) (pw A n j) = pw A n (i + j)
  | 0 => by
    rw [Nat.zero_add]
    exact one_comp (a.pw j).lt
  | i + 1 => by
    show Msk.comp (Msk.comp A (Msk.pw A n i)) (Msk.pw A n j) = _
    rw [comp_assoc, pw_add a j i, Nat.add_right_comm]
    rfl
theorem pw_one {n : Nat} {A : List Nat} (a : Sz n A) : pw A n 1 = A := comp_one A a.len
theorem pw_back {n : Nat} {A : List Nat} (a : Sz n A) (k : Nat) : comp (pw A n k) A = pw A n (k + 1) := by
  have := pw_add a 1 k
  rwa [pw_one a] at this
theorem pw_square {n : Nat} {A : List Nat} (a : Sz n A) : ∀ k, pw (comp A A) n k = pw A n (2 * k)
  | 0 => rfl
  | k + 1 => by
    show Msk.comp (Msk.comp A A) (Msk.pw (Msk.comp A A) n k) = _
    rw [pw_square a k, comp_assoc, show 2 * (k + 1) = 2 * k + 1 + 1 by omega]
    rfl
/-- one turn of the loop over binary digits -/
theorem pw_step {n l : Nat} {p s : List Nat} (hp : Sz n p) (hs : Sz n s) : comp (if l % 2 = 1 then comp p s else p) (pw (comp s s) n (l / 2)) = comp p (pw s n l) := by
  rw [pw_square hs]
  by_cases z : l % 2 = 1
  · rw [if_pos z, comp_assoc]
    congr 1
    show Msk.pw s n (2 * (l / 2) + 1) = _
    congr 1
    omega
  · rw [if_neg z]
    congr 2
    omega
/-! ### inverses -/
structure Inv2 (n : Nat) (A G : List Nat) : Prop where
  a : Sz n A
  g : Sz n G
  ag : comp A G = oneM n
  ga : comp G A = oneM n
theorem Inv2.symm {n : Nat} {A G : List Nat} (h : Inv2 n A G) : Inv2 n G A := ⟨h.g, h.a, h.ga, h.ag⟩
theorem Inv2.only {n : Nat} {A G G' : List Nat} (h : Inv2 n A G) (g : Sz n G') (e : comp A G' = oneM n) : G' = G := by
  have z : comp G (comp A G') = comp G (oneM n) := by rw [e]
  rw [← comp_assoc, h.ga, one_comp g.lt, comp_one _ h.g.len] at z
  exact z
theorem Inv2.comp {n : Nat} {A G B H : List Nat} (h : Inv2 n A G) (k : Inv2 n B H) : Inv2 n (comp A B) (comp H G) := by
  refine ⟨h.a.comp k.a, k.g.comp h.g, ?_, ?_⟩
  · rw [comp_assoc, ← comp_assoc B, k.ag, one_comp h.g.lt, h.ag]
  · rw [comp_assoc, ← comp_assoc G, h.ga, one_comp k.a.lt, k.ga]
theorem Inv2.one (n : Nat) : Inv2 n (oneM n) (oneM n) := ⟨Sz.one n, Sz.one n, comp_one _ (oneM_len n), comp_one _ (oneM_len n)⟩
theorem Inv2.pw {n : Nat} {A G : List Nat} (h : Inv2 n A G) : ∀ k, Inv2 n (pw A n k) (pw G n k)
  | 0 => Inv2.one n
  | k + 1 => by
    have := h.comp (h.pw k)
    rw [pw_back h.g] at this
    exact this
theorem Inv2.ind {n : Nat} {A G : List Nat} (h : Inv2 n A G) : Indep A := fun s hs e => by
  rw [h.a.len] at hs
  have z : comb (Msk.comp G A) s = s := by
    rw [h.ga]
    exact comb_oneM hs
  rw [comb_comp, e, comb_zero] at z
  exact z.symm
/-- rows that a table takes to the single cells are its inverse -/
theorem inv_of {n : Nat} {A G : List Nat} (a : Sz n A) (ind : Indep A) (g : Sz n G) (e : ∀ i, i < n → comb A (G.getD i 0) = 2 ^ i) : Inv2 n A G := by
  have ag : comp A G = oneM n := by
    refine List.ext_getElem (by rw [comp_len, oneM_len, g.len]) fun i h1 h2 => ?_
    have hi : i < n := by rw [oneM_len] at h2; exact h2
    have d : ∀ (S : List Nat) (hS : i < S.length), S[i] = S.getD i 0 := fun S hS => by
      rw [List.getD_eq_getElem?_getD, List.getElem?_eq_getElem hS]
      rfl
    rw [d _ h1, d _ h2, comp_at, oneM_at hi, e i hi]
  refine ⟨a, g, ag, ?_⟩
  refine List.ext_getElem (by rw [comp_len, oneM_len, a.len]) fun i h1 h2 => ?_
  have hi : i < n := by rw [oneM_len] at h2; exact h2
  have d : ∀ (S : List Nat) (hS : i < S.length), S[i] = S.getD i 0 := fun S hS => by
    rw [List.getD_eq_getElem?_getD, List.getElem?_eq_getElem hS]
    rfl
  rw [d _ h1, d _ h2, comp_at, oneM_at hi]
  have lt1 : comb G (A.getD i 0) < 2 ^ n := comb_lt G _ g.lt
  have lt2 : 2 ^ i < 2 ^ n := Nat.pow_lt_pow_right (by decide) hi
  have z : comb A (comb G (A.getD i 0) ^^^ 2 ^ i) = 0 := by
    rw [comb_xor, ← comb_comp, ag, comb_oneM (getD_lt a.lt i), comb_one, Nat.xor_self]
  have y := ind _ (by rw [a.len]; exact xor_lt lt1 lt2) z
  by_cases w : comb G (A.getD i 0) = 2 ^ i
  · exact w
  · exact absurd y (xor_ne w)
/-- as many times A, or its inverse -/
def pz (n : Nat) (A G : List Nat) (c : Int) : List Nat := if c < 0 then pw G n c.natAbs else pw A n c.natAbs
theorem Inv2.pz {n : Nat} {A G : List Nat} (h : Inv2 n A G) (c : Int) : Inv2 n (pz n A G c) (pz n A G (-c)) := by
  unfold Msk.pz
  rw [Int.natAbs_neg]
  by_cases z : c < 0
  · rw [if_pos z, if_neg (by omega)]
    exact h.symm.pw _
  · rw [if_neg z]
    by_cases y : -c < 0
    · rw [if_pos y]
      exact h.pw _
    · have : c = 0 := by omega
      subst this
      exact Inv2.one n
theorem pz_succ {n : Nat} {A G : List Nat} (h : Inv2 n A G) (c : Int) : pz n A G (c + 1) = comp A (pz n A G c) := by
  unfold pz
  by_cases z : c < 0
  · rw [if_pos z]
    obtain ⟨k, hk⟩ : ∃ k, c.natAbs = k + 1 := ⟨c.natAbs - 1, by omega⟩
    have e : Msk.comp A (Msk.pw G n c.natAbs) = Msk.pw G n k := by
      rw [hk]
      show Msk.comp A (Msk.comp G (Msk.pw G n k)) = _
      rw [← comp_assoc, h.ag, one_comp (h.g.pw k).lt]
    rw [e]
    by_cases y : c + 1 < 0
    · rw [if_pos y]
      congr 1
      omega
    · have c1 : c = -1 := by omega
      subst c1
      have : k = 0 := by
        have : (-1 : Int).natAbs = 1 := rfl
        omega
      subst this
      rfl
  · rw [if_neg z, if_neg (by omega), show (c + 1).natAbs = c.natAbs + 1 by omega]
    rfl
theorem pz_pred {n : Nat} {A G : List Nat} (h : Inv2 n A G) (c : Int) : pz n A G (c - 1) = comp G (pz n A G c) := by
  have z := pz_succ h (c - 1)
  rw [Int.sub_add_cancel] at z
  rw [z, ← comp_assoc, h.ga, one_comp (h.pz (c - 1)).a.lt]
theorem pz_add {n : Nat} {A G : List Nat} (h : Inv2 n A G) (c d : Int) : comp (pz n A G c) (pz n A G d) = pz n A G (c + d) := by
  have up : ∀ k : Nat, comp (pz n A G k) (pz n A G d) = pz n A G (k + d) := fun k => by
    induction k with
    | zero =>
      rw [show ((0 : Nat) : Int) + d = d by omega]
      exact one_comp (h.pz d).a.lt
    | succ k ih =>
      rw [show (((k + 1 : Nat) : Int)) = (k : Int) + 1 by omega, pz_succ h, comp_assoc, ih, show (k : Int) + 1 + d = (k : Int) + d + 1 by omega, pz_succ h]
  have dn : ∀ k : Nat, comp (pz n A G (-(k : Int))) (pz n A G d) = pz n A G (-(k : Int) + d) := fun k => by
    induction k with
    | zero =>
      rw [show (-((0 : Nat) : Int)) + d = d by omega]
      exact one_comp (h.pz d).a.lt
    | succ k ih =>
      rw [show (-((k + 1 : Nat) : Int)) = -(k : Int) - 1 by omega, pz_pred h, comp_assoc, ih, show -(k : Int) - 1 + d = -(k : Int) + d - 1 by omega, pz_pred h]
  by_cases z : c < 0
  · have := dn c.natAbs
    rwa [show -((c.natAbs : Nat) : Int) = c by omega] at this
  · have := up c.natAbs
    rwa [show ((c.natAbs : Nat) : Int) = c by omega] at this
theorem pz_mul {n : Nat} {A G : List Nat} (h : Inv2 n A G) (c d : Int) : pz n (pz n A G c) (pz n A G (-c)) d = pz n A G (c * d) := by
  have hc := h.pz c
  have up : ∀ k : Nat, pz n (pz n A G c) (pz n A G (-c)) (k : Int) = pz n A G (c * (k : Int)) := fun k => by
    induction k with
    | zero =>
      rw [show c * ((0 : Nat) : Int) = 0 from Int.mul_zero c]
      rfl
    | succ k ih =>
      rw [show (((k + 1 : Nat) : Int)) = (k : Int) + 1 by omega, pz_succ hc, ih, pz_add h, Int.mul_add, Int.mul_one, Int.add_comm]
  have dn : ∀ k : Nat, pz n (pz n A G c) (pz n A G (-c)) (-(k : Int)) = pz n A G (c * -(k : Int)) := fun k => by
    induction k with
    | zero =>
      rw [show c * (-((0 : Nat) : Int)) = 0 from Int.mul_zero c]
      rfl
    | succ k ih =>
      rw [show (-((k + 1 : Nat) : Int)) = -(k : Int) - 1 by omega, pz_pred hc, ih, pz_add h, Int.mul_sub, Int.mul_one, Int.sub_eq_add_neg, Int.add_comm]
  by_cases z : d < 0
  · have := dn d.natAbs
    rwa [show -((d.natAbs : Nat) : Int) = d by omega] at this
  · have := up d.natAbs
    rwa [show ((d.natAbs : Nat) : Int) = d by omega] at this
theorem pz_zero {n : Nat} {A G : List Nat} : pz n A G 0 = oneM n := rfl
theorem pz_one {n : Nat} {A G : List Nat} (h : Inv2 n A G) : pz n A G 1 = A := pw_one h.a
theorem pz_neg {n : Nat} {A G : List Nat} (h : Inv2 n A G) : pz n A G (-1) = G := pw_one h.g
/-- the first row stays single -/
theorem comp_first {A B : List Nat} (a : A.getD 0 0 = 1) (b : B.getD 0 0 = 1) : (comp A B).getD 0 0 = 1 := by
  rw [comp_at, b]
  have := comb_one A 0
  rw [Nat.pow_zero, a] at this
  exact this
theorem inv_first {n : Nat} {A G : List Nat} (h : Inv2 n A G) (n1 : 1 ≤ n) (a : A.getD 0 0 = 1) : G.getD 0 0 = 1 := by
  have e : (comp G A).getD 0 0 = 1 := by
    rw [h.ga, oneM_at n1, Nat.pow_zero]
  rw [comp_at, a] at e
  have := comb_one G 0
  rw [Nat.pow_zero, e] at this
  exact this.symm
theorem ind_comp {n : Nat} {A B : List Nat} (a : Sz n A) (b : Sz n B) (ia : Indep A) (ib : Indep B) : Indep (comp A B) := fun s hs e => by
  rw [comp_len] at hs
  rw [comb_comp] at e
  exact ib s hs (ia _ (by rw [a.len]; exact comb_lt B s b.lt) e)
theorem ind_one (n : Nat) : Indep (oneM n) := fun s hs e => by
  rw [oneM_len] at hs
  rwa [comb_oneM hs] at e
/-- each number below n among as many of them -/
theorem full0 {n : Nat} {l : List Nat} (nd : l.Nodup) (len : l.length = n) (h : ∀ x ∈ l, x < n) {b : Nat} (hb : b < n) : b ∈ l := by
  have z := full (n := n) (l := l.map (· + 1)) (by
    rw [List.Nodup, List.pairwise_map]
    exact nd.imp fun h e => h (by omega)) (by rw [List.length_map, len]) (fun x hx => by
    obtain ⟨y, hy, rfl⟩ := List.mem_map.mp hx
    have := h y hy
    omega) (b := b + 1) (by omega) (by omega)
  obtain ⟨y, hy, e⟩ := List.mem_map.mp z
  have : y = b := by omega
  exact this ▸ hy
theorem exists_inv {n : Nat} {A : List Nat} (a : Sz n A) (ind : Indep A) : ∃ G, Inv2 n A G := by
  have hit : ∀ b, b < 2 ^ n → ∃ s, s < 2 ^ n ∧ comb A s = b := fun b hb => by
    have z := full0 (n := 2 ^ n) (l := (List.range (2 ^ n)).map (comb A)) (by
      rw [List.Nodup, List.pairwise_map]
      refine List.Pairwise.imp_of_mem ?_ (List.nodup_range (n := 2 ^ n))
      intro x y hx hy ne e
      have hx := List.mem_range.mp hx
      have hy := List.mem_range.mp hy
      have w := ind (x ^^^ y) (by rw [a.len]; exact xor_lt hx hy) (by rw [comb_xor, e, Nat.xor_self])
      exact xor_ne ne w) (by rw [List.length_map, List.length_range]) (fun x hx => by
      obtain ⟨s, _, rfl⟩ := List.mem_map.mp hx
      exact comb_lt A s a.lt) hb
    obtain ⟨s, hs, e⟩ := List.mem_map.mp z
    exact ⟨s, List.mem_range.mp hs, e⟩
  have pick : ∀ k, k ≤ n → ∃ G : List Nat, G.length = k ∧ (∀ m ∈ G, m < 2 ^ n) ∧ ∀ i, i < k → comb A (G.getD i 0) = 2 ^ i := fun k => by
    induction k with
    | zero => exact fun _ => ⟨[], rfl, (fun m hm => nomatch hm), fun i hi => absurd hi (Nat.not_lt_zero i)⟩
    | succ k ih =>
      intro hk
      obtain ⟨G, g1, g2, g3⟩ := ih (by omega)
      obtain ⟨s, s1, s2⟩ := hit (2 ^ k) (Nat.pow_lt_pow_right (by decide) (by omega))
      refine ⟨G ++ [s], by rw [List.length_append, g1]; rfl, fun m hm => ?_, fun i hi => ?_⟩
      · rcases List.mem_append.mp hm with z | z
        · exact g2 m z
        · rw [List.mem_singleton.mp z]
          exact s1
      · rw [List.getD_eq_getElem?_getD]
        rcases Nat.lt_or_ge i k with z | z
        · rw [List.getElem?_append_left (by omega), ← List.getD_eq_getElem?_getD]
          exact g3 i z
        · have : i = k := by omega
          subst this
          rw [List.getElem?_append_right (by omega), g1, Nat.sub_self]
          exact s2
  obtain ⟨G, g1, g2, g3⟩ := pick n (Nat.le_refl n)
  exact ⟨G, inv_of a ind ⟨g1, g2⟩ g3⟩
end Msk
namespace K33
open PySem PySem.Spec PyProof.Rows L2 Par Msk
theorem mV_ints (ms : List Nat) : mV ms = (ms.map fun (m : Nat) => ((m : Nat) : Int)).map V.int := by
  unfold mV
  rw [List.map_map]
  rfl
theorem mI_inj : ∀ (ms ns : List Nat), decide ((ms.map fun (m : Nat) => ((m : Nat) : Int)) = ns.map fun (m : Nat) => ((m : Nat) : Int)) = decide (ms = ns) := fun ms ns => by
  by_cases h : ms = ns
  · subst h
    rw [decide_eq_true rfl, decide_eq_true rfl]
  · rw [decide_eq_false h, decide_eq_false fun z => h ?_]
    clear h
    induction ms generalizing ns with
    | nil =>
      cases ns with
      | nil => rfl
      | cons _ _ => cases z
    | cons m ms ih =>
      cases ns with
      | nil => cases z
      | cons n ns =>
        rw [List.map_cons, List.map_cons] at z
        injection z with z1 z2
        rw [ih ns z2, Int.ofNat_inj.mp z1]

theorem GoodT.sz {R : List Nat} (g : GoodT R) : Sz R.length R := ⟨rfl, g.lt⟩
theorem good_of {n : Nat} {R : List Nat} (s : Sz n R) (h1 : 1 ≤ n) (h2 : n ≤ 40) (f : R.getD 0 0 = 1) (i : Indep R) : GoodT R := ⟨by rw [s.len]; exact h1, by rw [s.len]; exact h2, by rw [s.len]; exact s.lt, f, i⟩
theorem good_comp {A B : List Nat} (a : GoodT A) (b : GoodT B) (e : A.length = B.length) : GoodT (comp A B) := by
  have sb : Sz A.length B := ⟨e.symm, by rw [e]; exact b.lt⟩
  exact good_of (a.sz.comp sb) a.l1 a.l40 (comp_first a.first b.first) (ind_comp a.sz sb a.ind b.ind)
theorem good_inv {n : Nat} {A G : List Nat} (h : Inv2 n A G) (a : GoodT A) : GoodT G := by
  have e := h.a.len
  have n1 := a.l1
  have n40 := a.l40
  exact good_of h.g (by omega) (by omega) (inv_first h (by omega) a.first) h.symm.ind
theorem good_one {n : Nat} (h1 : 1 ≤ n) (h2 : n ≤ 40) : GoodT (oneM n) := good_of (Sz.one n) h1 h2 (by rw [oneM_at h1, Nat.pow_zero]) (ind_one n)
theorem good_pw {A : List Nat} (a : GoodT A) : ∀ k, GoodT (pw A A.length k)
  | 0 => good_one a.l1 a.l40
  | k + 1 => good_comp a (good_pw a k) (a.sz.pw k).len.symm
section
variable {P : Program} {w : World} {K : PySem.W.Frag} {mg : Str → Option Value} {base : Heap}
/-- size, len -/
def spTSize (C : Addr) : Sp := fun vs H Q _ => ∃ (b : Addr) (ms : List Nat), vs = [.ref b] ∧ Tb C H b ms ∧ Q (.int ((ms.length : Nat) : Int)) H
theorem scTSize : FnScope ["self"] ["self"] (defScope hSize) := ⟨rfl, rfl, rfl, by decide +kernel, rfl, by decide +kernel, by decide +kernel⟩
theorem ok_TSize {f C : Addr} {fd : FuncData} (F : Fun K "size" "Table.size" hSize f fd) (B : Bl mg) (T : TC K mg C) : FnOk P w K mg base CX0 2 f fd ["self"] (spTSize C) := by
  refine F.ok scTSize (fun vs H Q E h => ?_) (fun cdv A outer s H vs Q E hr h => ?_)
  · obtain ⟨b, ms, rfl, _⟩ := h
    rfl
  · obtain ⟨b, ms, rfl, ⟨dx, t, h1, h2⟩, out⟩ := h
    refine ⟨_, pss_one (ps_ret (pe_callB call_len_seq (by rfl) B.len PySem.boot_len (pa_cons (pe_fld (pv 0) rfl) pa_nil))), ?_⟩
    refine ⟨_, rfl, b, C, dx, _, _, rfl, h1, T.cl, T.nM, fldM, t, _, rfl, .inr (SqT.of h2), ?_⟩
    rw [mV_len]
    exact out
theorem scTLen : FnScope ["self"] ["self"] (defScope hLen) := ⟨rfl, rfl, rfl, by decide +kernel, rfl, by decide +kernel, by decide +kernel⟩
theorem ok_TLen {f C : Addr} {fd : FuncData} (F : Fun K "__len__" "Table.__len__" hLen f fd) (B : Bl mg) (T : TC K mg C) : FnOk P w K mg base CX0 2 f fd ["self"] (spTSize C) := by
  refine F.ok scTLen (fun vs H Q E h => ?_) (fun cdv A outer s H vs Q E hr h => ?_)
  · obtain ⟨b, ms, rfl, _⟩ := h
    rfl
  · obtain ⟨b, ms, rfl, ⟨dx, t, h1, h2⟩, out⟩ := h
    refine ⟨_, pss_one (ps_ret (pe_callB call_len_seq (by rfl) B.len PySem.boot_len (pa_cons (pe_fld (pv 0) rfl) pa_nil))), ?_⟩
    refine ⟨_, rfl, b, C, dx, _, _, rfl, h1, T.cl, T.nM, fldM, t, _, rfl, .inr (SqT.of h2), ?_⟩
    rw [mV_len]
    exact out
/-- check_size -/
def spCheck (C : Addr) : Sp := fun vs H Q _ => ∃ (b : Addr) (ms : List Nat), vs = [.ref b, .int ((ms.length : Nat) : Int)] ∧ Tb C H b ms ∧ Q .non H
theorem scCheck : FnScope ["self", "size"] ["self", "size"] (defScope hCheck) := ⟨rfl, rfl, rfl, by decide +kernel, rfl, by decide +kernel, by decide +kernel⟩
theorem ok_check {f C : Addr} {fd : FuncData} (F : Fun K "check_size" "Table.check_size" hCheck f fd) (T : TC K mg C) (DS : HasM P w K mg base C "size" 2 ["self"] (spTSize C)) : FnOk P w K mg base CX0 3 f fd ["self", "size"] (spCheck C) := by
  obtain ⟨fS, fdS, GS, mS, bS⟩ := DS
  refine F.ok scCheck (fun vs H Q E h => ?_) (fun cdv A outer s H vs Q E hr h => ?_)
  · obtain ⟨b, ms, rfl, _⟩ := h
    rfl
  · obtain ⟨b, ms, rfl, hB, out⟩ := h
    obtain ⟨dx, t, h1, h2⟩ := id hB
    refine ⟨_, pss_one (ps_if (pt_cmpR op_ne (pv 1) (pe_meth0 (pv 0) T.cl mS GS hr bS .nil pass0) (nomark _)) (pss_one ps_off) pss_nil), ?_⟩
    exact ⟨_, rfl, _, rfl, b, dx, _, rfl, h1, no_fldM (by decide +kernel), b, ms, rfl, hB, rfl, _, rfl, iteNS rfl out⟩
/-- == of two tables -/
def spTEq (C : Addr) : Sp := fun vs H Q _ => ∃ (a b : Addr) (ms ns : List Nat), vs = [.ref a, .ref b] ∧ Tb C H a ms ∧ Tb C H b ns ∧ Q (.bl (decide (ms = ns))) H
theorem scTEq : FnScope ["self", "other"] ["self", "other"] (defScope hEq) := ⟨rfl, rfl, rfl, by decide +kernel, rfl, by decide +kernel, by decide +kernel⟩
theorem ok_teq {f C : Addr} {fd : FuncData} (F : Fun K "__eq__" "Table.__eq__" hEq f fd) (B : Bl mg) (T : TC K mg C) (TI : IsC K C) : FnOk P w K mg base CX0 2 f fd ["self", "other"] (spTEq C) := by
  refine F.ok scTEq (fun vs H Q E h => ?_) (fun cdv A outer s H vs Q E hr h => ?_)
  · obtain ⟨a, b, ms, ns, rfl, _⟩ := h
    rfl
  · obtain ⟨a, b, ms, ns, rfl, ⟨dx, x1, e1, e2⟩, ⟨dy, y1, g1, g2⟩, out⟩ := h
    have hu := hr.units
    refine ⟨_, pss_one (ps_ret (pe_and (pe_callB call_isi (by rfl) B.isinstance (by decide +kernel) (pa_cons (pv 1) (pa_cons (pe_glob (v := .ref C) (by rfl) T.mgC rfl) pa_nil)))
      (pe_one (pe_cmpR (op_eqD hu) (pe_fld (pv 0) rfl) (pe_fld (pv 1) rfl) (nomark _))))), ?_⟩
    refine ⟨_, rfl, _, _, _, _, true, rfl, .own C, .base (.ins g1 T.cl TI.ha TI.hn TI.ht TI.hm), kit_self, _, rfl, iteT ?_⟩
    refine ⟨_, rfl, a, C, dx, _, _, rfl, e1, T.cl, T.nM, fldM, _, rfl, b, C, dy, _, _, rfl, g1, T.cl, T.nM, fldM, ?_⟩
    rw [mV_ints] at e2 g2
    refine ⟨.tuple ((ms.map fun (m : Nat) => ((m : Nat) : Int)).map PyData.int), .tuple ((ns.map fun (m : Nat) => ((m : Nat) : Int)).map PyData.int), .tup (SqT.of e2) (dps_ints _), .tup (SqT.of g2) (dps_ints _), shaped_tints _, shaped_tints _, ?_⟩
    rw [eqv_tints, mI_inj]
    exact out
end
end K33
namespace Par
open PySem PySem.Spec PyProof.Rows L2
/-! ### repr of data in which dicts with one text as a key may stand -/
/-- a flat thing, a dict with one text as a key -/
inductive Sx (H : Hp) : V → PyData → Prop
  | fl {v : V} {d : PyData} : Fl H v d → Sx H v d
  | dicS {a : Addr} {x : Str} {j : Int} : H a = some (.dK [(Sum.inr x, .int j)]) → Sx H (.ref a) (.dict [(.str x, .int j)])
inductive SxAll (H : Hp) : List V → List PyData → Prop
  | nil : SxAll H [] []
  | cons {v : V} {vs : List V} {d : PyData} {ds : List PyData} : Sx H v d → SxAll H vs ds → SxAll H (v :: vs) (d :: ds)
/-- data without a dict, a flat thing, a tuple of flat things -/
inductive Da (K : PySem.W.Frag) (H : Hp) : V → PyData → Prop
  | dp {v : V} {d : PyData} : Dp K H v d → Da K H v d
  | sx {v : V} {d : PyData} : Sx H v d → Da K H v d
  | tup {a : Addr} {xs : List V} {ds : List PyData} : H a = some (.tup xs) → SxAll H xs ds → Da K H (.ref a) (.tuple ds)
theorem sx_same {H H' : Hp} (s : Same H H') {v : V} {d : PyData} (h : Sx H v d) : Sx H' v d := by
  cases h with
  | fl f => exact .fl (fl_same s f)
  | dicS e => exact .dicS (s _ _ e)
theorem sxAll_same {H H' : Hp} (s : Same H H') : ∀ {vs : List V} {ds : List PyData}, SxAll H vs ds → SxAll H' vs ds
  | _, _, .nil => .nil
  | _, _, .cons h1 h2 => .cons (sx_same s h1) (sxAll_same s h2)
theorem da_same {K : PySem.W.Frag} {H H' : Hp} (s : Same H H') {v : V} {d : PyData} (h : Da K H v d) : Da K H' v d := by
  cases h with
  | dp h => exact .dp (dp_same s _ _ h)
  | sx h => exact .sx (sx_same s h)
  | tup e h => exact .tup (s _ _ e) (sxAll_same s h)
theorem sxAll_append {H : Hp} : ∀ {xs ys : List V} {ds es : List PyData}, SxAll H xs ds → SxAll H ys es → SxAll H (xs ++ ys) (ds ++ es)
  | _, _, _, _, .nil, h => h
  | _, _, _, _, .cons h1 h2, h => .cons h1 (sxAll_append h2 h)
section
variable {X : Cx} {pins : List (Addr × Obj)} {σ : L2.St} {H : Hp} {s : Shared}
theorem sx_reads (I : Inv X pins σ H s) {v : V} {d : PyData} {u : Value} (h : Sx H v d) (r : RelV v u) : ∃ as, Reads s.heap u d as ∧ sysModules ∉ as := by
  cases h with
  | fl f => exact fl_reads I f r
  | @dicS a x j e =>
    cases r
    obtain ⟨_, ns, vs, kv, o, es, ep, ho, hx, hd, hk, hp, _⟩ := dk_of I.hok e
    have ne : sysModules ≠ a := fun z => by rw [← z] at ns; exact absurd ns (by decide)
    cases kv with
    | @cons _ q _ _ k1 k2 =>
      cases k2
      obtain ⟨k, u⟩ := q
      obtain ⟨e1, t, e2⟩ := k1
      have e1' : Sum.inr x = k := e1
      have e2' : u = Value.int j t := e2
      subst e1' e2'
      cases hes : es.toList with
      | nil => rw [hes] at hp; cases hp
      | cons e1 t1 =>
        rw [hes] at hp
        cases hp with
        | cons p1 p3 p2 =>
          cases p2
          have p1' : keyIs (Sum.inr x) e1.key = true := p1
          rcases keyIs_shape p1' with ⟨i2, t2, w1, w2⟩ | ⟨x2, t2, w1, w2⟩
          · cases w1
          · cases w1
            have p3' : e1.val = Value.int j t := p3
            refine ⟨_, Reads.dict (kvs := [(.str x, .int j)]) ho hx.1 hd (as := [] ++ []) (bs := [] ++ []) ?_ ?_, ?_⟩
            · rw [hes]
              show ReadsAll s.heap [e1.key] [PyData.str x] ([] ++ [])
              rw [w2]
              exact ReadsAll.cons (Reads.str x t2) ReadsAll.nil
            · rw [hes]
              show ReadsAll s.heap [e1.val] [PyData.int j] ([] ++ [])
              rw [p3']
              exact ReadsAll.cons (Reads.int j t) ReadsAll.nil
            · simpa using ne
theorem sxAll_reads (I : Inv X pins σ H s) : ∀ {vs : List V} {ds : List PyData} {us : List Value}, SxAll H vs ds → Vals vs us → ∃ as, ReadsAll s.heap us ds as ∧ sysModules ∉ as
  | _, _, _, .nil, .nil => ⟨_, ReadsAll.nil, by simp⟩
  | _, _, _, .cons h1 h2, .cons r1 r2 => by
    obtain ⟨as, q1, n1⟩ := sx_reads I h1 r1
    obtain ⟨bs, q2, n2⟩ := sxAll_reads I h2 r2
    refine ⟨_, ReadsAll.cons q1 q2, ?_⟩
    intro z
    rcases List.mem_append.mp z with z | z
    · exact n1 z
    · exact n2 z
theorem da_reads (I : L2.Inv X pins σ H s) {v : V} {d : PyData} {u : Value} (h : Da X.K H v d) (r : RelV v u) :
    ∃ as, Reads s.heap u d as ∧ (d.hasDict = true → sysModules ∉ as) := by
  cases h with
  | dp h =>
    obtain ⟨as, q⟩ := Dp.reads I d v u h r
    refine ⟨as, q, fun z => ?_⟩
    rw [dp_nodict d v h] at z
    cases z
  | sx h =>
    obtain ⟨as, q, n⟩ := sx_reads I h r
    exact ⟨as, q, fun _ => n⟩
  | @tup a xs ds e h =>
    cases r
    obtain ⟨its, rv, ⟨o, ho, hc, n, hd⟩, _⟩ := I.tuple (a := a) (xs := xs) (SqT.of e)
    obtain ⟨as, q, nn⟩ := sxAll_reads I h rv
    exact ⟨_, Reads.tuple ho hc hd q, fun _ => nn⟩
end
section
variable {X : Cx}
theorem cr_reprA (gs : X.A.guards = some []) (hu : X.A.units + 64 < cLine) : CallR X (.builtin "repr") (fun xs H Q => ∃ v d, xs = [v] ∧ Da X.K H v d ∧
    d.showable = true ∧ d.depth ≤ 40 ∧ d.shown.length ≤ sizeLine ∧ Q (.str d.shown) H) := by
  intro pins s σ H xs us Q I r h
  obtain ⟨v, d, rfl, hd, sh, dep, len, q⟩ := h
  cases r with
  | @cons _ u _ _ r1 r2 =>
    cases r2
    obtain ⟨as, rd, ns⟩ := da_reads I hd r1
    have fin : ∀ (h' : Heap) (tk u' : Nat), (∀ b o, s.heap.get? b = some o → h'.get? b = some o) → EP X pins σ Q (.str d.shown u') { s with heap := h', toks := tk } :=
      fun h' tk u' k => ⟨.str d.shown, H, I.un (t' := tk) (Un.kept k) (I.hok.kept k), ⟨_, rfl⟩, q⟩
    cases u with
    | ref a => exact repr_of_reads' rd sh ns gs (by omega) (fun _ _ z => z) (fun h' u tk k => fin h' tk u k) len
    | none => cases rd; exact PySem.P.repr_of_none (fin s.heap _ _ fun _ _ z => z)
    | bool b => cases rd; exact PySem.P.repr_of_bool (fin s.heap _ _ fun _ _ z => z)
    | int i t => cases rd; exact PySem.P.repr_of_int (by simpa [PyData.showable] using sh) (fin s.heap _ _ fun _ _ z => z)
    | str x t => cases rd; exact PySem.P.repr_of_str (fin s.heap _ _ fun _ _ z => z) len
    | _ => cases rd
end
/-! ### what is shown is plain, where what is shown of is -/
def Low (t : Str) : Prop := ∀ c ∈ t.cps.toList, c < 128
theorem Low.append {a b : Str} (ha : Low a) (hb : Low b) : Low (a ++ b) := by
  intro c hc
  rw [PySem.Str.cps_append, Array.toList_append] at hc
  rcases List.mem_append.mp hc with h | h
  · exact ha c h
  · exact hb c h
theorem low_char : ∀ c, c < 128 → ∀ q ∈ [34, 39], ∀ x ∈ Builtin.Str.reprChar q c, x < 128 := by
  have h : ∀ c : Fin 128, ∀ q ∈ [34, 39], ∀ x ∈ Builtin.Str.reprChar q c.val, x < 128 := by decide +kernel
  exact fun c hc => h ⟨c, hc⟩
theorem low_fold (q : Nat) (hq : q ∈ [34, 39]) : ∀ (l : List Nat) (acc : Array Nat), (∀ c ∈ l, c < 128) → (∀ c ∈ acc.toList, c < 128) → ∀ c ∈ (l.foldl (fun out c => out ++ (Builtin.Str.reprChar q c).toArray) acc).toList, c < 128
  | [], acc, _, h => h
  | c :: r, acc, hl, h => by
    refine low_fold q hq r _ (fun d hd => hl d (List.mem_cons_of_mem _ hd)) fun d hd => ?_
    rw [Array.toList_append] at hd
    rcases List.mem_append.mp hd with z | z
    · exact h d z
    · exact low_char c (hl c (List.mem_cons_self ..)) q hq d z
theorem low_repr {x : Str} (h : Low x) : Low (reprText x) := by
  have hq : reprQuote x ∈ [34, 39] := by
    unfold reprQuote
    split <;> decide
  have hq2 : reprQuote x < 128 := by
    simp only [List.mem_cons, List.not_mem_nil, or_false] at hq
    omega
  unfold reprText
  intro c hc
  have hc2 : c ∈ ((x.cps.foldl (fun out c => out ++ (Builtin.Str.reprChar (reprQuote x) c).toArray) #[reprQuote x]).push (reprQuote x)).toList := hc
  rw [Array.toList_push, ← Array.foldl_toList] at hc2
  rcases List.mem_append.mp hc2 with z | z
  · refine low_fold _ hq x.cps.toList _ h (fun d hd => ?_) c z
    rw [show d = reprQuote x by simpa using hd]
    exact hq2
  · rw [show c = reprQuote x by simpa using z]
    exact hq2
theorem low_textFrom : ∀ (ts : List Str) (k : Nat) (acc : Str), Low acc → (∀ t ∈ ts, Low t) → Low (textFrom k acc ts)
  | [], _, _, h, _ => h
  | t :: ts, k, acc, h, ht => by
    refine low_textFrom ts (k + 1) _ (.append (.append h ?_) (ht t (List.mem_cons_self ..))) fun u hu => ht u (List.mem_cons_of_mem _ hu)
    split <;> (intro c hc; revert c hc; decide +kernel)
theorem low_join : ∀ (ts : List Str), (∀ t ∈ ts, Low t) → Low (Str.join ", " ts)
  | [], _ => by intro c hc; cases hc
  | [t], h => h t (List.mem_cons_self ..)
  | t :: u :: ts, h => by
    have ih := low_join (u :: ts) fun v hv => h v (List.mem_cons_of_mem _ hv)
    have e : Str.join ", " (t :: u :: ts) = t ++ ", " ++ Str.join ", " (u :: ts) := rfl
    rw [e]
    exact .append (.append (h t (List.mem_cons_self ..)) (by intro c hc; revert c hc; decide +kernel)) ih
def plain : PyData → Prop
  | .str x => Low x
  | .list _ | .tuple _ | .dict _ => False
  | _ => True
theorem low_int (i : Int) : Low (PyData.int i).shown := by
  intro c hc
  refine Decidable.byContradiction fun n => ?_
  exact shown_int_free' (k := c) ⟨by omega, by omega⟩ i hc
theorem low_plain {d : PyData} (h : plain d) : Low d.shown := by
  cases d with
  | none => intro c hc; revert c hc; decide +kernel
  | bool b => cases b <;> (intro c hc; revert c hc; decide +kernel)
  | int i => exact low_int i
  | str x => exact low_repr h
  | list _ => exact h.elim
  | tuple _ => exact h.elim
  | dict _ => exact h.elim
theorem low_all : ∀ {ds : List PyData}, (∀ d ∈ ds, Low d.shown) → ∀ t ∈ PyData.shownAll ds, Low t
  | [], _, t, ht => nomatch ht
  | d :: ds, h, t, ht => by
    rcases List.mem_cons.mp ht with e | e
    · rw [e]
      exact h d (List.mem_cons_self ..)
    · exact low_all (fun x hx => h x (List.mem_cons_of_mem _ hx)) t e
theorem low_list {ds : List PyData} (h : ∀ d ∈ ds, Low d.shown) : Low (PyData.list ds).shown :=
  .append (low_textFrom _ _ _ (by intro c hc; revert c hc; decide +kernel) (low_all h)) (by intro c hc; revert c hc; decide +kernel)
theorem low_tuple {ds : List PyData} (h : ∀ d ∈ ds, Low d.shown) : Low (PyData.tuple ds).shown := by
  refine .append (.append (by intro c hc; revert c hc; decide +kernel) (low_join _ (low_all h))) ?_
  split <;> (intro c hc; revert c hc; decide +kernel)
theorem low_len {x : Str} (h : Low x) : (reprText x).length ≤ 10 * x.length + 2 := StrLaws.reprText_len x fun c hc => by
  have := h c hc
  omega
section
variable {X : Cx}
/-- x == y of data without dicts, whatever the texts in it -/
def rEqP (K : PySem.W.Frag) : R2 := fun x y H Q => ∃ d e, Dp K H x d ∧ Dp K H y e ∧ d.plain = true ∧ e.plain = true ∧ min d.depth e.depth ≤ 64 ∧ Q (.bl (PyData.eqv d e)) H
theorem op_eqP (hu : X.A.units + 64 < cLine) : OpR X (compareOp .Eq) (rEqP X.K) := by
  intro pins s σ H x y v u Q I rx ry h
  obtain ⟨d, e, hd, he, sd, se, hm, q⟩ := h
  obtain ⟨as, r1⟩ := Dp.reads I d x v hd rx
  obtain ⟨bs, r2⟩ := Dp.reads I e y u he ry
  exact SeqAt.eq_plain r1 r2 sd se (by omega) ⟨.bl _, H, I, rfl, q⟩
end
end Par
namespace Par
open PySem PySem.Spec PyProof.Rows L2
section
variable {X : Cx}
/-- x != y of data without dicts, whatever the texts in it -/
def rNeP (K : PySem.W.Frag) : R2 := fun x y H Q => ∃ d e, Dp K H x d ∧ Dp K H y e ∧ d.plain = true ∧ e.plain = true ∧ min d.depth e.depth ≤ 64 ∧ Q (.bl (!PyData.eqv d e)) H
theorem op_neP (hu : X.A.units + 64 < cLine) : OpR X (compareOp .NotEq) (rNeP X.K) := by
  intro pins s σ H x y v u Q I rx ry h
  obtain ⟨d, e, hd, he, sd, se, hm, q⟩ := h
  obtain ⟨as, r1⟩ := Dp.reads I d x v hd rx
  obtain ⟨bs, r2⟩ := Dp.reads I e y u he ry
  exact SeqAt.ne_plain r1 r2 sd se (by omega) ⟨.bl _, H, I, rfl, q⟩
end
end Par
namespace Par
open PySem PySem.Spec PyProof.Rows L2
/-! ### repr of a list of things, each of which can be shown by itself -/
inductive DxAll (K : PySem.W.Frag) (H : Hp) : List V → List PyData → Prop
  | nil : DxAll K H [] []
  | cons {v : V} {vs : List V} {d : PyData} {ds : List PyData} : Dx K H v d → DxAll K H vs ds → DxAll K H (v :: vs) (d :: ds)
/-- each item can be read by itself -/
inductive Each (h : Heap) : List Value → List PyData → Prop
  | nil : Each h [] []
  | cons {v : Value} {vs : List Value} {d : PyData} {ds : List PyData} {as : List Addr} : Reads h v d as → (d.hasDict = true → sysModules ∉ as) → Each h vs ds → Each h (v :: vs) (d :: ds)
theorem each_of {X : Cx} {pins : List (Addr × Obj)} {σ : L2.St} {H : Hp} {s : Shared} (I : L2.Inv X pins σ H s) : ∀ {vs : List V} {ds : List PyData} {us : List Value}, DxAll X.K H vs ds → Vals vs us → Each s.heap us ds
  | _, _, _, .nil, .nil => .nil
  | _, _, _, .cons h1 h2, .cons r1 r2 => by
    obtain ⟨as, q, n⟩ := dx_reads I h1 r1
    exact .cons q n (each_of I h2 r2)
theorem each_reads {h : Heap} : ∀ {vs : List Value} {ds : List PyData}, Each h vs ds → ∃ as, ReadsAll h vs ds as
  | _, _, .nil => ⟨_, ReadsAll.nil⟩
  | _, _, .cons q _ r => by
    obtain ⟨as, q2⟩ := each_reads r
    exact ⟨_, ReadsAll.cons q q2⟩
theorem each_shown {prog : Program} {w : World} {h : Heap} : ∀ {vs : List Value} {ds : List PyData}, Each h vs ds → PyData.showableAll ds = true → (∀ t ∈ PyData.shownAll ds, t.length ≤ sizeLine) →
    ∃ bs, ReadAtMost h (PyData.depthAll ds) bs ∧ ReprAllK prog w bs h (PyData.depthAll ds) vs (PyData.shownAll ds)
  | _, _, .nil, _, _ => ⟨[], (fun _ z => nomatch z), .nil⟩
  | _, _, .cons (d := d) (ds := ds) q n r, sh, hz => by
    have both : d.showable = true ∧ PyData.showableAll ds = true := by simpa [PyData.showableAll] using sh
    obtain ⟨b1, m1, k1⟩ := ReprK.of_reads (prog := prog) (w := w) q both.1 n (hz _ (by simp only [PyData.shownAll]; exact List.mem_cons_self ..))
    obtain ⟨b2, m2, k2⟩ := each_shown (prog := prog) (w := w) r both.2 fun t ht => hz t (by simp only [PyData.shownAll]; exact List.mem_cons_of_mem _ ht)
    have l1 : d.depth ≤ PyData.depthAll (d :: ds) := by simp only [PyData.depthAll]; omega
    have l2 : PyData.depthAll ds ≤ PyData.depthAll (d :: ds) := by simp only [PyData.depthAll]; omega
    refine ⟨b1 ++ b2, (m1.mono l1).append (m2.mono l2), ?_⟩
    simp only [PyData.shownAll]
    exact .cons ((k1.more fun b hb => List.mem_append_left _ hb).level_le l1) (k2.more_le (fun b hb => List.mem_append_right _ hb) l2)
section
variable {X : Cx}
/-- repr([..]), each item a thing that can be shown -/
def rReprL (K : PySem.W.Frag) : List V → Hp → VK → Prop := fun xs H Q => ∃ (a : Addr) (vs : List V) (ds : List PyData), xs = [.ref a] ∧ H a = some (.lst vs) ∧ DxAll K H vs ds ∧ vs ≠ [] ∧
  (PyData.list ds).showable = true ∧ (PyData.list ds).depth ≤ 40 ∧ (PyData.list ds).shown.length ≤ sizeLine ∧ Q (.str (PyData.list ds).shown) H
theorem cr_reprL (gs : X.A.guards = some []) (hu : X.A.units + 64 < cLine) : CallR X (.builtin "repr") (rReprL X.K) := by
  intro pins s σ H xs us Q I r h
  obtain ⟨a, vs, ds, rfl, e, hd, ne, sh, dep, len, q⟩ := h
  cases r with
  | @cons _ u _ _ r1 r2 =>
    cases r2
    cases r1
    obtain ⟨its, rv, ⟨o, n, ho, hc, _, hdt⟩, _⟩ := I.list (a := a) (xs := vs) (SqL.of e)
    have each := each_of I hd rv
    obtain ⟨as, all⟩ := each_reads each
    have len' : (listText (PyData.shownAll ds)).length ≤ sizeLine := by simpa only [PyData.shown] using len
    obtain ⟨bs, most, shows⟩ := each_shown (prog := X.prog) (w := X.w) each (by simpa [PyData.showable] using sh) fun t ht => Nat.le_trans (listText_mem_le ht) len'
    have out : a ∉ bs := not_mem_of_deeper (.list ho hc hdt all) (by simp only [PyData.depth]; omega) most
    simp only [PyData.depth] at dep
    have fin : ∀ (h' : Heap) (tk u' : Nat), (∀ b o, s.heap.get? b = some o → h'.get? b = some o) → EP X pins σ Q (.str (PyData.list ds).shown u') { s with heap := h', toks := tk } :=
      fun h' tk u' k => ⟨.str (PyData.list ds).shown, H, I.un (t' := tk) (Un.kept k) (I.hok.kept k), ⟨_, rfl⟩, q⟩
    cases its with
    | nil =>
      cases rv
      exact absurd rfl ne
    | cons x l =>
      refine call_repr_slot (by omega) ⟨o, ho, hc⟩ F.slot_list_repr.toG ?_
      refine call_list_reprK ho hc hdt out (by simpa using shows.length_eq) (fun i y ey => shows.item i y (by simpa using ey)) gs (fun b _ => Clear.nil b) (by show X.A.units + 1 + _ < cLine; omega) (fun _ _ z => z) ?_ len'
      intro h' u tk k
      exact ⟨_, _, rfl, by simpa only [PyData.shown] using fin h' tk u k⟩
end
/-- list != list: unlike lengths -/
def rNeLen : R2 := fun x y H Q => ∃ a b xs ys, x = .ref a ∧ y = .ref b ∧ H a = some (.lst xs) ∧ H b = some (.lst ys) ∧ xs.length ≠ ys.length ∧ Q (.bl true) H
theorem op_neLen {X : Cx} (hu : X.A.units < cLine) : OpR X (compareOp .NotEq) rNeLen := by
  intro pins s σ H x y v u Q I rx ry h
  obtain ⟨a, b, xs, ys, rfl, rfl, ha, hb, ne, q⟩ := h
  cases rx
  cases ry
  obtain ⟨its, rv, p1, _⟩ := I.list (a := a) (xs := xs) (SqL.of ha)
  obtain ⟨its2, rv2, p2, _⟩ := I.list (a := b) (xs := ys) (SqL.of hb)
  refine SeqAt.RcNeAt.lists_lengths p1.isList p2.isList ?_ hu X.prog X.w X.xe _ ⟨.bl true, H, I, rfl, q⟩
  have l1 := rv.length
  have l2 := rv2.length
  simp only [List.size_toArray, bne_iff_ne]
  omega
theorem opR_or {X : Cx} {f : Value → Value → Sem Value} {r1 r2 : R2} (h1 : OpR X f r1) (h2 : OpR X f r2) : OpR X f (fun x y H Q => r1 x y H Q ∨ r2 x y H Q) := by
  intro pins s σ H x y v u Q I rx ry h
  rcases h with h | h
  · exact h1 pins s σ H x y v u Q I rx ry h
  · exact h2 pins s σ H x y v u Q I rx ry h
end Par
namespace GN
open PySem PySem.SeqAt
open AutoSeq1 (wpAny_loadPart')
open MeetsSeq MeetsSeq2
open MeetsSeq3 SeqRoads2
section
variable {prog : Program} {w : World} {A : Around} {R : Result → Shared → Prop}
/-- the loop of list != list, where the items are equal two by two -/
theorem ne_loop (l b : Addr) (N : Nat) (Iv : Nat → Shared → Prop) (hl : GQ.ListI prog w A (fun e s' => R (.error e) s') l b N Iv) (fin : ∀ s, Iv N s → R (.ok (.ret (.bool false))) s) :
    ∀ (k i : Nat), N - i = k → i ≤ N → ∀ s, Iv i s →
      wpAny (model prog w) A.in1 (Builtin.«list.__eq__.loop» ⟨[.ref l, .ref b, rawInt i, rawInt 3], []⟩) (GQ.FinOf prog w A R) (fun e s' => R (.error e) s') s := by
  intro k
  induction k with
  | zero =>
    intro i hk hi s h
    obtain ⟨xs, ys, n, n2, e1, e2, z1, z2, _⟩ := hl _ _ h
    have ei : i = N := by omega
    have last : R (.ok (.ret (.bool false))) s := fin s (ei ▸ h)
    obtain ⟨hp, g, d, tk, os⟩ := s
    wp_walk using wpAny_loadPart' e1, wpAny_loadPart' e2
    have o1 : xs[((i : Nat) : Int).toNat]? = none := by
      simp
      omega
    have o2 : ys[((i : Nat) : Int).toNat]? = none := by
      simp
      omega
    rw [o1, o2]
    wp_walk using wpAny_loadPart' e1, wpAny_loadPart' e2
    show R (.ok (.ret (.bool (xs.size != ys.size)))) _
    rw [z1, z2]
    simpa using last
  | succ k ih =>
    intro i hk hi s h
    obtain ⟨xs, ys, n, n2, e1, e2, z1, z2, turn⟩ := hl _ _ h
    have l1 : i < xs.size := by omega
    have l2 : i < ys.size := by omega
    have here := turn l1 l2
    obtain ⟨hp, g, d, tk, os⟩ := s
    wp_walk using wpAny_loadPart' e1, wpAny_loadPart' e2
    have o1 : xs[((i : Nat) : Int).toNat]? = some xs[i] := by simp [l1]
    have o2 : ys[((i : Nat) : Int).toNat]? = some ys[i] := by simp [l2]
    have next : ((i : Int) + 1) = ((i + 1 : Nat) : Int) := by omega
    rw [o1, o2]
    refine wpAny_bind (wpAny_mono here (fun r s2 got => ?_) fun _ _ x => x)
    obtain ⟨er, got⟩ := got
    subst er
    have more := ih (i + 1) (by omega) (by omega) s2 got
    obtain ⟨hp2, g2, d2, tk2, os2⟩ := s2
    wp_walk
    rw [next]
    refine ⟨plainId_quiet plain_eq_loop _, codeAny_builtin entry_eq_loop ?_⟩
    rw [Around.under_plainId plain_eq_loop _]
    exact more
theorem list_ne (l b : Addr) (N : Nat) (Iv : Nat → Shared → Prop) (hl : GQ.ListI prog w A (fun e s' => R (.error e) s') l b N Iv) (fin : ∀ s, Iv N s → R (.ok (.ret (.bool false))) s) {s : Shared} (h : Iv 0 s) :
    wpAny (model prog w) A.in1 (Builtin.«list.__ne__» ⟨[.ref l, .ref b], []⟩) (GQ.FinOf prog w A R) (fun e s' => R (.error e) s') s := by
  obtain ⟨xs, ys, n, n2, e1, e2, z1, z2, _⟩ := hl _ _ h
  have go := ne_loop (A := A) (R := R) l b N Iv hl fin _ 0 rfl (Nat.zero_le _) s h
  obtain ⟨hp, g, d, tk, os⟩ := s
  have f3 := AutoSeq1.sub_list_list
  have same : ¬ (xs.size != ys.size) = true := by simp [z1, z2]
  wp_walk using wpAny_loadPart' e1, wpAny_loadPart' e2
  refine ⟨plainId_quiet plain_eq_loop _, codeAny_builtin entry_eq_loop ?_⟩
  rw [Around.under_plainId plain_eq_loop _]
  exact go
end
section
variable {prog : Program} {w : World} {A : Around} {E : Value → Shared → Prop} {s : Shared}
theorem rc_ne {l b : Addr} {N : Nat} {Q : Value → Shared → Prop} (hu : A.units < cLine) (Iv : Nat → Shared → Prop) (hl : GQ.ListI prog w A E l b N Iv) (fin : ∀ s, Iv N s → Q (.bool false) s) (h : Iv 0 s) :
    wpAny (model prog w) A (richCompare .NotEq (.ref l) (.ref b)) Q E s := by
  obtain ⟨xs, ys, n, n2, e1, e2, _, _, _⟩ := hl _ _ h
  refine wpAny_richCompare_same_room (op := .NotEq) ⟨_, e1, rfl⟩ ⟨_, e2, rfl⟩ F.slot_list_ne (GQ.call_here F.slot_list_ne ⟨_, e1, rfl⟩ F.entry_list_ne (F.args_list_ne_2 _ _) ?_) hu
  exact list_ne (R := wants (fun v s' => v ≠ .notImplemented ∧ Q v s') E) l b N Iv hl (fun s' q => ⟨(fun x => nomatch x), fin s' q⟩) h
end
end GN
namespace Par
open PySem PySem.Spec PyProof.Rows L2
section
variable {X : Cx} {n : Nat} {D : Eqv}
/-- list != list, the items equal two by two -/
def rNeG (D : Eqv) : R2 := fun x y H Q => DList D x y H ∧ ∀ H', Ext H H' → Q (.bl false) H'
theorem op_neG (hD : Mon D) (h : EqG X n D) (hr : Room (n + 1) X.A) : OpR X (compareOp .NotEq) (rNeG D) := by
  intro pins s σ H x y v u Q I rx ry hq
  obtain ⟨⟨a, b, xs, ys, rfl, rfl, ha, hb, p⟩, q⟩ := hq
  cases rx
  cases ry
  have sb : L2.Sub X (n + 1) X.A := ⟨hr, rfl⟩
  show wpAny (model X.prog X.w) X.A (richCompare .NotEq (.ref a) (.ref b)) (EP X pins σ Q) X.xe s
  refine GN.rc_ne (N := xs.length) hr.units0 (fun _ s' => LoopI X pins σ H s') ?_ ?_ ⟨H, I, Ext.rfl'⟩
  · intro i s' lp
    obtain ⟨H1, I1, e1⟩ := id lp
    obtain ⟨z, its, k, r, e⟩ := I1.hok a _ (e1 _ _ ha)
    obtain ⟨z2, its2, k2, r2, e2⟩ := I1.hok b _ (e1 _ _ hb)
    refine ⟨its.toArray, its2.toArray, k, k2, e, e2, by rw [List.size_toArray, ← r.length], by rw [List.size_toArray, ← r2.length, ← p.1], ?_⟩
    intro h1 h2
    exact turnG hD h sb p r r2 i h1 h2 s' lp
  · rintro s' ⟨H1, I1, e1⟩
    exact ⟨.bl false, H1, I1, rfl, q H1 e1⟩
end
end Par
namespace Par
open PySem PySem.Spec PyProof.Rows L2

/-! A def's promise where something may be shown around it: what the guards name is tracked. -/
structure FnH (P : Program) (w : World) (K : PySem.W.Frag) (mg : Str → Option Value) (base : Heap) (CX : CXT) (k : Nat)
    (f : Addr) (fd : FuncData) (ps : List Str) (sp : Sp) : Prop where
  arity : ∀ vs H Q E, sp vs H Q E → vs.length = ps.length
  go : ∀ (g : List Code) (A : Around) (outer : List Env) (s : Shared) (H : Hp) (args : Args) (us : List Value) (vs : List V) (Q : VK) (E : XK),
    A.guards = some g → (∀ b, H b = none → Clear g b) → Room k A → Env0 P w K mg base A outer s H → BindsTo s fd args (ps.zip us) → Vals vs us →
    sp vs H Q E → codeAny (model P w) A (.call (.ref f) args) (CR CX outer P w H s Q E) s

section
variable {P : Program} {w : World} {K : PySem.W.Frag} {mg : Str → Option Value} {base : Heap}
theorem FnH.fnG {CX : CXT} {k : Nat} {f : Addr} {fd : FuncData} {ps : List Str} {sp : Sp} (F : FnH P w K mg base CX k f fd ps sp) : FnG P w K mg base CX k f fd ps sp :=
  ⟨F.arity, fun A outer s H args us vs Q E gs => F.go [] A outer s H args us vs Q E gs fun b _ => Clear.nil b⟩
theorem fnH_of {k : Nat} {x qual : Str} {st : Stmt} {f : Addr} {fd : FuncData} {N ps : List Str} {sp : Sp}
    (F : Fun K x qual st f fd) (S : FnScope N ps (defScope st))
    (arity : ∀ vs H Q E, sp vs H Q E → vs.length = ps.length)
    (body : ∀ (g : List Code) (cdv : Value) (A : Around) (outer : List Env) (s : Shared) (H : Hp) (vs : List V) (Q : VK) (E : XK),
      A.guards = some g → (∀ b, H b = none → Clear g b) → Room k (A.deeper (envOfC qual (defScope st) s.heap.objs.size f cdv)) → sp vs H Q E →
      ∃ t, PSs (cxOf CX0 P w K mg base N qual (defScope st) f cdv A outer s H E).nox (defBody st) t ∧
        t { nx := fun _ H' => Q .non H', rt := Q } (start N vs) H) :
    FnH P w K mg base CX0 (k + 1) f fd ps sp := by
  obtain ⟨oc, od, kV, doc, pm, an, cdv, ct, osl, efd, lk, hcd⟩ := F.ex
  subst efd
  constructor
  · exact arity
  intro g A outer s H args us vs Q E gs cl room e0 bound rel hsp
  have lens := arity _ _ _ _ hsp
  have kin : K.In s.heap := e0.mod.kin.keeps (fun b o z => (e0.bs b o z).1)
  have nolim : s.heap.NoLimit := e0.mod.nolimit.keeps (fun b o z => (e0.bs b o z).1)
  have kinds : ∀ y ∈ ps.zip us, (defScope st).names.lookup y.1 = some .local ∨ ((defScope st).names.lookup y.1 = some .cell ∧
      ((cellsFrom (s.heap.objs.size + 1) (defScope st).names []).lookup y.1).isSome = true) := by
    rintro ⟨n, v⟩ hy
    cases S.par n (List.of_mem_zip hy).1 with
    | inl q => exact Or.inl q
    | inr q => exact Or.inr ⟨q, PySem.W.cellsFrom_some _ _ _ (Or.inl q)⟩
  refine codeAny_call_function room.depth (kin _ _ lk) rfl S.co S.gen rfl (PySem.W.codeRec_of kin hcd) (bound _ _ _ _ ?_)
  refine wpAny_newFunctionEnv_cells S.kind kinds ?_
  intro env he s1 x1
  subst he
  refine ⟨nolim.keeps x1.toInCall.keep, codeAny_func ?_⟩
  obtain ⟨t, ht, hq⟩ := body g cdv A outer s H vs Q E gs cl (room.deeper _) hsp
  have I := inv_start (CX := CX0) (E := E) (w := w) S room.hd e0 lens rel x1
  refine wpAny_mono (ht.nox.run [] s1 (start N vs) H _ I hq) ?_ (fun e s' hs => hs)
  intro fl s' hs
  cases fl with
  | ret u =>
    obtain ⟨v, σ1, H1, J, rv, q⟩ := hs
    exact ⟨v, H1, J.os, J.bare, J.base, J.hok, rv, q⟩
  | next =>
    obtain ⟨σ1, H1, J, q⟩ := hs
    exact ⟨V.non, H1, J.os, J.bare, J.base, J.hok, rfl, q⟩
  | brk => exact (let ⟨_, _, _, q⟩ := hs; False.elim q)
  | cont => exact (let ⟨_, _, _, q⟩ := hs; False.elim q)
end

section
variable {X : Cx}
/-! ### {x!r}, x a list of ints that the guards do not name -/
theorem ints_shown {prog : Program} {w : World} {h : Heap} : ∀ {ns : List Int} {us : List Value}, Vals (ns.map V.int) us → PyData.showableAll (ns.map PyData.int) = true → ReprAllK prog w [] h 0 us (PyData.shownAll (ns.map PyData.int))
  | [], _, .nil, _ => .nil
  | n :: ns, _, .cons r rs, sh => by
    have both : (PyData.int n).showable = true ∧ PyData.showableAll (ns.map PyData.int) = true := by simpa [PyData.showableAll] using sh
    obtain ⟨t, rfl⟩ := r
    refine ReprAllK.cons ?_ (ints_shown rs both.2)
    simp only [PyData.shown]
    exact .of_is (ReprIs.int t (by simpa [PyData.showable] using both.1)) _ _ _
def tFmtH (g : List Code) (te : TE) : TE := fun σ H Q => te σ H fun x H1 => ∃ (a : Addr) (ns : List Int), x = .ref a ∧ Clear g a ∧ H1 a = some (.lst (ns.map V.int)) ∧ (PyData.list (ns.map .int)).showable = true ∧
  (PyData.list (ns.map .int)).shown.length ≤ sizeLine ∧ Q (.str (PyData.list (ns.map .int)).shown) H1
theorem pe_fmtH {e : Expr} {te : TE} {pos : Pos} {g : List Code} (gs : X.A.guards = some g) (hu : X.A.units + 64 < cLine) (he : PE X e te) : PE X (.FormattedValue e 114 none pos) (tFmtH g te) := by
  refine ⟨fun pins s σ H Q I h => ?_⟩
  refine wpAny_FormattedValue_repr (thn (he.run pins s σ H _ I h) fun w1 t1 got => ?_)
  obtain ⟨x, H1, I1, r1, a, ns, rfl, cl, ha, sh, len, q⟩ := got
  cases r1
  obtain ⟨its, n, rv, ho, hz⟩ := I1.lst ha
  have shows := ints_shown (prog := X.prog) (w := X.w) (h := t1.heap) rv (by simpa [PyData.showable] using sh)
  have fin : ∀ (h' : Heap) (u tk : Nat), (∀ b o, t1.heap.get? b = some o → h'.get? b = some o) → wpAny (model X.prog X.w) X.A (formatField (.str (PyData.list (ns.map PyData.int)).shown u) Str.empty) (EP X pins σ Q) X.xe { t1 with heap := h', toks := tk } :=
    fun h' u tk k => wpAny_formatField_str ⟨.str _, H1, I1.un (Un.kept k) (I1.hok.kept k), ⟨_, rfl⟩, q⟩ ⟨.str _, H1, I1.un (Un.kept k) (I1.hok.kept k), ⟨_, rfl⟩, q⟩ len
  cases its with
  | nil =>
    have z : ns = [] := by
      cases ns with
      | nil => rfl
      | cons _ _ => cases rv
    subst z
    exact wpAny_pyReprObj_list_empty ⟨_, ho, rfl⟩ (by omega) ho rfl (fin t1.heap _ _ fun _ _ e => e)
  | cons y l =>
    refine wpAny_pyReprObj_listK (as := []) (h₀ := t1.heap) (d := 0) ho rfl rfl (by simp) (by simpa using shows.length_eq) (fun i z ez => shows.item i z (by simpa using ez)) gs (fun b hb => ?_) (by omega) (fun _ _ z => z) (fun h' u tk k => ?_) (by simpa only [PyData.shown] using len)
    · rw [List.mem_singleton.mp hb]
      exact cl
    · have := fin h' u tk k
      simpa only [PyData.shown] using this

/-! ### an own object, shown within a list -/
abbrev Shw := V → Str → Hp → Prop
def ShG (X : Cx) (n : Nat) (D : Shw) : Prop := ∀ (A : Around) (g : List Code) (base : Nat) (pins : List (Addr × Obj)) (s : Shared) (σ : L2.St) (H : Hp) (x : V) (u : Value) (t : Str),
  A.guards = some g → (∀ b, H b = none → Clear g b) → L2.Sub X n A → Inv X pins σ H s → RelV x u → D x t H → base + t.length ≤ sizeLine →
    wpAny (model X.prog X.w) A (pyReprUnder base u) (fun r s' => r = t ∧ ∃ H', Inv X pins σ H' s' ∧ Same H H') X.xe s
def spShow (R : Addr → Str → Hp → Prop) : Sp := fun vs H Q _ => ∃ (a : Addr) (t : Str), vs = [.ref a] ∧ R a t H ∧ ∀ H', Same H H' → Q (.str t) H'
def DOwn (C : Addr) (R : Addr → Str → Hp → Prop) : Shw := fun x t H => ∃ a dx fs, x = .ref a ∧ H a = some (.ins C dx fs) ∧ R a t H
theorem boundBy_K {M : Model} {A : Around} {E : Value → Shared → Prop} {s : Shared} {K : PySem.W.Frag} {x C f : Addr} {ox : Obj} {od : Option Obj} {name : Str} {last : Value → List Value → Sem Value} {Q : Option Value → Shared → Prop}
    (X : K.In s.heap) (I : PySem.W.InstAt s.heap x ox C od) (hs : PySem.W.findIn K (.ref C) name = some (some (.ref f))) (hf : PySem.W.isFn K (.ref f) = true)
    (h : wpAny M A (last (.ref f) [.ref x]) (fun v => Q (some v)) E s) : wpAny M A (callSpecialIfBoundBy? last (.ref x) name) Q E s := by
  simp only [callSpecialIfBoundBy?, bindSpecialIfBound?]
  refine wpAny_holding (wpAny_bind (wpAny_bind (wpAny_bind (I.type.here ((PySem.W.looks_findIn X hs).here ?_)))))
  refine wpAny_bind (wpAny_askSetting (wpAny_ite ?_))
  have fin : wpAny M A (last (.ref f) [.ref x] >>= fun v => pure (some v)) Q E s := wpAny_bind (wpAny_mono h (fun v s' h' => wpAny_pure h') fun _ _ h' => h')
  split
  · exact wpAny_bind ((PySem.W.bind_fn X _ (beq_iff_eq.mp hf)).here (wpAny_pure (by exact fin)))
  · exact wpAny_tryCatch (wpAny_bind ((PySem.W.bind_fn X _ (beq_iff_eq.mp hf)).here (wpAny_pure (by exact fin))))
theorem shG_own {CX : CXT} {n : Nat} {C f : Addr} {fd : FuncData} {ps : List Str} {R : Addr → Str → Hp → Prop} {E : XK} (F : FnH X.prog X.w X.K X.mg X.base CX n f fd ps (spShow R))
    (hs : PySem.W.findIn X.K (.ref C) "__repr__" = some (some (.ref f))) (hf : PySem.W.isFn X.K (.ref f) = true) (hb : Binds X.K fd ps []) (hx : Passes CX X E) : ShG X n (DOwn C R) := by
  intro A g base pins s σ H x u t gs cl sb I rx d len
  obtain ⟨a, dx, fs, rfl, ha, hr⟩ := d
  cases rx
  obtain ⟨mA, J, _⟩ := ins_get I.hok ha
  obtain ⟨od, J, _⟩ := J.look
  refine wpAny_pyReprUnder_ref (by omega) ?_
  unfold pyReprObjUnder pyReprObjBy
  refine wpAny_bind (wpAny_cRoomFor sb.room.units0 ?_)
  refine wpAny_bind (wpAny_bind (J.type.here ((PySem.W.looks_findIn I.kIn hs).here ?_)))
  show wpAny _ _ (if (some (Value.ref f)).isNone = true then _ else _) _ _ _
  rw [if_neg (by simp)]
  refine wpAny_bind (boundBy_K (name := Str.ofString "__repr__") I.kIn J hs hf ?_)
  have hsp : spShow R [.ref a] H (fun v H' => v = .str t ∧ Same H H') E := ⟨a, t, rfl, hr, fun H' e => ⟨rfl, e⟩⟩
  have e0 : Env0 X.prog X.w X.K X.mg X.base A X.stack s H := by
    have e := I.env0
    exact ⟨by rw [sb.fr]; exact e.frames, e.mod, e.bs, e.bsz, e.funs, e.frf, e.hok, e.bare⟩
  have hl := F.arity _ _ _ _ hsp
  refine wpAny_call (codeAny_mono (F.go g A X.stack s H ⟨[.ref a], []⟩ [.ref a] [.ref a] _ E gs cl sb.room e0 (by
    have := hb s [.ref a] I.kIn (by simpa using hl)
    simpa using this) (.cons rfl .nil) hsp) fun r s' hq => ?_)
  cases r with
  | error e => exact hx pins σ H s e s' I hq
  | ok fl =>
    cases fl with
    | ret w =>
      obtain ⟨z, H', I', rz, ez, ex⟩ := I.after hq
      subst ez
      obtain ⟨tk, rfl⟩ := rz
      refine wpAny_bind (wpAny_isInstance (T := "str") (b := true) rfl isSubtype_str_str ?_)
      first
        | exact wpAny_pure ⟨_, _, rfl, rfl, H', I', ex⟩
        | (rw [if_pos rfl]; exact wpAny_pure ⟨_, _, rfl, rfl, H', I', ex⟩)
    | next => exact False.elim hq
    | brk => exact False.elim hq
    | cont => exact False.elim hq

/-! ### the loop -/
theorem strs_of : ∀ {ts : List Str} {us : List Value}, Vals (ts.map V.str) us → ∃ done : List (Str × Tok), us = strValues done ∧ done.map (·.1) = ts
  | [], _, .nil => ⟨[], rfl, rfl⟩
  | t :: ts, _, .cons r rs => by
    obtain ⟨k, rfl⟩ := r
    obtain ⟨done, rfl, rfl⟩ := strs_of rs
    exact ⟨(t, k) :: done, rfl, rfl⟩
/-- item by item -/
def ShAll (D : Shw) (xs : List V) (ts : List Str) (H : Hp) : Prop := xs.length = ts.length ∧ ∀ (i : Nat) x t, xs[i]? = some x → ts[i]? = some t → D x t H
theorem under_depth (A : Around) (args : Args) : (A.under (.builtin "list.__repr__.loop" args)).depth ≤ A.depth + 1 := by
  show A.depth + _ ≤ _
  first | exact Nat.le_refl _ | (simp [Around.under, Code.weight])
theorem under_room {n : Nat} {A : Around} (r : Room (n + 1) A) (args : Args) : Room n (A.under (.builtin "list.__repr__.loop" args)) :=
  ⟨by first | exact r.hd | (simpa [Around.under] using r.hd), by have := r.dp; have := under_depth A args; omega, by have := r.un; rw [units_under_list_loop]; omega⟩
theorem under_frames (A : Around) (args : Args) : (A.under (.builtin "list.__repr__.loop" args)).frames = A.frames := by
  first | rfl | simp [Around.under, Code.envs, Code.isFrame, pushEnvs]

open Builtin Builtin.List in
theorem show_loop {n : Nat} {D : Shw} (hD : ∀ x t H H', Same H H' → D x t H → D x t H') (sh : ShG X n D) {A : Around} (sb : L2.Sub X (n + 1) A) (gs : A.guards = some []) {pins : List (Addr × Obj)} {σ : L2.St} {H : Hp} {a P : Addr} {xs : List V} {ts : List Str} {base : Nat} {R : Result → Shared → Prop}
    (ha : H a = some (.lst xs)) (hP : H P = none) (all : ShAll D xs ts H) (hsz : base + (listText ts).length ≤ sizeLine)
    (fin : ∀ s' H' u, Inv X pins σ H' s' → Same H H' → R (.ok (.ret (.str (listText ts) u))) s') (err : ∀ e s', X.xe e s' → R (.error e) s') :
    ∀ (k i : Nat) (s : Shared) (H1 : Hp), xs.length - i = k → i ≤ xs.length → Inv X pins σ H1 s → Same H H1 → H1 P = some (.lst ((ts.take i).map V.str)) →
      codeAny (model X.prog X.w) A (.builtin "list.__repr__.loop" ⟨[.ref a, rawInt i, .ref P, rawInt ((base + piled (ts.take i) : Nat) : Int)], []⟩) R s := by
  obtain ⟨hlen, each⟩ := all
  have hX : (listText ts).length = (textFrom 0 "[" ts).length + 1 := by
    show (textFrom 0 "[" ts ++ "]").length = _
    rw [strLen_append]; rfl
  have hL := textFrom_len ts 0 "["
  have hsz2 : ∀ t ∈ ts, t.length ≤ sizeLine := fun t ht => by
    have h2 := hL.2.1 t ht
    omega
  have hsz3 : (listText ts).length ≤ sizeLine := by omega
  have hp3 := piled_le_listText ts
  intro k
  induction k with
  | zero =>
    intro i s H1 hk hi I e1 hP1
    have hin : i = xs.length := by omega
    obtain ⟨its, na, rv, hoa, _⟩ := I.lst (e1 _ _ ha)
    obtain ⟨acc, nb, rw', hoP, _⟩ := I.lst hP1
    obtain ⟨done, rfl, hdone⟩ := strs_of rw'
    refine codeAny_builtin F.entry_list_repr_loop ?_
    show wpAny _ _ («list.__repr__.loop» ⟨[.ref a, .int i 0, .ref P, .int ((base + piled (ts.take i) : Nat) : Int) 0], []⟩) _ _ s
    rw [repr_loop_tree]
    refine wpAny_bind (wpAny_listItems hoa rfl ?_)
    have hnone : its.toArray[(i : Int).toNat]? = none := by
      have := rv.length
      simp
      omega
    simp only [hnone]
    unfold reprEnd
    refine wpAny_bind (wpAny_listItems hoP rfl ?_)
    have e0 : (strValues done).toArray.toList = strValues done := by simp
    rw [e0, repr_fold]
    refine wpAny_bind (wpAny_pure ?_)
    have hall : done.map (·.1) = ts := by rw [hdone, hin, hlen, List.take_length]
    rw [hall]
    refine wpAny_bind (wpAny_mkStr (wpAny_pure ?_) hsz3)
    exact fin _ H1 _ (I.tok _) e1
  | succ k ih =>
    intro i s H1 hk hi I e1 hP1
    have hlt : i < xs.length := by omega
    have hlt2 : i < ts.length := by omega
    obtain ⟨its, na, rv, hoa, _⟩ := I.lst (e1 _ _ ha)
    have hl := rv.length
    have ht : ts[i]? = some ts[i] := List.getElem?_eq_getElem hlt2
    have hx : xs[i]? = some xs[i] := List.getElem?_eq_getElem hlt
    obtain ⟨u, hu, ru⟩ := rv.get hx
    have hp1 := piled_take_succ ht
    have hp2 := piled_take_le ts (i + 1)
    refine codeAny_builtin F.entry_list_repr_loop ?_
    show wpAny _ _ («list.__repr__.loop» ⟨[.ref a, .int i 0, .ref P, .int ((base + piled (ts.take i) : Nat) : Int) 0], []⟩) _ _ s
    rw [repr_loop_tree]
    refine wpAny_bind (wpAny_listItems hoa rfl ?_)
    have hsome : its.toArray[(i : Int).toNat]? = some u := by
      rw [Int.toNat_natCast]
      simpa using hu
    simp only [hsome]
    have aH1 : H1 a = some (.lst xs) := e1 _ _ ha
    refine wpAny_bind (wpAny_holding (wpAny_mono (sh _ _ (base + piled (ts.take i) + 1) pins s σ H1 xs[i] u ts[i] (guards_under_guard (isGuard_list_loop _) gs) (fun b hb => (Clear.nil b).cons (a := a) (ne_of_none aH1 hb)) ⟨under_room sb.room _, (under_frames A _).trans sb.fr⟩ I ru (hD _ _ _ _ e1 (each i _ _ hx ht)) (by omega)) (fun r s1 got => ?_) err))
    obtain ⟨rfl, H2, I2, e2⟩ := got
    refine wpAny_bind (wpAny_mkStr ?_ (hsz2 _ (List.mem_of_getElem? ht)))
    refine wpAny_bind ?_
    show wpAny _ _ (updateSeq P _) _ _ _
    obtain ⟨acc, nb, rw', hoP, hz⟩ := I2.lst (e2 _ _ hP1)
    have hacc : acc.length ≤ sizeLine := by rw [← rw'.length]; exact hz
    refine wpAny_updateSeq hoP rfl (wpAny_pure ⟨F.quiet_list_repr_loop _, ?_⟩) (by simpa using hacc)
    have q1 : ((i : Int) + 1) = ((i + 1 : Nat) : Int) := by omega
    have q2 : base + piled (ts.take i) + (ts[i].length + 2) = base + piled (ts.take (i + 1)) := by omega
    rw [q1, Int.toNat_natCast, q2]
    have e3 : ts.take (i + 1) = ts.take i ++ [ts[i]] := by rw [List.take_add_one, ht]; rfl
    refine ih (i + 1) _ (upd H2 P (.lst ((ts.take (i + 1)).map V.str))) (by omega) hlt ?_ ?_ upd_same
    · refine Inv.lset (its' := acc ++ [.str ts[i] s1.toks]) (t' := s1.toks + 1) (I2.tok (s1.toks + 1)) (e2 _ _ hP1) hoP (by simp) ?_ ?_
      · rw [e3, List.map_append]
        exact Vals.append rw' (.cons ⟨_, rfl⟩ .nil)
      · rw [List.length_map, List.length_take]
        have := hL.1
        rw [if_neg (Nat.lt_irrefl 0)] at this
        omega
    · intro b o e
      rw [upd_ne (ne_of_none e hP)]
      exact e2 _ _ (e1 _ _ e)
/-- repr([..]), each item shown as D says -/
def rReprG (D : Shw) : List V → Hp → VK → Prop := fun xs H Q => ∃ (a : Addr) (vs : List V) (ts : List Str), xs = [.ref a] ∧ H a = some (.lst vs) ∧ ShAll D vs ts H ∧ (listText ts).length ≤ sizeLine ∧ ∀ H', Same H H' → Q (.str (listText ts)) H'
theorem cr_reprG {n : Nat} {D : Shw} (hD : ∀ x t H H', Same H H' → D x t H → D x t H') (sh : ShG X n D) (gs : X.A.guards = some []) (hr : Room (n + 2) X.A) : CallR X (.builtin "repr") (rReprG D) := by
  intro pins s σ H xs us Q I r h
  obtain ⟨a, vs, ts, rfl, ha, all, len, q⟩ := h
  cases r with
  | @cons _ u _ _ r1 r2 =>
    cases r2
    cases r1
    have hu := hr.units
    obtain ⟨its, na, rv, hoa, _⟩ := I.lst ha
    have fin : ∀ (H' : Hp) (s' : Shared) (k : Nat), Inv X pins σ H' s' → Same H H' → ∃ (x : Str) (t : Nat), Value.str (listText ts) k = .str x t ∧ EP X pins σ Q (.str (listText ts) k) s' :=
      fun H' s' k I' e => ⟨_, _, rfl, .str (listText ts), H', I', ⟨_, rfl⟩, q H' e⟩
    refine call_repr_slot (by omega) ⟨_, hoa, rfl⟩ F.slot_list_repr.toG ?_
    cases its with
    | nil =>
      have z : vs = [] := by
        cases vs with
        | nil => rfl
        | cons _ _ => cases rv
      subst z
      have z2 : ts = [] := List.length_eq_zero_iff.mp (by simpa using all.1.symm)
      subst z2
      exact call_list_repr_empty ⟨_, hoa, rfl⟩ hoa rfl (fin H _ _ (I.tok _) (Same.refl _))
    | cons y l =>
      refine wpAny_call (codeAny_call_builtin F.slot_list_repr.plain F.entry_list_repr (F.slot_list_repr.check _ _ _ _ _ _ _ _ ⟨_, hoa, rfl⟩ (F.args_list_repr_1 _) ?_))
      refine wpAny_list_repr_head (A := X.A.in1.in1) (b := 0) gs (fun v rest kw hm => nomatch hm) hoa rfl ?_
      refine wpAny_bind (m := newList []) (wpAny_newObj_type ?_)
      refine wpAny_pure ⟨F.quiet_list_repr_loop _, ?_⟩
      have hf := I.fresh
      have I1 : Inv X pins σ (upd H s.heap.objs.size (.lst [])) { s with heap := s.heap.push { cls := .type "list", data := .seq #[] } } := Inv.lnew (its := []) (t' := s.toks) I .nil (Nat.zero_le _)
      exact show_loop (base := 0) hD sh (A := X.A.in1) ⟨hr.in1, rfl⟩ gs ha hf all (by omega) (fun s' H' u I' e => fin H' s' u I' e) (fun e s' h => h) _ 0 _ _ rfl (Nat.zero_le _) I1 (fun b o e => Ext.upd hf b o e) upd_same
end
end Par
namespace K33
open PySem PySem.Spec PyProof.Rows L2 Par Msk
theorem eqv_lints : ∀ ns : List Int, (PyData.list (ns.map PyData.int)).plain = true := fun ns => by
  show PyData.plainAll _ = true
  induction ns with
  | nil => rfl
  | cons x xs ih => simpa [PyData.plainAll, PyData.plain] using ih
theorem plain_strs (xs : List Str) : (PyData.list (xs.map PyData.str)).plain = true := by
  show PyData.plainAll _ = true
  induction xs with
  | nil => rfl
  | cons x xs ih => simpa [PyData.plain, PyData.plainAll] using ih
theorem depth_strs (xs ys : List Str) : min (PyData.list (xs.map PyData.str)).depth (PyData.list (ys.map PyData.str)).depth ≤ 64 := by
  refine Nat.le_trans (Nat.min_le_left _ _) ?_
  have e := depthAll (ds := xs.map PyData.str) (n := 0) fun d hd => by
    obtain ⟨x, _, rfl⟩ := List.mem_map.mp hd
    exact Nat.le_refl 0
  show PyData.depthAll _ + 1 ≤ 64
  omega
theorem depth_ints2 (xs ys : List Int) : min (PyData.list (xs.map PyData.int)).depth (PyData.list (ys.map PyData.int)).depth ≤ 64 := by
  refine Nat.le_trans (Nat.min_le_left _ _) ?_
  have e := depthAll (ds := xs.map PyData.int) (n := 0) fun d hd => by
    obtain ⟨x, _, rfl⟩ := List.mem_map.mp hd
    exact Nat.le_refl 0
  show PyData.depthAll _ + 1 ≤ 64
  omega
theorem map_str (g : List Int → Str) : ∀ l : List (List Int), (l.map fun ns => V.str (g ns)) = (l.map g).map V.str
  | [] => rfl
  | _ :: l => congrArg _ (map_str g l)
theorem sorted_one {ns ms ms2 : List Int} (h1 : ms.Perm ns) (h2 : ms2.Perm ns) (s1 : ms.Pairwise (· ≤ ·)) (s2 : ms2.Pairwise (· ≤ ·)) : ms = ms2 :=
  List.Perm.eq_of_pairwise (fun a b _ _ h1 h2 => Int.le_antisymm h1 h2) s1 s2 (h1.trans h2.symm)
theorem te_outE {t : TE} {σ : L2.St} {H : Hp} {Q : VK} (R : V → Hp → Prop) (out : ∀ v H', R v H' → Q v H') (h : ∀ Q' : VK, (∀ v H', R v H' → Q' v H') → t σ H Q') : t σ H Q := h Q out
theorem same_butL {p : Addr} {H H1 H2 : Hp} (hp : H p = none) (s : Same H H1) (b : But p H1 H2) : Same H H2 := fun z o e => b z o (ne_of_none e hp) (s z o e)
theorem PrsQ.but {p : Addr} {H H' : Hp} {m : Nat} {as : List Addr} {ps : List (List Int × List Int)} (hp : PotAt H p) (b : But p H H') (h : PrsQ [p] H m as ps) : PrsQ [p] H' m as ps := h.mono fun a ts hs q => q.keep (fun _ z => z) (fun c hc xs e => by
    obtain ⟨_, _, e2, _⟩ := hp
    rw [List.mem_singleton.mp hc, e2] at e
    cases e) fun c o hc e => b c o (fun z => hc (by simp [z])) e
theorem ref_not_int {H : Hp} {p l : Addr} {xs : List Addr} (hp : PotAt H p) (h : H l = some (.lst (xs.map V.ref))) : l ≠ p := fun z => by
  obtain ⟨a, b, e, _⟩ := hp
  rw [z, e] at h
  injection h with h
  injection h with h
  cases xs with
  | nil => cases h
  | cons x xs => injection h with h _; cases h
def Rt (C : Addr) : Addr → Addr → Hp → Prop := fun a b H => ∃ ms, Tb C H a ms ∧ Tb C H b ms
theorem mon_t {C : Addr} : Mon (DIns C (Rt C)) := mon_ins fun a b H H' e r => by
  obtain ⟨ms, h1, h2⟩ := r
  exact ⟨ms, h1.same e, h2.same e⟩
theorem dins_t {C : Addr} {H : Hp} {a b : Addr} {ms : List Nat} (h1 : Tb C H a ms) (h2 : Tb C H b ms) : DIns C (Rt C) (.ref a) (.ref b) H := by
  obtain ⟨dx, x1, e1, _⟩ := id h1
  obtain ⟨dy, y1, e2, _⟩ := id h2
  exact ⟨a, b, dx, dy, _, _, rfl, rfl, e1, e2, ms, h1, h2⟩
theorem own_ne {C : Addr} {H : Hp} {a b : Addr} {R S : List Nat} {Q : VK} (h1 : Tb C H a R) (h2 : Tb C H b S) (e : R = S) (q : Q (.bl false) H) : rOwn C (spTEq C) E0 true (.ref a) (.ref b) H Q := by
  obtain ⟨dx, t, a1, _⟩ := id h1
  obtain ⟨dy, u, b1, _⟩ := id h2
  refine ⟨a, b, dx, dy, _, _, rfl, rfl, a1, b1, a, b, R, S, rfl, h1, h2, _, rfl, ?_⟩
  rw [decide_eq_true e]
  exact q
theorem own_eqB {C : Addr} {H : Hp} {a b : Addr} {R S : List Nat} {Q : VK} (h1 : Tb C H a R) (h2 : Tb C H b S) (q : Q (.bl (decide (R = S))) H) : rOwn C (spTEq C) E0 false (.ref a) (.ref b) H Q := by
  obtain ⟨dx, t, a1, _⟩ := id h1
  obtain ⟨dy, u, b1, _⟩ := id h2
  refine ⟨a, b, dx, dy, _, _, rfl, rfl, a1, b1, a, b, R, S, rfl, h1, h2, _, rfl, ?_⟩
  rw [Bool.false_xor]
  exact q
theorem Prs.append {K : PySem.W.Frag} {H : Hp} {bs : List Addr} {qs : List (List Int × List Int)} (h2 : Prs K H bs qs) : ∀ {as : List Addr} {ps : List (List Int × List Int)}, Prs K H as ps → Prs K H (as ++ bs) (ps ++ qs)
  | [], [], _ => h2
  | _ :: _, _ :: _, h => ⟨h.1, Prs.append h2 h.2⟩
  | [], _ :: _, h => h.elim
  | _ :: _, [], h => h.elim
theorem Prs.reverse {K : PySem.W.Frag} {H : Hp} : ∀ {as : List Addr} {ps : List (List Int × List Int)}, Prs K H as ps → Prs K H as.reverse ps.reverse
  | [], [], _ => True.intro
  | a :: as, t :: ts, h => by
    rw [List.reverse_cons, List.reverse_cons]
    exact Prs.append (show Prs K H [a] [t] from ⟨h.1, True.intro⟩) h.2.reverse
  | [], _ :: _, h => h.elim
  | _ :: _, [], h => h.elim
theorem plain_tups (R : List Nat) : (PyData.list (R.map fun m => PyData.tuple ((cellsI m).map PyData.int))).plain = true := by
  show PyData.plainAll _ = true
  have e : ∀ ns : List Int, PyData.plainAll (ns.map PyData.int) = true := fun ns => by
    induction ns with
    | nil => rfl
    | cons x xs ih => simpa [PyData.plainAll, PyData.plain] using ih
  induction R with
  | nil => rfl
  | cons x xs ih => simpa [PyData.plain, PyData.plainAll, e] using ih
theorem depth_tups (R : List Nat) : (PyData.list (R.map fun m => PyData.tuple ((cellsI m).map PyData.int))).depth ≤ 64 := by
  have e := depthAll (ds := R.map fun m => PyData.tuple ((cellsI m).map PyData.int)) (n := 1) fun d hd => by
    obtain ⟨x, _, rfl⟩ := List.mem_map.mp hd
    have e2 := depthAll (ds := (cellsI x).map PyData.int) (n := 0) fun d hd => by
      obtain ⟨y, _, rfl⟩ := List.mem_map.mp hd
      exact Nat.le_refl 0
    show PyData.depthAll _ + 1 ≤ 1
    omega
  show PyData.depthAll _ + 1 ≤ 64
  omega
section
variable {P : Program} {w : World} {K : PySem.W.Frag} {mg : Str → Option Value} {base : Heap}
theorem dps_tups {H : Hp} : ∀ {xs : List Addr} {R : List Nat}, TupsAt H xs (R.map cellsI) → DpAll K H (xs.map V.ref) (R.map fun m => PyData.tuple ((cellsI m).map PyData.int))
  | [], [], _ => .nil
  | _ :: _, _ :: _, h => .cons (.tup (SqT.of h.1) (dps_ints _)) (dps_tups h.2)
  | [], _ :: _, h => h.elim
  | _ :: _, [], h => h.elim
theorem eq_promise {f C : Addr} {fd : FuncData} (F : FnOk P w K mg base CX0 2 f fd ["self", "other"] (spTEq C)) : FnOk P w K mg base CX0 2 f fd ["self", "other"] (spEq (Rt C)) := F.imp fun vs H Q E h => by
  obtain ⟨a, b, rfl, ⟨ms, h1, h2⟩, q⟩ := h
  refine ⟨a, b, ms, ms, rfl, h1, h2, ?_⟩
  rw [decide_eq_true rfl]
  exact q H Ext.rfl'
def HasTE (P : Program) (w : World) (K : PySem.W.Frag) (mg : Str → Option Value) (base : Heap) (C : Addr) : Prop :=
  ∃ f fd, FnOk P w K mg base CX0 2 f fd ["self", "other"] (spTEq C) ∧ EqC K C f ∧ Binds K fd ["self", "other"] []
def HasG (P : Program) (w : World) (K : PySem.W.Frag) (mg : Str → Option Value) (base : Heap) (x : Str) (lv : Nat) (ps : List Str) (sp : Sp) : Prop :=
  ∃ f fd, FnG P w K mg base CX0 lv f fd ps sp ∧ mg x = some (.ref f) ∧ PySem.W.keepIn K (.ref f) = true ∧ Binds K fd ps []
end
section
variable {P : Program} {w : World} {K : PySem.W.Frag} {mg : Str → Option Value} {base : Heap}
/-- row -/
def spRow (C : Addr) : Sp := fun vs H Q _ => ∃ (b : Addr) (ms : List Nat) (k : Int), vs = [.ref b, .int k] ∧ Tb C H b ms ∧ ms.length ≤ 40 ∧ (∀ m ∈ ms, m < 2 ^ ms.length) ∧ 0 ≤ k ∧ k < ((ms.length : Nat) : Int) ∧
  ∀ p H', H p = none → Same H H' → H' p = some (.tup ((cellsI (ms.getD k.toNat 0)).map V.int)) → Q (.ref p) H'
theorem scRow : FnScope ["self", "cell"] ["self", "cell"] (defScope hRow) := ⟨rfl, rfl, rfl, by decide +kernel, rfl, by decide +kernel, by decide +kernel⟩
theorem ok_row {f C : Addr} {fd : FuncData} (F : Fun K "row" "Table.row" hRow f fd) (T : TC K mg C) (DS : HasM P w K mg base C "size" 2 ["self"] (spTSize C)) (DC : HasN P w K mg base "is_cell" 3 "thing" spIsCell) (DX : Has P w K mg base "cells_of" 2 ["mask"] spCellsOf) :
    FnOk P w K mg base CX0 4 f fd ["self", "cell"] (spRow C) := by
  obtain ⟨fS, fdS, GS, mS, bS⟩ := DS
  obtain ⟨fD, fdD, GD, mD, kD, bD⟩ := DC
  obtain ⟨fX, fdX, GX, mX, kX, bX⟩ := DX
  refine F.ok scRow (fun vs H Q E h => ?_) (fun cdv A outer s H vs Q E hr h => ?_)
  · obtain ⟨b, ms, k, rfl, _⟩ := h
    rfl
  · obtain ⟨b, ms, k, rfl, hB, l40, lt, k0, k1, out⟩ := h
    obtain ⟨dx, t, h1, h2⟩ := id hB
    have r1 : Room 2 (A.deeper (envOfC "Table.row" (defScope hRow) s.heap.objs.size f cdv)) := hr.mono (by decide)
    refine ⟨_, pss_cons (ps_if (pt_not (pt_val (pe_callN (n := 1) (ks := ["size"]) GD hr (by rfl) mD kD bD pass0 (pa_cons (pv 1) pa_nil) (pk_cons (pe_meth0 (pv 0) T.cl mS GS r1 bS .nil pass0) pk_nil)))) (pss_one ps_off) pss_nil)
      (pss_one (ps_ret (pe_call GX r1 (by rfl) mX kX bX .nil pass0 (pa_cons (pe_ix ix_tup (pe_fld (pv 0) rfl) (pv 1) (fun _ _ => rfl)) pa_nil)))), ?_⟩
    refine ⟨_, rfl, _, rfl, b, dx, _, rfl, h1, no_fldM (by decide +kernel), b, ms, rfl, hB, rfl, rfl, k, ((ms.length : Nat) : Int), rfl, _, rfl, ?_⟩
    rw [show decide ((0 : Int) ≤ k) = true from decide_eq_true k0, show decide (k ≤ ((ms.length : Nat) : Int) - 1) = true from decide_eq_true (by omega)]
    refine iteF ?_
    refine ⟨_, rfl, b, C, dx, _, _, rfl, h1, T.cl, T.nM, fldM, _, rfl, t, _, k, _, rfl, rfl, SqT.of h2, mV_atI k0 k1, ?_⟩
    refine ⟨ms.getD k.toNat 0, rfl, Nat.lt_of_lt_of_le (getD_lt lt _) (Nat.pow_le_pow_right (by decide) l40), fun p H' hp s1 e1 => out p H' hp s1 e1⟩
end
def imgB (ms : List Nat) (bs : List Int) : List Int := mkB ms.length fun k => decide (parB bs (cellsI (ms.getD k.toNat 0)) = 1)
theorem img_run {R : List Nat} {n : Nat} {ps : List (List Int × List Int)} {bs : List Int} (r : Rep R n ps) (f : Fit1 n ps) (ok : OkB bs) (hl : bs.length = n) : imgB R bs = runB bs ps := by
  have o := run_okp (fun t ht k hk => ((f t ht).2.1 k hk).1) ok
  refine List.ext_getElem (by unfold imgB; rw [mkB_len, run_len, r.len, hl]) fun i h1 h2 => ?_
  have hi : i < n := by rw [run_len] at h2; omega
  have e1 : (imgB R bs)[i] = if (decide (i = 0) || decide (parB bs (cellsI (R.getD (i : Int).toNat 0)) = 1)) = true then 1 else 0 := by
    unfold imgB mkB
    simp
  have e2 : (runB bs ps)[i] = (runB bs ps).getD i 0 := by
    rw [List.getD_eq_getElem?_getD, List.getElem?_eq_getElem h2]
    rfl
  rw [e1, e2, Int.toNat_natCast, r.does bs ok hl i hi]
  rcases bit_at o h2 with z | z
  · have i0 : i ≠ 0 := fun y => by
      subst y
      rw [List.getD_eq_getElem?_getD, o.2.1] at z
      cases z
    rw [z, decide_eq_false i0]
    rfl
  · rw [z, decide_eq_true rfl, Bool.or_true]
    rfl
section
variable {P : Program} {w : World} {K : PySem.W.Frag} {mg : Str → Option Value} {base : Heap}
def spImage (C CB : Addr) : Sp := fun vs H Q _ => ∃ (b bd : Addr) (ms : List Nat) (bs : List Int), vs = [.ref b, .ref bd] ∧ Tb C H b ms ∧ Bd CB H bd bs ∧ OkB bs ∧ bs.length = ms.length ∧ (∀ m ∈ ms, m < 2 ^ ms.length) ∧
  ∀ q H', H q = none → Same H H' → Bd CB H' q (imgB ms bs) → Q (.ref q) H'
abbrev nImage : List Str := ["self", "board", "up", "cell"]
theorem scImage : FnScope nImage ["self", "board"] (defScope hImage) := ⟨rfl, rfl, rfl, by decide +kernel, rfl, by decide +kernel, by decide +kernel⟩
def upT (ms : List Nat) (bs : List Int) (i : Nat) : List Int := ((List.range i).filter fun j => decide (parB bs (cellsI (ms.getD j 0)) = 1)).map fun (j : Nat) => (j : Int)
theorem range_filt (q : Nat → Bool) (i : Nat) : ((List.range (i + 1)).filter q).map (fun (j : Nat) => (j : Int)) = ((List.range i).filter q).map (fun (j : Nat) => (j : Int)) ++ (if q i = true then [(i : Int)] else []) := by
  rw [List.range_succ, List.filter_append, List.map_append]
  congr 1
  cases h : q i <;> simp [h]
theorem upT_step (ms : List Nat) (bs : List Int) (i : Nat) : upT ms bs (i + 1) = upT ms bs i ++ (if parB bs (cellsI (ms.getD i 0)) = 1 then [(i : Int)] else []) := by
  have h := range_filt (fun j => decide (parB bs (cellsI (ms.getD j 0)) = 1)) i
  unfold upT
  rw [h]
  by_cases z : parB bs (cellsI (ms.getD i 0)) = 1
  · rw [if_pos z, if_pos (decide_eq_true z)]
  · rw [if_neg z, if_neg (by rw [decide_eq_false z]; exact Bool.false_ne_true)]
theorem upT_mem {ms : List Nat} {bs : List Int} {i : Nat} {k : Int} : k ∈ upT ms bs i ↔ ∃ j : Nat, k = (j : Int) ∧ j < i ∧ parB bs (cellsI (ms.getD j 0)) = 1 := by
  unfold upT
  simp only [List.mem_map, List.mem_filter, List.mem_range, decide_eq_true_eq]
  constructor
  · rintro ⟨j, ⟨h1, h2⟩, rfl⟩
    exact ⟨j, rfl, h1, h2⟩
  · rintro ⟨j, rfl, h1, h2⟩
    exact ⟨j, ⟨h1, h2⟩, rfl⟩
theorem upT_up (ms : List Nat) (bs : List Int) (i : Nat) : (upT ms bs i).Pairwise (· < ·) := by
  unfold upT
  refine List.Pairwise.map _ (fun a b h => ?_) ((range_up i).filter _)
  show (a : Int) < (b : Int)
  exact Int.ofNat_lt.mpr h
theorem upT_len (ms : List Nat) (bs : List Int) (i : Nat) : (upT ms bs i).length ≤ i := by
  unfold upT
  rw [List.length_map]
  have := List.length_filter_le (fun j => decide (parB bs (cellsI (ms.getD j 0)) = 1)) (List.range i)
  rw [List.length_range] at this
  exact this
theorem up_img (ms : List Nat) (bs : List Int) : (mkB ms.length fun k => decide (k ∈ upT ms bs ms.length)) = imgB ms bs := by
  unfold imgB mkB
  refine List.map_congr_left fun i hi => ?_
  have hi2 := List.mem_range.mp hi
  show (if (decide (i = 0) || decide ((i : Int) ∈ upT ms bs ms.length)) = true then (1 : Int) else 0) = if (decide (i = 0) || decide (parB bs (cellsI (ms.getD i 0)) = 1)) = true then 1 else 0
  have e : decide ((i : Int) ∈ upT ms bs ms.length) = decide (parB bs (cellsI (ms.getD i 0)) = 1) := by
    by_cases z : parB bs (cellsI (ms.getD i 0)) = 1
    · rw [decide_eq_true z, decide_eq_true (upT_mem.mpr ⟨i, rfl, hi2, z⟩)]
    · rw [decide_eq_false z, decide_eq_false fun y => ?_]
      obtain ⟨j, ej, _, pj⟩ := upT_mem.mp y
      have : i = j := by omega
      rw [this] at z
      exact z pj
  rw [e]
theorem ok_image {f C CB : Addr} {fd : FuncData} (F : Fun K "image" "Table.image" hImage f fd) (B : Bl mg) (T : TC K mg C) (TB : BC K mg CB) (DK : HasM P w K mg base C "check_size" 3 ["self", "size"] (spCheck C)) (DS : HasM P w K mg base C "size" 2 ["self"] (spTSize C)) (DR : HasM P w K mg base C "row" 4 ["self", "cell"] (spRow C))
    (DZ : HasM P w K mg base CB "size" 2 ["self"] (spSize CB)) (DP : HasM P w K mg base CB "parity" 6 ["self", "cells"] (spPar K CB)) (DI : HasIni P w K mg base CB) : FnOk P w K mg base CX0 8 f fd ["self", "board"] (spImage C CB) := by
  obtain ⟨fK, fdK, GK, mK, bK⟩ := DK
  obtain ⟨fS, fdS, GS, mS, bS⟩ := DS
  obtain ⟨fR, fdR, GR, mR, bR⟩ := DR
  obtain ⟨fZ, fdZ, GZ, mZ, bZ⟩ := DZ
  obtain ⟨fP, fdP, GP, mP, bP⟩ := DP
  obtain ⟨fI, fdI, GI, MI, kb2, _⟩ := DI
  refine F.ok scImage (fun vs H Q E h => ?_) (fun cdv A outer s H vs Q E hr h => ?_)
  · obtain ⟨b, bd, ms, bs, rfl, _⟩ := h
    rfl
  · obtain ⟨b, bd, ms, bs, rfl, hT, hB, okb, el, lt, out⟩ := h
    obtain ⟨dx, t, h1, h2⟩ := id hT
    obtain ⟨dy, u, g1, g2⟩ := id hB
    have r2 : Room 2 (A.deeper (envOfC "Table.image" (defScope hImage) s.heap.objs.size f cdv)) := hr.mono (by decide)
    have r3 : Room 3 (A.deeper (envOfC "Table.image" (defScope hImage) s.heap.objs.size f cdv)) := hr.mono (by decide)
    have r4 : Room 4 (A.deeper (envOfC "Table.image" (defScope hImage) s.heap.objs.size f cdv)) := hr.mono (by decide)
    have r6 : Room 6 (A.deeper (envOfC "Table.image" (defScope hImage) s.heap.objs.size f cdv)) := hr.mono (by decide)
    have l40 : ms.length ≤ 40 := by
      have := okb.2.2
      omega
    have l1 : 1 ≤ bs.length := by
      have := (List.getElem?_eq_some_iff.mp okb.2.1).1
      omega
    refine ⟨_, pss_cons (ps_expr (pe_meth (pv 0) T.cl mK GK r3 bK .nil pass0 (pa_cons (pe_meth0 (pv 1) TB.cl mZ GZ r2 bZ .nil pass0) pa_nil)))
      (pss_cons (ps_setLc (i := 2) (own := [("cell", 3)]) (g := gName 3) (tt := tTest (tOp rEq (tMeth CB "parity" (spPar K CB) [] E0 (tVar 1) (tCons (tMeth C "row" (spRow C) [] E0 (tVar 0) (tCons (tVar 3) tNil)) tNil)) (tC (.int 1)))) rfl scImage.nd rfl rfl (sw_true rfl rfl rfl (by decide +kernel)) (pi_range1 (by rfl) B.range (pa_cons (pe_meth0 (pv 0) T.cl mS GS r2 bS .nil pass0) pa_nil)) (blkOk_by (own := [("cell", 3)]) (N := nImage) (sc := defScope hImage) (by decide +kernel))
        (fun _ _ _ _ _ => pg_name (i := 3) scImage.nd rfl (Or.inl rfl)) (fun _ _ _ _ _ => by exact pts_one (pt_cmpR op_eq (pe_meth (pv 1) TB.cl mP GP r6 bP .nil pass0 (pa_cons (pe_meth (pv 0) T.cl mR GR r4 bR .nil pass0 (pa_cons (pv 3) pa_nil)) pa_nil)) pe_int (nomark _))) (fun _ _ _ _ _ => pv 3))
      (pss_one (ps_ret (pe_makeN (n := 1) (ks := ["up"]) (E := E0) MI GI hr (by rfl) TB.mgC kb2 pass0 (pa_cons (pe_meth0 (pv 0) T.cl mS GS r2 bS .nil pass0) pa_nil) (pk_cons (pv 2) pk_nil))))), ?_⟩
    refine ⟨_, rfl, b, dx, _, rfl, h1, no_fldM (by decide +kernel), _, rfl, bd, dy, _, rfl, g1, no_fld (by decide +kernel), bd, bs, rfl, hB, b, ms, (by rw [el]; rfl), hT, ?_⟩
    refine ⟨_, rfl, b, dx, _, rfl, h1, no_fldM (by decide +kernel), b, ms, rfl, hT, _, rfl, by omega, by omega, fun D hD => ?_⟩
    rw [Int.toNat_natCast]
    refine lc_range (lo := 0) (n := ms.length) (fun i H' => Same H H' ∧ H' D = some (.lst ((upT ms bs i).map V.int))) ⟨same_new hD, upd_same⟩ ?_ ?_
    · rintro i H2 hi ⟨s2, hD2⟩
      rw [Int.zero_add]
      refine ⟨rfl, ?_⟩
      refine ⟨_, rfl, bd, dy, _, rfl, s2 _ _ g1, no_fld (by decide +kernel), _, rfl, b, dx, _, rfl, s2 _ _ h1, no_fldM (by decide +kernel), _, rfl, b, ms, (i : Int), rfl, hT.same s2, l40, lt, by omega, by omega, fun p H3 hp s3 e3 => ?_⟩
      rw [Int.toNat_natCast] at e3
      have inn := cellsI_in (getD_lt lt i)
      have few : (cellsI (ms.getD i 0)).length ≤ 40 := cells_few (cellsI_nodup _) fun k hk => by
        have := inn k hk
        exact ⟨by omega, by omega⟩
      refine ⟨bd, p, bs, cellsI (ms.getD i 0), rfl, (hB.same s2).same s3, .inr (SqT.of e3), by omega, fun k hk => by rw [el]; exact inn k hk, cellsI_nodup _, fun H4 s4 => ?_⟩
      have s24 := s3.trans s4
      have st := upT_step ms bs i
      refine ⟨rfl, _, rfl, ?_⟩
      show if decide (V.int (parB bs (cellsI (ms.getD i 0))) = V.int 1) = true then _ else _
      by_cases z : parB bs (cellsI (ms.getD i 0)) = 1
      · rw [if_pos z] at st
        rw [z, decide_eq_true rfl]
        refine iteT ⟨_, rfl, _, s24 _ _ hD2, ?_, ?_, ?_⟩
        · rw [List.length_map]
          have := upT_len ms bs i
          exact small1000 (by omega)
        · intro y o e
          rw [upd_ne (ne_of_none e hD)]
          exact s24 _ _ (s2 y o e)
        · rw [upd_same, st, List.map_append]
          rfl
      · rw [if_neg z, List.append_nil] at st
        rw [decide_eq_false fun y => z (by injection y)]
        refine iteF ⟨s2.trans s24, ?_⟩
        rw [st]
        exact s24 _ _ hD2
    · rintro H2 ⟨s2, hD2⟩
      refine ⟨_, rfl, b, dx, _, rfl, s2 _ _ h1, no_fldM (by decide +kernel), b, ms, rfl, hT.same s2, ?_⟩
      refine ⟨_, rfl, rfl, rfl, made_board (n := ms.length) (ns := upT ms bs ms.length) (.inl (SqL.of hD2)) (by have := upT_len ms bs ms.length; omega) (by omega) l40 (fun k hk => ?_) (up_nodup (upT_up _ _ _)) fun x H3 hx s3 hb => ?_⟩
      · obtain ⟨j, rfl, hj, _⟩ := upT_mem.mp hk
        exact ⟨by omega, by omega⟩
      · rw [up_img] at hb
        exact out x H3 (s2.free hx) (s2.trans s3) hb
end
section
variable {P : Program} {w : World} {K : PySem.W.Frag} {mg : Str → Option Value} {base : Heap}
def spParT (K : PySem.W.Frag) : Sp := fun vs H Q _ => ∃ (a b : Addr) (bs ns : List Int), vs = [.ref a, .ref b] ∧ H a = some (.lst (bs.map V.int)) ∧ H b = some (.tup (ns.map V.int)) ∧ ns.length ≤ 500 ∧ (∀ k ∈ ns, 0 ≤ k ∧ k < bs.length) ∧
  ∀ H', Same H H' → Q (.int (parB bs ns)) H'
abbrev nParT : List Str := ["_law_bits_here", "_law_spots_here", "_law_spot"]
theorem scParT : FnScope nParT ["_law_bits_here", "_law_spots_here"] (defScope sParity) := ⟨rfl, rfl, rfl, by decide +kernel, rfl, by decide +kernel, by decide +kernel⟩
theorem ok_parT {f : Addr} {fd : FuncData} (F : Fun K "_law_parity" "_law_parity" sParity f fd) (B : Bl mg) : FnOk P w K mg base CX0 2 f fd ["_law_bits_here", "_law_spots_here"] (spParT K) := by
  refine F.ok scParT (fun vs H Q E h => ?_) (fun cdv A outer s H vs Q E hr h => ?_)
  · obtain ⟨a, b, bs, ns, rfl, _⟩ := h
    rfl
  · obtain ⟨a, b, bs, ns, rfl, ha, hb, hl, hin, out⟩ := h
    refine ⟨_, pss_one (ps_ret (pe_op op_mod (pe_callB (cr_sum rfl) (by rfl) B.sum (by decide +kernel) (pa_cons (pe_lc (own := [("_law_spot", 2)]) (g := gName 2) (te := tOp (rIxL K) (tVar 0) (tVar 2)) rfl scParT.nd (pi_tup (pv 1)) (blkOk_by (own := [("_law_spot", 2)]) (N := nParT) (sc := defScope sParity) (by decide +kernel))
        (fun _ _ _ _ _ => pg_name (i := 2) scParT.nd rfl (Or.inl rfl)) (fun _ _ _ _ _ => pts_nil) (fun _ _ _ _ _ => by exact pe_ix ix_list (pv 0) (pv 2) (fun _ _ => rfl))) pa_nil)) pe_int)), ?_⟩
    refine ⟨_, rfl, b, rfl, ⟨_, SqT.of hb⟩, fun D hD => ?_⟩
    refine lc_tup (K := K) (a := b) (xs := ns.map V.int) (fun i H' => Same H H' ∧ H' D = some (.lst (((ns.take i).map fun k => bs.getD k.toNat 0).map V.int))) ⟨same_new hD, upd_same⟩ (fun i H' _ h => SqT.of (h.1 _ _ hb)) ?_ ?_
    · rintro i x H2 hx ⟨s2, hD2⟩
      rw [List.getElem?_map] at hx
      obtain ⟨k, hk, rfl⟩ : ∃ k, ns[i]? = some k ∧ x = V.int k := by
        cases e : ns[i]? with
        | none => rw [e] at hx; cases hx
        | some k => rw [e] at hx; exact ⟨k, rfl, (Option.some.inj hx).symm⟩
      obtain ⟨k0, k1⟩ := hin k (List.mem_of_getElem? hk)
      have kl : k.toNat < bs.length := by omega
      have hat : atI (bs.map V.int) k = some (.int bs[k.toNat]) := by
        have z : atI (bs.map V.int) ((k.toNat : Nat) : Int) = some (.int bs[k.toNat]) := atI_nat (by simp [kl])
        rwa [Int.toNat_of_nonneg k0] at z
      refine ⟨rfl, yesT ?_⟩
      refine ⟨_, rfl, _, rfl, a, _, _, .int bs[k.toNat], rfl, rfl, SqL.of (s2 _ _ ha), hat, ?_⟩
      refine ⟨_, hD2, ?_, ?_, ?_⟩
      · rw [List.length_map, List.length_map, List.length_take]
        exact small1000 (by omega)
      · intro z o e
        rw [upd_ne (ne_of_none e hD)]
        exact s2 z o e
      · rw [upd_same, List.take_succ, hk, List.map_append, List.map_append]
        show some (HO.lst (_ ++ [V.int bs[k.toNat]])) = some (HO.lst (_ ++ [V.int (bs.getD k.toNat 0)]))
        rw [List.getD_eq_getElem?_getD, List.getElem?_eq_getElem kl]
        rfl
    · rintro H2 ⟨s2, hD2⟩
      rw [List.length_map, List.take_length] at hD2
      refine ⟨D, _, rfl, SqL.of hD2, _, _, rfl, rfl, (by show (0 : Int) < 2; decide), ?_⟩
      exact out H2 s2
end
end K33
namespace Par
open PySem PySem.Spec PyProof.Rows L2
/-- C(e, ..), what __init__ raises wished for at the slots -/
def tMakeS (C : Addr) (sp : Sp) (E : L2.St → XK) (t : TA) : TE := fun σ H Q => t σ H fun vs H1 =>
  ∀ y dy, H1 y = none → H1 dy = none → dy ≠ y → sp (.ref y :: vs) (upd (upd H1 dy (.own y)) y (.ins C dy [])) (fun v H2 => v = .non ∧ Q (.ref y) H2) (E σ)
section
variable {X : Cx} {CX : CXT} {k : Nat} {f C : Addr} {fd : FuncData} {ps : List Str} {sp : Sp} {E : L2.St → XK} {x : Str} {p pos : Pos} {e : Expr} {es : List Expr} {t : TA}
theorem run_makeS {pins : List (Addr × Obj)} {τ : L2.St} {G : Hp} {s0 : Shared} {Z : VK} {as : List Value} {xs : List V} (M : Mk X.K C f) (F : FnOk X.prog X.w X.K X.mg X.base CX k f fd ps sp)
    (hr : Room (k + 1) X.A) (hb : Binds X.K fd ps []) (hx : PassesAt CX X τ (E τ)) (J : L2.Inv X pins τ G s0) (rr : Vals xs as)
    (h : ∀ y dy, G y = none → G dy = none → dy ≠ y → sp (.ref y :: xs) (upd (upd G dy (.own y)) y (.ins C dy [])) (fun v H2 => v = .non ∧ Z (.ref y) H2) (E τ)) :
    wpAny (model X.prog X.w) X.A (call (.ref C) as) (EP X pins τ Z) X.xe s0 := by
  have here := h (s0.heap.objs.size + 1) s0.heap.objs.size (J.hok.fresh (by omega)) (J.hok.fresh (by omega)) (show s0.heap.objs.size ≠ s0.heap.objs.size + 1 by omega)
  have J2 := Inv.made (C := C) J
  have all : Vals (V.ref (s0.heap.objs.size + 1) :: xs) (Value.ref (s0.heap.objs.size + 1) :: as) := .cons rfl rr
  have len : (Value.ref (s0.heap.objs.size + 1) :: as).length = ps.length := by rw [← all.length]; exact F.len _ _ _ _ here
  have bd := hb _ (Value.ref (s0.heap.objs.size + 1) :: as) J2.kIn (by rw [List.append_nil]; exact len)
  rw [List.append_nil] at bd
  have ran := F.run _ X.stack _ _ ⟨Value.ref (s0.heap.objs.size + 1) :: as, []⟩ (Value.ref (s0.heap.objs.size + 1) :: as) _ _ (E τ) (hr.make C as []) (J2.env0.make C as []) bd all here
  refine wpAny_call (make_map (f := f) J.kIn M.makes M.init (beq_iff_eq.mp M.fn) (codeAny_mono ran ?_))
  intro res s1 got
  cases res with
  | error er => exact hx pins _ _ er s1 J2 got
  | ok fl =>
    cases fl with
    | ret u =>
      obtain ⟨v, G1, J3, rv, ev, z3⟩ := J2.after got
      subst ev
      exact ⟨rv, V.ref (s0.heap.objs.size + 1), G1, J3, rfl, z3⟩
    | next => exact got.elim
    | brk => exact got.elim
    | cont => exact got.elim
theorem pe_makeS (M : Mk X.K C f) (F : FnOk X.prog X.w X.K X.mg X.base CX k f fd ps sp) (hr : Room (k + 1) X.A) (hg : Gl X x) (hm : X.mg x = some (.ref C)) (hb : Binds X.K fd ps [])
    (hx : ∀ σ, PassesAt CX X σ (E σ)) (ha : PA X (e :: es) t) (hdb : (x == ("__debug__" : Str)) = false := by decide)
    (he : starEach (e :: es) X.env = (false, eval e X.env) :: starEach es X.env := by rfl) (hpl : (backTo pos (starEach es X.env)).any (·.1) = false := by rfl) :
    PE X (.Call (.Name x p) (e :: es) [] pos) (tMakeS C sp E t) := by
  constructor
  intro pins s σ H Q I h
  refine wpAny_Call_Name_kw (ld_glob I hg hm ?_ hdb)
  refine PySem.W.callWith_K (h₀ := X.base) I.ok.mod.kin M.kp (thn (ha.run pos pins s σ H _ I h) ?_) he hpl
  rintro us s1 ⟨vs, H1, I1, r, q⟩
  exact ⟨I1.kIn, run_makeS M F hr hb (hx σ) I1 r q⟩
end
/-- what the clauses 'except c as n', slot i being n's, wish of an error of the body, one after the other -/
def wSeq (K : PySem.W.Frag) (i : Nat) (Wout : WX) (D : Ends) : List (Value × (Addr → Value → Option Addr → TS)) → WX
  | [] => Wout
  | (c, ts) :: r => wAs K c i ts (wSeq K i Wout D r) D
inductive HdsAs (X : Cx) (n : Str) : List ExceptHandler → List (Value × (Addr → Value → Option Addr → TS)) → Prop
  | nil : HdsAs X n [] []
  | cons {x : Str} {c : Value} {ts : Addr → Value → Option Addr → TS} {st : Stmt} {sts : List Stmt} {np cp : Pos} {more : List ExceptHandler} {l : List (Value × (Addr → Value → Option Addr → TS))} (hc : Names X x c)
      (hsu : ∀ (a : Addr) (oe : Obj) (cls : Value) (d : Option Addr) (pn : List (Addr × Obj)), Zc cls d oe → (∃ vs, oe.data = .fields vs) → PSs (X.suite a ((a, oe) :: pn)) (st :: sts) (ts a cls d))
      (r : HdsAs X n more l) : HdsAs X n (.ExceptHandler (some (.Name x np)) (some n) (st :: sts) cp :: more) ((c, ts) :: l)
section
variable {X : Cx} {body : List Stmt} {g : ExceptHandler} {gs : List ExceptHandler} {l : List (Value × (Addr → Value → Option Addr → TS))} {pos : Pos} {tb : WX → TS} {Wout : WX} {n : Str} {i : Nat}
theorem ps_try_ases (hs : X.stack = X.env :: X.outer) (hf : X.env.frame = some X.env.locals) (hN : X.N.Nodup) (hi : X.N[i]? = some n) (hln : X.env.kindOf n = some .local) (tk : L2.Takes X Wout)
    (hb : ∀ (W : WX) (pn : List (Addr × Obj)) (xe : Value → Shared → Prop), L2.Takes (X.tr pn xe) W → PassesOwn (model X.prog X.w) X.A X.env xe → PSs (X.tr pn xe) body (tb W))
    (hh : HdsAs X n (g :: gs) l) : PS X (.Try body (g :: gs) [] [] pos) (fun D σ H => tb (wSeq X.K i Wout D l) D σ H) := by
  constructor
  intro pins s σ H D I h
  have okX := I.ok
  have frm : X.A.frames = some (X.env :: X.outer) := hs ▸ okX.frames
  have isLoc : Loc X.env.scope n := Or.inl hln
  refine wpAny_Try_except ?_
  let back : Value → Shared → Prop := fun e t1 => wpAny (model X.prog X.w) X.A (noteFrame e X.env) (fun _ t2 =>
    wpAny (model X.prog X.w) X.A (setFlight e none) (fun _ t3 => wpAny (model X.prog X.w) X.A (handleBy e X.env (g :: gs)) (SP X pins D) X.xe t3) X.xe t2) X.xe t1
  have caught : L2.Takes (X.tr (X.pn ++ pins) back) (wSeq X.K i Wout D l) := by
    intro u s' xx
    obtain ⟨a, B, t0, pins', τ, G, cls, d, rfl, J', nb, up, sky, na, os, ag, w⟩ := xx
    have J : L2.Inv X pins τ G t0 := J'.ofTry okX
    rw [show (X.tr (X.pn ++ pins) back).stack = X.env :: X.outer from hs] at sky
    refine Sky.land Zc.steady frm hf sky fun k3 fl3 up3 => ?_
    have J3 : L2.Inv X pins τ G { s' with heap := k3 } := J.landed nb fl3.1 (up.trans up3) os ag
    obtain ⟨oe3, vs3, he3, hz3, hd3⟩ := fl3.there
    have far : a ∉ frs (X.env :: X.outer) := by
      intro hm
      obtain ⟨_, o', e', hnf⟩ := fl3.2.2.1.mem hm
      rw [he3] at e'
      cases e'
      exact hnf _ hd3
    have nLoc : a ≠ X.env.locals := by
      intro z
      exact far (List.mem_filterMap.mpr ⟨X.env, List.mem_cons_self, by rw [hf, z]⟩)
    have nFs : a ∉ X.fs := by
      intro hm
      obtain ⟨e, he, q⟩ := List.mem_filterMap.mp hm
      exact far (List.mem_filterMap.mpr ⟨e, List.mem_cons_of_mem _ he, q⟩)
    have S3 := J3.suite he3 hd3 na nLoc nFs
    have go : ∀ {cs : List ExceptHandler} {m : List (Value × (Addr → Value → Option Addr → TS))}, HdsAs X n cs m → wSeq X.K i Wout D m cls d τ G →
        wpAny (model X.prog X.w) X.A (handleBy (.ref a) X.env cs) (SP X pins D) X.xe { s' with heap := k3 } := by
      intro cs m hk
      induction hk with
      | nil =>
        intro w
        refine wpAny_handleBy_nil ?_
        obtain ⟨_, _, _, oe, vs, T, oT, ts', he, hz, hd, h1, hr⟩ := id fl3
        unfold PySem.passOn
        refine wpAny_bind (wpAny_field he hd h1 ?_)
        have nn : ¬ ((Value.ref T == Value.none) = true) := by simp
        rw [if_neg nn]
        have on : wpAny (model X.prog X.w) X.A (setFlight (.ref a) X.env.frame) (fun _ t4 => wpAny (model X.prog X.w) X.A (throw (.ref a) : Sem Flow) (SP X pins D) X.xe t4) X.xe { s' with heap := k3 } := by
          rw [hf]
          refine HandSPX.setFlight_upZ fl3 fun k4 hh4 up4 => wpAny_throw (tk _ _ ?_)
          refine ⟨a, B, t0, pins, τ, G, cls, d, rfl, J, nb, (up.trans up3).trans up4, .inr (.inr ?_), na, os, ag, w⟩
          rw [hs]
          exact hh4
        first
          | exact wpAny_bind (wpAny_pure (wpAny_bind on))
          | exact wpAny_bind on
      | @cons x c ts st sts np cp more l2 hc hsu r ih =>
        intro w
        obtain ⟨b, hb1, hyes, hno⟩ := w
        refine wpAny_handleBy_cons (codeAny_handlers_test ?_) (by intro q; cases q)
        have LT : PySem.W.Looks (model X.prog X.w) k3 (typeOf (.ref a)) cls := by
          intro A Q E t kk q
          exact wpAny_typeOf_ref (kk _ _ he3) (by rw [hz3.1]; exact q)
        have LM := PySem.W.exm_one (M := model X.prog X.w) J3.kIn LT hb1
        have asks : ∀ {Q E : Value → Shared → Prop}, Q c { s' with heap := k3 } → wpAny (model X.prog X.w) (X.A.mark (some (.ref a))) (eval (.Name x np) X.env) Q E { s' with heap := k3 } := by
          intro Q E q
          obtain ⟨hg, hdbg, hm | ⟨hm, hv, hnn⟩⟩ := hc
          · exact ld_glob (X := X.suite a ((a, oe3) :: (X.pn ++ pins))) S3 hg hm q hdbg
          · exact ld_blt (X := X.suite a ((a, oe3) :: (X.pn ++ pins))) S3 hg hm hv q hnn hdbg
        refine asks (LM.here ?_)
        cases b with
        | true =>
          refine codeAny_handlers_suite_as ?_
          refine HandSPX.lands_againZ fl3 fun k4 fl4 up4 => ?_
          have J4 : L2.Inv X pins τ G { s' with heap := k4 } := J.landed nb fl4.1 ((up.trans up3).trans up4) os ag
          obtain ⟨oe4, vs4, he4, hz4, hd4⟩ := fl4.there
          have S4 := J4.suite he4 hd4 na nLoc nFs
          refine store_ok (X := X.suite a ((a, oe4) :: (X.pn ++ pins))) (v := .ref a) S4 hN hi isLoc rfl ?_ (.inr hln)
          intro s5 S5
          refine wpAny_mono ((hsu a oe4 cls d (X.pn ++ pins) hz4 ⟨_, hd4⟩).run [] s5 _ G _ S5 (hyes rfl a na)) ?_ (fun _ _ z => z.elim)
          intro fl s6 hsp
          have off : ∀ {σ6 : L2.St} {H6 : Hp} {Q : Shared → Prop}, L2.Inv (X.suite a ((a, oe4) :: (X.pn ++ pins))) [] σ6 H6 s6 → (∀ s7, L2.Inv X pins (σ6.set i none) H6 s7 → Q s7) →
              wpAny (model X.prog X.w) X.A (do bindName X.env n .none; unbindBehindTheSuite X.env n cp) (fun _ s7 => Q s7) X.xe s6 := by
            intro σ6 H6 Q S6 hq
            exact gone_ok (S6.unsuite okX) hN hi hln hq
          cases fl with
          | next =>
            obtain ⟨_, _, S6, q6⟩ := hsp
            exact off S6 fun _ J7 => ⟨_, _, J7, q6⟩
          | brk =>
            obtain ⟨_, _, S6, q6⟩ := hsp
            exact off S6 fun _ J7 => ⟨_, _, J7, q6⟩
          | cont =>
            obtain ⟨_, _, S6, q6⟩ := hsp
            exact off S6 fun _ J7 => ⟨_, _, J7, q6⟩
          | ret u =>
            obtain ⟨_, _, _, S6, r6, q6⟩ := hsp
            exact off S6 fun _ J7 => ⟨_, _, _, J7, r6, q6⟩
        | false =>
          show wpAny _ X.A (handleBy (.ref a) X.env more) _ _ _
          exact ih (hno rfl)
    exact go hh w
  refine wpAny_mono ((hb (wSeq X.K i Wout D l) (X.pn ++ pins) back caught PassesOwn.looking).run [] s σ H D (I.toTry _) h) ?_ (fun _ _ he => he)
  intro fl s1 hsp
  cases fl with
  | next =>
    obtain ⟨_, _, J', q⟩ := hsp
    exact wpAny_execs_nil ⟨_, _, J'.ofTry okX, q⟩
  | brk =>
    obtain ⟨_, _, J', q⟩ := hsp
    exact ⟨_, _, J'.ofTry okX, q⟩
  | cont =>
    obtain ⟨_, _, J', q⟩ := hsp
    exact ⟨_, _, J'.ofTry okX, q⟩
  | ret u =>
    obtain ⟨_, _, _, J', r, q⟩ := hsp
    exact ⟨_, _, _, J'.ofTry okX, r, q⟩
end
end Par
namespace Par
open PySem PySem.Spec PyProof.Rows L2
/-! ### a def that is handed the error that its caller's suite holds; it raises nothing -/
/-- what such a def promises: it may speak of the error, at p.1, and of its object, p.2 -/
structure FnP (P : Program) (w : World) (K : PySem.W.Frag) (mg : Str → Option Value) (base : Heap) (k : Nat) (f : Addr) (fd : FuncData) (ps : List Str) (sp : Addr × Obj → Sp) : Prop where
  len : ∀ p vs H Q E, sp p vs H Q E → vs.length = ps.length
  run : ∀ (A : Around) (outer : List Env) (s : Shared) (H : Hp) (args : Args) (us : List Value) (vs : List V) (Q : VK) (p : Addr × Obj), L2H.RoomH k A → L2H.PinOk outer H s p → Env0 P w K mg base A outer s H → BindsTo s fd args (ps.zip us) → Vals vs us → sp p vs H Q E0 →
    codeAny (model P w) A (.call (.ref f) args) (CR CX0 outer P w H s Q E0) s
section
variable {P : Program} {w : World} {K : PySem.W.Frag} {mg : Str → Option Value} {base : Heap}
theorem fnP_of {k : Nat} {x qual : Str} {st : Stmt} {f : Addr} {fd : FuncData} {N ps : List Str} {sp : Addr × Obj → Sp} (F : Fun K x qual st f fd) (S : FnScope N ps (defScope st))
    (len : ∀ p vs H Q E, sp p vs H Q E → vs.length = ps.length)
    (hbody : ∀ (cdv : Value) (A : Around) (outer : List Env) (s : Shared) (H : Hp) (vs : List V) (Q : VK) (p : Addr × Obj), L2H.RoomH k (A.deeper (envOfC qual (defScope st) s.heap.objs.size f cdv)) → sp p vs H Q E0 →
      ∃ t, PSs (L2H.cxH CX0 P w K mg base N qual (defScope st) f cdv A outer s H E0 p) (defBody st) t ∧ t { nx := fun _ H' => Q .non H', rt := Q } (L2.start N vs) H) :
    FnP P w K mg base (k + 1) f fd ps sp := by
  obtain ⟨oc, od, kV, doc, pm, an, cdv, ct, osl, efd, lk, hcd⟩ := F.ex
  subst efd
  refine ⟨len, fun A outer s H args us vs Q p hr hpin e0 hb r hsp => ?_⟩
  have hl := len _ _ _ _ _ hsp
  have KX : K.In s.heap := e0.mod.kin.keeps fun b o e => (e0.bs b o e).1
  have lim : s.heap.NoLimit := e0.mod.nolimit.keeps fun b o e => (e0.bs b o e).1
  have hkind : ∀ y ∈ ps.zip us, (defScope st).names.lookup y.1 = some .local ∨ ((defScope st).names.lookup y.1 = some .cell ∧ ((cellsFrom (s.heap.objs.size + 1) (defScope st).names []).lookup y.1).isSome = true) := fun ⟨n, v⟩ hy => by
    rcases S.par n (List.of_mem_zip hy).1 with q | q
    · exact .inl q
    · exact .inr ⟨q, PySem.W.cellsFrom_some _ _ _ (.inl q)⟩
  refine codeAny_call_function hr.depth (KX _ _ lk) rfl S.co S.gen rfl (PySem.W.codeRec_of KX hcd) (hb _ _ _ _ ?_)
  refine wpAny_newFunctionEnv_cells S.kind hkind fun env he s1 x => ?_
  subst he
  refine ⟨lim.keeps x.toInCall.keep, codeAny_func ?_⟩
  obtain ⟨t, ht, hq⟩ := hbody cdv A outer s H vs Q p (hr.deeper _) hsp
  have I := L2H.inv_startH (CX := CX0) (E := E0) S hpin e0 hl r x
  refine wpAny_mono (ht.run [] s1 (L2.start N vs) H _ I hq) (fun fl s' hs => ?_) fun e s' hs => hs
  cases fl with
  | ret u =>
    obtain ⟨v, σ', H', J, rv, q⟩ := hs
    exact ⟨v, H', J.os, J.bare, J.base, J.hok, rv, q⟩
  | next =>
    obtain ⟨σ', H', J, q⟩ := hs
    exact ⟨V.non, H', J.os, J.bare, J.base, J.hok, rfl, q⟩
  | brk =>
    obtain ⟨_, _, _, q⟩ := hs
    exact False.elim q
  | cont =>
    obtain ⟨_, _, _, q⟩ := hs
    exact False.elim q
end
section
variable {X : Cx} {k : Nat} {f a : Addr} {oe : Obj} {fd : FuncData} {q : Str} {sp : Addr × Obj → Sp} {x : Str} {p pos : Pos} {e : Expr} {te : TE} {pn : List (Addr × Obj)} {cls : Value} {d : Option Addr}
def tHeld (a : Addr) (cls : Value) (d : Option Addr) (sp : Addr × Obj → Sp) (te : TE) : TE := fun σ H Q => te σ H fun v H1 => v = .ref a ∧ ∀ oe : Obj, Zc cls d oe → (∃ vs, oe.data = .fields vs) → sp (a, oe) [.ref a] H1 Q E0
/-- f(e), where e is the error that the suite holds -/
theorem pe_callHeld (hz : Zc cls d oe) (hf : ∃ vs, oe.data = .fields vs) (F : FnP X.prog X.w X.K X.mg X.base k f fd [q] sp) (hr : Room k X.A) (hg : Gl X x) (hm : X.mg x = some (.ref f)) (hk : PySem.W.keepIn X.K (.ref f) = true)
    (hb : Binds X.K fd [q] []) (he : PE (X.suite a ((a, oe) :: pn)) e te) (hdb : (x == ("__debug__" : Str)) = false := by decide)
    (hst : starEach [e] X.env = (false, eval e X.env) :: starEach [] X.env := by rfl) (hpl : (backTo pos (starEach [] X.env)).any (·.1) = false := by rfl) :
    PE (X.suite a ((a, oe) :: pn)) (.Call (.Name x p) [e] [] pos) (tHeld a cls d sp te) := by
  constructor
  intro pins s σ H Q I h
  refine wpAny_Call_Name_kw (ld_glob (X := X.suite a ((a, oe) :: pn)) I hg hm ?_ hdb)
  have one : PA (X.suite a ((a, oe) :: pn)) [e] (tCons te tNil) := pa_cons he pa_nil (hs := hst)
  refine PySem.W.callWith_K (h₀ := X.base) I.ok.mod.kin hk (thn (one.run pos pins s σ H (fun vs H1 => match vs with
    | [v] => v = .ref a ∧ ∀ oe : Obj, Zc cls d oe → (∃ vs, oe.data = .fields vs) → sp (a, oe) [.ref a] H1 Q E0
    | _ => False) I h) ?_) hst hpl
  rintro us s1 ⟨vs, H1, I1, r, q0⟩
  obtain ⟨rfl, q1⟩ : vs = [.ref a] ∧ sp (a, oe) [.ref a] H1 Q E0 := by
    match vs, q0 with
    | [v], ⟨e, z⟩ => exact ⟨by rw [e], z oe hz hf⟩
  refine ⟨I1.kIn, ?_⟩
  obtain ⟨h1, h2, h3, h4, h5⟩ := I1.pin (a, oe) (List.mem_append_left _ List.mem_cons_self)
  have nfs : a ∉ frs X.stack := fun z => by
    rcases List.mem_cons.mp (I1.stkSub a z) with y | y
    · exact h3 y
    · exact h4 y
  have hl : us.length = 1 := r.length.symm
  have hbi := hb s1 us I1.kIn (by rw [List.append_nil]; exact hl)
  rw [List.append_nil] at hbi
  refine wpAny_call (codeAny_mono (F.run (X.A.mark (some (.ref a))) X.stack s1 H1 ⟨us, []⟩ us [.ref a] Q (a, oe) ⟨hr.dp, hr.un⟩ ⟨h1, h2, nfs, h5⟩ I1.env0 hbi r q1) ?_)
  intro res s' hq
  cases res with
  | error er => exact False.elim hq
  | ok fl =>
    cases fl with
    | next => exact False.elim hq
    | brk => exact False.elim hq
    | cont => exact False.elim hq
    | ret u => exact I1.after hq
end
section
variable {X : Cx}
/-- isinstance(e, c), e an error that was handed on -/
theorem call_isQ {p : Addr × Obj} (hp : p ∈ X.pn) : CallR X (.builtin "isinstance")
    (fun xs H Q => ∃ (D dd : Addr) (c : V) (u : Value) (b : Bool) (fs : List (Str × V)), xs = [.ref p.1, c] ∧ ExcC X.K D ∧ Zc (.ref D) (some dd) p.2 ∧ (∃ vs, p.2.data = .fields vs) ∧ H dd = some (.xd fs) ∧ ClsV c u ∧ PySem.W.kitOne X.K (.ref D) u = some b ∧ Q (.bl b) H) := by
  intro pins s σ H xs us Q I r h
  obtain ⟨D, dd, c, u, b, fs, rfl, C, hz, ⟨vs, hd⟩, ea, k, e, q⟩ := h
  obtain ⟨u1, u2, rfl, r1, r2⟩ := vals2 r
  cases (show u1 = Value.ref p.1 from r1)
  have e2 := k.eq r2
  subst e2
  have hg := (I.pin p (List.mem_append_left _ hp)).1
  obtain ⟨mA, hns, hr⟩ := (show ObjOk X.prog X.w H s.heap dd (.xd fs) from I.hok dd _ ea)
  obtain ⟨od, ho, hl⟩ := lookIn_ns hns
  have J : PySem.W.InstAt s.heap p.1 p.2 D (some od) := ⟨hg, hz.1, by unfold PySem.W.notCls; rw [hd] <;> rfl, by rw [hz.2]; exact ho⟩
  exact PySem.W.kia_one (kit_held C) I.kIn J e (fun z => nomatch z) fun tk => ⟨.bl b, H, I.tok tk, rfl, q⟩
/-- xs.count(y), flat items -/
def rCountV (K : PySem.W.Frag) : V → List V → Hp → VK → Prop := fun x xs H Q => ∃ (a : Addr) (ys : List V) (y : V), x = V.ref a ∧ xs = [y] ∧ SqL K H a ys ∧ flatV y = true ∧ ys.all flatV = true ∧ Q (.int ((ys.countP fun z => eqV z y : Nat) : Int)) H
theorem count_vals {y : V} : ∀ {ys : List V} {us : List Value}, Vals ys us → ys.all flatV = true → us.countP (eqU y) = ys.countP fun z => eqV z y
  | _, _, .nil, _ => rfl
  | _, _, .cons (a := v) r rs, f => by
    have f2 := List.all_eq_true.mp f v (List.mem_cons_self ..)
    have ih := count_vals (y := y) rs (List.all_eq_true.mpr fun z hz => List.all_eq_true.mp f z (List.mem_cons_of_mem _ hz))
    rw [List.countP_cons, List.countP_cons, ih, eqU_of r f2]
theorem mt_countV : MtR X "list.count" (rCountV X.K) := by
  intro pins s σ H x xs v us Q I rx rxs h
  obtain ⟨a, ys, y, rfl, rfl, hs, fy, fys, q⟩ := h
  cases rx
  cases rxs with
  | cons ry rt =>
    rename_i uy ut
    cases rt
    obtain ⟨its, rv, ⟨⟨cls, dd, data, sl⟩, n, ho, hc, hdn, hd⟩, hlen⟩ := I.list hs
    simp only at hc hd
    subst hc hd
    refine call_meets PySem.F.slot_list_count ⟨_, ho, rfl⟩ PySem.F.entry_list_count (PySem.F.args_list_count_2 _ _)
      (SeqAt.list_countAt a its.toArray n dd sl uy (eqU y)) ⟨ho, fun u' hu' => mem_eqAt ry fy rv fys u' (by simpa using hu'), ?_⟩
    have ec : its.toArray.toList.countP (eqU y) = ys.countP fun z => eqV z y := count_vals rv fys
    refine ⟨.int ((ys.countP fun z => eqV z y : Nat) : Int), H, I.tok _, ⟨s.toks, ?_⟩, q⟩
    show Value.int ((its.toArray.toList.countP (eqU y) : Nat) : Int) s.toks = Value.int ((ys.countP fun z => eqV z y : Nat) : Int) s.toks
    rw [ec]
end
end Par
namespace Par
open PySem PySem.Spec PyProof.Rows L2
/-! ### a def that makes lambdas: its code object is known by its address -/
structure FunC (K : PySem.W.Frag) (x qual : Str) (st : Stmt) (f c : Addr) (fd : FuncData) : Prop where
  at_ : ∃ (oc : Value) (od : Option Addr) (kV doc pm : Value) (an : Option Addr) (ct : Value) (sl : Array (Option Value)),
    fd = PySem.W.fnOf x qual (defArgs st) (defBody st) (defScope st) .none kV doc pm an (.ref c) ct ∧ K.lookup f = some ⟨oc, od, .func fd, sl⟩ ∧ PySem.W.codeIn K (.ref c) qual = true
section
variable {P : Program} {w : World} {K : PySem.W.Frag} {mg : Str → Option Value} {base : Heap}
theorem fnG_ofC {k : Nat} {x qual : Str} {st : Stmt} {f c : Addr} {fd : FuncData} {N ps : List Str} {sp : Sp}
    (F : FunC K x qual st f c fd) (S : FnScope N ps (defScope st))
    (arity : ∀ vs H Q E, sp vs H Q E → vs.length = ps.length)
    (body : ∀ (A : Around) (outer : List Env) (s : Shared) (H : Hp) (vs : List V) (Q : VK) (E : XK),
      A.guards = some [] → Room k (A.deeper (envOfC qual (defScope st) s.heap.objs.size f (.ref c))) → sp vs H Q E →
      ∃ t, PSs (cxOf CX0 P w K mg base N qual (defScope st) f (.ref c) A outer s H E).nox (defBody st) t ∧
        t { nx := fun _ H' => Q .non H', rt := Q } (start N vs) H) :
    FnG P w K mg base CX0 (k + 1) f fd ps sp := by
  obtain ⟨oc, od, kV, doc, pm, an, ct, sl, efd, lk, hcd⟩ := F.at_
  subst efd
  constructor
  · exact arity
  intro A outer s H args us vs Q E gs room e0 bound rel hsp
  have lens := arity _ _ _ _ hsp
  have kin : K.In s.heap := e0.mod.kin.keeps (fun b o z => (e0.bs b o z).1)
  have nolim : s.heap.NoLimit := e0.mod.nolimit.keeps (fun b o z => (e0.bs b o z).1)
  have kinds : ∀ y ∈ ps.zip us, (defScope st).names.lookup y.1 = some .local ∨ ((defScope st).names.lookup y.1 = some .cell ∧
      ((cellsFrom (s.heap.objs.size + 1) (defScope st).names []).lookup y.1).isSome = true) := by
    rintro ⟨n, v⟩ hy
    cases S.par n (List.of_mem_zip hy).1 with
    | inl q => exact Or.inl q
    | inr q => exact Or.inr ⟨q, PySem.W.cellsFrom_some _ _ _ (Or.inl q)⟩
  refine codeAny_call_function room.depth (kin _ _ lk) rfl S.co S.gen rfl (PySem.W.codeRec_of kin hcd) (bound _ _ _ _ ?_)
  refine wpAny_newFunctionEnv_cells S.kind kinds ?_
  intro env he s1 x1
  subst he
  refine ⟨nolim.keeps x1.toInCall.keep, codeAny_func ?_⟩
  obtain ⟨t, ht, hq⟩ := body A outer s H vs Q E gs (room.deeper _) hsp
  have I := inv_start (CX := CX0) (E := E) (w := w) S room.hd e0 lens rel x1
  refine wpAny_mono (ht.nox.run [] s1 (start N vs) H _ I hq) ?_ (fun e s' hs => hs)
  intro fl s' hs
  cases fl with
  | ret u =>
    obtain ⟨v, σ1, H1, J, rv, q⟩ := hs
    exact ⟨v, H1, J.os, J.bare, J.base, J.hok, rv, q⟩
  | next =>
    obtain ⟨σ1, H1, J, q⟩ := hs
    exact ⟨V.non, H1, J.os, J.bare, J.base, J.hok, rfl, q⟩
  | brk => exact (let ⟨_, _, _, q⟩ := hs; False.elim q)
  | cont => exact (let ⟨_, _, _, q⟩ := hs; False.elim q)
end
/-! ### the law's end, with the tables of these code objects -/
section
variable {P : Program} {w : World} {K : PySem.W.Frag} {mg mb : Str → Option Value} {k : Nat} {fa a : Addr} {tt : List (Addr × Addr)} {fd : FuncData} {x : Str} {sp : Sp} {s1 : Shared} {vs : List Value} {ns : List Int}
/-- what the heap at the law's entry says -/
structure Entry (K : PySem.W.Frag) (mg mb : Str → Option Value) (tt : List (Addr × Addr)) (a : Addr) (vs : List Value) (s1 : Shared) : Prop where
  kin : K.In s1.heap
  glob : s1.heap.Ns mainGlobals mg
  blt : s1.heap.Ns builtinsNs mb
  boot : ∀ x : Str, x ≠ "__name__" → mb x = bootBuiltins x
  lim : s1.heap.NoLimit
  gens : s1.gens = #[]
  tab : ∀ p ∈ tt, PySem.W.CodeHd s1.heap p.1 p.2 ∧ s1.heap.get? p.2 = some (PySem.W.tabObj #[]) ∧ K.lookup p.2 = none
  bm : ∃ (bm : Addr) (ob : Obj), mg "__builtins__" = some (.ref bm) ∧ bm ≠ builtinsNs ∧ s1.heap.get? bm = some ob ∧ ob.cls = .type "module" ∧ ob.dict = some builtinsNs ∧ ob.data = .plain
  script : s1.heap.get? a = some { cls := .type "list", data := .seq vs.toArray }
def tabsOf (tt : List (Addr × Addr)) : List Addr := tt.map (·.2)
theorem Entry.at_tab (X : Entry K mg mb tt a vs s1) {b : Addr} (hb : b ∈ tabsOf tt) : s1.heap.get? b = some (PySem.W.tabObj #[]) := by
  obtain ⟨p, hp, rfl⟩ := List.mem_map.mp hb
  exact (X.tab p hp).2.1
theorem Entry.not_tab (X : Entry K mg mb tt a vs s1) : a ∉ tabsOf tt := by
  intro hb
  have e := X.at_tab hb
  rw [X.script] at e
  injection e with e
  injection e with _ _ d _
  cases d
/-- nothing is tracked but the script and the tables -/
structure Just (H : Hp) (K : PySem.W.Frag) (tt : List (Addr × Addr)) (a : Addr) : Prop where
  tabs : ∀ p ∈ tt, H p.2 = some (.tbl #[])
  kinds : ∀ b, H b = none ∨ b ∈ tabsOf tt ∨ ∃ o xs, H b = some (.frz o (.lst xs))
  dom : ∀ b, H b ≠ none → b = a ∨ b ∈ tabsOf tt
  out : H a ≠ none → K.lookup a = none
theorem Just.none_of {H : Hp} (X : Entry K mg mb tt a vs s1) (J : Just H K tt a) {b : Addr} {o : Obj} (e : s1.heap.get? b = some o) (n1 : ∀ xs n, o.data ≠ .seq xs n) (n2 : o.data ≠ .fields #[]) : H b = none := by
  cases q : H b with
  | none => rfl
  | some u =>
    rcases J.dom b (by rw [q]; simp) with z | z
    · rw [z, X.script] at e
      cases e
      exact absurd rfl (n1 _ _)
    · rw [X.at_tab z] at e
      cases e
      exact absurd rfl n2
theorem Just.names {H : Hp} (X : Entry K mg mb tt a vs s1) (J : Just H K tt a) {b : Addr} {m : Str → Option Value} (h : s1.heap.Ns b m) : (hidT s1.heap H).Ns b m := by
  obtain ⟨o, es, ep, e, d, r⟩ := h
  refine ⟨o, es, ep, hidT_get e (J.none_of X e (fun xs n z => ?_) fun z => ?_), d, r⟩
  · rw [d] at z
    cases z
  · rw [d] at z
    cases z
theorem Just.mod {H : Hp} (X : Entry K mg mb tt a vs s1) (J : Just H K tt a) : L2.Mod K mg (hidT s1.heap H) := by
  obtain ⟨mc, h1, h2⟩ := X.lim
  refine ⟨fun b o e => hidT_get (X.kin b o e) ?_, J.names X X.glob, ⟨mb, J.names X X.blt, X.boot⟩, ⟨mc, J.names X h1, h2⟩⟩
  cases q : H b with
  | none => rfl
  | some u =>
    have some_b : H b ≠ none := by rw [q]; simp
    rcases J.dom b some_b with z | z
    · rw [z] at e some_b
      rw [J.out some_b] at e
      cases e
    · obtain ⟨p, hp, rfl⟩ := List.mem_map.mp z
      rw [(X.tab p hp).2.2] at e
      cases e
theorem Just.tabB {H : Hp} (X : Entry K mg mb tt a vs s1) (J : Just H K tt a) {p : Addr × Addr} (hp : p ∈ tt) : LamX.TabB (hidT s1.heap H) mg p.1 p.2 := by
  obtain ⟨hC, hT, _⟩ := X.tab p hp
  constructor
  · obtain ⟨o, us, file, tf, flags, tg, inF, text, t2, e1, r1, r2, r3, r⟩ := hC
    refine ⟨o, us, file, tf, flags, tg, inF, text, t2, hidT_get e1 (J.none_of X e1 (fun xs n z => ?_) fun z => ?_), r1, r2, r3, r⟩
    · rw [r2] at z
      cases z
    · rw [r2] at z
      cases z
      simp at r3
  · obtain ⟨bm, ob, b1, b2, b3, b4, b5, b6⟩ := X.bm
    have g1 : bm ≠ mainGlobals := by
      rintro rfl
      obtain ⟨o, es, ep, e, d, _⟩ := X.glob
      rw [e] at b3
      cases b3
      rw [d] at b6
      cases b6
    have g2 : bm ≠ p.2 := by
      rintro rfl
      rw [hT] at b3
      cases b3
      cases b6
    refine ⟨bm, ob, b1, b2, g1, g2, hidT_get b3 (J.none_of X b3 (fun xs n z => ?_) fun z => ?_), b4, b5, b6⟩
    · rw [b6] at z
      cases z
    · rw [b6] at z
      cases z
  · intro z
    obtain ⟨o, es, ep, e, d, _⟩ := X.glob
    rw [z, hT] at e
    cases e
    cases d
theorem law_core {H : Hp} (X : Entry K mg mb tt a vs s1) (J : Just H K tt a) (ok : HOk P w H s1.heap) (sq : SqL K H a (ns.map V.int)) (hr : Room k callerA)
    (F : ∀ base : Heap, K.In base → base.Ns mainGlobals mg → (∀ p ∈ tt, LamX.TabB base mg p.1 p.2) → FnG P w K mg base CX0 k fa fd [x] sp) (hbind : ∀ (s : Shared) (u : Value), BindsTo s fd ⟨[u], []⟩ [(x, u)])
    (hsp : sp [.ref a] H (fun v _ => v = .bl true) fun _ _ _ => False) :
    codeAny (model P w) callerA (.call (.ref fa) ⟨[.ref a], []⟩) (fun r s' => r = .ok (.ret (.bool true)) ∧ OldK s1.heap s'.heap ∧ s'.os = s1.os ∧ AllBare s'.gens) s1 := by
  have md := J.mod X
  have e0 : Env0 P w K mg (hidT s1.heap H) callerA [] s1 H := by
    refine ⟨rfl, md, fun b o e => of_hidT e, Nat.le_of_eq (hidT_size _ _), trivial, ?_, ok, .of_eq X.gens⟩
    intro b z
    exact absurd (show b ∈ ([] : List Addr) from z) (by simp)
  refine codeAny_mono ((F _ md.kin md.glob fun p hp => J.tabB X hp).go callerA [] s1 H ⟨[.ref a], []⟩ [.ref a] [.ref a] _ _ rfl hr e0 (hbind s1 (.ref a)) (.cons rfl .nil) hsp) ?_
  intro r s' h
  cases r with
  | error e => exact False.elim h
  | ok fl =>
    cases fl with
    | next => exact False.elim h
    | brk => exact False.elim h
    | cont => exact False.elim h
    | ret u =>
      obtain ⟨v, H1, os, bare, un, ok1, rel, q⟩ := h
      have q' : v = .bl true := q
      subst q'
      obtain rfl : u = Value.bool true := rel
      have stays : ∀ b o, b ∉ tabsOf tt → s1.heap.get? b = some o → s'.heap.get? b = some o := by
        intro b o nb e
        cases q : H b with
        | none => exact un.keep b o e q (fun z => absurd (show b ∈ ([] : List Addr) from z) (by simp)) (by simp)
        | some u =>
          rcases J.kinds b with z | z | ⟨ob, xs, z⟩
          · rw [q] at z
            cases z
          · exact absurd z nb
          · have e1 := (ok b _ z).1
            have e2 := (ok1 b _ (un.frzs b ob _ z)).1
            rw [e] at e1
            cases e1
            exact e2
      have grows : ∀ b ∈ tabsOf tt, ∃ more : Array Value, s'.heap.get? b = some (PySem.W.tabObj more) := by
        intro b hb
        obtain ⟨p, hp, rfl⟩ := List.mem_map.mp hb
        obtain ⟨more, z⟩ := un.tbls p.2 #[] (J.tabs p hp)
        exact ⟨_, ok1 p.2 _ z⟩
      refine ⟨rfl, ⟨fun b o e => ?_, fun b o e => ?_⟩, os, bare⟩
      · by_cases hb : b ∈ tabsOf tt
        · obtain ⟨more, hm⟩ := grows b hb
          obtain ⟨p, hp, rfl⟩ := List.mem_map.mp hb
          obtain ⟨hC, hT, _⟩ := X.tab p hp
          rw [hT] at e
          cases e
          exact .inr (.inl ⟨(hC.tab hT).isCodeTable, rfl, #[], more, rfl, by rw [Array.empty_append]; exact hm⟩)
        · exact .inl (stays b o hb e)
      · by_cases hb : b ∈ tabsOf tt
        · obtain ⟨more, hm⟩ := grows b hb
          exact ⟨_, hm⟩
        · exact ⟨o, stays b o hb e⟩
theorem law_callTG (X : Entry K mg mb tt a vs s1) (hi : IntsAre vs ns) (hl : ns.length ≤ sizeLine) (hr : Room k callerA)
    (F : ∀ base : Heap, K.In base → base.Ns mainGlobals mg → (∀ p ∈ tt, LamX.TabB base mg p.1 p.2) → FnG P w K mg base CX0 k fa fd [x] sp) (hbind : ∀ (s : Shared) (u : Value), BindsTo s fd ⟨[u], []⟩ [(x, u)])
    (hsp : ∀ H : Hp, (∀ p ∈ tt, H p.2 = some (.tbl #[])) → SqL K H a (ns.map V.int) → sp [.ref a] H (fun v _ => v = .bl true) fun _ _ _ => False) :
    codeAny (model P w) callerA (.call (.ref fa) ⟨[.ref a], []⟩) (fun r s' => r = .ok (.ret (.bool true)) ∧ OldK s1.heap s'.heap ∧ s'.os = s1.os ∧ AllBare s'.gens) s1 := by
  have rv := vals_ints hi
  have lenV := hi.length
  have mem2 : ∀ p ∈ tt, p.2 ∈ tabsOf tt := fun p hp => List.mem_map.mpr ⟨p, hp, rfl⟩
  have na := X.not_tab
  cases hk : K.lookup a with
  | some o =>
    have e := X.kin a o hk
    rw [X.script] at e
    cases e
    have tabs : ∀ p ∈ tt, (fun b => if b ∈ tabsOf tt then some (HO.tbl #[]) else none) p.2 = some (HO.tbl #[]) := fun p hp => if_pos (mem2 p hp)
    have sq : SqL K (fun b => if b ∈ tabsOf tt then some (HO.tbl #[]) else none) a (ns.map V.int) := .inr ⟨_, vs.toArray, _, hk, rfl, rfl, rfl, by rw [List.size_toArray, lenV]; exact hl, by simpa using rv⟩
    refine law_core X ⟨tabs, fun b => ?_, fun b z => ?_, fun z => absurd (if_neg na) z⟩ (fun b u z => ?_) sq hr F hbind (hsp _ tabs sq)
    · by_cases hb : b ∈ tabsOf tt
      · exact .inr (.inl hb)
      · exact .inl (if_neg hb)
    · by_cases hb : b ∈ tabsOf tt
      · exact .inr hb
      · exact absurd (if_neg hb) z
    · by_cases hb : b ∈ tabsOf tt
      · have z1 := (if_pos hb).symm.trans z
        cases z1
        exact X.at_tab hb
      · have z1 := (if_neg hb).symm.trans z
        cases z1
  | none =>
    have tabs : ∀ p ∈ tt, (fun b => if b = a then some (HO.frz { cls := .type "list", data := .seq vs.toArray } (.lst (ns.map V.int))) else if b ∈ tabsOf tt then some (HO.tbl #[]) else none) p.2 = some (HO.tbl #[]) := fun p hp =>
      (if_neg (show ¬ p.2 = a from fun z => na (z ▸ mem2 p hp))).trans (if_pos (mem2 p hp))
    have sq : SqL K (fun b => if b = a then some (HO.frz { cls := .type "list", data := .seq vs.toArray } (.lst (ns.map V.int))) else if b ∈ tabsOf tt then some (HO.tbl #[]) else none) a (ns.map V.int) := .inl (.inr ⟨_, if_pos rfl⟩)
    refine law_core X ⟨tabs, fun b => ?_, fun b z => ?_, fun _ => hk⟩ (fun b u z => ?_) sq hr F hbind (hsp _ tabs sq)
    · by_cases h1 : b = a
      · exact .inr (.inr ⟨_, _, if_pos h1⟩)
      · by_cases h2 : b ∈ tabsOf tt
        · exact .inr (.inl h2)
        · exact .inl ((if_neg h1).trans (if_neg h2))
    · by_cases h1 : b = a
      · exact .inl h1
      · by_cases h2 : b ∈ tabsOf tt
        · exact .inr h2
        · exact absurd ((if_neg h1).trans (if_neg h2)) z
    · by_cases h1 : b = a
      · have z1 := (if_pos h1).symm.trans z
        cases z1
        rw [h1]
        exact ⟨X.script, by rw [List.length_map]; exact hl, vs, _, rv, X.script⟩
      · have z1 := (if_neg h1).symm.trans z
        by_cases h2 : b ∈ tabsOf tt
        · have z2 := (if_pos h2).symm.trans z1
          cases z2
          exact X.at_tab h2
        · have z2 := (if_neg h2).symm.trans z1
          cases z2
end
/-- the defs of these names make lambdas: where their code objects and tables stand -/
def TabNames (q : Program) (K : PySem.W.Frag) (tt : List (Addr × Addr)) : Prop := ∀ p ∈ tt, ∃ (y : Str) (d : DefRec), (recsOf q).find? (fun e => e.name == y) = some d ∧ PySem.W.tabIn K y = some p ∧ K.lookup p.2 = none
theorem walkTG {l : PySem.W.OpenLaw} {n k : Nat} {q : Program} {loose : List Str} {XP : (Str → Option Value) → Heap → Prop} {YP : World → Heap → Prop} {d : DefRec} {K : Params → PySem.W.Frag} {sp : PySem.W.Frag → List (Addr × Addr) → Sp} {x : Str}
    (hn : l.most = some n) (hn2 : n ≤ sizeLine) (hdf : d.params.defaults = []) (hr : Room k callerA) (hY : ∀ (w : World) (h : Heap), YP w h → (K w.params).In h)
    (F : ∀ (w : World) (mg : Str → Option Value) (fa : Addr) (h : Heap), (K w.params).In h → h.Ns mainGlobals mg → mg d.name = some (.ref fa) →
      ∃ (fd : FuncData) (tt : List (Addr × Addr)), TabNames q (K w.params) tt ∧ (∀ (s : Shared) (u : Value), BindsTo s fd ⟨[u], []⟩ [(x, u)]) ∧
        ∀ base : Heap, (K w.params).In base → base.Ns mainGlobals mg → (∀ p ∈ tt, LamX.TabB base mg p.1 p.2) → FnG l.prog w (K w.params) mg base CX0 k fa fd [x] (sp (K w.params) tt))
    (hsp : ∀ (K : PySem.W.Frag) (tt : List (Addr × Addr)) (H : Hp) (a : Addr) (ns : List Int), ns.length ≤ n → (∀ p ∈ tt, H p.2 = some (.tbl #[])) → SqL K H a (ns.map V.int) → sp K tt [.ref a] H (fun v _ => v = .bl true) fun _ _ _ => False) :
    PySem.W.WalkO q loose XP YP l.row.toRowW d [] (fun f vs => PySem.call f vs) := by
  refine Att.attach_call hn hdf ?_
  intro w s0 s1 mg mb fa o pm cd doc a vs ns G Y ho hd hcd hmg hobj hints hlen hg
  have KX := hY w _ Y
  obtain ⟨fd, tt, names, hb, hF⟩ := F w mg fa _ KX G.T.g hmg
  refine law_callTG (mb := mb) ⟨KX, G.T.g, G.T.b, G.T.builtins, G.T.nolimit, hg, fun p hp => ?_, G.T.bmain, hobj⟩ hints (Nat.le_trans hlen hn2) hr hF hb (fun H hH hS => hsp _ tt H a ns hlen hH hS)
  obtain ⟨y, dy, hfind, htab, hno⟩ := names p hp
  obtain ⟨h1, h2⟩ := PySem.W.tab_of G.T KX hfind htab
  exact ⟨h1, h2, hno⟩
end Par
namespace K33
namespace X
open PySem PySem.Spec PyProof.Rows L2 Par
/-- is it a whole number from lo to hi -/
def isV (v : V) (lo hi : Int) : Bool := match v with
  | .int i => decide (lo ≤ i) && decide (i ≤ hi)
  | _ => false
/-- its type is known, and tells whether it is a bool, an int -/
def Typed (K : PySem.W.Frag) (H : Hp) (v : V) : Prop := (∃ b, v = .bl b) ∨ (∃ i, v = .int i) ∨
  (∃ n, TyX K H v (.type n) ∧ (n = "NoneType" ∨ n = "str" ∨ n = "list" ∨ n = "tuple" ∨ n = "dict") ∧ (∀ b, v ≠ .bl b) ∧ ∀ i, v ≠ .int i)
theorem isV_other {v : V} {lo hi : Int} (h : ∀ i, v ≠ .int i) : isV v lo hi = false := by
  unfold isV
  split
  · rename_i i
    exact absurd rfl (h i)
  · rfl
theorem sqA_ty {K : PySem.W.Frag} {H : Hp} {a : Addr} {xs : List V} (h : SqL K H a xs) : TyX K H (.ref a) (.type "list") := by
  rcases h with (h | ⟨o, h⟩) | ⟨o, its, n, hk, hc, _⟩
  · exact .base (.lst h)
  · exact .base (.frz h)
  · exact .kList hk hc
theorem sqtA_ty {K : PySem.W.Frag} {H : Hp} {a : Addr} {xs : List V} (h : SqT K H a xs) : TyX K H (.ref a) (.type "tuple") := by
  rcases h with (h | ⟨o, h⟩) | ⟨o, its, n, hk, hc, _⟩
  · exact .base (.tup h)
  · exact .fTuple h
  · exact .kTuple hk hc
theorem typed_dp {K : PySem.W.Frag} {H : Hp} {v : V} {d : PyData} (h : Dp K H v d) : Typed K H v := by
  cases h with
  | non => exact .inr (.inr ⟨_, .base .non, .inl rfl, by simp, by simp⟩)
  | bl b => exact .inl ⟨b, rfl⟩
  | int i => exact .inr (.inl ⟨i, rfl⟩)
  | str x => exact .inr (.inr ⟨_, .base (.str x), .inr (.inl rfl), by simp, by simp⟩)
  | lst hs _ => exact .inr (.inr ⟨_, sqA_ty hs, by simp, by simp, by simp⟩)
  | tup hs _ => exact .inr (.inr ⟨_, sqtA_ty hs, by simp, by simp, by simp⟩)
theorem typed_fl {K : PySem.W.Frag} {H : Hp} {v : V} {d : PyData} (h : Fl H v d) : Typed K H v := by
  cases h with
  | non => exact .inr (.inr ⟨_, .base .non, .inl rfl, by simp, by simp⟩)
  | bl b => exact .inl ⟨b, rfl⟩
  | int i => exact .inr (.inl ⟨i, rfl⟩)
  | str x => exact .inr (.inr ⟨_, .base (.str x), .inr (.inl rfl), by simp, by simp⟩)
  | dic0 e => exact .inr (.inr ⟨_, .base (.dK e), by simp, by simp, by simp⟩)
  | dic1 e => exact .inr (.inr ⟨_, .base (.dK e), by simp, by simp, by simp⟩)
section
variable {P : Program} {w : World} {K : PySem.W.Frag} {mg : Str → Option Value} {base : Heap}
theorem kit_bool {n : String} (h : n = "NoneType" ∨ n = "str" ∨ n = "list" ∨ n = "tuple" ∨ n = "dict") : PySem.W.kitOne K (.type n) (.type "bool") = some false := by
  rcases h with rfl | rfl | rfl | rfl | rfl <;> exact kit_ty (by decide +kernel)
theorem kit_int {n : String} (h : n = "NoneType" ∨ n = "str" ∨ n = "list" ∨ n = "tuple" ∨ n = "dict") : PySem.W.kitOne K (.type n) (.type "int") = some false := by
  rcases h with rfl | rfl | rfl | rfl | rfl <;> exact kit_ty (by decide +kernel)
/-- a whole number and no bool -/
def wholeV : V → Bool
  | .int _ => true
  | _ => false
theorem wholeV_other {v : V} (h : ∀ i, v ≠ .int i) : wholeV v = false := by
  cases v <;> first | rfl | exact absurd rfl (h _)
/-- is_integer -/
def spIntegerA (K : PySem.W.Frag) : Sp := fun vs H Q _ => ∃ v : V, vs = [v] ∧ Typed K H v ∧ Q (.bl (wholeV v)) H
theorem scIntegerA : FnScope ["thing"] ["thing"] (defScope sInteger) := ⟨rfl, rfl, rfl, by decide +kernel, rfl, by decide +kernel, by decide +kernel⟩
theorem ok_integerA {f : Addr} {fd : FuncData} (F : Fun K "is_integer" "is_integer" sInteger f fd) (B : Bl mg) : FnOk P w K mg base CX0 1 f fd ["thing"] (spIntegerA K) := by
  refine F.ok scIntegerA (fun vs H Q E h => ?_) (fun cdv A outer s H vs Q E hr h => ?_)
  · obtain ⟨v, rfl, _⟩ := h
    rfl
  · obtain ⟨v, rfl, hT, out⟩ := h
    refine ⟨_, pss_one (ps_ret (pe_and (pe_callB call_isi (by rfl) B.isinstance (by decide +kernel) (pa_cons (pv 0) (pa_cons (pe_bltn (v := .ty "int") (by rfl) B.int (by decide +kernel) rfl) pa_nil))) (pe_one (pe_not (pe_callB call_isi (by rfl) B.isinstance (by decide +kernel) (pa_cons (pv 0) (pa_cons (pe_bltn (v := .ty "bool") (by rfl) B.bool (by decide +kernel) rfl) pa_nil))))))), ?_⟩
    rcases hT with ⟨b, rfl⟩ | ⟨i, rfl⟩ | ⟨n, ty, hn, nb, ni⟩
    · refine ⟨_, rfl, _, _, _, _, true, rfl, .ty "int", .base (.bl b), kit_ty (by decide +kernel), _, rfl, iteT ?_⟩
      exact ⟨_, rfl, _, _, _, _, true, rfl, .ty "bool", .base (.bl b), kit_ty (by decide +kernel), _, rfl, out⟩
    · refine ⟨_, rfl, _, _, _, _, true, rfl, .ty "int", .base (.int i), kit_ty (by decide +kernel), _, rfl, iteT ?_⟩
      exact ⟨_, rfl, _, _, _, _, false, rfl, .ty "bool", .base (.int i), kit_ty (by decide +kernel), _, rfl, out⟩
    · rw [wholeV_other ni] at out
      refine ⟨_, rfl, _, _, _, _, false, rfl, .ty "int", ty, kit_int hn, _, rfl, iteF ?_⟩
      exact out
/-- is_integer_between -/
def spBetA (K : PySem.W.Frag) : Sp := fun vs H Q _ => ∃ (v : V) (lo hi : Int), vs = [v, .int lo, .int hi] ∧ Typed K H v ∧ Q (.bl (isV v lo hi)) H
theorem scBetA : FnScope ["thing", "low", "high"] ["thing", "low", "high"] (defScope sBetween) := ⟨rfl, rfl, rfl, by decide +kernel, rfl, by decide +kernel, by decide +kernel⟩
theorem ok_betA {f : Addr} {fd : FuncData} (F : Fun K "is_integer_between" "is_integer_between" sBetween f fd) (B : Bl mg) (D : Has P w K mg base "is_integer" 1 ["thing"] (spIntegerA K)) : FnOk P w K mg base CX0 2 f fd ["thing", "low", "high"] (spBetA K) := by
  obtain ⟨fD, fdD, GD, mD, kD, bD⟩ := D
  refine F.ok scBetA (fun vs H Q E h => ?_) (fun cdv A outer s H vs Q E hr h => ?_)
  · obtain ⟨v, lo, hi, rfl, _⟩ := h
    rfl
  · obtain ⟨v, lo, hi, rfl, hT, out⟩ := h
    refine ⟨_, pss_one (ps_ret (pe_and (pe_call GD hr (by rfl) mD kD bD .nil pass0 (pa_cons (pv 0) pa_nil)) (pe_one (pe_chain op_le op_le (pv 1) (pv 0) (pv 2))))), ?_⟩
    have hT0 := hT
    rcases hT with ⟨b, rfl⟩ | ⟨i, rfl⟩ | ⟨n, ty, hn, nb, ni⟩
    · exact ⟨_, rfl, _, rfl, hT0, _, rfl, iteF out⟩
    · refine ⟨_, rfl, _, rfl, hT0, _, rfl, iteT ?_⟩
      refine ⟨_, rfl, _, rfl, lo, i, rfl, rfl, _, rfl, ite2 (fun h1 => ?_) (fun h1 => ?_)⟩
      · refine ⟨_, rfl, i, hi, rfl, rfl, ?_⟩
        have e : isV (.int i) lo hi = decide (i ≤ hi) := by
          show (decide (lo ≤ i) && decide (i ≤ hi)) = _
          rw [h1]
          rfl
        rw [e] at out
        exact out
      · have e : isV (.int i) lo hi = false := by
          show (decide (lo ≤ i) && decide (i ≤ hi)) = _
          rw [show decide (lo ≤ i) = false by simpa using h1]
          rfl
        rw [e] at out
        exact out
    · rw [isV_other ni] at out
      refine ⟨_, rfl, _, rfl, hT0, ?_⟩
      rw [wholeV_other ni]
      exact ⟨_, rfl, iteF out⟩
/-- is_cell -/
def spCellA (K : PySem.W.Frag) : Sp := fun vs H Q _ => ∃ (v : V) (n : Int), vs = [v, .int n] ∧ Typed K H v ∧ Q (.bl (isV v 0 (n - 1))) H
theorem scCellA : FnScope ["thing", "size"] ["thing", "size"] (defScope sIsCell) := ⟨rfl, rfl, rfl, by decide +kernel, rfl, by decide +kernel, by decide +kernel⟩
theorem ok_cellA {f : Addr} {fd : FuncData} (F : FunD K "is_cell" "is_cell" (defArgs sIsCell) (defBody sIsCell) (defScope sIsCell) [] [("size", .int 40)] f fd)
    (D : Has P w K mg base "is_integer_between" 2 ["thing", "low", "high"] (spBetA K)) : FnOk P w K mg base CX0 3 f fd ["thing", "size"] (spCellA K) := by
  obtain ⟨fD, fdD, GD, mD, kD, bD⟩ := D
  refine F.ok scCellA (fun vs H Q E h => ?_) (fun cdv A outer s H vs Q E hr h => ?_)
  · obtain ⟨v, n, rfl, _⟩ := h
    rfl
  · obtain ⟨v, n, rfl, hT, out⟩ := h
    refine ⟨_, pss_one (ps_ret (pe_call GD hr (by rfl) mD kD bD .nil pass0 (pa_cons (pv 0) (pa_cons pe_int (pa_cons (pe_op op_sub (pv 1) pe_int) pa_nil))))), ?_⟩
    refine ⟨_, rfl, _, rfl, n, 1, rfl, rfl, v, 0, n - 1, rfl, hT, out⟩
end
end X
end K33
namespace K33
namespace X
open PySem PySem.Spec PyProof.Rows L2 Par
abbrev sName : Stmt := topS 43
abbrev sTime : Stmt := topS 44
abbrev sStamp : Stmt := topS 45
section
variable {P : Program} {w : World} {K : PySem.W.Frag} {mg : Str → Option Value} {base : Heap}
theorem same_typed {H H' : Hp} {v : V} (s : Same H H') (h : Typed K H v) : Typed K H' v := by
  rcases h with h | h | ⟨n, ty, r⟩
  · exact .inl h
  · exact .inr (.inl h)
  · exact .inr (.inr ⟨n, same_tyx s ty, r⟩)
/-- a part: its type is known; a text is short and plain -/
def Kd (K : PySem.W.Frag) (H : Hp) (v : V) : Prop := Typed K H v ∧ ((∃ z, v = .str z ∧ z.length ≤ 100 ∧ Low z) ∨
  ∃ n, TyX K H v (.type n) ∧ (n = "NoneType" ∨ n = "bool" ∨ n = "int" ∨ n = "list" ∨ n = "tuple" ∨ n = "dict") ∧ ∀ z, v ≠ .str z)
theorem kd_same {H H' : Hp} {v : V} (s : Same H H') (h : Kd K H v) : Kd K H' v := by
  obtain ⟨h1, h2 | ⟨n, ty, hn, ns⟩⟩ := h
  · exact ⟨same_typed s h1, .inl h2⟩
  · exact ⟨same_typed s h1, .inr ⟨n, same_tyx s ty, hn, ns⟩⟩
theorem kit_str {n : String} (h : n = "NoneType" ∨ n = "bool" ∨ n = "int" ∨ n = "list" ∨ n = "tuple" ∨ n = "dict") : PySem.W.kitOne K (.type n) (.type "str") = some false := by
  rcases h with rfl | rfl | rfl | rfl | rfl | rfl <;> exact kit_ty (by decide +kernel)
def lowc (c : Nat) : Bool := decide (97 ≤ c) && decide (c ≤ 122)
def wordV : V → Bool
  | .str z => decide (1 ≤ z.length) && (decide (z.length ≤ 8) && z.cps.toList.all lowc)
  | _ => false
theorem wordV_other {v : V} (h : ∀ z, v ≠ .str z) : wordV v = false := by
  cases v <;> first | rfl | exact absurd rfl (h _)
def spName (K : PySem.W.Frag) : Sp := fun vs H Q _ => ∃ v : V, vs = [v] ∧ Kd K H v ∧ ∀ H', Same H H' → Q (.bl (wordV v)) H'
abbrev nName : List Str := ["thing", "letter"]
theorem scName : FnScope nName ["thing"] (defScope sName) := ⟨rfl, rfl, rfl, by decide +kernel, rfl, by decide +kernel, by decide +kernel⟩
theorem lt_sign (c d : Nat) : decide (([c] : List Nat) < [d]) = decide (c < d) := by
  by_cases h : c < d <;> simp [h, List.cons_lt_cons_iff]
theorem ok_name {f : Addr} {fd : FuncData} (F : Fun K "is_name" "is_name" sName f fd) (B : Bl mg) (hS : mg "str" = none) (hM : ∃ t, mg "MOST_LETTERS" = some (.int 8 t)) : FnOk P w K mg base CX0 2 f fd ["thing"] (spName K) := by
  obtain ⟨tM, hM⟩ := hM
  refine F.ok scName (fun vs H Q E h => ?_) (fun cdv A outer s H vs Q E hr h => ?_)
  · obtain ⟨v, rfl, _⟩ := h
    rfl
  · obtain ⟨v, rfl, hK, out⟩ := h
    refine ⟨_, pss_cons (ps_if (PW.pt (pw_or (pt_not (pt_val (pe_callB call_isi (by rfl) B.isinstance (by decide +kernel) (pa_cons (pv 0) (pa_cons (pe_bltn (v := .ty "str") (by rfl) hS (by decide +kernel) rfl) pa_nil)))))
        (pw_or1 (pt_not (pt_chain op_le op_le pe_int (pe_callB call_len_str (by rfl) B.len PySem.boot_len (pa_cons (pv 0) pa_nil)) (pe_glob (v := .int 8) (by rfl) hM ⟨_, rfl⟩)))))) (pss_one (ps_ret pe_bl)) pss_nil)
      (pss_one (ps_ret (pe_callB (cr_all rfl) (by rfl) B.all (by decide +kernel) (pa_cons (pe_lc (own := [("letter", 1)]) (g := gName 1) rfl scName.nd (pi_str (pv 0)) (blkOk_by (own := [("letter", 1)]) (N := nName) (sc := defScope sName) (by decide +kernel))
        (fun _ _ _ _ _ => pg_name (i := 1) scName.nd rfl (Or.inl rfl)) (fun _ _ _ _ _ => pts_nil) (fun _ _ _ _ _ => by exact pe_chain op_le_str op_le_str pe_str (pv 1) pe_str)) pa_nil)))), ?_⟩
    obtain ⟨_, ⟨z, rfl, hz, _⟩ | ⟨n, ty, hn, ns⟩⟩ := hK
    · refine ⟨_, rfl, _, _, _, _, true, rfl, .ty "str", .base (.str z), kit_ty (by decide +kernel), _, rfl, iteF ?_⟩
      have hzl : z.length ≤ sizeLine := by rw [sizeLine_eq]; omega
      refine ⟨_, rfl, z, rfl, hzl, 1, _, rfl, rfl, _, rfl, ite2 (fun h1 => ?_) (fun h1 => ?_)⟩
      · refine ⟨_, 8, rfl, rfl, _, rfl, ?_⟩
        have h1' : (1 : Int) ≤ (z.length : Int) := of_decide_eq_true h1
        refine ite2 (fun h2 => ?_) (fun h2 => ?_)
        · have h2' : ¬ ((z.length : Int) ≤ 8) := by simpa using h2
          have e : wordV (.str z) = false := by
            show (decide (1 ≤ z.length) && (decide (z.length ≤ 8) && _)) = false
            rw [decide_eq_false (show ¬ z.length ≤ 8 by omega)]
            simp
          rw [e] at out
          exact out _ (fun _ _ e => e)
        · have h2' : (z.length : Int) ≤ 8 := by simpa using h2
          refine ⟨_, rfl, z, rfl, fun D hD => ?_⟩
          refine lc_it walk_str (fun i H' => Same H H' ∧ H' D = some (.lst ((z.cps.toList.take i).map fun c => .bl (lowc c)))) ⟨same_new hD, upd_same⟩ (fun _ _ _ _ => trivial) ?_ ?_
          · rintro i x H3 H4 hi ⟨s3, hD3⟩ ⟨rfl, c, hc, rfl⟩
            have hc2 : z.cps.toList[i]? = some c := by rw [Array.getElem?_toList]; exact hc
            have fin : ∀ b : Bool, b = lowc c → ∃ acc, H4 D = some (.lst acc) ∧ acc.length < sizeLine ∧ Same H (upd H4 D (.lst (acc ++ [.bl b]))) ∧ (upd H4 D (.lst (acc ++ [.bl b]))) D = some (.lst ((z.cps.toList.take (i + 1)).map fun c => .bl (lowc c))) := by
              intro b hb
              refine ⟨_, hD3, ?_, ?_, ?_⟩
              · have hl : z.cps.toList.length = z.length := by simp [Str.length]
                rw [List.length_map, List.length_take, sizeLine_eq]
                omega
              · intro b2 o e
                rw [upd_ne (ne_of_none e hD)]
                exact s3 b2 o e
              · rw [upd_same, List.take_succ, hc2, List.map_append, hb]
                rfl
            refine ⟨rfl, yesT ?_⟩
            refine ⟨_, rfl, _, _, rfl, rfl, _, rfl, ite2 (fun g1 => ?_) (fun g1 => ?_)⟩
            · refine ⟨_, _, rfl, rfl, fin _ ?_⟩
              have g1' : (!decide (([c] : List Nat) < [97])) = true := g1
              rw [lt_sign] at g1'
              show (!decide (([122] : List Nat) < [c])) = lowc c
              rw [lt_sign]
              unfold lowc
              have : 97 ≤ c := by simpa using g1'
              rw [decide_eq_true this, Bool.true_and]
              by_cases g : c ≤ 122
              · rw [decide_eq_true g, decide_eq_false (by omega)]; rfl
              · rw [decide_eq_false g, decide_eq_true (by omega)]; rfl
            · refine fin _ ?_
              have g1' : ¬ (!decide (([c] : List Nat) < [97])) = true := g1
              rw [lt_sign] at g1'
              have h97 : c < 97 := by simpa using g1'
              show false = lowc c
              unfold lowc
              rw [decide_eq_false (by omega)]
              rfl
          · rintro H3 ⟨s3, hD3⟩
            have hl : z.cps.toList.length = z.cps.size := by simp
            rw [← hl, List.take_length] at hD3
            refine ⟨D, z.cps.toList.map lowc, rfl, SqL.of (by rw [hD3, List.map_map]; rfl), ?_⟩
            have e : (z.cps.toList.map lowc).all id = wordV (.str z) := by
              show _ = (decide (1 ≤ z.length) && (decide (z.length ≤ 8) && _))
              rw [decide_eq_true (show 1 ≤ z.length by omega), decide_eq_true (show z.length ≤ 8 by omega)]
              simp
            rw [e]
            exact out _ s3
      · have h1' : ¬ ((1 : Int) ≤ (z.length : Int)) := by simpa using h1
        have e : wordV (.str z) = false := by
          show (decide (1 ≤ z.length) && _) = false
          rw [decide_eq_false (show ¬ 1 ≤ z.length by omega)]
          rfl
        rw [e] at out
        exact ⟨_, rfl, iteT (out _ (fun _ _ e => e))⟩
    · rw [wordV_other ns] at out
      refine ⟨_, rfl, _, _, _, _, false, rfl, .ty "str", ty, kit_str hn, _, rfl, iteT (iteT ?_)⟩
      exact out _ (fun _ _ e => e)
def abc : Str := "abcdefghijklmnopqrstuvwxyz"
theorem abc_mem (c : Nat) : decide (c ∈ abc.cps.toList) = lowc c := by
  have e : abc.cps.toList = [97, 98, 99, 100, 101, 102, 103, 104, 105, 106, 107, 108, 109, 110, 111, 112, 113, 114, 115, 116, 117, 118, 119, 120, 121, 122] := by decide +kernel
  rw [e]
  unfold lowc
  by_cases h1 : 97 ≤ c
  · by_cases h2 : c ≤ 122
    · rw [decide_eq_true h1, decide_eq_true h2]
      refine decide_eq_true ?_
      simp only [List.mem_cons, List.not_mem_nil, or_false]
      omega
    · rw [decide_eq_false h2, Bool.and_false]
      refine decide_eq_false ?_
      simp only [List.mem_cons, List.not_mem_nil, or_false]
      omega
  · rw [decide_eq_false h1, Bool.false_and]
    refine decide_eq_false ?_
    simp only [List.mem_cons, List.not_mem_nil, or_false]
    omega
abbrev most : Int := 1000000000000000000
def spTime (K : PySem.W.Frag) : Sp := fun vs H Q _ => ∃ v : V, vs = [v] ∧ Typed K H v ∧ Q (.bl (isV v 0 most)) H
theorem scTime : FnScope ["thing"] ["thing"] (defScope sTime) := ⟨rfl, rfl, rfl, by decide +kernel, rfl, by decide +kernel, by decide +kernel⟩
theorem ok_time {f : Addr} {fd : FuncData} (F : Fun K "is_time" "is_time" sTime f fd) (hM : ∃ t, mg "MOST_TIME" = some (.int most t)) (D : Has P w K mg base "is_integer_between" 2 ["thing", "low", "high"] (spBetA K)) :
    FnOk P w K mg base CX0 3 f fd ["thing"] (spTime K) := by
  obtain ⟨fD, fdD, GD, mD, kD, bD⟩ := D
  obtain ⟨tM, hM⟩ := hM
  refine F.ok scTime (fun vs H Q E h => ?_) (fun cdv A outer s H vs Q E hr h => ?_)
  · obtain ⟨v, rfl, _⟩ := h
    rfl
  · obtain ⟨v, rfl, hT, out⟩ := h
    refine ⟨_, pss_one (ps_ret (pe_call GD hr (by rfl) mD kD bD .nil pass0 (pa_cons (pv 0) (pa_cons pe_int (pa_cons (pe_glob (v := .int most) (by rfl) hM ⟨_, rfl⟩) pa_nil))))), ?_⟩
    exact ⟨_, rfl, v, 0, most, rfl, hT, out⟩
/-- a piece: no tuple, or a tuple of parts -/
def Ds (K : PySem.W.Frag) (H : Hp) (v : V) : Option (List V) → Prop
  | none => Kd K H v ∧ ∃ n, TyX K H v (.type n) ∧ (n = "NoneType" ∨ n = "bool" ∨ n = "int" ∨ n = "str" ∨ n = "list" ∨ n = "dict")
  | some xs => ∃ a, v = .ref a ∧ SqT K H a xs ∧ xs.length ≤ 8 ∧ ∀ x ∈ xs, Kd K H x
theorem kd_tup {H : Hp} {a : Addr} {xs : List V} (h : SqT K H a xs) : Kd K H (.ref a) :=
  ⟨.inr (.inr ⟨_, sqtA_ty h, by simp, by simp, by simp⟩), .inr ⟨_, sqtA_ty h, by simp, by simp⟩⟩
theorem ds_kd {H : Hp} {v : V} : ∀ {o : Option (List V)}, Ds K H v o → Kd K H v
  | none, h => h.1
  | some xs, ⟨a, e, h, _⟩ => by subst e; exact kd_tup h
theorem ds_same {H H' : Hp} {v : V} (s : Same H H') : ∀ {o : Option (List V)}, Ds K H v o → Ds K H' v o
  | none, ⟨h, n, ty, hn⟩ => ⟨kd_same s h, n, same_tyx s ty, hn⟩
  | some xs, ⟨a, e, h, hl, hx⟩ => ⟨a, e, same_sqt s h, hl, fun x m => kd_same s (hx x m)⟩
def stampO : Option (List V) → Bool
  | some [a, b, c] => isV a 0 most && (wordV b && isV c 0 most)
  | _ => false
theorem stampO_len {xs : List V} (h : xs.length ≠ 3) : stampO (some xs) = false := by
  match xs, h with
  | [], _ => rfl
  | [_], _ => rfl
  | [_, _], _ => rfl
  | [_, _, _], h => exact absurd rfl h
  | _ :: _ :: _ :: _ :: _, _ => rfl
theorem kit_tup {n : String} (h : n = "NoneType" ∨ n = "bool" ∨ n = "int" ∨ n = "str" ∨ n = "list" ∨ n = "dict") : PySem.W.kitOne K (.type n) (.type "tuple") = some false := by
  rcases h with rfl | rfl | rfl | rfl | rfl | rfl <;> exact kit_ty (by decide +kernel)
def spStamp (K : PySem.W.Frag) : Sp := fun vs H Q _ => ∃ (v : V) (o : Option (List V)), vs = [v] ∧ Ds K H v o ∧ ∀ H', Same H H' → Q (.bl (stampO o)) H'
theorem scStamp : FnScope ["thing", "time", "hand", "number"] ["thing"] (defScope sStamp) := ⟨rfl, rfl, rfl, by decide +kernel, rfl, by decide +kernel, by decide +kernel⟩
theorem ok_stamp {f : Addr} {fd : FuncData} (F : Fun K "is_stamp" "is_stamp" sStamp f fd) (B : Bl mg) (hM : ∃ t, mg "MOST_NUMBER" = some (.int most t)) (Db : Has P w K mg base "is_integer_between" 2 ["thing", "low", "high"] (spBetA K))
    (Dt : Has P w K mg base "is_time" 3 ["thing"] (spTime K)) (Dn : Has P w K mg base "is_name" 2 ["thing"] (spName K)) : FnOk P w K mg base CX0 4 f fd ["thing"] (spStamp K) := by
  obtain ⟨fB, fdB, GB, mB, kB, bB⟩ := Db
  obtain ⟨fT, fdT, GT, mT, kT, bT⟩ := Dt
  obtain ⟨fN, fdN, GN, mN, kN, bN⟩ := Dn
  obtain ⟨tM, hM⟩ := hM
  refine F.ok scStamp (fun vs H Q E h => ?_) (fun cdv A outer s H vs Q E hr h => ?_)
  · obtain ⟨v, o, rfl, _⟩ := h
    rfl
  · obtain ⟨v, o, rfl, hD, out⟩ := h
    have r2 : Room 2 (A.deeper (envOfC "is_stamp" (defScope sStamp) s.heap.objs.size f cdv)) := hr.mono (by decide)
    refine ⟨_, pss_cons (ps_if (PW.pt (pw_or (pt_not (pt_val (pe_callB call_isi (by rfl) B.isinstance (by decide +kernel) (pa_cons (pv 0) (pa_cons (pe_bltn (v := .ty "tuple") (by rfl) B.tuple (by decide +kernel) rfl) pa_nil)))))
        (pw_or1 (pt_cmpR op_ne (pe_callB call_len_seq (by rfl) B.len PySem.boot_len (pa_cons (pv 0) pa_nil)) pe_int (nomark _))))) (pss_one (ps_ret pe_bl)) pss_nil)
      (pss_cons (ps_asg (pv 0) (pg_tup rfl (pgs_cons (pg_name (i := 1) scStamp.nd rfl (Or.inl rfl)) (pgs_cons (pg_name (i := 2) scStamp.nd rfl (Or.inl rfl)) (pgs_cons (pg_name (i := 3) scStamp.nd rfl (Or.inl rfl)) pgs_nil)))))
      (pss_one (ps_ret (pe_and (pe_call GT hr (by rfl) mT kT bT .nil pass0 (pa_cons (pv 1) pa_nil)) (pe_and (pe_call GN r2 (by rfl) mN kN bN .nil pass0 (pa_cons (pv 2) pa_nil))
        (pe_one (pe_call GB r2 (by rfl) mB kB bB .nil pass0 (pa_cons (pv 3) (pa_cons pe_int (pa_cons (pe_glob (v := .int most) (by rfl) hM ⟨_, rfl⟩) pa_nil)))))))))), ?_⟩
    match o, hD with
    | none, ⟨_, n, ty, hn⟩ =>
      refine ⟨_, rfl, _, _, _, _, false, rfl, .ty "tuple", ty, kit_tup hn, _, rfl, iteT (iteT ?_)⟩
      exact out _ (fun _ _ e => e)
    | some xs, ⟨a, e, hS, hl, hx⟩ =>
      subst e
      refine ⟨_, rfl, _, _, _, _, true, rfl, .ty "tuple", sqtA_ty hS, kit_ty (by decide +kernel), _, rfl, iteF ?_⟩
      refine ⟨_, rfl, a, xs, rfl, .inr hS, rfl, _, rfl, ?_⟩
      refine ite2 (fun h3 => ?_) (fun h3 => ?_)
      · have h3' : xs.length ≠ 3 := by
          have : ((xs.length : Nat) : Int) ≠ 3 := by simpa using h3
          omega
        rw [stampO_len h3'] at out
        exact out _ (fun _ _ e => e)
      · have h3' : xs.length = 3 := by
          have : ((xs.length : Nat) : Int) = 3 := by simpa using h3
          omega
        match xs, h3', hS, hx, out with
        | [x, y, z], _, hS, hx, out =>
          have kx := hx x (by simp)
          have ky := hx y (by simp)
          have kz := hx z (by simp)
          refine ⟨_, rfl, a, _, rfl, hS, rfl, _, _, rfl, _, _, rfl, _, _, rfl, rfl, ?_⟩
          refine ⟨_, rfl, x, rfl, kx.1, ?_⟩
          have e : stampO (some [x, y, z]) = (isV x 0 most && (wordV y && isV z 0 most)) := rfl
          rw [e] at out
          refine ⟨_, rfl, ?_⟩
          cases h1 : isV x 0 most with
          | false =>
            rw [h1] at out
            exact iteF (out _ (fun _ _ e => e))
          | true =>
            rw [h1, Bool.true_and] at out
            refine iteT ⟨_, rfl, y, rfl, ky, fun H1 s1 => ⟨_, rfl, ?_⟩⟩
            cases h2 : wordV y with
            | false =>
              rw [h2] at out
              exact iteF (out _ s1)
            | true =>
              rw [h2, Bool.true_and] at out
              exact iteT ⟨_, rfl, z, 0, most, rfl, same_typed s1 kz.1, out _ s1⟩
end
end X
end K33
namespace Par
open PySem PySem.Spec PyProof.Rows L2
/-! ### sorted of data: tuples and lists of ints, bools and texts -/
section
variable {X : Cx} {β : Type} {val : β → V}
theorem eachSD {R : Value → β → Prop} : ∀ {bs : List β} {us : List Value}, Vals (bs.map val) us → (∀ b ∈ bs, ∀ u, RelV (val b) u → R u b) → W.EachIs R us bs
  | [], _, h, _ => by
    cases h
    exact .nil
  | b :: bs, _, h, k => by
    cases h with
    | cons h1 h2 => exact .cons (k b (List.mem_cons_self ..) _ h1) (eachSD h2 fun c hc => k c (List.mem_cons_of_mem _ hc))
theorem valsSD {out : List Value} {bs : List β} (h : W.EachIs (fun u b => RelV (val b) u) out bs) : Vals (bs.map val) out := by
  induction h with
  | nil => exact .nil
  | cons h1 _ ih => exact .cons h1 ih
/-- sorted(xs), xs a list of data of one form -/
theorem cr_sortedD (hu : X.A.units + 64 < cLine) : CallR X (.builtin "sorted") (fun vs H Q => ∃ (a : Addr) (β : Type) (bs : List β) (val : β → V) (enc : β → PyData), vs = [V.ref a] ∧ SqL X.K H a (bs.map val) ∧
    (∀ b ∈ bs, Dp X.K H (val b) (enc b)) ∧ W.AllAlike (bs.map enc) ∧ W.Sortable (bs.map enc) ∧ (∀ b ∈ bs, (enc b).depth ≤ 40) ∧
    ∀ p, H p = none → Q (.ref p) (upd H p (.lst ((bs.mergeSort (W.dataLe false enc)).map val)))) := by
  intro pins s σ H vs us Q I r h
  obtain ⟨a, β, bs, val, enc, rfl, hs, hd, al, so, dp, q⟩ := h
  obtain ⟨its, rv, htp, hz⟩ := I.list hs
  rw [Vals.ref1 r]
  rw [List.length_map] at hz
  have hl : its.length = bs.length := by
    have := rv.length
    rw [List.length_map] at this
    omega
  have hL : s.heap.IsList a its.toArray := by
    obtain ⟨o, n, h1, h2, _, h3⟩ := htp
    exact ⟨o, h1, h2, n, h3⟩
  refine W.sorted_data (R := fun u b => RelV (val b) u) hL (eachSD rv fun b _ u ru => ru) (eachSD rv fun b hb u ru => Dp.reads I _ _ _ (hd b hb) ru) al so (by omega) (fun b hb => by have := dp b hb; omega) ?_
  intro out ol he
  obtain ⟨ep, hE⟩ := PyProof.Rows.sortedAll_at s.heap its out.toArray
  have ml : (bs.mergeSort (W.dataLe false enc)).length = bs.length := List.length_mergeSort ..
  have hshort : ((bs.mergeSort (W.dataLe false enc)).map val).length ≤ sizeLine := by
    rw [List.length_map, ml]
    omega
  have lay := I.laid (t' := s.toks) (a := s.heap.objs.size + 1) (o := .lst ((bs.mergeSort (W.dataLe false enc)).map val)) (fun _ _ => PyProof.Rows.sortedAll_old) (Nat.le_succ _)
    ⟨hshort, out, ep, valsSD he, hE⟩
  exact ⟨.ref _, _, lay, rfl, q _ (I.hok.fresh (Nat.le_succ _))⟩
end
end Par
namespace Par
open PySem PySem.Spec PyProof.Rows L2
/-! ### stamps and entries, and their order -/
/-- a stamp -/
structure Mk where
  t : Int
  h : Str
  n : Int
deriving DecidableEq
def mkD (m : Mk) : PyData := .tuple [.int m.t, .str m.h, .int m.n]
def mkV (m : Mk) : List V := [.int m.t, .str m.h, .int m.n]
def mkK (m : Mk) : List L2.Key := [.inl m.t, .inr m.h, .inl m.n]
theorem mkK_inj {m n : Mk} (h : mkK m = mkK n) : m = n := by
  cases m
  cases n
  simp [mkK] at h
  obtain ⟨rfl, rfl, rfl⟩ := h
  rfl
/-- an entry: its stamp, its flip, how often it was changed -/
structure En where
  m : Mk
  ts : List Int
  hs : List Int
  k : Nat
def En.on (e : En) : Bool := decide (e.k % 2 = 0)
def noteD (e : En) : PyData := .list [mkD e.m, .tuple [.list (e.ts.map PyData.int), .list (e.hs.map PyData.int)], .bool e.on, .int (e.k : Nat)]
abbrev tok : KeyOrd := itemOrd
theorem lex_app {O : KeyOrd} : ∀ {xs ys ra rb : List O.α}, xs.length = ys.length → xs ≠ ys → PyProof.Rows.lexLt O (xs ++ ra) (ys ++ rb) = PyProof.Rows.lexLt O xs ys
  | [], [], _, _, _, n => absurd rfl n
  | x :: xs, y :: ys, ra, rb, l, n => by
    have l' : xs.length = ys.length := by simpa using l
    show PyProof.Rows.lexLt O (x :: (xs ++ ra)) (y :: (ys ++ rb)) = PyProof.Rows.lexLt O (x :: xs) (y :: ys)
    by_cases e : xs = ys
    · subst e
      have nxy : x ≠ y := fun q => n (by rw [q])
      unfold PyProof.Rows.lexLt
      by_cases h1 : O.blt x y = true
      · simp [h1]
      · by_cases h2 : O.blt y x = true
        · simp [h1, h2]
        · exact absurd (O.total x y (by simpa using h1) (by simpa using h2)) nxy
    · have ih := lex_app (ra := ra) (rb := rb) l' e
      unfold PyProof.Rows.lexLt
      rw [ih]
def leM (a b : Mk) : Bool := W.dataLe false mkD a b
def mkT (m : Mk) : List tok.α := [.inl 1, .inl m.t, .inl 1, .inr m.h.cps.toList, .inl 1, .inl m.n, .inl 0]
theorem toks_mk (m : Mk) : W.keyToks (mkD m) = mkT m := by
  simp [mkD, mkT, W.keyToks, W.keyToksAll]
theorem mkT_inj {m n : Mk} (h : mkT m = mkT n) : m = n := by
  cases m with
  | mk t1 h1 n1 =>
    cases n with
    | mk t2 h2 n2 =>
      simp [mkT] at h
      obtain ⟨rfl, e, rfl⟩ := h
      have : h1 = h2 := by
        cases h1
        cases h2
        simpa using e
      rw [this]
theorem lex_cons (O : KeyOrd) (x : O.α) (a b : List O.α) : PyProof.Rows.lexLt O (x :: a) (x :: b) = PyProof.Rows.lexLt O a b := by
  have := O.irrefl x
  simp [PyProof.Rows.lexLt, this]
def noteR (e : En) : List tok.α := W.keyToksAll [.tuple [.list (e.ts.map PyData.int), .list (e.hs.map PyData.int)], .bool e.on, .int (e.k : Nat)]
theorem toks_note (e : En) : W.keyToks (noteD e) = .inl 1 :: (mkT e.m ++ noteR e) := by
  show W.keyToks (.list (mkD e.m :: _)) = _
  rw [← toks_mk]
  rfl
/-- entries with other stamps are ordered as their stamps -/
theorem note_le {e f : En} (h : e.m ≠ f.m) : W.dataLe false noteD e f = leM e.m f.m := by
  unfold leM W.dataLe W.sortLe
  show (!(listOrd tok).blt (W.keyToks (noteD f)) (W.keyToks (noteD e))) = (!(listOrd tok).blt (W.keyToks (mkD f.m)) (W.keyToks (mkD e.m)))
  rw [toks_note, toks_note, toks_mk, toks_mk]
  show (!PyProof.Rows.lexLt tok _ _) = (!PyProof.Rows.lexLt tok _ _)
  rw [lex_cons]
  rw [lex_app (xs := mkT f.m) (ys := mkT e.m) rfl (fun q => h (mkT_inj q).symm)]
theorem le_self {β : Type} (enc : β → PyData) (e : β) : W.dataLe false enc e e = true := by
  unfold W.dataLe W.sortLe
  show (!(listOrd tok).blt (W.keyToks (enc e)) (W.keyToks (enc e))) = true
  rw [(listOrd tok).irrefl]
  rfl
/-- no two entries with one stamp -/
def Dist (es : List En) : Prop := (es.map En.m).Nodup
theorem Dist.inj : ∀ {es : List En}, Dist es → ∀ {e f : En}, e ∈ es → f ∈ es → e.m = f.m → e = f
  | [], _, _, _, h, _, _ => nomatch h
  | a :: es, h, e, f, he, hf, q => by
    obtain ⟨h1, h2⟩ := List.nodup_cons.mp (show (a.m :: es.map En.m).Nodup from h)
    rcases List.mem_cons.mp he with rfl | he2
    · rcases List.mem_cons.mp hf with rfl | hf2
      · rfl
      · exact absurd (show e.m ∈ es.map En.m from List.mem_map.mpr ⟨f, hf2, q.symm⟩) h1
    · rcases List.mem_cons.mp hf with rfl | hf2
      · exact absurd (show f.m ∈ es.map En.m from List.mem_map.mpr ⟨e, he2, q⟩) h1
      · exact Dist.inj h2 he2 hf2 q
/-- the entries in the order of their stamps -/
def srt (es : List En) : List En := es.mergeSort (fun e f => leM e.m f.m)
theorem srt_notes {es : List En} (h : Dist es) : es.mergeSort (W.dataLe false noteD) = srt es :=
  W.sort_congr fun e he f hf => by
    by_cases q : e.m = f.m
    · rw [h.inj he hf q, le_self]
      exact (le_self mkD f.m).symm
    · exact note_le q
theorem srt_marks (es : List En) : (srt es).map En.m = (es.map En.m).mergeSort leM :=
  W.sort_maps En.m fun _ _ _ _ => rfl
theorem srt_perm (es : List En) : (srt es).Perm es := List.mergeSort_perm ..
theorem alike_ints : ∀ ns ms : List Int, W.alikeAll (ns.map PyData.int) (ms.map PyData.int) = true
  | [], [] => rfl
  | [], _ :: _ => rfl
  | _ :: _, [] => rfl
  | n :: ns, m :: ms => by
    show (W.alike (.int n) (.int m) && W.alikeAll (ns.map PyData.int) (ms.map PyData.int)) = true
    rw [alike_ints ns ms]
    rfl
theorem alike_marks (a b : Mk) : W.alike (mkD a) (mkD b) = true := rfl
theorem alike_notes (e f : En) : W.alike (noteD e) (noteD f) = true := by
  show (W.alike (mkD e.m) (mkD f.m) && (((W.alikeAll (e.ts.map PyData.int) (f.ts.map PyData.int)) && ((W.alikeAll (e.hs.map PyData.int) (f.hs.map PyData.int)) && true)) && (true && (true && true)))) = true
  rw [alike_ints, alike_ints]
  rfl
end Par
namespace K33
open PySem PySem.Spec PyProof.Rows L2 Par X
theorem noPy {a m : Int} (h0 : 0 < m) (h : m < 2 ^ 200) : Builtin.divisionGoesByPylong a m = false := by
  refine PyProof.noPylong_of_log2 ?_
  have n0 : m.natAbs ≠ 0 := by omega
  have e : (2 : Int) ^ 200 = ((2 ^ 200 : Nat) : Int) := by decide +kernel
  rw [e] at h
  have z : m.natAbs < 2 ^ 200 := by omega
  have y := (Nat.log2_lt n0).mpr z
  omega
/-- lower-case letters alone -/
def Lw (x : Str) : Prop := ∀ c ∈ x.cps.toList, lowc c = true
theorem Lw.append {x y : Str} (h : Lw x) (k : Lw y) : Lw (x ++ y) := fun c hc => by
  have e : (x ++ y).cps.toList = x.cps.toList ++ y.cps.toList := TL.tl_append x y
  rw [e, List.mem_append] at hc
  exact hc.elim (h c) (k c)
/-- a stamp as it must be -/
structure OkM (m : Mk) : Prop where
  t0 : 0 ≤ m.t
  t1 : m.t ≤ most
  n0 : 0 ≤ m.n
  n1 : m.n ≤ most
  h1 : 1 ≤ m.h.length
  h8 : m.h.length ≤ 8
  lw : Lw m.h
theorem OkM.stamp {m : Mk} (h : OkM m) : stampO (some (mkV m)) = true := by
  show (isV (.int m.t) 0 most && (wordV (.str m.h) && isV (.int m.n) 0 most)) = true
  have e1 : isV (.int m.t) 0 most = true := by
    show (decide (0 ≤ m.t) && decide (m.t ≤ most)) = true
    rw [decide_eq_true h.t0, decide_eq_true h.t1]
    rfl
  have e2 : isV (.int m.n) 0 most = true := by
    show (decide (0 ≤ m.n) && decide (m.n ≤ most)) = true
    rw [decide_eq_true h.n0, decide_eq_true h.n1]
    rfl
  have e3 : wordV (.str m.h) = true := by
    show (decide (1 ≤ m.h.length) && (decide (m.h.length ≤ 8) && m.h.cps.toList.all lowc)) = true
    rw [decide_eq_true h.h1, decide_eq_true h.h8, List.all_eq_true.mpr h.lw]
    rfl
  rw [e1, e2, e3]
  rfl
/-! ### texts of drawn letters -/
theorem join0 (xs : List Str) : Txt.join "" xs = Str.join "" xs := eq_of_beq (join_plain_closes "" xs)
theorem len_join0 : ∀ xs : List Str, (∀ x ∈ xs, x.length = 1) → (Str.join "" xs).length = xs.length
  | [], _ => rfl
  | [t], h => h t (List.mem_cons_self ..)
  | t :: u :: ts, h => by
    have ih := len_join0 (u :: ts) fun v hv => h v (List.mem_cons_of_mem _ hv)
    have e : Str.join "" (t :: u :: ts) = t ++ "" ++ Str.join "" (u :: ts) := rfl
    rw [e, strLen_append, strLen_append, ih, h t (List.mem_cons_self ..)]
    show 1 + 0 + (ts.length + 1) = ts.length + 1 + 1
    omega
theorem low_join0 : ∀ xs : List Str, (∀ x ∈ xs, Lw x) → Lw (Str.join "" xs)
  | [], _ => by
    intro c hc
    have : (Str.join "" []).cps.toList = [] := by decide +kernel
    rw [this] at hc
    cases hc
  | [t], h => h t (List.mem_cons_self ..)
  | t :: u :: ts, h => by
    have ih := low_join0 (u :: ts) fun v hv => h v (List.mem_cons_of_mem _ hv)
    have e : Str.join "" (t :: u :: ts) = t ++ "" ++ Str.join "" (u :: ts) := rfl
    rw [e]
    refine .append (.append (h t (List.mem_cons_self ..)) ?_) ih
    intro c hc
    have : (Str.ofString "").cps.toList = [] := by decide +kernel
    rw [this] at hc
    cases hc
/-- letters, one by one -/
def Ones (xs : List Str) : Prop := ∀ x ∈ xs, x.length = 1 ∧ Lw x
theorem letters_at (i : Int) (h0 : 0 ≤ i) (h1 : i < 26) : ∃ c, abc.cps[i.toNat]? = some c ∧ lowc c = true := by
  have h : ∀ n : Fin 26, ∃ c, abc.cps[n.val]? = some c ∧ lowc c = true := by decide +kernel
  exact h ⟨i.toNat, by omega⟩
section
variable {P : Program} {w : World} {K : PySem.W.Frag} {mg : Str → Option Value} {base : Heap}
/-- a draw of many digits -/
def spDrawW : Sp := fun vs H Q _ => ∃ (p : Addr) (m : Int), vs = [.ref p, .int m] ∧ PotAt H p ∧ 0 < m ∧ m < 2 ^ 200 ∧
  ∀ d H', 0 ≤ d → d < m → But p H H' → PotAt H' p → Q (.int d) H'
theorem scDrawW : FnScope ["_law_pot_here", "_law_many", "_law_digit"] ["_law_pot_here", "_law_many"] (defScope sDraw) := ⟨rfl, rfl, rfl, by decide +kernel, rfl, by decide +kernel, by decide +kernel⟩
theorem ok_drawW {f : Addr} {fd : FuncData} (F : Fun K "_law_draw" "_law_draw" sDraw f fd) (B : Bl mg) : FnOk P w K mg base CX0 2 f fd ["_law_pot_here", "_law_many"] spDrawW := by
  refine F.ok scDrawW (fun vs H Q E h => ?_) (fun cdv A outer s H vs Q E hr h => ?_)
  · obtain ⟨p, m, rfl, _⟩ := h
    rfl
  · obtain ⟨p, m, rfl, ⟨a, b, hp, ha, hb, hb2⟩, hm, hm2, out⟩ := h
    refine ⟨_, pss_cons (ps_if (pt_cmpR op_gt (pe_ix ix_list (pv 0) pe_int (fun _ _ => rfl)) pe_int (nomark _))
        (pss_cons (ps_asg (pe_callB call_divmodW (by rfl) B.divmod (by decide +kernel) (pa_cons (pe_ix ix_list (pv 0) pe_int (fun _ _ => rfl)) (pa_cons (pv 1) pa_nil))) (pg_tup rfl (pgs_cons (pg_sub (pv 0) pe_int set_list) (pgs_cons (pg_name (i := 2) scDrawW.nd rfl (Or.inl rfl)) pgs_nil))))
          (pss_one (ps_ret (pv 2)))) pss_nil)
      (pss_cons (ps_asg (pe_op op_mod (pe_op op_add (pe_op op_mul (pe_ix ix_list (pv 0) pe_int (fun _ _ => rfl)) pe_int) pe_int) pe_int) (pg_sub (pv 0) pe_int set_list))
      (pss_one (ps_ret (pe_op op_mod (pe_op op_fdiv (pe_op op_mod (pe_op op_mul (pe_ix ix_list (pv 0) pe_int (fun _ _ => rfl)) (pe_ix ix_list (pv 0) pe_int (fun _ _ => rfl))) pe_int) pe_int) (pv 1))))), ?_⟩
    have hL : SqL K H p [.int a, .int b] := SqL.of hp
    refine ⟨_, rfl, p, _, 0, .int a, rfl, rfl, hL, rfl, a, 0, rfl, rfl, _, rfl, ?_⟩
    refine ite2 (fun hpos => ?_) (fun hneg => ?_)
    · refine ⟨_, rfl, p, _, 0, .int a, rfl, rfl, hL, rfl, _, rfl, a, m, rfl, ⟨hm, noPy hm hm2⟩, fun q hq => ?_⟩
      have hne : p ≠ q := ne_of_none hp hq
      have hT : SqT K (upd H q (.tup [.int (a / m), .int (a % m)])) q [.int (a / m), .int (a % m)] := SqT.of upd_same
      have hp2 : (upd H q (.tup [.int (a / m), .int (a % m)])) p = some (.lst [.int a, .int b]) := by
        rw [upd_ne hne]
        exact hp
      refine ⟨q, _, rfl, hT, rfl, _, _, rfl, _, rfl, p, _, 0, 0, rfl, rfl, hp2, rfl, _, _, rfl, rfl, _, rfl, ?_⟩
      exact out (a % m) _ (Int.emod_nonneg _ (by omega)) (Int.emod_lt_of_pos _ hm) ((But.new hq).trans (But.upd _)) ⟨a / m, b, upd_same, Int.ediv_nonneg ha (by omega), hb, hb2⟩
    · have h0 : (0 : Int) ≤ (b * 39373 + 12227) % 2147483629 := Int.emod_nonneg _ (by decide)
      have h1 : (b * 39373 + 12227) % 2147483629 < 2147483629 := Int.emod_lt_of_pos _ (by decide)
      refine ⟨_, rfl, p, _, 1, .int b, rfl, rfl, hL, rfl, b, 39373, rfl, rfl, .inl ⟨by omega, by omega⟩, _, _, rfl, rfl, _, _, rfl, rfl, (by show (0 : Int) < _; decide), _, rfl, p, _, 1, 1, rfl, rfl, hp, rfl, ?_⟩
      have hL2 : SqL K (upd H p (.lst [.int a, .int ((b * 39373 + 12227) % 2147483629)])) p [.int a, .int ((b * 39373 + 12227) % 2147483629)] := SqL.of upd_same
      refine ⟨_, rfl, p, _, 1, _, rfl, rfl, hL2, rfl, _, rfl, p, _, 1, _, rfl, rfl, hL2, rfl, _, _, rfl, rfl, .inl ⟨by omega, by omega⟩, _, _, rfl, rfl, (by show (0 : Int) < _; decide), _, _, rfl, rfl, ⟨by decide, by decide⟩, _, rfl, _, m, rfl, rfl, hm, ?_⟩
      exact out _ _ (Int.emod_nonneg _ (by omega)) (Int.emod_lt_of_pos _ hm) (But.upd _) ⟨a, _, upd_same, ha, h0, by omega⟩
/-- _law_moment -/
def spMoment : Sp := fun vs H Q _ => ∃ p : Addr, vs = [.ref p] ∧ PotAt H p ∧ ∀ i H', 0 ≤ i → i ≤ most → But p H H' → PotAt H' p → Q (.int i) H'
theorem scMoment : FnScope ["_law_pot_here", "_law_far"] ["_law_pot_here"] (defScope slMoment) := ⟨rfl, rfl, rfl, by decide +kernel, rfl, by decide +kernel, by decide +kernel⟩
theorem ok_moment {f : Addr} {fd : FuncData} (F : Fun K "_law_moment" "_law_moment" slMoment f fd) (D : Has P w K mg base "_law_draw" 2 ["_law_pot_here", "_law_many"] spDrawW) : FnOk P w K mg base CX0 3 f fd ["_law_pot_here"] spMoment := by
  obtain ⟨fD, fdD, GD, mD, kD, bD⟩ := D
  refine F.ok scMoment (fun vs H Q E h => ?_) (fun cdv A outer s H vs Q E hr h => ?_)
  · obtain ⟨p, rfl, _⟩ := h
    rfl
  · obtain ⟨p, rfl, hp, out⟩ := h
    refine ⟨_, pss_cons (ps_set (i := 1) scMoment.nd rfl (Or.inl rfl) (pe_call GD hr (by rfl) mD kD bD .nil pass0 (pa_cons (pv 0) (pa_cons (pe_op op_add (pe_op op_pow pe_int pe_int) pe_int) pa_nil))))
      (pss_one (ps_ret (pe_ix ix_list (pe_lst (pa_cons (pe_call GD hr (by rfl) mD kD bD .nil pass0 (pa_cons (pv 0) (pa_cons pe_int pa_nil))) (pa_cons (pe_call GD hr (by rfl) mD kD bD .nil pass0 (pa_cons (pv 0) (pa_cons pe_int pa_nil))) (pa_cons (pv 1) (pa_cons (pe_op op_pow pe_int pe_int) (pa_cons pe_int pa_nil))))))
        (pe_call GD hr (by rfl) mD kD bD .nil pass0 (pa_cons (pv 0) (pa_cons pe_int pa_nil))) (fun _ _ => rfl)))), ?_⟩
    refine ⟨_, rfl, 10, 18, rfl, rfl, ⟨by decide, by decide, by decide⟩, _, _, rfl, rfl, p, _, rfl, hp, by decide, by decide, ?_⟩
    intro a H1 a0 a1 b1 hp1
    refine ⟨_, rfl, p, 4, rfl, hp1, by decide, by decide, fun c H2 c0 c1 b2 hp2 => ?_⟩
    refine ⟨_, rfl, p, 12, rfl, hp2, by decide, by decide, fun e H3 e0 e1 b3 hp3 => ?_⟩
    refine ⟨_, rfl, 10, 18, rfl, rfl, ⟨by decide, by decide, by decide⟩, (by show 5 ≤ sizeLine; decide), fun L hL => ?_⟩
    have nL := pot_ne hp3 hL
    have sL := same_new (o := .lst [.int c, .int e, .int a, .int (10 ^ 18), .int 0]) hL
    refine ⟨_, rfl, p, 5, rfl, hp3.same sL, by decide, by decide, fun k H5 k0 k1 b5 hp5 => ?_⟩
    have eL := b5 L _ nL (upd_same (H := H3) (a := L) (o := .lst [.int c, .int e, .int a, .int (10 ^ 18), .int 0]))
    have bb : But p H H5 := ((b1.trans b2).trans (b3.trans (But.same sL))).trans b5
    have a1' : a < 10 ^ 18 + 1 := a1
    have hq : (10 : Int) ^ 18 = 1000000000000000000 := by decide
    have fin : ∀ i : Int, 0 ≤ i → i ≤ most → Q (.int i) H5 := fun i i0 i1 => out i H5 i0 i1 bb hp5
    rcases (show k = 0 ∨ k = 1 ∨ k = 2 ∨ k = 3 ∨ k = 4 by omega) with rfl | rfl | rfl | rfl | rfl
    · exact ⟨L, _, 0, _, rfl, rfl, SqL.of eL, rfl, fin c c0 (by show c ≤ 1000000000000000000; omega)⟩
    · exact ⟨L, _, 1, _, rfl, rfl, SqL.of eL, rfl, fin e e0 (by show e ≤ 1000000000000000000; omega)⟩
    · exact ⟨L, _, 2, _, rfl, rfl, SqL.of eL, rfl, fin a a0 (by show a ≤ 1000000000000000000; omega)⟩
    · exact ⟨L, _, 3, _, rfl, rfl, SqL.of eL, rfl, fin _ (by decide) (by decide)⟩
    · exact ⟨L, _, 4, _, rfl, rfl, SqL.of eL, rfl, fin 0 (by decide) (by decide)⟩
/-- _law_mark -/
def spMark : Sp := fun vs H Q _ => ∃ p : Addr, vs = [.ref p] ∧ PotAt H p ∧ ∀ q (m : Mk) H', H q = none → But p H H' → PotAt H' p → H' q = some (.tup (mkV m)) → OkM m → Q (.ref q) H'
abbrev nMark : List Str := ["_law_pot_here", "_law_letters", "_law_word", "_law_palm", "_law_far", "_law_k"]
theorem scMark : FnScope nMark ["_law_pot_here"] (defScope slMark) := ⟨rfl, rfl, rfl, by decide +kernel, rfl, by decide +kernel, by decide +kernel⟩
theorem ones_sum : ∀ {xs : List Str}, Ones xs → (xs.map (·.length)).sum = xs.length
  | [], _ => rfl
  | x :: xs, h => by
    rw [List.map_cons, List.sum_cons, ones_sum (fun y hy => h y (List.mem_cons_of_mem _ hy)), (h x (List.mem_cons_self ..)).1, List.length_cons]
    omega
theorem ok_mark {f : Addr} {fd : FuncData} (F : Fun K "_law_mark" "_law_mark" slMark f fd) (B : Bl mg) (D : Has P w K mg base "_law_draw" 2 ["_law_pot_here", "_law_many"] spDrawW) (Mo : Has P w K mg base "_law_moment" 3 ["_law_pot_here"] spMoment) :
    FnOk P w K mg base CX0 4 f fd ["_law_pot_here"] spMark := by
  obtain ⟨fD, fdD, GD, mD, kD, bD⟩ := D
  obtain ⟨fM, fdM, GM, mM, kM, bM⟩ := Mo
  refine F.ok scMark (fun vs H Q E h => ?_) (fun cdv A outer s H vs Q E hr h => ?_)
  · obtain ⟨p, rfl, _⟩ := h
    rfl
  · obtain ⟨p, rfl, hp, out⟩ := h
    have r2 : Room 2 (A.deeper (envOfC "_law_mark" (defScope slMark) s.heap.objs.size f cdv)) := hr.mono (by decide)
    refine ⟨_, pss_cons (ps_set (i := 1) scMark.nd rfl (Or.inr rfl) pe_str)
      (pss_cons (ps_set (i := 2) scMark.nd rfl (Or.inl rfl) (pe_join pe_str (pe_lc (own := [("_law_k", 5)]) (g := gName 5) rfl scMark.nd (pi_range1 (by rfl) B.range (pa_cons (pe_op op_add pe_int (pe_call GD r2 (by rfl) mD kD bD .nil pass0 (pa_cons (pv 0) (pa_cons pe_int pa_nil)))) pa_nil)) (blkOk_by (own := [("_law_k", 5)]) (N := nMark) (sc := defScope slMark) (by decide +kernel))
          (fun _ _ _ _ _ => pg_name (i := 5) scMark.nd rfl (Or.inl rfl)) (fun _ _ _ _ _ => pts_nil) (fun _ _ _ _ _ => by exact pe_item_str (pv 1) (pe_call GD r2 (by rfl) mD kD bD .nil pass0 (pa_cons (pv 0) (pa_cons pe_int pa_nil))) (fun _ _ => rfl)))))
      (pss_cons (ps_set (i := 3) scMark.nd rfl (Or.inl rfl) (pe_ix ix_list (pe_lst (pa_cons pe_str (pa_cons pe_str (pa_cons pe_str (pa_cons pe_str (pa_cons (pv 2) pa_nil)))))) (pe_call GD r2 (by rfl) mD kD bD .nil pass0 (pa_cons (pv 0) (pa_cons pe_int pa_nil))) (fun _ _ => rfl)))
      (pss_cons (ps_set (i := 4) scMark.nd rfl (Or.inl rfl) (pe_call GD r2 (by rfl) mD kD bD .nil pass0 (pa_cons (pv 0) (pa_cons (pe_op op_add (pe_op op_pow pe_int pe_int) pe_int) pa_nil))))
      (pss_one (ps_ret (pe_tup (pa_cons (pe_call GM hr (by rfl) mM kM bM .nil pass0 (pa_cons (pv 0) pa_nil)) (pa_cons (pv 3) (pa_cons (pe_ix ix_list (pe_lst (pa_cons pe_int (pa_cons pe_int (pa_cons pe_int (pa_cons (pe_call GD r2 (by rfl) mD kD bD .nil pass0 (pa_cons (pv 0) (pa_cons pe_int pa_nil))) (pa_cons (pv 4) pa_nil))))))
          (pe_call GD r2 (by rfl) mD kD bD .nil pass0 (pa_cons (pv 0) (pa_cons pe_int pa_nil))) (fun _ _ => rfl)) pa_nil))))))))), ?_⟩
    refine ⟨⟨_, rfl⟩, ?_⟩
    refine ⟨_, rfl, p, 8, rfl, hp, by decide, by decide, fun n H1 n0 n1 b1 hp1 => ?_⟩
    refine ⟨1, n, rfl, rfl, 1 + n, rfl, ?_⟩
    refine ⟨by omega, by omega, fun D hD => ?_⟩
    have nD := pot_ne hp1 hD
    refine lc_range (lo := 0) (n := (1 + n).toNat) (fun i H' => ∃ xs : List Str, H' D = some (.lst (xs.map V.str)) ∧ xs.length = i ∧ Ones xs ∧ But p H H' ∧ PotAt H' p)
      ⟨[], upd_same, rfl, (fun x hx => nomatch hx), b1.trans (But.new hD), hp1.same (same_new hD)⟩ ?_ ?_
    · rintro i H2 hi ⟨xs, hD2, hl2, ho2, b2, hp2⟩
      refine ⟨rfl, yesT ?_⟩
      refine ⟨_, rfl, _, rfl, p, 26, rfl, hp2, by decide, by decide, fun d H3 d0 d1 b3 hp3 => ?_⟩
      obtain ⟨c, hc, hc2⟩ := letters_at d d0 d1
      refine ⟨abc, d, c, rfl, rfl, d0, by omega, (by show d < (26 : Int); exact d1), hc, ?_⟩
      refine ⟨_, b3 D _ nD hD2, ?_, xs ++ [⟨#[c]⟩], ?_, ?_, ?_, ?_, ?_⟩
      · rw [List.length_map, hl2, sizeLine_eq]
        omega
      · rw [upd_same, List.map_append]
        rfl
      · rw [List.length_append, hl2]
        rfl
      · intro x hx
        rcases List.mem_append.mp hx with z | z
        · exact ho2 x z
        · rw [List.mem_singleton.mp z]
          refine ⟨rfl, fun e he => ?_⟩
          rw [show e = c by simpa using he]
          exact hc2
      · intro b o hb e
        have e2 := b3 b o hb (b2 b o hb e)
        have nb : b ≠ D := fun z => by
          subst z
          exact absurd (b1 b o hb e) (by rw [hD]; simp)
        rw [upd_ne nb]
        exact e2
      · obtain ⟨x1, x2, e1, r1⟩ := hp3
        exact ⟨x1, x2, by rw [upd_ne (Ne.symm nD)]; exact e1, r1⟩
    rintro H2 ⟨xs, hD2, hl2, ho2, b2, hp2⟩
    have hxl : xs.length ≤ 8 := by omega
    have hx1 : 1 ≤ xs.length := by omega
    refine ⟨_, D, xs, rfl, rfl, .inl (SqL.of hD2), ?_, ?_⟩
    · rw [ones_sum ho2]
      show xs.length + xs.length * 0 ≤ 16777216
      omega
    rw [join0]
    have lz := low_join0 xs fun x hx => (ho2 x hx).2
    have zl := len_join0 xs fun x hx => (ho2 x hx).1
    generalize Str.join "" xs = z at lz zl
    refine ⟨_, rfl, (by show 5 ≤ sizeLine; decide), fun L hL => ?_⟩
    have nL := pot_ne hp2 hL
    have sL := same_new (o := .lst [.str "ann", .str "anna", .str "a", .str "zzzzzzzz", .str z]) hL
    refine ⟨_, rfl, p, 5, rfl, hp2.same sL, by decide, by decide, fun k H5 k0 k1 b5 hp5 => ?_⟩
    have eL := b5 L _ nL (upd_same (H := H2) (a := L) (o := .lst [.str "ann", .str "anna", .str "a", .str "zzzzzzzz", .str z]))
    have bb : But p H H5 := (b2.trans (But.same sL)).trans b5
    obtain ⟨y, hat, y1, yl, ly⟩ : ∃ y : Str, atI [V.str "ann", V.str "anna", V.str "a", V.str "zzzzzzzz", V.str z] k = some (.str y) ∧ 1 ≤ y.length ∧ y.length ≤ 8 ∧ Lw y := by
      rcases (show k = 0 ∨ k = 1 ∨ k = 2 ∨ k = 3 ∨ k = 4 by omega) with rfl | rfl | rfl | rfl | rfl
      · exact ⟨_, rfl, by decide +kernel, by decide +kernel, by intro c hc; revert c hc; decide +kernel⟩
      · exact ⟨_, rfl, by decide +kernel, by decide +kernel, by intro c hc; revert c hc; decide +kernel⟩
      · exact ⟨_, rfl, by decide +kernel, by decide +kernel, by intro c hc; revert c hc; decide +kernel⟩
      · exact ⟨_, rfl, by decide +kernel, by decide +kernel, by intro c hc; revert c hc; decide +kernel⟩
      · exact ⟨z, rfl, by omega, by omega, lz⟩
    refine ⟨L, _, k, _, rfl, rfl, SqL.of eL, hat, ?_⟩
    refine ⟨_, rfl, 10, 18, rfl, rfl, ⟨by decide, by decide, by decide⟩, _, _, rfl, rfl, p, _, rfl, hp5, by decide, by decide, fun a H6 a0 a1 b6 hp6 => ?_⟩
    refine ⟨_, rfl, p, rfl, hp6, fun i H7 i0 i1 b7 hp7 => ?_⟩
    refine ⟨_, rfl, _, rfl, p, 5, rfl, hp7, by decide, by decide, fun e H8 e0 e1 b8 hp8 => ?_⟩
    refine ⟨_, rfl, (by show 5 ≤ sizeLine; decide), fun M hM => ?_⟩
    have nM := pot_ne hp8 hM
    have sM := same_new (o := .lst [.int 0, .int 9, .int 10, .int e, .int a]) hM
    refine ⟨_, rfl, p, 5, rfl, hp8.same sM, by decide, by decide, fun k2 H9 k20 k21 b9 hp9 => ?_⟩
    have eM := b9 M _ nM (upd_same (H := H8) (a := M) (o := .lst [.int 0, .int 9, .int 10, .int e, .int a]))
    have a1' : a < 10 ^ 18 + 1 := a1
    have hq : (10 : Int) ^ 18 = 1000000000000000000 := by decide
    obtain ⟨j, hat2, j0, j1⟩ : ∃ j : Int, atI [V.int 0, V.int 9, V.int 10, V.int e, V.int a] k2 = some (.int j) ∧ 0 ≤ j ∧ j ≤ most := by
      rcases (show k2 = 0 ∨ k2 = 1 ∨ k2 = 2 ∨ k2 = 3 ∨ k2 = 4 by omega) with rfl | rfl | rfl | rfl | rfl
      · exact ⟨_, rfl, by decide, by decide⟩
      · exact ⟨_, rfl, by decide, by decide⟩
      · exact ⟨_, rfl, by decide, by decide⟩
      · exact ⟨e, rfl, e0, by show e ≤ 1000000000000000000; omega⟩
      · exact ⟨a, rfl, a0, by show a ≤ 1000000000000000000; omega⟩
    refine ⟨M, _, k2, _, rfl, rfl, SqL.of eM, hat2, (by show 3 ≤ sizeLine; decide), fun q hq9 => ?_⟩
    have bAll : But p H H9 := (((bb.trans b6).trans b7).trans (b8.trans (But.same sM))).trans b9
    exact out q ⟨i, y, j⟩ _ (bAll.free hp hq9 hp9) (bAll.trans (But.new hq9)) (hp9.same (same_new hq9)) upd_same ⟨i0, i1, j0, j1, y1, yl, ly⟩
end
end K33
namespace K33
open PySem PySem.Spec PyProof.Rows L2 Par
section
variable {P : Program} {w : World} {K : PySem.W.Frag} {mg : Str → Option Value} {base : Heap}
/-- a def that may raise, where it does not -/
theorem fnOk0 {k : Nat} {f : Addr} {fd : FuncData} {ps : List Str} {sp : Sp} (G : FnOk P w K mg base (L2.CX P w) k f fd ps sp) : FnOk P w K mg base CX0 k f fd ps (fun vs H Q _ => sp vs H Q fun _ _ _ => False) :=
  ⟨fun vs H Q E h => G.len vs H Q _ h, fun A outer s H args us vs Q E hr e0 hb hv q => codeAny_mono (G.run A outer s H args us vs Q (fun _ _ _ => False) hr e0 hb hv q) fun r s' x => by
    match r, x with
    | .ok (.ret u), x => exact x
    | .ok .next, x => exact x
    | .ok .brk, x => exact x
    | .ok .cont, x => exact x
    | .error e, x =>
      obtain ⟨_, _, _, _, _, _, _, _, _, _, _, _, no⟩ := x
      exact no⟩
end
section
variable {P : Program} {w : World} {K : PySem.W.Frag} {mg : Str → Option Value} {base : Heap}
def spApply (C CF CW : Addr) : Sp := fun vs H Q E => ∃ (b f : Addr) (bs ts hs : List Int), vs = [.ref b, .ref f] ∧ Bd C H b bs ∧ OkB bs ∧ Fp CF H f ts hs ∧ OkF ts hs ∧
  (∀ M, Fits ts hs M → M ≤ bs.length → ∀ q H', H q = none → Same H H' → Bd C H' q (aftB bs ts hs) → Q (.ref q) H') ∧
  (∀ M, Fits ts hs M → bs.length < M → ∀ d H', H d = none → Same H H' → H' d = some (.xd [("needed", .int M)]) → E (.ref CW) (some d) H')
abbrev nApply : List Str := ["board", "flip", "changed"]
theorem scApply : FnScope nApply ["board", "flip"] (defScope sApply) := ⟨rfl, rfl, rfl, by decide +kernel, rfl, by decide +kernel, by decide +kernel⟩
theorem ok_apply {f C CF CW : Addr} {fd : FuncData} (F : Fun K "apply_flip" "apply_flip" sApply f fd) (T : BC K mg C) (TF : FC K mg CF) (TW : WC K mg CW) (DS : HasM P w K mg base C "size" 2 ["self"] (spSize C)) (DP : HasM P w K mg base C "parity" 6 ["self", "cells"] (spPar K C))
    (DT : HasM P w K mg base C "toggled" 8 ["self", "cells"] (spTog K C)) (DA : HasM P w K mg base CF "tested" 2 ["self"] (spTested CF)) (DB : HasM P w K mg base CF "toggled" 2 ["self"] (spToggled CF))
    (DI : HasFit P w K mg base CF CW) : FnOk P w K mg base (L2.CX P w) 9 f fd ["board", "flip"] (spApply C CF CW) := by
  obtain ⟨fS, fdS, GS, mS, bS⟩ := DS
  obtain ⟨fP, fdP, GP, mP, bP⟩ := DP
  obtain ⟨fT, fdT, GT, mT, bT⟩ := DT
  obtain ⟨fA, fdA, GA, mA, bA⟩ := DA
  obtain ⟨fB, fdB, GB, mB, bB⟩ := DB
  obtain ⟨fI, fdI, GI, mI, kI, bI⟩ := DI
  refine F.okX scApply (fun vs H Q E h => ?_) (fun cdv A outer s H vs Q E hr h => ?_)
  · obtain ⟨b, g, bs, ts, hs, rfl, _⟩ := h
    rfl
  · obtain ⟨b, g, bs, ts, hs, rfl, hB, hO, hF, hK, good, bad⟩ := h
    obtain ⟨k1, k2, k3, k4, k5, k6⟩ := id hK
    have r1 : Room 2 _ := hr.mono (by decide)
    have r3 : Room 4 _ := hr.mono (by decide)
    have r4 : Room 6 _ := hr.mono (by decide)
    obtain ⟨dx, t, b1, b2⟩ := id hB
    obtain ⟨dg, t1, t2, f1, f2, f3⟩ := id hF
    have hin : ∀ {M : Int}, Fits ts hs M → M ≤ bs.length → (∀ k ∈ ts, 0 ≤ k ∧ k < bs.length) ∧ ∀ k ∈ hs, 1 ≤ k ∧ k < bs.length := fun {M} fit le => ⟨fun k hk => by
      have := fit.1 k (.inl hk)
      have := (k1 k hk).1
      omega, fun k hk => by
      have := fit.1 k (.inr hk)
      have := (k2 k hk).1
      omega⟩
    refine ⟨_, pss_cons (ps_expr (pe_callS GI r3 (by rfl) mI kI bI (fun σ => passAt (takes_of rfl rfl rfl rfl) σ) (pa_cons (pv 1) (pa_cons (pe_meth0 (pv 0) T.cl mS GS r1 bS .nil pass0) pa_nil))))
      (pss_cons (ps_set (i := 2) scApply.nd rfl (Or.inl rfl) (pe_ifExp (pt_cmpR op_eq (pe_meth (pv 0) T.cl mP GP r4 bP .nil pass0 (pa_cons (pe_meth0 (pv 1) TF.cl mA GA r1 bA .nil pass0) pa_nil)) pe_int (nomark _)) (pe_meth0 (pv 1) TF.cl mB GB r1 bB .nil pass0) (pe_tup pa_nil)))
      (pss_one (ps_ret (pe_meth (pv 0) T.cl mT GT hr bT .nil pass0 (pa_cons (pv 2) pa_nil))))), ?_⟩
    refine ⟨_, rfl, _, rfl, b, dx, _, rfl, b1, no_fld (by decide +kernel), b, bs, rfl, hB, g, ts, hs, (bs.length : Nat), rfl, hF, hK, ?_, ?_⟩
    rotate_left
    · intro M fit gt d H' hd sm ed
      exact bad M fit gt d H' hd sm ed
    · intro M fit le H1 s1
      have hB1 := hB.same s1
      obtain ⟨i1, i2⟩ := hin fit le
      refine ⟨_, rfl, b, dx, _, rfl, s1 _ _ b1, no_fld (by decide +kernel), _, rfl, g, dg, _, rfl, s1 _ _ f1, no2 (by decide +kernel) (by decide +kernel), g, ts, hs, rfl, hF.same s1, fun u hu => ?_⟩
      refine ⟨b, u, bs, ts, rfl, hB1, .inr (SqT.of hu), by omega, i1, k3, fun H2 s2 => ?_⟩
      have s12 := s1.trans s2
      refine ⟨rfl, _, rfl, ite2 (fun hp => ?_) (fun hp => ?_)⟩
      · have odd : parB bs ts = 1 := by
          have z := of_decide_eq_true hp
          injection z
        refine ⟨_, rfl, g, dg, _, rfl, s12 _ _ f1, no2 (by decide +kernel) (by decide +kernel), g, ts, hs, rfl, hF.same s12, fun v hv => ?_⟩
        refine ⟨_, rfl, b, dx, _, rfl, s12 _ _ b1, no_fld (by decide +kernel), _, rfl, b, v, bs, hs, rfl, hB.same s12, hO, .inr (SqT.of hv), by omega, i2, k4, fun q H3 hq s3 hq3 => ?_⟩
        refine good M fit le q H3 (s12.free hq) (s12.trans s3) ?_
        unfold aftB
        rw [decide_eq_true odd, if_pos rfl]
        exact hq3
      · have even : ¬ parB bs ts = 1 := fun z => hp (decide_eq_true (by rw [← z]; rfl))
        refine ⟨by decide, fun v hv => ?_⟩
        have sv := same_new (o := .tup []) hv
        refine ⟨_, rfl, b, dx, _, rfl, sv _ _ (s12 _ _ b1), no_fld (by decide +kernel), _, rfl, b, v, bs, [], rfl, (hB.same s12).same sv, hO, .inr (SqT.of upd_same), by decide, (fun k hk => nomatch hk), List.nodup_nil, fun q H3 hq s3 hq3 => ?_⟩
        rw [flip_nil] at hq3
        have s13 := s12.trans sv
        refine good M fit le q H3 (s13.free hq) (s13.trans s3) ?_
        unfold aftB
        rw [decide_eq_false even, if_neg Bool.false_ne_true]
        exact hq3
/-- a list or tuple of flips done in order -/
def spApplyAll (K : PySem.W.Frag) (C CF CW : Addr) : Sp := fun vs H Q E => ∃ (b l : Addr) (bs : List Int) (fs : List Addr) (ps : List (List Int × List Int)), vs = [.ref b, .ref l] ∧ Bd C H b bs ∧ OkB bs ∧ SqL K H l (fs.map V.ref) ∧ Fls CF H fs ps ∧
  ((∀ p ∈ ps, ∀ M, Fits p.1 p.2 M → M ≤ bs.length) → ∀ q H', Same H H' → Bd C H' q (runB bs ps) → Q (.ref q) H') ∧
  (∀ (i : Nat) (p : List Int × List Int) (M : Int), ps[i]? = some p → (∀ (j : Nat) (p' : List Int × List Int), j < i → ps[j]? = some p' → ∀ M, Fits p'.1 p'.2 M → M ≤ bs.length) → Fits p.1 p.2 M → bs.length < M → ∀ d H', H d = none → Same H H' → H' d = some (.xd [("needed", .int M)]) → E (.ref CW) (some d) H')
def HasAp0 (P : Program) (w : World) (K : PySem.W.Frag) (mg : Str → Option Value) (base : Heap) (C CF CW : Addr) : Prop :=
  ∃ f fd, FnOk P w K mg base (L2.CX P w) 9 f fd ["board", "flip"] (spApply C CF CW) ∧ mg "apply_flip" = some (.ref f) ∧ PySem.W.keepIn K (.ref f) = true ∧ Binds K fd ["board", "flip"] []
abbrev nApplyAll : List Str := ["board", "flips", "reached", "flip"]
theorem scApplyAll : FnScope nApplyAll ["board", "flips"] (defScope sApplyAll) := ⟨rfl, rfl, rfl, by decide +kernel, rfl, by decide +kernel, by decide +kernel⟩
theorem ok_applyAll {f C CF CW : Addr} {fd : FuncData} (F : Fun K "apply_flips" "apply_flips" sApplyAll f fd) (D : HasAp0 P w K mg base C CF CW) : FnOk P w K mg base (L2.CX P w) 10 f fd ["board", "flips"] (spApplyAll K C CF CW) := by
  obtain ⟨fD, fdD, GD, mD, kD, bD⟩ := D
  refine F.okX scApplyAll (fun vs H Q E h => ?_) (fun cdv A outer s H vs Q E hr h => ?_)
  · obtain ⟨b, l, bs, fs, ps, rfl, _⟩ := h
    rfl
  · obtain ⟨b, l, bs, fs, ps, rfl, hB, hO, hl, hF, good, bad⟩ := h
    refine ⟨_, pss_cons (ps_set (i := 2) scApplyAll.nd rfl (Or.inl rfl) (pv 0))
      (pss_cons (ps_for (passes_of rfl) rfl (pi_list (pv 1)) (pg_name (i := 3) scApplyAll.nd rfl (Or.inl rfl)) (pss_one (ps_set (i := 2) scApplyAll.nd rfl (Or.inl rfl) (pe_callS GD hr (by rfl) mD kD bD (fun σ => passAt (takes_of rfl rfl rfl rfl) σ) (pa_cons (pv 2) (pa_cons (pv 3) pa_nil))))))
      (pss_one (ps_ret (pv 2)))), ?_⟩
    refine ⟨_, rfl, _, rfl, l, rfl, ⟨_, hl⟩, ?_⟩
    refine for_list (K := K) (a := l) (xs := fs.map V.ref) (fun i σ H' => Same H H' ∧ (∀ (j : Nat) (p' : List Int × List Int), j < i → ps[j]? = some p' → ∀ M, Fits p'.1 p'.2 M → M ≤ bs.length) ∧ ∃ (q : Addr) (fv : Option V), σ = [some (.ref b), some (.ref l), some (.ref q), fv] ∧ Bd C H' q (runB bs (ps.take i)) ∧ OkB (runB bs (ps.take i)))
      ⟨Same.refl _, (fun j p' hj => nomatch hj), b, none, rfl, hB, hO⟩ (fun i σ H' _ h => same_sq h.1 hl) ?_ ?_
    · rintro i x σ H1 hx ⟨s1, fit1, q, fv, rfl, hB1, hO1⟩
      rw [List.getElem?_map] at hx
      obtain ⟨g, hg, rfl⟩ : ∃ g, fs[i]? = some g ∧ x = V.ref g := by
        cases e : fs[i]? with
        | none => rw [e] at hx; cases hx
        | some k => rw [e] at hx; exact ⟨k, rfl, (Option.some.inj hx).symm⟩
      obtain ⟨p, hp, hfp, hok⟩ := hF.at hg
      refine ⟨_, rfl, _, rfl, q, g, runB bs (ps.take i), p.1, p.2, rfl, hB1, hO1, hfp.same s1, hok, ?_, ?_⟩
      · intro M fit le q2 H2 hq2 s2 hB2
        rw [run_len] at le
        refine ⟨s1.trans s2, ?_, q2, _, rfl, ?_, ?_⟩
        · intro j p' hj hp' M' fit'
          by_cases z : j < i
          · exact fit1 j p' z hp' M' fit'
          · have e : j = i := by omega
            subst e
            rw [hp] at hp'
            cases hp'
            rw [fit'.one fit]
            exact le
        · rw [run_take hp]
          exact hB2
        · rw [run_take hp]
          exact aft_ok hO1 fun k hk => (hok.2.1 k hk).1
      · intro M fit gt d H' hd sm ed
        rw [run_len] at gt
        exact bad i p M hp fit1 fit gt d H' (s1.free hd) (s1.trans sm) ed
    · rintro σ H1 ⟨s1, fit1, q, fv, rfl, hB1, hO1⟩
      rw [List.length_map, hF.len] at fit1 hB1
      rw [List.take_length] at hB1
      refine ⟨_, rfl, good (fun p hp M fit => ?_) q H1 s1 hB1⟩
      obtain ⟨j, hj⟩ := List.getElem?_of_mem hp
      exact fit1 j p (List.getElem?_eq_some_iff.mp hj).1 hj M fit
end
theorem symm_len (ns ms : List Int) : (symm ns ms).length ≤ ns.length + ms.length := by
  unfold symm
  rw [List.length_append]
  have f1 := List.length_filter_le (fun k => !decide (k ∈ ms)) ns
  have f2 := List.length_filter_le (fun k => !decide (k ∈ ns)) ms
  omega
/-- the toggled cells of a flip moved past another -/
def movedH (h1 t2 h2 : List Int) : List Int := if (comm h1 t2).length % 2 = 1 then symm h1 h2 else h1
theorem mem_movedH {h1 t2 h2 : List Int} {k : Int} (h : k ∈ movedH h1 t2 h2) : k ∈ h1 ∨ k ∈ h2 := by
  unfold movedH at h
  split at h
  · have := (mem_symm k).mp h
    by_cases a : k ∈ h1
    · exact .inl a
    · by_cases b : k ∈ h2
      · exact .inr b
      · simp [a, b] at this
  · exact .inl h
theorem mem_moved {ns ts hs : List Int} {k : Int} (h : k ∈ moved ns ts hs) : k ∈ ns ∨ k ∈ ts := by
  unfold moved at h
  split at h
  · have := (mem_symm k).mp h
    by_cases a : k ∈ ns
    · exact .inl a
    · by_cases b : k ∈ ts
      · exact .inr b
      · simp [a, b] at this
  · exact .inl h
theorem moved_nd {ns ts hs : List Int} (h1 : ns.Nodup) (h2 : ts.Nodup) : (moved ns ts hs).Nodup := by
  unfold moved
  split
  · exact symm_nodup h1 h2
  · exact h1
theorem movedH_nd {h1 t2 h2 : List Int} (a : h1.Nodup) (b : h2.Nodup) : (movedH h1 t2 h2).Nodup := by
  unfold movedH
  split
  · exact symm_nodup a b
  · exact a
/-- the moved flip is a flip -/
theorem moved_even {t1 h1 t2 h2 : List Int} (n1 : t1.Nodup) (m1 : h1.Nodup) (n2 : t2.Nodup) (m2 : h2.Nodup) (e1 : (comm t1 h1).length % 2 = 0) (e2 : (comm t2 h2).length % 2 = 0) :
    (comm (moved t1 t2 h2) (movedH h1 t2 h2)).length % 2 = 0 := by
  have c : (comm h1 t2).length = (comm t2 h1).length := comm_swap m1 n2
  unfold moved movedH
  by_cases a : (comm t1 h2).length % 2 = 1 <;> by_cases b : (comm h1 t2).length % 2 = 1
  · rw [if_pos a, if_pos b, comm_symm_l n1 n2]
    have x := comm_symm_r (a := t1) n1 m1 m2
    have y := comm_symm_r (a := t2) n2 m1 m2
    omega
  · rw [if_pos a, if_neg b, comm_symm_l n1 n2]
    omega
  · rw [if_neg a, if_pos b]
    have x := comm_symm_r (a := t1) n1 m1 m2
    omega
  · rw [if_neg a, if_neg b]
    exact e1
section
variable {P : Program} {w : World} {K : PySem.W.Frag} {mg : Str → Option Value} {base : Heap}
/-- cells_past of cells -/
def spPastV (K : PySem.W.Frag) (CF : Addr) : Sp := fun vs H Q _ => ∃ (a f : Addr) (ns ts hs : List Int), vs = [.ref a, .ref f] ∧ Sq K H a (ns.map V.int) ∧ ns.length ≤ 500 ∧ (∀ k ∈ ns, 0 ≤ k ∧ k < 40) ∧ ns.Nodup ∧ Fp CF H f ts hs ∧ OkF ts hs ∧
  ∀ p (ks : List Int) H', Same H H' → ks.Pairwise (· < ·) → (∀ k, k ∈ ks ↔ k ∈ moved ns ts hs) → H' p = some (.tup (ks.map V.int)) → Q (.ref p) H'
theorem scPastV : FnScope ["cells", "later", "kept"] ["cells", "later"] (defScope sPast) := ⟨rfl, rfl, rfl, by decide +kernel, rfl, by decide +kernel, by decide +kernel⟩
theorem ok_pastV {f CF : Addr} {fd : FuncData} (F : Fun K "cells_past" "cells_past" sPast f fd) (TF : FC K mg CF) (DC : HasD P w K mg base "cell_tuple" 5 "things" (spCells K)) (DO : Has P w K mg base "share_odd" 2 ["one", "other"] (spShare K)) (DA : Has P w K mg base "added_cells" 2 ["one", "other"] (spAdded K))
    (DT : HasM P w K mg base CF "tested" 2 ["self"] (spTested CF)) (DG : HasM P w K mg base CF "toggled" 2 ["self"] (spToggled CF)) : FnOk P w K mg base CX0 6 f fd ["cells", "later"] (spPastV K CF) := by
  obtain ⟨fD, fdD, dsD, GD, mD, kD, hdD, bD⟩ := DC
  obtain ⟨fO, fdO, GO, mO, kO, bO⟩ := DO
  obtain ⟨fA, fdA, GA, mA, kA, bA⟩ := DA
  obtain ⟨fT, fdT, GT, mT, bT⟩ := DT
  obtain ⟨fG, fdG, GG, mG, bG⟩ := DG
  refine F.ok scPastV (fun vs H Q E h => ?_) (fun cdv A outer s H vs Q E hr h => ?_)
  · obtain ⟨a, f, ns, ts, hs, rfl, _⟩ := h
    rfl
  · obtain ⟨a, f, ns, ts, hs, rfl, ha, hl, nin, nnd, hF, ok, good⟩ := h
    obtain ⟨k1, k2, k3, k4, k5, k6⟩ := id ok
    obtain ⟨dg, u1, u2, f1, f2, f3⟩ := id hF
    have r1 : Room 2 _ := hr.mono (by decide)
    refine ⟨_, pss_cons (ps_set (i := 2) scPastV.nd rfl (Or.inl rfl) (pe_call GD hr (by rfl) mD kD bD hdD pass0 (pa_cons (pv 0) pa_nil)))
      (pss_cons (ps_if (pt_val (pe_call GO r1 (by rfl) mO kO bO .nil pass0 (pa_cons (pv 2) (pa_cons (pe_meth0 (pv 1) TF.cl mG GG r1 bG .nil pass0) pa_nil)))) (pss_one (ps_ret (pe_call GA r1 (by rfl) mA kA bA .nil pass0 (pa_cons (pv 2) (pa_cons (pe_meth0 (pv 1) TF.cl mT GT r1 bT .nil pass0) pa_nil))))) pss_nil)
      (pss_one (ps_ret (pv 2)))), ?_⟩
    refine ⟨_, rfl, a, 40, ns, rfl, ha, hl, nin, nnd, fun p ms H1 hp s1 pm pw e1 => ?_⟩
    have mnd : ms.Nodup := pm.nodup_iff.mpr nnd
    have min : ∀ k ∈ ms, 0 ≤ k ∧ k < 40 := fun k hk => nin k (pm.mem_iff.mp hk)
    have cm : ∀ k ∈ ms, Cell k := fun k hk => by have := min k hk; exact ⟨by omega, by omega⟩
    have mlen : ms.length ≤ 40 := cells_few mnd cm
    have ch : ∀ k ∈ hs, Cell k := fun k hk => by have := k2 k hk; exact ⟨by omega, by omega⟩
    have ct : ∀ k ∈ ts, Cell k := fun k hk => by have := k1 k hk; exact ⟨by omega, by omega⟩
    have ec : (comm ms hs).length = (comm ns hs).length := comm_perm pm (List.Perm.refl _)
    refine ⟨_, rfl, _, rfl, f, dg, _, rfl, s1 _ _ f1, no2 (by decide +kernel) (by decide +kernel), f, ts, hs, rfl, hF.same s1, fun y hy => ?_⟩
    refine ⟨p, y, ms, hs, rfl, SqT.of e1, SqT.of hy, by omega, by omega, cm, ch, mnd, fun H2 s2 => ⟨_, rfl, ite2 (fun z => ?_) (fun z => ?_)⟩⟩
    · have od : (comm ns hs).length % 2 = 1 := by rw [← ec]; exact of_decide_eq_true z
      have s12 := s1.trans s2
      refine ⟨_, rfl, _, rfl, f, dg, _, rfl, s12 _ _ f1, no2 (by decide +kernel) (by decide +kernel), f, ts, hs, rfl, hF.same s12, fun x hx => ?_⟩
      refine ⟨p, x, ms, ts, rfl, SqT.of (s2 _ _ e1), SqT.of hx, by omega, by omega, cm, ct, fun q ks H3 hq s3 kw hk e3 => ?_⟩
      refine good q ks H3 (s12.trans s3) kw (fun k => ?_) e3
      unfold moved
      rw [if_pos od, mem_symm, hk k]
      have em : decide (k ∈ ms) = decide (k ∈ ns) := by
        by_cases a : k ∈ ns
        · rw [decide_eq_true a, decide_eq_true (pm.mem_iff.mpr a)]
        · rw [decide_eq_false a, decide_eq_false fun q => a (pm.mem_iff.mp q)]
      rw [em]
    · have od : ¬ (comm ns hs).length % 2 = 1 := fun q => z (decide_eq_true (by rw [ec]; exact q))
      refine ⟨_, rfl, ?_⟩
      refine good p ms H2 (s1.trans s2) (le_lt pw mnd) (fun k => ?_) (s2 _ _ e1)
      unfold moved
      rw [if_neg od]
      exact pm.mem_iff
/-- moved_past -/
def spMoved (CF : Addr) : Sp := fun vs H Q _ => ∃ (f g : Addr) (t1 h1 t2 h2 : List Int), vs = [.ref f, .ref g] ∧ Fp CF H f t1 h1 ∧ OkF t1 h1 ∧ (comm t1 h1).length % 2 = 0 ∧ Fp CF H g t2 h2 ∧ OkF t2 h2 ∧ (comm t2 h2).length % 2 = 0 ∧
  ∀ q (ts hs : List Int) H', Same H H' → ts.Pairwise (· < ·) → hs.Pairwise (· < ·) → (∀ k, k ∈ ts ↔ k ∈ moved t1 t2 h2) → (∀ k, k ∈ hs ↔ k ∈ movedH h1 t2 h2) → Fp CF H' q ts hs → Q (.ref q) H'
theorem scMoved : FnScope ["flip", "later", "tested", "toggled"] ["flip", "later"] (defScope sMoved) := ⟨rfl, rfl, rfl, by decide +kernel, rfl, by decide +kernel, by decide +kernel⟩
theorem moved_okF {t1 h1 t2 h2 ts hs : List Int} (o1 : OkF t1 h1) (o2 : OkF t2 h2) (w1 : ts.Pairwise (· < ·)) (w2 : hs.Pairwise (· < ·)) (m1 : ∀ k, k ∈ ts ↔ k ∈ moved t1 t2 h2) (m2 : ∀ k, k ∈ hs ↔ k ∈ movedH h1 t2 h2) : OkF ts hs := by
  have a1 : ∀ k ∈ ts, 0 ≤ k ∧ k < 40 := fun k hk => by
    rcases mem_moved ((m1 k).mp hk) with z | z
    · exact o1.1 k z
    · exact o2.1 k z
  have a2 : ∀ k ∈ hs, 1 ≤ k ∧ k < 40 := fun k hk => by
    rcases mem_movedH ((m2 k).mp hk) with z | z
    · exact o1.2.1 k z
    · exact o2.2.1 k z
  exact ⟨a1, a2, nodup_lt_ w1, nodup_lt_ w2, cells_few (nodup_lt_ w1) fun k hk => by have := a1 k hk; exact ⟨by omega, by omega⟩, cells_few (nodup_lt_ w2) fun k hk => by have := a2 k hk; exact ⟨by omega, by omega⟩⟩
theorem ev_of {ts hs ts' hs' : List Int} (w1 : ts.Nodup) (w2 : hs.Nodup) (n1 : ts'.Nodup) (n2 : hs'.Nodup) (m1 : ∀ k, k ∈ ts ↔ k ∈ ts') (m2 : ∀ k, k ∈ hs ↔ k ∈ hs') (ev : (comm ts' hs').length % 2 = 0) : (comm ts hs).length % 2 = 0 := by
  rw [comm_perm ((List.perm_ext_iff_of_nodup w1 n1).mpr m1) ((List.perm_ext_iff_of_nodup w2 n2).mpr m2)]
  exact ev
theorem ok_moved {f CF : Addr} {fd : FuncData} (F : Fun K "moved_past" "moved_past" sMoved f fd) (TF : FC K mg CF) (DP : Has P w K mg base "cells_past" 6 ["cells", "later"] (spPastV K CF)) (DO : Has P w K mg base "share_odd" 2 ["one", "other"] (spShare K)) (DA : Has P w K mg base "added_cells" 2 ["one", "other"] (spAdded K))
    (DT : HasM P w K mg base CF "tested" 2 ["self"] (spTested CF)) (DG : HasM P w K mg base CF "toggled" 2 ["self"] (spToggled CF)) (DI : HasFI P w K mg base CF) : FnOk P w K mg base CX0 8 f fd ["flip", "later"] (spMoved CF) := by
  obtain ⟨fP, fdP, GP, mP, kP, bP⟩ := DP
  obtain ⟨fO, fdO, GO, mO, kO, bO⟩ := DO
  obtain ⟨fA, fdA, GA, mA, kA, bA⟩ := DA
  obtain ⟨fT, fdT, GT, mT, bT⟩ := DT
  obtain ⟨fG, fdG, GG, mG, bG⟩ := DG
  obtain ⟨fI, fdI, GI, MI, bI⟩ := DI
  refine F.ok scMoved (fun vs H Q E h => ?_) (fun cdv A outer s H vs Q E hr h => ?_)
  · obtain ⟨f, g, t1, h1, t2, h2, rfl, _⟩ := h
    rfl
  · obtain ⟨f, g, t1, h1, t2, h2, rfl, hf, o1, ev1, hg, o2, ev2, out⟩ := h
    obtain ⟨k1, k2, k3, k4, k5, k6⟩ := id o1
    obtain ⟨j1, j2, j3, j4, j5, j6⟩ := id o2
    obtain ⟨d1, u1, v1, e1, e2, e3⟩ := id hf
    obtain ⟨d2, u2, v2, g1, g2, g3⟩ := id hg
    have r1 : Room 2 _ := hr.mono (by decide)
    have r5 : Room 6 _ := hr.mono (by decide)
    have ch1 : ∀ k ∈ h1, Cell k := fun k hk => by have := k2 k hk; exact ⟨by omega, by omega⟩
    have ch2 : ∀ k ∈ h2, Cell k := fun k hk => by have := j2 k hk; exact ⟨by omega, by omega⟩
    have ct2 : ∀ k ∈ t2, Cell k := fun k hk => by have := j1 k hk; exact ⟨by omega, by omega⟩
    refine ⟨_, pss_cons (ps_set (i := 2) scMoved.nd rfl (Or.inl rfl) (pe_call GP r5 (by rfl) mP kP bP .nil pass0 (pa_cons (pe_meth0 (pv 0) TF.cl mT GT r1 bT .nil pass0) (pa_cons (pv 1) pa_nil))))
      (pss_cons (ps_set (i := 3) scMoved.nd rfl (Or.inl rfl) (pe_meth0 (pv 0) TF.cl mG GG r1 bG .nil pass0))
      (pss_cons (ps_if (pt_val (pe_call GO r1 (by rfl) mO kO bO .nil pass0 (pa_cons (pv 3) (pa_cons (pe_meth0 (pv 1) TF.cl mT GT r1 bT .nil pass0) pa_nil)))) (pss_one (ps_set (i := 3) scMoved.nd rfl (Or.inl rfl) (pe_call GA r1 (by rfl) mA kA bA .nil pass0 (pa_cons (pv 3) (pa_cons (pe_meth0 (pv 1) TF.cl mG GG r1 bG .nil pass0) pa_nil))))) pss_nil)
      (pss_one (ps_ret (pe_make (E := E0) MI GI hr (by rfl) TF.mgC bI .nil pass0 (pa_cons (pv 2) (pa_cons (pv 3) pa_nil))))))), ?_⟩
    refine ⟨_, rfl, f, d1, _, rfl, e1, no2 (by decide +kernel) (by decide +kernel), f, t1, h1, rfl, hf, fun x hx => ?_⟩
    refine ⟨_, rfl, x, g, t1, t2, h2, rfl, .inr (SqT.of hx), by omega, k1, k3, hg, o2, fun pt ks H1 s1 kw mk ek => ?_⟩
    refine ⟨_, rfl, f, d1, _, rfl, s1 _ _ e1, no2 (by decide +kernel) (by decide +kernel), f, t1, h1, rfl, hf.same s1, fun y hy => ?_⟩
    refine ⟨_, rfl, _, rfl, g, d2, _, rfl, s1 _ _ g1, no2 (by decide +kernel) (by decide +kernel), g, t2, h2, rfl, hg.same s1, fun z hz => ?_⟩
    have fin : ∀ (tg : Addr) (hk : List Int) (H3 : Hp), Same H H3 → H3 pt = some (.tup (ks.map V.int)) → H3 tg = some (.tup (hk.map V.int)) → hk.Nodup → (∀ k, k ∈ hk ↔ k ∈ movedH h1 t2 h2) →
        ∀ x dx, H3 x = none → H3 dx = none → dx ≠ x → spFInit K CF [.ref x, .ref pt, .ref tg] (upd (upd H3 dx (.own x)) x (.ins CF dx [])) (fun v H4 => v = .non ∧ Q (.ref x) H4) (fun _ _ _ => False) := by
      intro tg hk H3 s3 ept etg hnd mh
      have a1 : ∀ k ∈ ks, 0 ≤ k ∧ k < 40 := fun k hk2 => by
        rcases mem_moved ((mk k).mp hk2) with z | z
        · exact k1 k z
        · exact j1 k z
      have a2 : ∀ k ∈ hk, 1 ≤ k ∧ k < 40 := fun k hk2 => by
        rcases mem_movedH ((mh k).mp hk2) with z | z
        · exact k2 k z
        · exact j2 k z
      have lk : ks.length ≤ 40 := cells_few (nodup_lt_ kw) fun k hk2 => by have := a1 k hk2; exact ⟨by omega, by omega⟩
      have lh : hk.length ≤ 40 := cells_few hnd fun k hk2 => by have := a2 k hk2; exact ⟨by omega, by omega⟩
      have ev := ev_of (nodup_lt_ kw) hnd (moved_nd k3 j3) (movedH_nd k4 j4) mk mh (moved_even k3 k4 j3 j4 ev1 ev2)
      refine made_flip (.inr (SqT.of ept)) (.inr (SqT.of etg)) (by omega) (by omega) a1 a2 (nodup_lt_ kw) hnd ev fun q ts' hs' H4 hq s4 p1 p2 w1 w2 fp => ?_
      exact out q ts' hs' H4 (s3.trans s4) (le_lt w1 (p1.nodup_iff.mpr (nodup_lt_ kw))) (le_lt w2 (p2.nodup_iff.mpr hnd)) (fun k => by rw [p1.mem_iff]; exact mk k) (fun k => by rw [p2.mem_iff]; exact mh k) fp
    refine ⟨y, z, h1, t2, rfl, SqT.of hy, SqT.of hz, by omega, by omega, ch1, ct2, k4, fun H2 s2 => ⟨_, rfl, ite2 (fun c => ?_) (fun c => ?_)⟩⟩
    · have od : (comm h1 t2).length % 2 = 1 := of_decide_eq_true c
      have s12 := s1.trans s2
      refine ⟨_, rfl, _, rfl, g, d2, _, rfl, s12 _ _ g1, no2 (by decide +kernel) (by decide +kernel), g, t2, h2, rfl, hg.same s12, fun x2 hx2 => ?_⟩
      refine ⟨y, x2, h1, h2, rfl, SqT.of (s2 _ _ hy), SqT.of hx2, by omega, by omega, ch1, ch2, fun q hk H3 hq s3 hw mh e3 => ?_⟩
      refine ⟨_, rfl, _, rfl, fin q hk H3 (s12.trans s3) (s3 _ _ (s2 _ _ ek)) e3 (nodup_lt_ hw) fun k => ?_⟩
      unfold movedH
      rw [if_pos od, mem_symm, mh k]
    · have od : ¬ (comm h1 t2).length % 2 = 1 := fun q => c (decide_eq_true q)
      refine ⟨_, rfl, _, rfl, fin y h1 H2 (s1.trans s2) (s2 _ _ ek) (s2 _ _ hy) k4 fun k => ?_⟩
      unfold movedH
      rw [if_neg od]
end
theorem twice {a b x l m : List Int} (na : a.Nodup) (nb : b.Nodup) (wa : a.Pairwise (· < ·)) (wl : l.Pairwise (· < ·)) (wm : m.Pairwise (· < ·)) (ev : (comm b x).length % 2 = 0)
    (h1 : ∀ k, k ∈ l ↔ k ∈ (if (comm a x).length % 2 = 1 then symm a b else a)) (h2 : ∀ k, k ∈ m ↔ k ∈ (if (comm l x).length % 2 = 1 then symm l b else l)) : m = a := by
  by_cases z : (comm a x).length % 2 = 1
  · rw [if_pos z] at h1
    have pl : l.Perm (symm a b) := (List.perm_ext_iff_of_nodup (nodup_lt_ wl) (symm_nodup na nb)).mpr h1
    have e : (comm l x).length = (comm (symm a b) x).length := (pl.filter _).length_eq
    have od : (comm l x).length % 2 = 1 := by
      have := comm_symm_l (c := x) na nb
      omega
    rw [if_pos od] at h2
    refine up_same wm wa fun k => ?_
    rw [h2 k, mem_symm]
    have hl := h1 k
    rw [mem_symm] at hl
    by_cases ka : k ∈ a <;> by_cases kb : k ∈ b <;> by_cases kl : k ∈ l <;> simp_all
  · rw [if_neg z] at h1
    have e : l = a := up_same wl wa h1
    rw [e, if_neg z] at h2
    exact up_same wm wa h2
/-- moved twice past the same flip, it is the flip again -/
theorem moved_twice {t1 h1 t2 h2 ts hs us vs : List Int} (o1 : OkF t1 h1) (e1 : (comm t1 h1).length % 2 = 0) (o2 : OkF t2 h2) (e2 : (comm t2 h2).length % 2 = 0) (w0 : t1.Pairwise (· < ·)) (w0' : h1.Pairwise (· < ·)) (w1 : ts.Pairwise (· < ·)) (w2 : hs.Pairwise (· < ·)) (w3 : us.Pairwise (· < ·)) (w4 : vs.Pairwise (· < ·))
    (m1 : ∀ k, k ∈ ts ↔ k ∈ moved t1 t2 h2) (m2 : ∀ k, k ∈ hs ↔ k ∈ movedH h1 t2 h2) (m3 : ∀ k, k ∈ us ↔ k ∈ moved ts t2 h2) (m4 : ∀ k, k ∈ vs ↔ k ∈ movedH hs t2 h2) : us = t1 ∧ vs = h1 := by
  obtain ⟨k1, k2, k3, k4, k5, k6⟩ := o1
  obtain ⟨j1, j2, j3, j4, j5, j6⟩ := o2
  exact ⟨twice k3 j3 w0 w1 w3 e2 m1 m3, twice k4 j4 w0' w2 w4 (by rw [comm_swap j4 j3]; exact e2) m2 m4⟩
end K33
namespace K33
open PySem PySem.Spec PyProof.Rows L2 Par X
abbrev yIni : Stmt := inClass (topS 48) 0
abbrev yEq : Stmt := inClass (topS 48) 1
abbrev yLen : Stmt := inClass (topS 48) 2
abbrev yEnter : Stmt := inClass (topS 48) 3
abbrev yKeep : Stmt := inClass (topS 48) 4
abbrev yRemove : Stmt := inClass (topS 48) 5
abbrev yRestore : Stmt := inClass (topS 48) 6
abbrev yStart : Stmt := inClass (topS 48) 7
abbrev yBoard : Stmt := inClass (topS 48) 8
abbrev yStamps : Stmt := inClass (topS 48) 9
abbrev yFlip : Stmt := inClass (topS 48) 10
abbrev yStands : Stmt := inClass (topS 48) 11
abbrev yChanges : Stmt := inClass (topS 48) 12
abbrev yHas : Stmt := inClass (topS 48) 14
abbrev yCheck : Stmt := inClass (topS 48) 15
abbrev sStanding : Stmt := topS 49
/-- what the module says of History -/
structure HC (K : PySem.W.Frag) (mg : Str → Option Value) (C : Addr) : Prop where
  cl : Cls K C
  nB : NoAttr K C "start_board"
  nF : NoAttr K C "flips_entered"
  nC : NoAttr K C "change_counts"
  mgC : mg "History" = some (.ref C)
theorem hf1 {u v z : V} : ([("start_board", u), ("flips_entered", v), ("change_counts", z)] : List (Str × V)).lookup ("start_board" : Str) = some u := by
  simp [List.lookup]
theorem hf2 {u v z : V} : ([("start_board", u), ("flips_entered", v), ("change_counts", z)] : List (Str × V)).lookup ("flips_entered" : Str) = some v := by
  have e : (("flips_entered" : Str) == ("start_board" : Str)) = false := by decide +kernel
  simp [List.lookup, e]
theorem hf3 {u v z : V} : ([("start_board", u), ("flips_entered", v), ("change_counts", z)] : List (Str × V)).lookup ("change_counts" : Str) = some z := by
  have e : (("change_counts" : Str) == ("start_board" : Str)) = false := by decide +kernel
  have e2 : (("change_counts" : Str) == ("flips_entered" : Str)) = false := by decide +kernel
  simp [List.lookup, e, e2]
theorem no3 {m : Str} {u v z : V} (h : (m == ("start_board" : Str)) = false) (h2 : (m == ("flips_entered" : Str)) = false) (h3 : (m == ("change_counts" : Str)) = false) : ([("start_board", u), ("flips_entered", v), ("change_counts", z)] : List (Str × V)).lookup m = none := by
  simp [List.lookup, h, h2, h3]
theorem hput2 {u v : V} : putF "flips_entered" v ([("start_board", u)] : List (Str × V)) = ([("start_board", u), ("flips_entered", v)] : List (Str × V)) := by
  have e : ¬ (("start_board" : Str) = "flips_entered") := by decide +kernel
  show (if ("start_board" : Str) = "flips_entered" then _ else (("start_board" : Str), u) :: putF "flips_entered" v []) = _
  rw [if_neg e]
  rfl
theorem hput3 {u v z : V} : putF "change_counts" z ([("start_board", u), ("flips_entered", v)] : List (Str × V)) = ([("start_board", u), ("flips_entered", v), ("change_counts", z)] : List (Str × V)) := by
  have e : ¬ (("start_board" : Str) = "change_counts") := by decide +kernel
  have e2 : ¬ (("flips_entered" : Str) = "change_counts") := by decide +kernel
  show (if ("start_board" : Str) = "change_counts" then _ else (("start_board" : Str), u) :: (if ("flips_entered" : Str) = "change_counts" then _ else (("flips_entered" : Str), v) :: putF "change_counts" z [])) = _
  rw [if_neg e, if_neg e2]
  rfl
/-- a history at x -/
def Hs (C : Addr) (H : Hp) (x b d1 d2 : Addr) : Prop := ∃ dx, H x = some (.ins C dx [("start_board", .ref b), ("flips_entered", .ref d1), ("change_counts", .ref d2)])
theorem Hs.same {C : Addr} {H H' : Hp} {x b d1 d2 : Addr} (s : Same H H') (h : Hs C H x b d1 d2) : Hs C H' x b d1 d2 := by
  obtain ⟨dx, e⟩ := h
  exact ⟨dx, s _ _ e⟩
/-- an entry and where its note, its stamp, its pair, the pair's lists and its flip stand -/
structure Nx where
  n : Addr
  a : Addr
  q : Addr
  t : Addr
  g : Addr
  f : Addr
  e : En
abbrev Nx.m (x : Nx) : Mk := x.e.m
def kF (xs : List Nx) : List (List L2.Key × V) := xs.map fun x => (mkK x.m, .ref x.f)
def kC (xs : List Nx) : List (List L2.Key × V) := xs.map fun x => (mkK x.m, .int ((x.e.k : Nat) : Int))
def Dst (xs : List Nx) : Prop := (xs.map Nx.m).Nodup
theorem valV_key {v : Nx → V} : ∀ {xs : List Nx}, Dst xs → ∀ {x : Nx}, x ∈ xs → valV (xs.map fun x => (mkK x.m, v x)) (mkK x.m) = some (v x)
  | [], _, _, h => nomatch h
  | y :: xs, d, x, h => by
    obtain ⟨d1, d2⟩ := List.nodup_cons.mp (show (y.m :: xs.map Nx.m).Nodup from d)
    rcases List.mem_cons.mp h with rfl | h2
    · simp [valV]
    · have ne : ¬ mkK y.m = mkK x.m := fun q => d1 (List.mem_map.mpr ⟨x, h2, (mkK_inj q).symm⟩)
      have ih := valV_key (v := v) d2 h2
      unfold valV at ih ⊢
      rw [List.map_cons, List.find?_cons_of_neg (by simpa using ne)]
      exact ih
theorem valV_no {v : Nx → V} {m : Mk} : ∀ {xs : List Nx}, m ∉ xs.map Nx.m → valV (xs.map fun x => (mkK x.m, v x)) (mkK m) = none
  | [], _ => rfl
  | y :: xs, d => by
    have ne : ¬ mkK y.m = mkK m := fun q => d (List.mem_map.mpr ⟨y, List.mem_cons_self .., mkK_inj q⟩)
    have ih := valV_no (v := v) (xs := xs) fun q => d (List.mem_cons_of_mem _ q)
    unfold valV at ih ⊢
    rw [List.map_cons, List.find?_cons_of_neg (by simpa using ne)]
    exact ih
theorem valV_has {v : Nx → V} {m : Mk} {xs : List Nx} (d : Dst xs) : (valV (xs.map fun x => (mkK x.m, v x)) (mkK m)).isSome = decide (m ∈ xs.map Nx.m) := by
  by_cases h : m ∈ xs.map Nx.m
  · obtain ⟨x, hx, rfl⟩ := List.mem_map.mp h
    rw [valV_key d hx, decide_eq_true h]
    rfl
  · rw [valV_no h, decide_eq_false h]
    rfl
theorem putK_no {v : Nx → V} {m : Mk} {u : V} {xs : List Nx} (h : m ∉ xs.map Nx.m) : putK (xs.map fun x => (mkK x.m, v x)) (mkK m) u = (xs.map fun x => (mkK x.m, v x)) ++ [(mkK m, u)] := by
  unfold putK
  rw [if_neg]
  intro q
  obtain ⟨kv, hkv, e⟩ := List.any_eq_true.mp q
  obtain ⟨x, hx, rfl⟩ := List.mem_map.mp hkv
  exact h (List.mem_map.mpr ⟨x, hx, mkK_inj (of_decide_eq_true e)⟩)
/-- stamps, one behind the other -/
def Mks (H : Hp) : List Addr → List Mk → Prop
  | [], [] => True
  | a :: as, m :: ms => H a = some (.tup (mkV m)) ∧ Mks H as ms
  | _, _ => False
theorem Mks.same {H H' : Hp} (s : Same H H') : ∀ {as : List Addr} {ms : List Mk}, Mks H as ms → Mks H' as ms
  | [], [], _ => True.intro
  | _ :: _, _ :: _, h => ⟨s _ _ h.1, Mks.same s h.2⟩
  | [], _ :: _, h => h.elim
  | _ :: _, [], h => h.elim
theorem Mks.len {H : Hp} : ∀ {as : List Addr} {ms : List Mk}, Mks H as ms → as.length = ms.length
  | [], [], _ => rfl
  | _ :: _, _ :: _, h => congrArg Nat.succ (Mks.len h.2)
  | [], _ :: _, h => h.elim
  | _ :: _, [], h => h.elim
theorem Mks.get {H : Hp} : ∀ {as : List Addr} {ms : List Mk} {i : Nat} {a : Addr}, Mks H as ms → as[i]? = some a → ∃ m, ms[i]? = some m ∧ H a = some (.tup (mkV m))
  | [], [], _, _, _, e => by rw [List.getElem?_nil] at e; cases e
  | _ :: _, m :: _, 0, _, h, e => ⟨m, rfl, by cases e; exact h.1⟩
  | _ :: as, _ :: ms, i + 1, _, h, e => Mks.get (as := as) (ms := ms) (i := i) h.2 (by simpa using e)
  | [], _ :: _, _, _, h, _ => h.elim
  | _ :: _, [], _, _, h, _ => h.elim
theorem kV_mk (m : Mk) : (mkK m).map kV = mkV m := rfl
section
variable {P : Program} {w : World} {K : PySem.W.Frag} {mg : Str → Option Value} {base : Heap}
theorem ds_mark {H : Hp} {a : Addr} {m : Mk} (h : H a = some (.tup (mkV m))) (o : OkM m) : Ds K H (.ref a) (some (mkV m)) := by
  refine ⟨a, rfl, SqT.of h, by show 3 ≤ 8; decide, fun x hx => ?_⟩
  rcases List.mem_cons.mp hx with rfl | hx
  · exact ⟨.inr (.inl ⟨_, rfl⟩), .inr ⟨"int", .base (.int _), by simp, by simp⟩⟩
  rcases List.mem_cons.mp hx with rfl | hx
  · refine ⟨.inr (.inr ⟨"str", .base (.str _), by simp, by simp, by simp⟩), .inl ⟨m.h, rfl, by have := o.h8; omega, fun c hc => ?_⟩⟩
    have := o.lw c hc
    unfold lowc at this
    rw [Bool.and_eq_true, decide_eq_true_eq, decide_eq_true_eq] at this
    omega
  · rw [List.mem_singleton.mp hx]
    exact ⟨.inr (.inl ⟨_, rfl⟩), .inr ⟨"int", .base (.int _), by simp, by simp⟩⟩
/-- History(..) -/
def spHIni (C : Addr) : Sp := fun vs H Q _ => ∃ x dx b, vs = [.ref x, .ref b] ∧ H x = some (.ins C dx []) ∧ ∀ d1 d2 H', H d1 = none → H d2 = none → d1 ≠ d2 → But x H H' → H' d1 = some (.dT []) → H' d2 = some (.dT []) → Hs C H' x b d1 d2 → Q .non H'
abbrev nHIni : List Str := ["self", "board"]
theorem scHIni : FnScope nHIni ["self", "board"] (defScope yIni) := ⟨rfl, rfl, rfl, by decide +kernel, rfl, by decide +kernel, by decide +kernel⟩
theorem ok_hini {f C : Addr} {fd : FuncData} (F : Fun K "__init__" "History.__init__" yIni f fd) (T : HC K mg C) : FnOk P w K mg base CX0 2 f fd ["self", "board"] (spHIni C) := by
  refine F.ok scHIni (fun vs H Q E h => ?_) (fun cdv A outer s H vs Q E hr h => ?_)
  · obtain ⟨x, dx, b, rfl, _⟩ := h
    rfl
  · obtain ⟨x, dx, b, rfl, hx, out⟩ := h
    refine ⟨_, (pss_cons (ps_fld (pv 0) (pv 1) rfl)
      (pss_cons (ps_fld (pv 0) pe_dnewT rfl)
      (pss_one (ps_fld (pv 0) pe_dnewT rfl)))), ?_⟩
    refine ⟨_, rfl, _, rfl, x, C, dx, [], rfl, hx, T.cl, T.nB, (by show 0 < 1000; decide), ?_⟩
    rw [show putF "start_board" (V.ref b) [] = ([("start_board", V.ref b)] : List (Str × V)) from rfl]
    have b1 : But x H (upd H x (.ins C dx [("start_board", .ref b)])) := But.upd _
    have e1 : (upd H x (.ins C dx [("start_board", .ref b)])) x = some (.ins C dx [("start_board", .ref b)]) := upd_same
    have fr1 : ∀ d, (upd H x (.ins C dx [("start_board", .ref b)])) d = none → H d = none ∧ d ≠ x := fun d hd => by
      have nd : d ≠ x := fun z => by rw [z, upd_same] at hd; cases hd
      exact ⟨by rw [upd_ne nd] at hd; exact hd, nd⟩
    generalize (upd H x (.ins C dx [("start_board", .ref b)])) = H1 at b1 e1 fr1 ⊢
    refine fun d1 hd1 => ?_
    obtain ⟨f1, n1⟩ := fr1 d1 hd1
    have s2 := same_new (o := .dT []) hd1
    have ed1 := upd_same (H := H1) (a := d1) (o := .dT [])
    have fr2 : ∀ d, (upd H1 d1 (.dT [])) d = none → H1 d = none ∧ d ≠ d1 := fun d hd => ⟨s2.free hd, fun z => by rw [z, upd_same] at hd; cases hd⟩
    generalize (upd H1 d1 (.dT [])) = H2 at s2 ed1 fr2 ⊢
    refine ⟨_, rfl, x, C, dx, _, rfl, s2 _ _ e1, T.cl, T.nF, (by show 1 < 1000; decide), ?_⟩
    rw [hput2]
    have e3 : (upd H2 x (.ins C dx [("start_board", .ref b), ("flips_entered", .ref d1)])) x = some (.ins C dx [("start_board", .ref b), ("flips_entered", .ref d1)]) := upd_same
    have b3 : But x H2 (upd H2 x (.ins C dx [("start_board", .ref b), ("flips_entered", .ref d1)])) := But.upd _
    have fr3 : ∀ d, (upd H2 x (.ins C dx [("start_board", .ref b), ("flips_entered", .ref d1)])) d = none → H2 d = none := fun d hd => by
      have nd : d ≠ x := fun z => by rw [z, upd_same] at hd; cases hd
      rw [upd_ne nd] at hd
      exact hd
    generalize (upd H2 x (.ins C dx [("start_board", .ref b), ("flips_entered", .ref d1)])) = H3 at e3 b3 fr3 ⊢
    refine fun d2 hd2 => ?_
    obtain ⟨f2, n2⟩ := fr2 d2 (fr3 d2 hd2)
    obtain ⟨f2', n2'⟩ := fr1 d2 f2
    have s4 := same_new (o := .dT []) hd2
    have ed2 := upd_same (H := H3) (a := d2) (o := .dT [])
    generalize (upd H3 d2 (.dT [])) = H4 at s4 ed2 ⊢
    refine ⟨_, rfl, x, C, dx, _, rfl, s4 _ _ e3, T.cl, T.nC, (by show 2 < 1000; decide), ?_⟩
    rw [hput3]
    refine out d1 d2 _ f1 f2' (Ne.symm n2) (((b1.trans (But.same s2)).trans b3).trans ((But.same s4).trans (But.upd _))) ?_ ?_ ⟨dx, upd_same⟩
    · rw [upd_ne n1]
      exact s4 _ _ (b3 _ _ n1 ed1)
    · rw [upd_ne n2']
      exact ed2
/-- len(history) -/
def spHLen (C : Addr) : Sp := fun vs H Q _ => ∃ (x b d1 d2 : Addr) (kvs : List (List L2.Key × V)), vs = [.ref x] ∧ Hs C H x b d1 d2 ∧ H d1 = some (.dT kvs) ∧ Q (.int ((kvs.length : Nat) : Int)) H
abbrev nHLen : List Str := ["self"]
theorem scHLen : FnScope nHLen ["self"] (defScope yLen) := ⟨rfl, rfl, rfl, by decide +kernel, rfl, by decide +kernel, by decide +kernel⟩
theorem ok_hlen {f C : Addr} {fd : FuncData} (F : Fun K "__len__" "History.__len__" yLen f fd) (B : Bl mg) (T : HC K mg C) : FnOk P w K mg base CX0 2 f fd ["self"] (spHLen C) := by
  refine F.ok scHLen (fun vs H Q E h => ?_) (fun cdv A outer s H vs Q E hr h => ?_)
  · obtain ⟨x, b, d1, d2, kvs, rfl, _⟩ := h
    rfl
  · obtain ⟨x, b, d1, d2, kvs, rfl, ⟨dx, hx⟩, hd, out⟩ := h
    refine ⟨_, (pss_one (ps_ret (pe_callB call_len_dT (by rfl) B.len PySem.boot_len (pa_cons (pe_fld (pv 0) rfl) pa_nil)))), ?_⟩
    exact ⟨_, rfl, x, C, dx, _, _, rfl, hx, T.cl, T.nF, hf2, d1, kvs, rfl, hd, out⟩
/-- start -/
def spStart (C : Addr) : Sp := fun vs H Q _ => ∃ (x b d1 d2 : Addr), vs = [.ref x] ∧ Hs C H x b d1 d2 ∧ Q (.ref b) H
abbrev nStart : List Str := ["self"]
theorem scStart : FnScope nStart ["self"] (defScope yStart) := ⟨rfl, rfl, rfl, by decide +kernel, rfl, by decide +kernel, by decide +kernel⟩
theorem ok_start {f C : Addr} {fd : FuncData} (F : Fun K "start" "History.start" yStart f fd) (T : HC K mg C) : FnOk P w K mg base CX0 2 f fd ["self"] (spStart C) := by
  refine F.ok scStart (fun vs H Q E h => ?_) (fun cdv A outer s H vs Q E hr h => ?_)
  · obtain ⟨x, b, d1, d2, rfl, _⟩ := h
    rfl
  · obtain ⟨x, b, d1, d2, rfl, ⟨dx, hx⟩, out⟩ := h
    refine ⟨_, (pss_one (ps_ret (pe_fld (pv 0) rfl))), ?_⟩
    exact ⟨_, rfl, x, C, dx, _, _, rfl, hx, T.cl, T.nB, hf1, out⟩
/-- keep -/
def spKeep (C : Addr) : Sp := fun vs H Q _ => ∃ (x b d1 d2 a : Addr) (kvs kws : List (List L2.Key × V)) (m : Mk) (u v : V), vs = [.ref x, .ref a, u, v] ∧ Hs C H x b d1 d2 ∧ H d1 = some (.dT kvs) ∧ H d2 = some (.dT kws) ∧ d1 ≠ d2 ∧ H a = some (.tup (mkV m)) ∧ kvs.length < 1000 ∧ kws.length < 1000 ∧
  Q .non (upd (upd H d1 (.dT (putK kvs (mkK m) u))) d2 (.dT (putK kws (mkK m) v)))
abbrev nKeep : List Str := ["self", "stamp", "flip", "changes"]
theorem scKeep : FnScope nKeep ["self", "stamp", "flip", "changes"] (defScope yKeep) := ⟨rfl, rfl, rfl, by decide +kernel, rfl, by decide +kernel, by decide +kernel⟩
theorem ok_keep {f C : Addr} {fd : FuncData} (F : Fun K "keep" "History.keep" yKeep f fd) (T : HC K mg C) : FnOk P w K mg base CX0 2 f fd ["self", "stamp", "flip", "changes"] (spKeep C) := by
  refine F.ok scKeep (fun vs H Q E h => ?_) (fun cdv A outer s H vs Q E hr h => ?_)
  · obtain ⟨x, b, d1, d2, a, kvs, kws, m, u, v, rfl, _⟩ := h
    rfl
  · obtain ⟨x, b, d1, d2, a, kvs, kws, m, u, v, rfl, ⟨dx, hx⟩, h1, h2, ne, ha, l1, l2, out⟩ := h
    have hu := hr.units
    have hu1 := hu_of hr
    refine ⟨_, (pss_cons (ps_dput hu1 (pe_fld (pv 0) rfl) (pv 1) (pv 2) rfl)
      (pss_one (ps_dput hu1 (pe_fld (pv 0) rfl) (pv 1) (pv 3) rfl))), ?_⟩
    have nx1 : x ≠ d1 := fun z => by rw [z, h1] at hx; cases hx
    have na1 : a ≠ d1 := fun z => by rw [z, h1] at ha; cases ha
    refine ⟨_, rfl, _, rfl, x, C, dx, _, _, rfl, hx, T.cl, T.nF, hf2, _, rfl, d1, _, rfl, DPut.t (k := mkK m) h1 ha (by rw [sizeLine_eq]; omega), ?_⟩
    refine ⟨_, rfl, _, rfl, x, C, dx, _, _, rfl, (by rw [upd_ne nx1]; exact hx), T.cl, T.nC, hf3, _, rfl, d2, _, rfl, DPut.t (k := mkK m) (by rw [upd_ne (Ne.symm ne)]; exact h2) (by rw [upd_ne na1]; exact ha) (by rw [sizeLine_eq]; omega), ?_⟩
    exact out
/-- has_entry of a stamp -/
def spHas (C : Addr) : Sp := fun vs H Q _ => ∃ (x b d1 d2 a : Addr) (xs : List Nx) (m : Mk), vs = [.ref x, .ref a] ∧ Hs C H x b d1 d2 ∧ H d1 = some (.dT (kF xs)) ∧ Dst xs ∧ H a = some (.tup (mkV m)) ∧ OkM m ∧ ∀ H', Same H H' → Q (.bl (decide (m ∈ xs.map Nx.m))) H'
abbrev nHas : List Str := ["self", "stamp"]
theorem scHas : FnScope nHas ["self", "stamp"] (defScope yHas) := ⟨rfl, rfl, rfl, by decide +kernel, rfl, by decide +kernel, by decide +kernel⟩
theorem ok_has {f C : Addr} {fd : FuncData} (F : Fun K "has_entry" "History.has_entry" yHas f fd) (T : HC K mg C) (DS : Has P w K mg base "is_stamp" 4 ["thing"] (spStamp K)) : FnOk P w K mg base CX0 5 f fd ["self", "stamp"] (spHas C) := by
  obtain ⟨fS, fdS, GS, mS, kS, bS⟩ := DS
  refine F.ok scHas (fun vs H Q E h => ?_) (fun cdv A outer s H vs Q E hr h => ?_)
  · obtain ⟨x, b, d1, d2, a, xs, m, rfl, _⟩ := h
    rfl
  · obtain ⟨x, b, d1, d2, a, xs, m, rfl, hH, h1, ds, ha, om, out⟩ := h
    have hu := hr.units
    have hu1 := hu_of hr
    refine ⟨_, (pss_one (ps_ret (pe_and (pe_call GS hr (by rfl) mS kS bS .nil pass0 (pa_cons (pv 1) pa_nil)) (pe_one (pe_cmp (pc_din hu1 (pv 1) (pe_fld (pv 0) rfl))))))), ?_⟩
    refine ⟨_, rfl, .ref a, _, rfl, ds_mark ha om, fun H1 s1 => ?_⟩
    obtain ⟨dx, hx⟩ := hH.same s1
    refine ⟨_, rfl, ?_⟩
    rw [om.stamp]
    refine iteT ?_
    refine ⟨_, rfl, _, rfl, x, C, dx, _, _, rfl, hx, T.cl, T.nF, hf2, d1, _, rfl, DGet.t (k := mkK m) (s1 _ _ h1) (s1 _ _ ha), ?_⟩
    have e : (valV (kF xs) (mkK m)).isSome = decide (m ∈ xs.map Nx.m) := valV_has (v := fun x => .ref x.f) ds
    rw [e]
    exact out H1 s1
end
end K33
namespace Par
open PySem PySem.Spec PyProof.Rows L2
/-! ### a comprehension whose test and element are known beforehand: the heap only grows -/
/-- the values kept up to place i -/
def sel (keep : Nat → Bool) (val : Nat → V) (i : Nat) : List V := ((List.range i).filter keep).map val
theorem sel_succ (keep : Nat → Bool) (val : Nat → V) (i : Nat) : sel keep val (i + 1) = sel keep val i ++ (if keep i = true then [val i] else []) := by
  unfold sel
  rw [List.range_succ, List.filter_append, List.map_append]
  by_cases h : keep i = true
  · rw [if_pos h, List.filter_cons_of_pos h]
    rfl
  · rw [if_neg h, List.filter_cons_of_neg h]
    rfl
theorem sel_len (keep : Nat → Bool) (val : Nat → V) (i : Nat) : (sel keep val i).length ≤ i := by
  unfold sel
  rw [List.length_map]
  exact Nat.le_trans (List.length_filter_le ..) (by rw [List.length_range]; exact Nat.le_refl _)
/-- the values kept, by the items themselves -/
theorem sel_map {α : Type} (ys : List α) (keep : α → Bool) (val : α → V) (k : Nat → Bool) (v : Nat → V) (hk : ∀ i y, ys[i]? = some y → k i = keep y) (hv : ∀ i y, ys[i]? = some y → v i = val y) : sel k v ys.length = (ys.filter keep).map val := by
  have go : ∀ i, i ≤ ys.length → sel k v i = ((ys.take i).filter keep).map val := by
    intro i
    induction i with
    | zero => intro _; simp [sel]
    | succ i ih =>
      intro h
      have hi : ys[i]? = some ys[i] := List.getElem?_eq_getElem (by omega)
      rw [sel_succ, ih (by omega), List.take_succ, hi, hk i _ hi, hv i _ hi, List.filter_append, List.map_append]
      congr 1
      by_cases z : keep ys[i] = true
      · simp [z]
      · simp [z]
  rw [go _ (Nat.le_refl _), List.take_length]
section
variable {K : PySem.W.Frag}
theorem lc_sel {l : Addr} {xs : List V} {i : Nat} {σ : L2.St} {H1 : Hp} {D : Addr} {Qd : Hp → Prop} {tt : TT} {te : TE} (keep : Nat → Bool) (val : Nat → V) (hi : i < σ.length) (hD : H1 D = none) (el : SqL K H1 l xs) (few : xs.length ≤ 1000)
    (ht : ∀ j x σ2 H2 (Y : Bool → Hp → Prop), xs[j]? = some x → σ2 = (wipe σ [i]).set i (some x) → Same H1 H2 → (∀ H3, Same H2 H3 → Y (keep j) H3) → tt σ2 H2 Y)
    (he : ∀ j x σ2 H2 (Y : VK), xs[j]? = some x → keep j = true → σ2 = (wipe σ [i]).set i (some x) → Same H1 H2 → (∀ H3, Same H2 H3 → Y (val j) H3) → te σ2 H2 Y)
    (out : ∀ H', Same H1 H' → H' D = some (.lst (sel keep val xs.length)) → Qd H') :
    ∃ W : Nat → Nat → Hp → Prop, (∃ m, W 0 m (upd H1 D (.lst []))) ∧ ∀ j m H, W j m H →
      ((Itl K l).stop j H ∧ Qd H) ∨ ((Itl K l).go j H ∧ ∃ Nx : Hp → Prop, (∀ H', Nx H' → ∃ m', m' < m ∧ W (j + 1) m' H') ∧ ∀ x H', (Itl K l).yld j H x H' → gName i x (wipe σ [i]) H' fun σ2 H2 => wipe σ2 [i] = wipe σ [i] ∧ tt σ2 H2 fun b H3 =>
        if b = true then te σ2 H3 fun y H4 => ∃ acc, H4 D = some (.lst acc) ∧ acc.length < sizeLine ∧ Nx (upd H4 D (.lst (acc ++ [y]))) else Nx H3) := by
  refine lc_list (K := K) (a := l) (xs := xs) (fun j H' => Same H1 H' ∧ H' D = some (.lst (sel keep val j))) ⟨fun b o e => by rw [upd_ne (ne_of_none e hD)]; exact e, upd_same⟩ (fun j H2 _ h => h.1.seq el) ?_ ?_
  · rintro j x H2 hx ⟨s2, hD2⟩
    have jl : j < xs.length := (List.getElem?_eq_some_iff.mp hx).1
    refine ⟨by simp [wipe], ht j x _ H2 _ hx rfl s2 fun H3 s3 => ?_⟩
    have hD3 := s3 _ _ hD2
    by_cases z : keep j = true
    · rw [if_pos z]
      refine he j x _ H3 _ hx z rfl (s2.trans s3) fun H4 s4 => ?_
      refine ⟨_, s4 _ _ hD3, ?_, ?_, ?_⟩
      · have := sel_len keep val j
        rw [sizeLine_eq]
        omega
      · intro b o e
        rw [upd_ne (ne_of_none e hD)]
        exact s4 _ _ (s3 _ _ (s2 b o e))
      · rw [upd_same, sel_succ, if_pos z]
    · rw [if_neg z]
      refine ⟨s2.trans s3, ?_⟩
      rw [hD3, sel_succ, if_neg z, List.append_nil]
  · rintro H2 ⟨s2, hD2⟩
    exact out H2 s2 hD2
/-- the same, by what the items stand for -/
theorem lc_selA {α : Type} {l : Addr} {xs : List V} {i : Nat} {σ : L2.St} {H1 : Hp} {D : Addr} {Qd : Hp → Prop} {tt : TT} {te : TE} (ys : List α) (keep : α → Bool) (val : α → V) (hlen : xs.length = ys.length) (hi : i < σ.length) (hD : H1 D = none) (el : SqL K H1 l xs) (few : ys.length ≤ 1000)
    (ht : ∀ (j : Nat) x y σ2 H2 (Y : Bool → Hp → Prop), xs[j]? = some x → ys[j]? = some y → σ2 = (wipe σ [i]).set i (some x) → Same H1 H2 → (∀ H3, Same H2 H3 → Y (keep y) H3) → tt σ2 H2 Y)
    (he : ∀ (j : Nat) x y σ2 H2 (Y : VK), xs[j]? = some x → ys[j]? = some y → keep y = true → σ2 = (wipe σ [i]).set i (some x) → Same H1 H2 → (∀ H3, Same H2 H3 → Y (val y) H3) → te σ2 H2 Y)
    (out : ∀ H', Same H1 H' → H' D = some (.lst ((ys.filter keep).map val)) → Qd H') :
    ∃ W : Nat → Nat → Hp → Prop, (∃ m, W 0 m (upd H1 D (.lst []))) ∧ ∀ j m H, W j m H →
      ((Itl K l).stop j H ∧ Qd H) ∨ ((Itl K l).go j H ∧ ∃ Nx : Hp → Prop, (∀ H', Nx H' → ∃ m', m' < m ∧ W (j + 1) m' H') ∧ ∀ x H', (Itl K l).yld j H x H' → gName i x (wipe σ [i]) H' fun σ2 H2 => wipe σ2 [i] = wipe σ [i] ∧ tt σ2 H2 fun b H3 =>
        if b = true then te σ2 H3 fun y H4 => ∃ acc, H4 D = some (.lst acc) ∧ acc.length < sizeLine ∧ Nx (upd H4 D (.lst (acc ++ [y]))) else Nx H3) := by
  have at_ : ∀ {j : Nat} {x : V}, xs[j]? = some x → ∃ y, ys[j]? = some y := fun {j x} h => by
    have := (List.getElem?_eq_some_iff.mp h).1
    exact ⟨ys[j]'(by omega), List.getElem?_eq_getElem (by omega)⟩
  refine lc_sel (fun j => match ys[j]? with | some y => keep y | none => false) (fun j => match ys[j]? with | some y => val y | none => .non) hi hD el (by omega) ?_ ?_ ?_
  · intro j x σ2 H2 Y hx e s k
    obtain ⟨y, hy⟩ := at_ hx
    refine ht j x y σ2 H2 Y hx hy e s fun H3 s3 => ?_
    have := k H3 s3
    rw [hy] at this
    exact this
  · intro j x σ2 H2 Y hx hk e s k
    obtain ⟨y, hy⟩ := at_ hx
    have hk' : keep y = true := by
      rw [hy] at hk
      exact hk
    refine he j x y σ2 H2 Y hx hy hk' e s fun H3 s3 => ?_
    have := k H3 s3
    rw [hy] at this
    exact this
  · intro H' s h
    refine out H' s ?_
    rw [h, hlen, sel_map ys keep val _ _ (fun i y e => by rw [e]) (fun i y e => by rw [e])]
end
end Par
namespace K33
open PySem PySem.Spec PyProof.Rows L2 Par X
theorem no3h {m : Str} {u v z : V} (h : (m == ("start_board" : Str)) = false) (h2 : (m == ("flips_entered" : Str)) = false) (h3 : (m == ("change_counts" : Str)) = false) : ([("start_board", u), ("flips_entered", v), ("change_counts", z)] : List (Str × V)).lookup m = none := no3 h h2 h3
/-- a history and its entries -/
structure HisAt (C CF : Addr) (H : Hp) (x b d1 d2 : Addr) (xs : List Nx) : Prop where
  hs : Hs C H x b d1 d2
  e1 : H d1 = some (.dT (kF xs))
  e2 : H d2 = some (.dT (kC xs))
  ne : d1 ≠ d2
  ds : Dst xs
  om : ∀ y ∈ xs, OkM y.m
  few : xs.length ≤ 300
  fl : ∀ y ∈ xs, Fp CF H y.f y.e.ts y.e.hs
theorem HisAt.same {C CF : Addr} {H H' : Hp} {x b d1 d2 : Addr} {xs : List Nx} (s : Same H H') (h : HisAt C CF H x b d1 d2 xs) : HisAt C CF H' x b d1 d2 xs :=
  ⟨h.hs.same s, s _ _ h.e1, s _ _ h.e2, h.ne, h.ds, h.om, h.few, fun y hy => (h.fl y hy).same s⟩
theorem Dst.inj {xs : List Nx} (d : Dst xs) {y z : Nx} (hy : y ∈ xs) (hz : z ∈ xs) (e : y.m = z.m) : y = z := by
  have a := valV_key (v := fun y => V.ref y.n) d hy
  induction xs with
  | nil => cases hy
  | cons w xs ih =>
    obtain ⟨d1, d2⟩ := List.nodup_cons.mp (show (w.m :: xs.map Nx.m).Nodup from d)
    rcases List.mem_cons.mp hy with rfl | hy2
    · rcases List.mem_cons.mp hz with rfl | hz2
      · rfl
      · exact absurd (List.mem_map.mpr ⟨z, hz2, e.symm⟩) d1
    · rcases List.mem_cons.mp hz with rfl | hz2
      · exact absurd (List.mem_map.mpr ⟨y, hy2, e⟩) d1
      · exact ih d2 hy2 hz2 (valV_key d2 hy2)
/-- the entries in the order of their stamps -/
def srtN (xs : List Nx) : List Nx := xs.mergeSort fun y z => leM y.m z.m
theorem srtN_perm (xs : List Nx) : (srtN xs).Perm xs := List.mergeSort_perm ..
theorem srtN_len (xs : List Nx) : (srtN xs).length = xs.length := (srtN_perm xs).length_eq
theorem srtN_mem {xs : List Nx} {y : Nx} : y ∈ srtN xs ↔ y ∈ xs := (srtN_perm xs).mem_iff
theorem srtN_marks (xs : List Nx) : (srtN xs).map Nx.m = (xs.map Nx.m).mergeSort leM := W.sort_maps Nx.m fun _ _ _ _ => rfl
theorem srtN_notes {xs : List Nx} (h : Dst xs) : xs.mergeSort (W.dataLe false fun y : Nx => noteD y.e) = srtN xs :=
  W.sort_congr fun y hy z hz => by
    by_cases q : y.m = z.m
    · rw [h.inj hy hz q]
      exact (le_self (fun y : Nx => noteD y.e) z).trans (le_self mkD z.m).symm
    · exact note_le (e := y.e) (f := z.e) q
theorem mks_of {H : Hp} : ∀ {zs : List (Addr × Mk)}, (∀ z ∈ zs, H z.1 = some (.tup (mkV z.2))) → Mks H (zs.map (·.1)) (zs.map (·.2))
  | [], _ => True.intro
  | z :: zs, h => ⟨h z (List.mem_cons_self ..), mks_of fun y hy => h y (List.mem_cons_of_mem _ hy)⟩
theorem keys_of {H : Hp} {v : Nx → V} : ∀ {xs : List Nx} {bs : List Addr}, IsKeys H (xs.map fun x => (mkK x.m, v x)) bs → ∃ zs : List (Addr × Mk), zs.map (·.1) = bs ∧ zs.map (·.2) = xs.map Nx.m ∧ ∀ z ∈ zs, H z.1 = some (.tup (mkV z.2))
  | [], [], _ => ⟨[], rfl, rfl, fun z hz => nomatch hz⟩
  | x :: xs, b :: bs, h => by
    cases h with
    | cons h1 h2 =>
      obtain ⟨zs, e1, e2, e3⟩ := keys_of h2
      refine ⟨(b, x.m) :: zs, by rw [List.map_cons, e1], by rw [List.map_cons, List.map_cons, e2], fun z hz => ?_⟩
      rcases List.mem_cons.mp hz with rfl | hz
      · exact h1
      · exact e3 z hz
  | [], _ :: _, h => nomatch h
  | _ :: _, [], h => nomatch h
section
variable {P : Program} {w : World} {K : PySem.W.Frag} {mg : Str → Option Value} {base : Heap}
/-- check_entry of a stamp that is there -/
def spCheckE (C CF : Addr) : Sp := fun vs H Q _ => ∃ (x b d1 d2 a : Addr) (xs : List Nx) (y : Nx), vs = [.ref x, .ref a] ∧ HisAt C CF H x b d1 d2 xs ∧ y ∈ xs ∧ H a = some (.tup (mkV y.m)) ∧ ∀ H', Same H H' → Q .non H'
abbrev nCheckE : List Str := ["self", "stamp"]
theorem scCheckE : FnScope nCheckE ["self", "stamp"] (defScope yCheck) := ⟨rfl, rfl, rfl, by decide +kernel, rfl, by decide +kernel, by decide +kernel⟩
theorem ok_check_e {f C CF : Addr} {fd : FuncData} (F : Fun K "check_entry" "History.check_entry" yCheck f fd) (T : HC K mg C) (DH : HasM P w K mg base C "has_entry" 5 ["self", "stamp"] (spHas C)) : FnOk P w K mg base CX0 6 f fd ["self", "stamp"] (spCheckE C CF) := by
  obtain ⟨fH, fdH, GH, mH, bH⟩ := DH
  refine F.ok scCheckE (fun vs H Q E h => ?_) (fun cdv A outer s H vs Q E hr h => ?_)
  · obtain ⟨x, b, d1, d2, a, xs, y, rfl, _⟩ := h
    rfl
  · obtain ⟨x, b, d1, d2, a, xs, y, rfl, hH, hy, ha, out⟩ := h
    refine ⟨_, (pss_one (ps_if (pt_not (pt_val (pe_meth (pv 0) T.cl mH GH hr bH .nil pass0 (pa_cons (pv 1) pa_nil)))) (pss_one ps_off) pss_nil)), ?_⟩
    obtain ⟨dx, hx⟩ := id hH.hs
    refine ⟨_, rfl, x, dx, _, rfl, hx, (no3h (by decide +kernel) (by decide +kernel) (by decide +kernel)), _, rfl, x, b, d1, d2, a, xs, y.m, rfl, hH.hs, hH.e1, hH.ds, ha, hH.om y hy, fun H1 s1 => ⟨_, rfl, ?_⟩⟩
    rw [decide_eq_true (List.mem_map.mpr ⟨y, hy, rfl⟩)]
    exact iteF (out H1 s1)
/-- changes -/
def spChanges (C CF : Addr) : Sp := fun vs H Q _ => ∃ (x b d1 d2 a : Addr) (xs : List Nx) (y : Nx), vs = [.ref x, .ref a] ∧ HisAt C CF H x b d1 d2 xs ∧ y ∈ xs ∧ H a = some (.tup (mkV y.m)) ∧ ∀ H', Same H H' → Q (.int ((y.e.k : Nat) : Int)) H'
abbrev nChanges : List Str := ["self", "stamp"]
theorem scChanges : FnScope nChanges ["self", "stamp"] (defScope yChanges) := ⟨rfl, rfl, rfl, by decide +kernel, rfl, by decide +kernel, by decide +kernel⟩
theorem ok_changes {f C CF : Addr} {fd : FuncData} (F : Fun K "changes" "History.changes" yChanges f fd) (T : HC K mg C) (DE : HasM P w K mg base C "check_entry" 6 ["self", "stamp"] (spCheckE C CF)) : FnOk P w K mg base CX0 7 f fd ["self", "stamp"] (spChanges C CF) := by
  obtain ⟨fE, fdE, GE, mE, bE⟩ := DE
  refine F.ok scChanges (fun vs H Q E h => ?_) (fun cdv A outer s H vs Q E hr h => ?_)
  · obtain ⟨x, b, d1, d2, a, xs, y, rfl, _⟩ := h
    rfl
  · obtain ⟨x, b, d1, d2, a, xs, y, rfl, hH, hy, ha, out⟩ := h
    have hu := hr.units
    have hu1 := hu_of hr
    refine ⟨_, (pss_cons (ps_expr (pe_meth (pv 0) T.cl mE GE hr bE .nil pass0 (pa_cons (pv 1) pa_nil)))
      (pss_one (ps_ret (pe_dget hu1 (pe_fld (pv 0) rfl) (pv 1) (fun _ _ => rfl))))), ?_⟩
    obtain ⟨dx, hx⟩ := id hH.hs
    refine ⟨_, rfl, x, dx, _, rfl, hx, (no3h (by decide +kernel) (by decide +kernel) (by decide +kernel)), _, rfl, x, b, d1, d2, a, xs, y, rfl, hH, hy, ha, fun H1 s1 => ?_⟩
    have h1 := hH.same s1
    obtain ⟨dx1, hx1⟩ := id h1.hs
    have g := DGet.t (k := mkK y.m) h1.e2 (s1 _ _ ha)
    rw [show valV (kC xs) (mkK y.m) = some (.int ((y.e.k : Nat) : Int)) from valV_key (v := fun y => .int ((y.e.k : Nat) : Int)) hH.ds hy] at g
    exact ⟨_, rfl, x, C, dx1, _, _, rfl, hx1, T.cl, T.nC, hf3, _, rfl, d2, _, rfl, g, out H1 s1⟩
/-- flip -/
def spFlipH (C CF : Addr) : Sp := fun vs H Q _ => ∃ (x b d1 d2 a : Addr) (xs : List Nx) (y : Nx), vs = [.ref x, .ref a] ∧ HisAt C CF H x b d1 d2 xs ∧ y ∈ xs ∧ H a = some (.tup (mkV y.m)) ∧ ∀ H', Same H H' → Q (.ref y.f) H'
abbrev nFlip : List Str := ["self", "stamp"]
theorem scFlip : FnScope nFlip ["self", "stamp"] (defScope yFlip) := ⟨rfl, rfl, rfl, by decide +kernel, rfl, by decide +kernel, by decide +kernel⟩
theorem ok_flipH {f C CF : Addr} {fd : FuncData} (F : Fun K "flip" "History.flip" yFlip f fd) (T : HC K mg C) (DE : HasM P w K mg base C "check_entry" 6 ["self", "stamp"] (spCheckE C CF)) : FnOk P w K mg base CX0 7 f fd ["self", "stamp"] (spFlipH C CF) := by
  obtain ⟨fE, fdE, GE, mE, bE⟩ := DE
  refine F.ok scFlip (fun vs H Q E h => ?_) (fun cdv A outer s H vs Q E hr h => ?_)
  · obtain ⟨x, b, d1, d2, a, xs, y, rfl, _⟩ := h
    rfl
  · obtain ⟨x, b, d1, d2, a, xs, y, rfl, hH, hy, ha, out⟩ := h
    have hu := hr.units
    have hu1 := hu_of hr
    refine ⟨_, (pss_cons (ps_expr (pe_meth (pv 0) T.cl mE GE hr bE .nil pass0 (pa_cons (pv 1) pa_nil)))
      (pss_one (ps_ret (pe_dget hu1 (pe_fld (pv 0) rfl) (pv 1) (fun _ _ => rfl))))), ?_⟩
    obtain ⟨dx, hx⟩ := id hH.hs
    refine ⟨_, rfl, x, dx, _, rfl, hx, (no3h (by decide +kernel) (by decide +kernel) (by decide +kernel)), _, rfl, x, b, d1, d2, a, xs, y, rfl, hH, hy, ha, fun H1 s1 => ?_⟩
    have h1 := hH.same s1
    obtain ⟨dx1, hx1⟩ := id h1.hs
    have g := DGet.t (k := mkK y.m) h1.e1 (s1 _ _ ha)
    rw [show valV (kF xs) (mkK y.m) = some (.ref y.f) from valV_key (v := fun y => .ref y.f) hH.ds hy] at g
    exact ⟨_, rfl, x, C, dx1, _, _, rfl, hx1, T.cl, T.nF, hf2, _, rfl, d1, _, rfl, g, out H1 s1⟩
/-- stands -/
def spStands (C CF : Addr) : Sp := fun vs H Q _ => ∃ (x b d1 d2 a : Addr) (xs : List Nx) (y : Nx), vs = [.ref x, .ref a] ∧ HisAt C CF H x b d1 d2 xs ∧ y ∈ xs ∧ H a = some (.tup (mkV y.m)) ∧ ∀ H', Same H H' → Q (.bl y.e.on) H'
abbrev nStands : List Str := ["self", "stamp"]
theorem scStands : FnScope nStands ["self", "stamp"] (defScope yStands) := ⟨rfl, rfl, rfl, by decide +kernel, rfl, by decide +kernel, by decide +kernel⟩
theorem on_bl (k : Nat) : decide (V.int (((k : Nat) : Int) % 2) = V.int 0) = decide (k % 2 = 0) := by
  by_cases z : k % 2 = 0
  · rw [decide_eq_true z, decide_eq_true]
    rw [show ((k : Nat) : Int) % 2 = 0 by omega]
  · rw [decide_eq_false z, decide_eq_false]
    intro q
    injection q with q
    omega
theorem ok_stands {f C CF : Addr} {fd : FuncData} (F : Fun K "stands" "History.stands" yStands f fd) (T : HC K mg C) (DG : HasM P w K mg base C "changes" 7 ["self", "stamp"] (spChanges C CF)) : FnOk P w K mg base CX0 8 f fd ["self", "stamp"] (spStands C CF) := by
  obtain ⟨fG, fdG, GG, mG, bG⟩ := DG
  refine F.ok scStands (fun vs H Q E h => ?_) (fun cdv A outer s H vs Q E hr h => ?_)
  · obtain ⟨x, b, d1, d2, a, xs, y, rfl, _⟩ := h
    rfl
  · obtain ⟨x, b, d1, d2, a, xs, y, rfl, hH, hy, ha, out⟩ := h
    refine ⟨_, (pss_one (ps_ret (pe_cmpR op_eq (pe_op op_mod (pe_meth (pv 0) T.cl mG GG hr bG .nil pass0 (pa_cons (pv 1) pa_nil)) pe_int) pe_int (nomark _)))), ?_⟩
    obtain ⟨dx, hx⟩ := id hH.hs
    refine ⟨_, rfl, x, dx, _, rfl, hx, (no3h (by decide +kernel) (by decide +kernel) (by decide +kernel)), _, rfl, x, b, d1, d2, a, xs, y, rfl, hH, hy, ha, fun H1 s1 => ?_⟩
    refine ⟨_, _, rfl, rfl, (by show (0 : Int) < 2; decide), rfl, ?_⟩
    rw [on_bl]
    exact out H1 s1
/-- stamps -/
def spStamps (C CF : Addr) : Sp := fun vs H Q _ => ∃ (x b d1 d2 : Addr) (xs : List Nx), vs = [.ref x] ∧ HisAt C CF H x b d1 d2 xs ∧ ∀ l as H', H l = none → Same H H' → H' l = some (.lst (as.map V.ref)) → Mks H' as ((srtN xs).map Nx.m) → Q (.ref l) H'
abbrev nStamps : List Str := ["self"]
theorem scStamps : FnScope nStamps ["self"] (defScope yStamps) := ⟨rfl, rfl, rfl, by decide +kernel, rfl, by decide +kernel, by decide +kernel⟩
theorem dp_mk {H : Hp} {a : Addr} {m : Mk} (h : H a = some (.tup (mkV m))) : Dp K H (.ref a) (mkD m) := .tup (SqT.of h) (.cons (.int _) (.cons (.str _) (.cons (.int _) .nil)))
theorem ok_stamps {f C CF : Addr} {fd : FuncData} (F : Fun K "stamps" "History.stamps" yStamps f fd) (B : Bl mg) (T : HC K mg C) : FnOk P w K mg base CX0 2 f fd ["self"] (spStamps C CF) := by
  refine F.ok scStamps (fun vs H Q E h => ?_) (fun cdv A outer s H vs Q E hr h => ?_)
  · obtain ⟨x, b, d1, d2, xs, rfl, _⟩ := h
    rfl
  · obtain ⟨x, b, d1, d2, xs, rfl, hH, out⟩ := h
    have hu := hr.units
    have hu1 := hu_of hr
    refine ⟨_, (pss_one (ps_ret (pe_callB (cr_sortedD hu) (by rfl) B.sorted (by decide +kernel) (pa_cons (pe_callTy (call_list_dT rfl) (by rfl) B.list (by decide +kernel) (pa_cons (pe_fld (pv 0) rfl) pa_nil)) pa_nil)))), ?_⟩
    obtain ⟨dx, hx⟩ := id hH.hs
    refine ⟨_, rfl, x, C, dx, _, _, rfl, hx, T.cl, T.nF, hf2, d1, _, rfl, .inl hH.e1, fun p bs hp ik => ?_⟩
    obtain ⟨zs, rfl, z2, z3⟩ := keys_of ik
    have s1 := same_new (o := .lst ((zs.map (·.1)).map V.ref)) hp
    have zl : zs.length ≤ 300 := by
      have := congrArg List.length z2
      rw [List.length_map, List.length_map] at this
      have := hH.few
      omega
    refine ⟨p, Addr × Mk, zs, fun z => .ref z.1, fun z => mkD z.2, rfl, SqL.of (by rw [upd_same, List.map_map]; rfl), fun z hz => dp_mk (s1 _ _ (z3 z hz)), W.AllAlike.of fun u v => alike_marks u.2 v.2, W.Sortable.tuples fun u => ⟨_, _, rfl⟩, fun z hz => (by show 1 ≤ 40; decide), fun l hl => ?_⟩
    generalize hzs : zs.mergeSort (W.dataLe false fun z => mkD z.2) = ws
    have s2 := same_new (o := .lst (ws.map fun z => V.ref z.1)) hl
    have wm : ∀ z ∈ ws, z ∈ zs := fun z hz => by
      rw [← hzs] at hz
      exact (List.mergeSort_perm ..).mem_iff.mp hz
    have e2 : ws.map (·.2) = (srtN xs).map Nx.m := by
      rw [srtN_marks, ← z2, ← hzs]
      exact W.sort_maps (fun z : Addr × Mk => z.2) fun _ _ _ _ => rfl
    refine out l (ws.map (·.1)) _ (s1.free hl) (s1.trans s2) (by rw [upd_same, List.map_map]; rfl) ?_
    rw [← e2]
    exact mks_of fun z hz => s2 _ _ (s1 _ _ (z3 z (wm z hz)))
end
end K33
namespace K33
open PySem PySem.Spec PyProof.Rows L2 Par X
/-- all but what stands at these places is as it was -/
def Off (M : List Addr) (H H' : Hp) : Prop := ∀ b o, b ∉ M → H b = some o → H' b = some o
theorem Off.refl (M : List Addr) (H : Hp) : Off M H H := fun _ _ _ h => h
theorem Off.trans {M : List Addr} {H H1 H2 : Hp} (a : Off M H H1) (b : Off M H1 H2) : Off M H H2 := fun c o n h => b c o n (a c o n h)
theorem Off.same {M : List Addr} {H H' : Hp} (h : Same H H') : Off M H H' := fun b o _ e => h b o e
theorem Off.mono {M N : List Addr} {H H' : Hp} (h : Off M H H') (s : ∀ b ∈ M, b ∈ N) : Off N H H' := fun b o n e => h b o (fun z => n (s b z)) e
theorem Off.of_but {p : Addr} {M : List Addr} {H H' : Hp} (h : But p H H') (m : p ∈ M) : Off M H H' := fun b o n e => h b o (fun z => n (z ▸ m)) e
theorem Off.upd {M : List Addr} {H : Hp} {a : Addr} {o : HO} (m : a ∈ M) : Off M H (L2.upd H a o) := fun b u n e => by
  rw [upd_ne (fun z => n (by rw [z]; exact m))]
  exact e
/-- an entry switched -/
def Nx.sw (y : Nx) : Nx := { y with e := { y.e with k := y.e.k + 1 } }
theorem kF_sw {xs : List Nx} {i : Nat} {y : Nx} (h : xs[i]? = some y) : kF (xs.set i y.sw) = kF xs := by
  unfold kF
  rw [List.map_set]
  refine List.ext_getElem? fun j => ?_
  rw [List.getElem?_set]
  split
  · next e =>
    subst e
    split
    · rw [List.getElem?_map, h]
      rfl
    · next z =>
      rw [List.length_map] at z
      have := (List.getElem?_eq_some_iff.mp h).1
      exact absurd this z
  · rfl
theorem marks_sw {xs : List Nx} {i : Nat} {y : Nx} (h : xs[i]? = some y) : (xs.set i y.sw).map Nx.m = xs.map Nx.m := by
  rw [List.map_set]
  refine List.ext_getElem? fun j => ?_
  rw [List.getElem?_set]
  split
  · next e =>
    subst e
    split
    · rw [List.getElem?_map, h]
      rfl
    · next z =>
      rw [List.length_map] at z
      have := (List.getElem?_eq_some_iff.mp h).1
      exact absurd this z
  · rfl
theorem Dst.idx {xs : List Nx} (d : Dst xs) {i j : Nat} {y z : Nx} (hy : xs[i]? = some y) (hz : xs[j]? = some z) (e : y.m = z.m) : i = j := by
  obtain ⟨li, ei⟩ := List.getElem?_eq_some_iff.mp hy
  obtain ⟨lj, ej⟩ := List.getElem?_eq_some_iff.mp hz
  refine (List.getElem_inj (h₀ := by rw [List.length_map]; exact li) (h₁ := by rw [List.length_map]; exact lj) d).mp ?_
  rw [List.getElem_map, List.getElem_map, ei, ej]
  exact e
theorem kC_put {xs : List Nx} (d : Dst xs) {i : Nat} {y : Nx} (h : xs[i]? = some y) : putK (kC xs) (mkK y.m) (.int (((y.e.k : Nat) : Int) + 1)) = kC (xs.set i y.sw) := by
  unfold putK
  rw [if_pos]
  · unfold kC
    rw [List.map_map]
    refine List.ext_getElem? fun j => ?_
    rw [List.getElem?_map, List.getElem?_map, List.getElem?_set]
    by_cases e : i = j
    · subst e
      rw [if_pos rfl, if_pos (List.getElem?_eq_some_iff.mp h).1, h]
      show some (if mkK y.m = mkK y.m then (mkK y.m, V.int (((y.e.k : Nat) : Int) + 1)) else _) = some (mkK y.m, V.int (((y.e.k + 1 : Nat)) : Int))
      rw [if_pos rfl]
      rfl
    · rw [if_neg e]
      cases hj : xs[j]? with
      | none => rfl
      | some z =>
        show some (if mkK z.m = mkK y.m then (mkK z.m, V.int (((y.e.k : Nat) : Int) + 1)) else (mkK z.m, V.int ((z.e.k : Nat) : Int))) = some (mkK z.m, V.int ((z.e.k : Nat) : Int))
        rw [if_neg fun q => e (d.idx h hj (mkK_inj q).symm)]
  · exact List.any_eq_true.mpr ⟨(mkK y.m, .int ((y.e.k : Nat) : Int)), List.mem_map.mpr ⟨y, List.mem_of_getElem? h, rfl⟩, decide_eq_true rfl⟩
theorem Fp.keep {CF d : Addr} {H H' : Hp} {f : Addr} {ts hs : List Int} {M : List Addr} (o : Off M H H') (n : ∀ a ∈ M, ∃ kvs, H a = some (.dT kvs)) (h : Fp CF H f ts hs) : Fp CF H' f ts hs := by
  obtain ⟨dx, u, v, e1, e2, e3⟩ := h
  have ne : ∀ {z : Addr} {w : HO}, H z = some w → (∀ kvs, w ≠ .dT kvs) → z ∉ M := fun hz hw hm => by
    obtain ⟨kvs, e⟩ := n _ hm
    rw [hz] at e
    exact hw kvs (Option.some.inj e)
  exact ⟨dx, u, v, o _ _ (ne e1 fun _ q => nomatch q) e1, o _ _ (ne e2 fun _ q => nomatch q) e2, o _ _ (ne e3 fun _ q => nomatch q) e3⟩
theorem HisAt.sw {C CF : Addr} {H : Hp} {x b d1 d2 : Addr} {xs : List Nx} (h : HisAt C CF H x b d1 d2 xs) {i : Nat} {y : Nx} (hy : xs[i]? = some y) :
    HisAt C CF (upd H d2 (.dT (putK (kC xs) (mkK y.m) (.int (((y.e.k : Nat) : Int) + 1))))) x b d1 d2 (xs.set i y.sw) := by
  have mem : ∀ z ∈ xs.set i y.sw, ∃ z' ∈ xs, z.m = z'.m ∧ z.f = z'.f ∧ z.e.ts = z'.e.ts ∧ z.e.hs = z'.e.hs := fun z hz => by
    rcases List.mem_or_eq_of_mem_set hz with q | rfl
    · exact ⟨z, q, rfl, rfl, rfl, rfl⟩
    · exact ⟨y, List.mem_of_getElem? hy, rfl, rfl, rfl, rfl⟩
  obtain ⟨dx, hx⟩ := id h.hs
  have nx : x ≠ d2 := fun z => by rw [z, h.e2] at hx; cases hx
  refine ⟨⟨dx, by rw [upd_ne nx]; exact hx⟩, by rw [upd_ne h.ne, kF_sw hy]; exact h.e1, by rw [upd_same, kC_put h.ds hy], h.ne, ?_, ?_, by rw [List.length_set]; exact h.few, ?_⟩
  · show ((xs.set i y.sw).map Nx.m).Nodup
    rw [marks_sw hy]
    exact h.ds
  · intro z hz
    obtain ⟨z', hz', e, _⟩ := mem z hz
    rw [e]
    exact h.om z' hz'
  · intro z hz
    obtain ⟨z', hz', _, e1, e2, e3⟩ := mem z hz
    rw [e1, e2, e3]
    exact Fp.keep (M := [d2]) (d := d2) (Off.upd (List.mem_singleton.mpr rfl)) (fun a ha => ⟨kC xs, by rw [List.mem_singleton.mp ha]; exact h.e2⟩) (h.fl z' hz')
theorem sw_on (y : Nx) : y.sw.e.on = !y.e.on := by
  show decide ((y.e.k + 1) % 2 = 0) = !decide (y.e.k % 2 = 0)
  by_cases z : y.e.k % 2 = 0
  · rw [decide_eq_true z, decide_eq_false (by omega)]
    rfl
  · rw [decide_eq_false z, decide_eq_true (by omega)]
    rfl
section
variable {P : Program} {w : World} {K : PySem.W.Frag} {mg : Str → Option Value} {base : Heap}
/-- remove, restore: the entry is switched -/
def spSwitch (on : Bool) (C CF : Addr) : Sp := fun vs H Q _ => ∃ (x b d1 d2 a : Addr) (xs : List Nx) (i : Nat) (y : Nx), vs = [.ref x, .ref a] ∧ HisAt C CF H x b d1 d2 xs ∧ xs[i]? = some y ∧ y.e.on = on ∧ H a = some (.tup (mkV y.m)) ∧ ∀ H', Off [d2] H H' → HisAt C CF H' x b d1 d2 (xs.set i y.sw) → Q .non H'
abbrev nRemove : List Str := ["self", "stamp"]
theorem scRemove : FnScope nRemove ["self", "stamp"] (defScope yRemove) := ⟨rfl, rfl, rfl, by decide +kernel, rfl, by decide +kernel, by decide +kernel⟩
theorem ok_remove {f C CF : Addr} {fd : FuncData} (F : Fun K "remove" "History.remove" yRemove f fd) (T : HC K mg C) (DS : HasM P w K mg base C "stands" 8 ["self", "stamp"] (spStands C CF)) : FnOk P w K mg base CX0 9 f fd ["self", "stamp"] (spSwitch true C CF) := by
  obtain ⟨fS, fdS, GS, mS, bS⟩ := DS
  refine F.ok scRemove (fun vs H Q E h => ?_) (fun cdv A outer s H vs Q E hr h => ?_)
  · obtain ⟨x, b, d1, d2, a, xs, i, y, rfl, _⟩ := h
    rfl
  · obtain ⟨x, b, d1, d2, a, xs, i, y, rfl, hH, hy, hon, ha, out⟩ := h
    have hu := hr.units
    have hu1 := hu_of hr
    refine ⟨_, (pss_cons (ps_if (pt_not (pt_val (pe_meth (pv 0) T.cl mS GS hr bS .nil pass0 (pa_cons (pv 1) pa_nil)))) (pss_one ps_off) pss_nil)
      (pss_one (ps_daug hu1 (pe_fld (pv 0) rfl) (pv 1) pe_int in_add (fun _ _ _ => rfl)))), ?_⟩
    obtain ⟨dx, hx⟩ := id hH.hs
    have my := List.mem_of_getElem? hy
    refine ⟨_, rfl, x, dx, _, rfl, hx, (no3h (by decide +kernel) (by decide +kernel) (by decide +kernel)), _, rfl, x, b, d1, d2, a, xs, y, rfl, hH, my, ha, fun H1 s1 => ⟨_, rfl, ?_⟩⟩
    rw [hon]
    have h1 := hH.same s1
    obtain ⟨dx1, hx1⟩ := id h1.hs
    have g := DGet.t (k := mkK y.m) h1.e2 (s1 _ _ ha)
    rw [show valV (kC xs) (mkK y.m) = some (.int ((y.e.k : Nat) : Int)) from valV_key (v := fun y => .int ((y.e.k : Nat) : Int)) hH.ds my] at g
    refine iteF ?_
    refine ⟨_, rfl, x, C, dx1, _, _, rfl, hx1, T.cl, T.nC, hf3, _, rfl, d2, _, rfl, g, _, _, rfl, rfl, _, DPut.t (k := mkK y.m) h1.e2 (s1 _ _ ha) (by
      have := hH.few
      unfold kC
      rw [List.length_map, sizeLine_eq]
      omega), ?_⟩
    exact out _ ((Off.same s1).trans (Off.upd (List.mem_singleton.mpr rfl))) (h1.sw hy)
abbrev nRestore : List Str := ["self", "stamp"]
theorem scRestore : FnScope nRestore ["self", "stamp"] (defScope yRestore) := ⟨rfl, rfl, rfl, by decide +kernel, rfl, by decide +kernel, by decide +kernel⟩
theorem ok_restore {f C CF : Addr} {fd : FuncData} (F : Fun K "restore" "History.restore" yRestore f fd) (T : HC K mg C) (DS : HasM P w K mg base C "stands" 8 ["self", "stamp"] (spStands C CF)) : FnOk P w K mg base CX0 9 f fd ["self", "stamp"] (spSwitch false C CF) := by
  obtain ⟨fS, fdS, GS, mS, bS⟩ := DS
  refine F.ok scRestore (fun vs H Q E h => ?_) (fun cdv A outer s H vs Q E hr h => ?_)
  · obtain ⟨x, b, d1, d2, a, xs, i, y, rfl, _⟩ := h
    rfl
  · obtain ⟨x, b, d1, d2, a, xs, i, y, rfl, hH, hy, hon, ha, out⟩ := h
    have hu := hr.units
    have hu1 := hu_of hr
    refine ⟨_, (pss_cons (ps_if (pt_val (pe_meth (pv 0) T.cl mS GS hr bS .nil pass0 (pa_cons (pv 1) pa_nil))) (pss_one ps_off) pss_nil)
      (pss_one (ps_daug hu1 (pe_fld (pv 0) rfl) (pv 1) pe_int in_add (fun _ _ _ => rfl)))), ?_⟩
    obtain ⟨dx, hx⟩ := id hH.hs
    have my := List.mem_of_getElem? hy
    refine ⟨_, rfl, x, dx, _, rfl, hx, (no3h (by decide +kernel) (by decide +kernel) (by decide +kernel)), _, rfl, x, b, d1, d2, a, xs, y, rfl, hH, my, ha, fun H1 s1 => ⟨_, rfl, ?_⟩⟩
    rw [hon]
    have h1 := hH.same s1
    obtain ⟨dx1, hx1⟩ := id h1.hs
    have g := DGet.t (k := mkK y.m) h1.e2 (s1 _ _ ha)
    rw [show valV (kC xs) (mkK y.m) = some (.int ((y.e.k : Nat) : Int)) from valV_key (v := fun y => .int ((y.e.k : Nat) : Int)) hH.ds my] at g
    refine iteF ?_
    refine ⟨_, rfl, x, C, dx1, _, _, rfl, hx1, T.cl, T.nC, hf3, _, rfl, d2, _, rfl, g, _, _, rfl, rfl, _, DPut.t (k := mkK y.m) h1.e2 (s1 _ _ ha) (by
      have := hH.few
      unfold kC
      rw [List.length_map, sizeLine_eq]
      omega), ?_⟩
    exact out _ ((Off.same s1).trans (Off.upd (List.mem_singleton.mpr rfl))) (h1.sw hy)
/-- enter, a stamp that is new -/
def spEnterH (C CF CB : Addr) : Sp := fun vs H Q _ => ∃ (x b d1 d2 a : Addr) (xs : List Nx) (y : Nx) (bs : List Int), vs = [.ref x, .ref a, .ref y.f] ∧ HisAt C CF H x b d1 d2 xs ∧ xs.length < 300 ∧ H a = some (.tup (mkV y.m)) ∧ OkM y.m ∧ y.m ∉ xs.map Nx.m ∧ y.e.k = 0 ∧ Fp CF H y.f y.e.ts y.e.hs ∧ OkF y.e.ts y.e.hs ∧ Bd CB H b bs ∧
  (∀ M, Fits y.e.ts y.e.hs M → M ≤ bs.length) ∧ ∀ H', Off [d1, d2] H H' → HisAt C CF H' x b d1 d2 (xs ++ [y]) → Q .non H'
abbrev nEnter : List Str := ["self", "stamp", "flip"]
theorem scEnter : FnScope nEnter ["self", "stamp", "flip"] (defScope yEnter) := ⟨rfl, rfl, rfl, by decide +kernel, rfl, by decide +kernel, by decide +kernel⟩
theorem ok_enterH {f C CF CB CW : Addr} {fd : FuncData} (F : Fun K "enter" "History.enter" yEnter f fd) (B : Bl mg) (T : HC K mg C) (TB : BC K mg CB) (hM : ∃ t, mg "MOST_ENTRIES" = some (.int 300 t)) (DS : Has P w K mg base "is_stamp" 4 ["thing"] (spStamp K)) (DI : HasFit P w K mg base CF CW) (DZ : HasM P w K mg base CB "size" 2 ["self"] (spSize CB)) (DK : HasM P w K mg base C "keep" 2 ["self", "stamp", "flip", "changes"] (spKeep C)) : FnOk P w K mg base CX0 5 f fd ["self", "stamp", "flip"] (spEnterH C CF CB) := by
  obtain ⟨fS, fdS, GS, mS, kS, bS⟩ := DS
  obtain ⟨fI, fdI, GI, mI, kI, bI⟩ := DI
  obtain ⟨fZ, fdZ, GZ, mZ, bZ⟩ := DZ
  obtain ⟨fK, fdK, GK, mK, bK⟩ := DK
  obtain ⟨tM, hM⟩ := hM
  refine F.ok scEnter (fun vs H Q E h => ?_) (fun cdv A outer s H vs Q E hr h => ?_)
  · obtain ⟨x, b, d1, d2, a, xs, y, bs, rfl, _⟩ := h
    rfl
  · obtain ⟨x, b, d1, d2, a, xs, y, bs, rfl, hH, lt, ha, om, nw, k0, hF, oF, hB, fit, out⟩ := h
    have hu := hr.units
    have hu1 := hu_of hr
    have r2 : Room 2 _ := hr.mono (by decide)
    refine ⟨_, (pss_cons (ps_if (pt_not (pt_val (pe_call GS hr (by rfl) mS kS bS .nil pass0 (pa_cons (pv 1) pa_nil)))) (pss_one ps_off) pss_nil)
      (pss_cons (ps_expr (pe_call (fnOk0 GI) hr (by rfl) mI kI bI .nil pass0 (pa_cons (pv 2) (pa_cons (pe_meth0 (pe_fld (pv 0) rfl) TB.cl mZ GZ r2 bZ .nil pass0) pa_nil))))
      (pss_cons (ps_if (pt_cmp (pc_din hu1 (pv 1) (pe_fld (pv 0) rfl))) (pss_one ps_off) pss_nil)
      (pss_cons (ps_if (pt_cmpR op_ge (pe_callB call_len_dT (by rfl) B.len PySem.boot_len (pa_cons (pe_fld (pv 0) rfl) pa_nil)) (pe_glob (v := .int 300) (by rfl) hM ⟨_, rfl⟩) (nomark _)) (pss_one ps_off) pss_nil)
      (pss_one (ps_expr (pe_meth (pv 0) T.cl mK GK r2 bK .nil pass0 (pa_cons (pv 1) (pa_cons (pv 2) (pa_cons pe_int pa_nil)))))))))), ?_⟩
    obtain ⟨dx, hx⟩ := id hH.hs
    obtain ⟨db, tb, hb1, hb2⟩ := id hB
    refine ⟨_, rfl, .ref a, _, rfl, ds_mark ha om, fun H1 s1 => ⟨_, rfl, ?_⟩⟩
    rw [om.stamp]
    refine iteF ?_
    refine ⟨_, rfl, _, rfl, x, C, dx, _, _, rfl, s1 _ _ hx, T.cl, T.nB, hf1, b, db, _, rfl, s1 _ _ hb1, no_fld (by decide +kernel), b, bs, rfl, hB.same s1, ?_⟩
    refine ⟨y.f, y.e.ts, y.e.hs, _, rfl, hF.same s1, oF, fun M fM le H2 s2 => ?_, fun M fM gt => ?_⟩
    rotate_left
    · have := fit M fM
      omega
    have s12 := s1.trans s2
    have h2 := hH.same s12
    obtain ⟨dx2, hx2⟩ := id h2.hs
    refine ⟨_, rfl, _, rfl, x, C, dx2, _, _, rfl, hx2, T.cl, T.nF, hf2, d1, _, rfl, DGet.t (k := mkK y.m) h2.e1 (s12 _ _ ha), _, rfl, ?_⟩
    have e : (valV (kF xs) (mkK y.m)).isSome = false := by
      rw [show (valV (kF xs) (mkK y.m)).isSome = decide (y.m ∈ xs.map Nx.m) from valV_has (v := fun x => .ref x.f) hH.ds]
      exact decide_eq_false nw
    rw [e]
    refine iteF ?_
    refine ⟨_, rfl, x, C, dx2, _, _, rfl, hx2, T.cl, T.nF, hf2, d1, _, rfl, h2.e1, _, _, rfl, rfl, _, rfl, ?_⟩
    have lF : (kF xs).length = xs.length := List.length_map ..
    have lC : (kC xs).length = xs.length := List.length_map ..
    rw [lF, decide_eq_false (show ¬ (((xs.length : Nat) : Int) ≥ 300) by omega)]
    refine iteF ?_
    refine ⟨_, rfl, x, dx2, _, rfl, hx2, (no3h (by decide +kernel) (by decide +kernel) (by decide +kernel)), _, rfl, _, rfl, x, b, d1, d2, a, kF xs, kC xs, y.m, .ref y.f, .int 0, rfl, h2.hs, h2.e1, h2.e2, h2.ne, s12 _ _ ha, by omega, by omega, ?_⟩
    have o3 : Off [d1, d2] H2 (upd (upd H2 d1 (.dT (putK (kF xs) (mkK y.m) (.ref y.f)))) d2 (.dT (putK (kC xs) (mkK y.m) (.int 0)))) := (Off.upd (by simp)).trans (Off.upd (by simp))
    have nF : putK (kF xs) (mkK y.m) (.ref y.f) = kF (xs ++ [y]) := by
      rw [show putK (kF xs) (mkK y.m) (.ref y.f) = kF xs ++ [(mkK y.m, .ref y.f)] from putK_no (v := fun x => .ref x.f) nw]
      unfold kF
      rw [List.map_append]
      rfl
    have nC : putK (kC xs) (mkK y.m) (.int 0) = kC (xs ++ [y]) := by
      rw [show putK (kC xs) (mkK y.m) (.int 0) = kC xs ++ [(mkK y.m, .int 0)] from putK_no (v := fun x => .int ((x.e.k : Nat) : Int)) nw]
      unfold kC
      rw [List.map_append]
      show _ = _ ++ [(mkK y.m, V.int ((y.e.k : Nat) : Int))]
      rw [k0]
      rfl
    refine out _ ((Off.same s12).trans o3) ?_
    have nx1 : x ≠ d1 := fun z => by rw [z, h2.e1] at hx2; cases hx2
    have nx2 : x ≠ d2 := fun z => by rw [z, h2.e2] at hx2; cases hx2
    have two : ∀ a ∈ [d1, d2], ∃ kvs, H2 a = some (.dT kvs) := fun a ha => by
      rcases List.mem_cons.mp ha with rfl | ha
      · exact ⟨_, h2.e1⟩
      · rw [List.mem_singleton.mp ha]
        exact ⟨_, h2.e2⟩
    refine ⟨⟨dx2, by rw [upd_ne nx2, upd_ne nx1]; exact hx2⟩, by rw [upd_ne h2.ne, upd_same, nF], by rw [upd_same, nC], h2.ne, ?_, ?_, by rw [List.length_append]; show _ + 1 ≤ _; omega, ?_⟩
    · show ((xs ++ [y]).map Nx.m).Nodup
      rw [List.map_append]
      refine List.nodup_append.mpr ⟨hH.ds, by simp, fun u hu v hv q => ?_⟩
      have : v = y.m := by simpa using hv
      exact nw (by rw [← this, ← q]; exact hu)
    · intro z hz
      rcases List.mem_append.mp hz with q | q
      · exact hH.om z q
      · rw [List.mem_singleton.mp q]
        exact om
    · intro z hz
      rcases List.mem_append.mp hz with q | q
      · exact Fp.keep (d := d1) o3 two (h2.fl z q)
      · rw [List.mem_singleton.mp q]
        exact Fp.keep (d := d1) o3 two (hF.same s12)
/-- standing_flips: of stamps of entries -/
def spStF (K : PySem.W.Frag) (C CF : Addr) : Sp := fun vs H Q _ => ∃ (x b d1 d2 l : Addr) (as : List Addr) (xs ys : List Nx), vs = [.ref x, .ref l] ∧ HisAt C CF H x b d1 d2 xs ∧ SqL K H l (as.map V.ref) ∧ Mks H as (ys.map Nx.m) ∧ (∀ y ∈ ys, y ∈ xs) ∧ ys.length ≤ 300 ∧ ∀ q H', H q = none → Same H H' → H' q = some (.lst ((ys.filter fun y => y.e.on).map fun y => .ref y.f)) → Q (.ref q) H'
abbrev nStF : List Str := ["history", "stamps", "stamp"]
theorem scStF : FnScope nStF ["history", "stamps"] (defScope sStanding) := ⟨rfl, rfl, rfl, by decide +kernel, rfl, by decide +kernel, by decide +kernel⟩
theorem ok_stF {f C CF : Addr} {fd : FuncData} (F : Fun K "standing_flips" "standing_flips" sStanding f fd) (T : HC K mg C) (DS : HasM P w K mg base C "stands" 8 ["self", "stamp"] (spStands C CF)) (DL : HasM P w K mg base C "flip" 7 ["self", "stamp"] (spFlipH C CF)) : FnOk P w K mg base CX0 9 f fd ["history", "stamps"] (spStF K C CF) := by
  obtain ⟨fS, fdS, GS, mS, bS⟩ := DS
  obtain ⟨fL, fdL, GL, mL, bL⟩ := DL
  refine F.ok scStF (fun vs H Q E h => ?_) (fun cdv A outer s H vs Q E hr h => ?_)
  · obtain ⟨x, b, d1, d2, l, as, xs, ys, rfl, _⟩ := h
    rfl
  · obtain ⟨x, b, d1, d2, l, as, xs, ys, rfl, hH, hl, hm, sub, few, out⟩ := h
    have r7 : Room 7 _ := hr.mono (by decide)
    refine ⟨_, (pss_one (ps_ret (pe_lc (own := [("stamp", 2)]) (g := gName 2) (te := tMeth C "flip" (spFlipH C CF) [] E0 (tVar 0) (tCons (tVar 2) tNil)) rfl scStF.nd (pi_list (pv 1)) (blkOk_by (own := [("stamp", 2)]) (N := nStF) (sc := defScope sStanding) (by decide +kernel)) (fun _ _ _ _ _ => (pg_name (i := 2) scStF.nd rfl (Or.inl rfl))) (fun _ _ _ _ _ => (pts_one (pt_val (pe_meth (pv 0) T.cl mS GS hr bS .nil pass0 (pa_cons (pv 2) pa_nil))))) (fun _ _ _ _ _ => by exact (pe_meth (pv 0) T.cl mL GL r7 bL .nil pass0 (pa_cons (pv 2) pa_nil)))))), ?_⟩
    obtain ⟨dx, hx⟩ := id hH.hs
    refine ⟨_, rfl, l, rfl, ⟨_, hl⟩, fun D hD => ?_⟩
    have al := hm.len
    rw [List.length_map] at al
    have item : ∀ {j : Nat} {v : V} {y : Nx}, (as.map V.ref)[j]? = some v → ys[j]? = some y → ∃ a, v = .ref a ∧ H a = some (.tup (mkV y.m)) ∧ y ∈ xs := fun {j v y} hv hy => by
      rw [List.getElem?_map] at hv
      cases e : as[j]? with
      | none => rw [e] at hv; cases hv
      | some a =>
        rw [e] at hv
        obtain ⟨m, e1, e2⟩ := hm.get e
        rw [List.getElem?_map, hy] at e1
        cases e1
        exact ⟨a, (Option.some.inj hv).symm, e2, sub y (List.mem_of_getElem? hy)⟩
    refine lc_selA ys (fun y => y.e.on) (fun y => .ref y.f) (by rw [List.length_map]; exact al) (by show 2 < 3; decide) hD hl (by omega) ?_ ?_ ?_
    · intro j v y σ2 H2 Y hv hy e s k
      subst e
      obtain ⟨a, rfl, ea, my⟩ := item hv hy
      exact ⟨_, rfl, x, dx, _, rfl, s _ _ hx, (no3h (by decide +kernel) (by decide +kernel) (by decide +kernel)), _, rfl, x, b, d1, d2, a, xs, y, rfl, hH.same s, my, s _ _ ea, fun H3 s3 => ⟨_, rfl, k H3 s3⟩⟩
    · intro j v y σ2 H2 Y hv hy hk e s k
      subst e
      obtain ⟨a, rfl, ea, my⟩ := item hv hy
      exact ⟨_, rfl, x, dx, _, rfl, s _ _ hx, (no3h (by decide +kernel) (by decide +kernel) (by decide +kernel)), _, rfl, x, b, d1, d2, a, xs, y, rfl, hH.same s, my, s _ _ ea, fun H3 s3 => k H3 s3⟩
    · intro H' s e
      exact out D H' hD s e
/-- the flips that stand, in order -/
def stdP (xs : List Nx) : List (List Int × List Int) := ((srtN xs).filter fun y => y.e.on).map fun y => (y.e.ts, y.e.hs)
theorem fls_of {CF : Addr} {H : Hp} : ∀ {ys : List Nx}, (∀ y ∈ ys, Fp CF H y.f y.e.ts y.e.hs ∧ OkF y.e.ts y.e.hs) → Fls CF H (ys.map Nx.f) (ys.map fun y => (y.e.ts, y.e.hs))
  | [], _ => True.intro
  | y :: ys, h => ⟨(h y (List.mem_cons_self ..)).1, (h y (List.mem_cons_self ..)).2, fls_of fun z hz => h z (List.mem_cons_of_mem _ hz)⟩
/-- board -/
def spBoardH (C CF CB : Addr) : Sp := fun vs H Q _ => ∃ (x b d1 d2 : Addr) (xs : List Nx) (bs : List Int), vs = [.ref x] ∧ HisAt C CF H x b d1 d2 xs ∧ Bd CB H b bs ∧ OkB bs ∧ (∀ y ∈ xs, OkF y.e.ts y.e.hs ∧ ∀ M, Fits y.e.ts y.e.hs M → M ≤ bs.length) ∧ ∀ q H', Same H H' → Bd CB H' q (runB bs (stdP xs)) → Q (.ref q) H'
abbrev nBoardH : List Str := ["self"]
theorem scBoardH : FnScope nBoardH ["self"] (defScope yBoard) := ⟨rfl, rfl, rfl, by decide +kernel, rfl, by decide +kernel, by decide +kernel⟩
theorem ok_boardH {f C CF CB CW : Addr} {fd : FuncData} (F : Fun K "board" "History.board" yBoard f fd) (T : HC K mg C) (DS : HasM P w K mg base C "stamps" 2 ["self"] (spStamps C CF)) (DF : Has P w K mg base "standing_flips" 9 ["history", "stamps"] (spStF K C CF)) (DA : ∃ f fd, FnOk P w K mg base (L2.CX P w) 10 f fd ["board", "flips"] (spApplyAll K CB CF CW) ∧ mg "apply_flips" = some (.ref f) ∧ PySem.W.keepIn K (.ref f) = true ∧ Binds K fd ["board", "flips"] []) : FnOk P w K mg base CX0 11 f fd ["self"] (spBoardH C CF CB) := by
  obtain ⟨fS, fdS, GS, mS, bS⟩ := DS
  obtain ⟨fF, fdF, GF, mF, kF, bF⟩ := DF
  obtain ⟨fA, fdA, GA, mA, kA, bA⟩ := DA
  refine F.ok scBoardH (fun vs H Q E h => ?_) (fun cdv A outer s H vs Q E hr h => ?_)
  · obtain ⟨x, b, d1, d2, xs, bs, rfl, _⟩ := h
    rfl
  · obtain ⟨x, b, d1, d2, xs, bs, rfl, hH, hB, oB, ok, out⟩ := h
    have r9 : Room 9 _ := hr.mono (by decide)
    have r2 : Room 2 _ := hr.mono (by decide)
    refine ⟨_, (pss_one (ps_ret (pe_call (fnOk0 GA) hr (by rfl) mA kA bA .nil pass0 (pa_cons (pe_fld (pv 0) rfl) (pa_cons (pe_call GF r9 (by rfl) mF kF bF .nil pass0 (pa_cons (pv 0) (pa_cons (pe_meth0 (pv 0) T.cl mS GS r2 bS .nil pass0) pa_nil))) pa_nil))))), ?_⟩
    obtain ⟨dx, hx⟩ := id hH.hs
    refine ⟨_, rfl, x, C, dx, _, _, rfl, hx, T.cl, T.nB, hf1, _, rfl, _, rfl, x, dx, _, rfl, hx, (no3h (by decide +kernel) (by decide +kernel) (by decide +kernel)), x, b, d1, d2, xs, rfl, hH, fun l as H1 hl s1 el hm => ?_⟩
    refine ⟨x, b, d1, d2, l, as, xs, srtN xs, rfl, hH.same s1, SqL.of el, hm, fun y hy => srtN_mem.mp hy, by rw [srtN_len]; exact hH.few, fun q H2 hq s2 eq2 => ?_⟩
    have s12 := s1.trans s2
    have sub : ∀ y ∈ (srtN xs).filter fun y => y.e.on, y ∈ xs := fun y hy => srtN_mem.mp (List.mem_filter.mp hy).1
    refine ⟨b, q, bs, ((srtN xs).filter fun y => y.e.on).map Nx.f, stdP xs, rfl, hB.same s12, oB, SqL.of (by rw [eq2, List.map_map]; rfl), fls_of fun y hy => ⟨((hH.fl y (sub y hy)).same s12), (ok y (sub y hy)).1⟩, fun _ q2 H3 s3 hq2 => out q2 H3 (s12.trans s3) hq2, ?_⟩
    intro i p M hp _ fM gt
    obtain ⟨y, hy, rfl⟩ := List.mem_map.mp (List.mem_of_getElem? hp)
    have := (ok y (sub y hy)).2 M fM
    omega
end
end K33
namespace K33
open PySem PySem.Spec PyProof.Rows L2 Par
theorem emp_v (ns : List Int) : (!(!(ns.map V.int).isEmpty)) = ns.isEmpty := by
  cases ns <;> rfl
theorem okF_in {ts hs : List Int} (h : OkF ts hs) : (∀ k ∈ ts, 0 ≤ k ∧ k < 40) ∧ (∀ k ∈ hs, 0 ≤ k ∧ k < 40) ∧ ts.length ≤ 40 ∧ hs.length ≤ 40 := ⟨h.1, fun k hk => by have := h.2.1 k hk; omega, h.2.2.2.2.1, h.2.2.2.2.2⟩
section
variable {P : Program} {w : World} {K : PySem.W.Frag} {mg : Str → Option Value} {base : Heap}
def spIdle (C : Addr) : Sp := fun vs H Q _ => ∃ (f : Addr) (ts hs : List Int), vs = [.ref f] ∧ Fp C H f ts hs ∧ Q (.bl (ts.isEmpty || hs.isEmpty)) H
theorem scIdle : FnScope ["self"] ["self"] (defScope gIdle) := ⟨rfl, rfl, rfl, by decide +kernel, rfl, by decide +kernel, by decide +kernel⟩
theorem ok_idle {f C : Addr} {fd : FuncData} (F : Fun K "is_idle" "Flip.is_idle" gIdle f fd) (T : FC K mg C) : FnOk P w K mg base CX0 2 f fd ["self"] (spIdle C) := by
  refine F.ok scIdle (fun vs H Q E h => ?_) (fun cdv A outer s H vs Q E hr h => ?_)
  · obtain ⟨f, ts, hs, rfl, _⟩ := h
    rfl
  · obtain ⟨f, ts, hs, rfl, ⟨dx, t1, t2, f1, f2, f3⟩, out⟩ := h
    refine ⟨_, pss_one (ps_ret (pe_or (pe_notT (pe_fld (pv 0) rfl)) (pe_one (pe_notT (pe_fld (pv 0) rfl))))), ?_⟩
    refine ⟨_, rfl, f, C, dx, _, _, rfl, f1, T.cl, T.nT, fld1, !(ts.map V.int).isEmpty, .inr (.inl ⟨_, SqT.of f2, rfl⟩), _, rfl, ?_⟩
    rw [emp_v]
    refine ite2 (fun z => ?_) (fun z => ?_)
    · rw [z, Bool.true_or] at out
      exact out
    · refine ⟨_, rfl, f, C, dx, _, _, rfl, f1, T.cl, T.nG, fld2, !(hs.map V.int).isEmpty, .inr (.inl ⟨_, SqT.of f3, rfl⟩), ?_⟩
      rw [emp_v]
      have zf : ts.isEmpty = false := by simpa using z
      rw [zf, Bool.false_or] at out
      exact out
def spIsPair (K : PySem.W.Frag) (CF : Addr) : Sp := fun vs H Q _ => ∃ (f p : Addr) (ts hs : List Int), vs = [.ref f, .ref p] ∧ Fp CF H f ts hs ∧ OkF ts hs ∧ Pr K H p ts hs ∧ ∀ H', Same H H' → Q (.bl true) H'
abbrev nIsPair : List Str := ["_law_found", "_law_pair_here", "_law_told", "_law_wide"]
theorem scIsPair : FnScope nIsPair ["_law_found", "_law_pair_here"] (defScope slIsPair) := ⟨rfl, rfl, rfl, by decide +kernel, rfl, by decide +kernel, by decide +kernel⟩
theorem len0_v (ns : List Int) : decide (V.int (((ns.map V.int).length : Nat) : Int) = V.int 0) = ns.isEmpty := by
  cases ns with
  | nil => rfl
  | cons a l =>
    rw [decide_eq_false fun q => by
      injection q with q
      rw [List.length_map, List.length_cons] at q
      omega]
    rfl
theorem ok_isPair {f CF : Addr} {fd : FuncData} (F : Fun K "_law_is_pair" "_law_is_pair" slIsPair f fd) (B : Bl mg) (T : FC K mg CF) (TI : IsC K CF) (DT : HasM P w K mg base CF "tested" 2 ["self"] (spTested CF)) (DG : HasM P w K mg base CF "toggled" 2 ["self"] (spToggled CF))
    (DW : HasM P w K mg base CF "width" 2 ["self"] (spFWidth CF)) (DI : HasM P w K mg base CF "is_idle" 2 ["self"] (spIdle CF)) : FnG P w K mg base CX0 3 f fd ["_law_found", "_law_pair_here"] (spIsPair K CF) := by
  obtain ⟨fT, fdT, GT, mT, bT⟩ := DT
  obtain ⟨fG, fdG, GG, mG, bG⟩ := DG
  obtain ⟨fW, fdW, GW, mW, bW⟩ := DW
  obtain ⟨fI, fdI, GI, mI, bI⟩ := DI
  refine fnG_of F scIsPair (fun vs H Q E h => ?_) (fun cdv A outer s H vs Q E gs hr h => ?_)
  · obtain ⟨f, p, ts, hs, rfl, _⟩ := h
    rfl
  · obtain ⟨f, p, ts, hs, rfl, hF, ok, ⟨t, g, p1, p2, p3⟩, out⟩ := h
    obtain ⟨dx, t1, t2, f1, f2, f3⟩ := id hF
    obtain ⟨k1, k2, k3, k4, k5, k6⟩ := id ok
    obtain ⟨i1, i2, l1, l2⟩ := okF_in ok
    have hu := hr.units
    refine ⟨_, pss_cons (ps_if (pt_not (pt_val (pe_callB call_isi (by rfl) B.isinstance (by decide +kernel) (pa_cons (pv 0) (pa_cons (pe_glob (v := .ref CF) (by rfl) T.mgC rfl) pa_nil))))) (pss_one (ps_ret pe_bl)) pss_nil)
      (pss_cons (ps_set (i := 2) scIsPair.nd rfl (Or.inl rfl) (pe_lst (pa_cons (pe_meth0 (pv 0) T.cl mT GT hr bT .nil pass0) (pa_cons (pe_meth0 (pv 0) T.cl mG GG hr bG .nil pass0) (pa_cons (pe_meth0 (pv 0) T.cl mW GW hr bW .nil pass0) (pa_cons (pe_meth0 (pv 0) T.cl mI GI hr bI .nil pass0) pa_nil))))))
      (pss_cons (ps_set (i := 3) scIsPair.nd rfl (Or.inl rfl) (pe_op op_add pe_int (pe_callB (cr_max rfl) (by rfl) B.max (by decide +kernel) (pa_cons (pe_op op_cat (pe_op op_cat (pe_lst (pa_cons pe_int pa_nil)) (pe_callTy call_list_of (by rfl) B.list (by decide +kernel) (pa_cons (pe_ix ix_tup (pv 1) pe_int (fun _ _ => rfl)) pa_nil))) (pe_callTy call_list_of (by rfl) B.list (by decide +kernel) (pa_cons (pe_ix ix_tup (pv 1) pe_int (fun _ _ => rfl)) pa_nil))) pa_nil))))
      (pss_one (ps_ret (pe_cmpR op_eq (pe_callB (cr_repr gs hu) (by rfl) B.repr (by decide +kernel) (pa_cons (pv 2) pa_nil)) (pe_callB (cr_repr gs hu) (by rfl) B.repr (by decide +kernel) (pa_cons (pe_lst (pa_cons (pe_callTy call_tuple_of (by rfl) B.tuple (by decide +kernel) (pa_cons (pe_ix ix_tup (pv 1) pe_int (fun _ _ => rfl)) pa_nil)) (pa_cons (pe_callTy call_tuple_of (by rfl) B.tuple (by decide +kernel) (pa_cons (pe_ix ix_tup (pv 1) pe_int (fun _ _ => rfl)) pa_nil)) (pa_cons (pv 3) (pa_cons
        (pe_or (pe_cmpR op_eq (pe_callB call_len_seq (by rfl) B.len PySem.boot_len (pa_cons (pe_ix ix_tup (pv 1) pe_int (fun _ _ => rfl)) pa_nil)) pe_int (nomark _)) (pe_one (pe_cmpR op_eq (pe_callB call_len_seq (by rfl) B.len PySem.boot_len (pa_cons (pe_ix ix_tup (pv 1) pe_int (fun _ _ => rfl)) pa_nil)) pe_int (nomark _)))) pa_nil))))) pa_nil)) (nomark _)))))), ?_⟩
    refine ⟨_, rfl, _, _, _, _, true, rfl, .own CF, .base (.ins f1 T.cl TI.ha TI.hn TI.ht TI.hm), kit_self, _, rfl, iteF ?_⟩
    refine ⟨_, rfl, f, dx, _, rfl, f1, no2 (by decide +kernel) (by decide +kernel), f, ts, hs, rfl, hF, fun x hx => ?_⟩
    refine ⟨_, rfl, f, dx, _, rfl, f1, no2 (by decide +kernel) (by decide +kernel), f, ts, hs, rfl, hF, fun y hy => ?_⟩
    refine ⟨_, rfl, f, dx, _, rfl, f1, no2 (by decide +kernel) (by decide +kernel), f, ts, hs, rfl, hF, by omega, by omega, fun k hk => (k1 k hk).1, fun k hk => by have := k2 k hk; omega, fun M H1 s1 fit => ?_⟩
    refine ⟨_, rfl, f, dx, _, rfl, s1 _ _ f1, no2 (by decide +kernel) (by decide +kernel), f, ts, hs, rfl, hF.same s1, ?_⟩
    refine ⟨(by show 4 ≤ sizeLine; decide), fun L hL => ?_⟩
    have s2 := same_new (o := .lst [.ref x, .ref y, .int M, .bl (ts.isEmpty || hs.isEmpty)]) hL
    have s02 := s1.trans s2
    refine ⟨(by show 1 ≤ sizeLine; decide), fun Z hZ => ?_⟩
    have z1 := same_new (o := .lst [.int 0]) hZ
    have s03 := s02.trans z1
    refine ⟨_, rfl, p, _, 0, .ref t, rfl, rfl, same_sqt s03 p1, rfl, t, _, rfl, .inl (SqL.of (s03 _ _ p2)), fun Y1 hY1 => ?_⟩
    have z2 := same_new (o := .lst (ts.map V.int)) hY1
    refine ⟨Z, Y1, _, _, rfl, rfl, z2 _ _ upd_same, upd_same, (by rw [List.length_map, sizeLine_eq]; show 1 + _ ≤ _; omega), fun Z2 hZ2 => ?_⟩
    have z3 := same_new (o := .lst ([.int 0] ++ ts.map V.int)) hZ2
    have s05 := (s03.trans z2).trans z3
    refine ⟨_, rfl, p, _, 1, .ref g, rfl, rfl, same_sqt s05 p1, rfl, g, _, rfl, .inl (SqL.of (s05 _ _ p3)), fun Y2 hY2 => ?_⟩
    have z4 := same_new (o := .lst (hs.map V.int)) hY2
    refine ⟨Z2, Y2, _, _, rfl, rfl, z4 _ _ upd_same, upd_same, (by rw [List.length_append, List.length_map, List.length_map, sizeLine_eq]; show 1 + _ + _ ≤ _; omega), fun Z3 hZ3 => ?_⟩
    have z5 := same_new (o := .lst ([.int 0] ++ ts.map V.int ++ hs.map V.int)) hZ3
    have el : [V.int 0] ++ ts.map V.int ++ hs.map V.int = ((0 :: (ts ++ hs)).map V.int) := by
      rw [List.map_cons, List.map_append]
      rfl
    refine ⟨Z3, 0 :: (ts ++ hs), rfl, SqL.of (by rw [upd_same, el]), by simp, fun M2 m2 up2 => ⟨1, M2, rfl, rfl, ?_⟩⟩
    have fit2 : Fits ts hs (1 + M2) := ⟨fun k hk => by
      have := up2 k (List.mem_cons_of_mem _ (List.mem_append.mpr hk))
      omega, by
      have := up2 0 (List.mem_cons_self ..)
      omega, by
      rcases List.mem_cons.mp m2 with z | z
      · left
        omega
      · right
        rw [show 1 + M2 - 1 = M2 by omega]
        exact List.mem_append.mp z⟩
    have eM : 1 + M2 = M := fit2.one fit
    subst eM
    have s07 := (s05.trans z4).trans z5
    have sL := ((z1.trans z2).trans z3).trans (z4.trans z5)
    have eL := sL _ _ (upd_same (H := H1) (a := L) (o := .lst [.ref x, .ref y, .int (1 + M2), .bl (ts.isEmpty || hs.isEmpty)]))
    have Mb : (1 + M2).natAbs < 2 ^ 100 := by
      have a := fits_le (n := 40) fit (fun k hk => (i1 k hk).2) (fun k hk => (i2 k hk).2) (by decide)
      have b := fit.2.1
      omega
    obtain ⟨sh, dep, len⟩ := shown_list (ds := [.tuple (ts.map .int), .tuple (hs.map .int), .int (1 + M2), .bool (ts.isEmpty || hs.isEmpty)]) (fun d hd => by
      simp only [List.mem_cons, List.not_mem_nil, or_false] at hd
      rcases hd with rfl | rfl | rfl | rfl
      · exact good_cellsT i1 l1
      · exact good_cellsT i2 l2
      · exact small_good (small_int Mb)
      · exact small_good (small_bool _)) (by show 4 ≤ 8; decide)
    refine ⟨_, rfl, _, _, rfl, .dp (.lst (SqL.of eL) (.cons (.tup (SqT.of (s07 _ _ hx)) (dps_ints ts)) (.cons (.tup (SqT.of (s07 _ _ hy)) (dps_ints hs)) (.cons (.int (1 + M2)) (.cons (.bl _) .nil))))), sh, dep, len, ?_⟩
    refine ⟨_, rfl, p, _, 0, .ref t, rfl, rfl, same_sqt s07 p1, rfl, t, _, rfl, .inl ⟨SqL.of (s07 _ _ p2), fun c1 hc1 => ?_⟩⟩
    have z6 := same_new (o := .tup (ts.map V.int)) hc1
    have s08 := s07.trans z6
    refine ⟨_, rfl, p, _, 1, .ref g, rfl, rfl, same_sqt s08 p1, rfl, g, _, rfl, .inl ⟨SqL.of (s08 _ _ p3), fun c2 hc2 => ?_⟩⟩
    have z7 := same_new (o := .tup (hs.map V.int)) hc2
    have s09 := s08.trans z7
    refine ⟨_, rfl, _, rfl, p, _, 0, .ref t, rfl, rfl, same_sqt s09 p1, rfl, t, _, rfl, .inl (SqL.of (s09 _ _ p2)), rfl, _, rfl, ?_⟩
    rw [len0_v]
    have fin : ∀ e : Bool, e = (ts.isEmpty || hs.isEmpty) → ∀ L2 : Addr, (upd (upd (upd (upd (upd (upd (upd (upd H1 L (.lst [.ref x, .ref y, .int (1 + M2), .bl (ts.isEmpty || hs.isEmpty)])) Z (.lst [.int 0])) Y1 (.lst (ts.map V.int))) Z2 (.lst ([.int 0] ++ ts.map V.int))) Y2 (.lst (hs.map V.int))) Z3 (.lst ([.int 0] ++ ts.map V.int ++ hs.map V.int))) c1 (.tup (ts.map V.int))) c2 (.tup (hs.map V.int))) L2 = none →
        ∃ v d, [V.ref L2] = [v] ∧ Dx K (upd (upd (upd (upd (upd (upd (upd (upd (upd H1 L (.lst [.ref x, .ref y, .int (1 + M2), .bl (ts.isEmpty || hs.isEmpty)])) Z (.lst [.int 0])) Y1 (.lst (ts.map V.int))) Z2 (.lst ([.int 0] ++ ts.map V.int))) Y2 (.lst (hs.map V.int))) Z3 (.lst ([.int 0] ++ ts.map V.int ++ hs.map V.int))) c1 (.tup (ts.map V.int))) c2 (.tup (hs.map V.int))) L2 (.lst [.ref c1, .ref c2, .int (1 + M2), .bl e])) v d ∧ d.showable = true ∧ d.depth ≤ 40 ∧ d.shown.length ≤ sizeLine ∧ rEq (.str (PyData.list [.tuple (ts.map .int), .tuple (hs.map .int), .int (1 + M2), .bool (ts.isEmpty || hs.isEmpty)]).shown) (.str d.shown) (upd (upd (upd (upd (upd (upd (upd (upd (upd H1 L (.lst [.ref x, .ref y, .int (1 + M2), .bl (ts.isEmpty || hs.isEmpty)])) Z (.lst [.int 0])) Y1 (.lst (ts.map V.int))) Z2 (.lst ([.int 0] ++ ts.map V.int))) Y2 (.lst (hs.map V.int))) Z3 (.lst ([.int 0] ++ ts.map V.int ++ hs.map V.int))) c1 (.tup (ts.map V.int))) c2 (.tup (hs.map V.int))) L2 (.lst [.ref c1, .ref c2, .int (1 + M2), .bl e])) (fun v H' => Q v H') := by
      rintro e rfl L2 hL2
      have z8 := same_new (o := .lst [.ref c1, .ref c2, .int (1 + M2), .bl (ts.isEmpty || hs.isEmpty)]) hL2
      refine ⟨_, _, rfl, .dp (.lst (SqL.of upd_same) (.cons (.tup (SqT.of (z8 _ _ (z7 _ _ upd_same))) (dps_ints ts)) (.cons (.tup (SqT.of (z8 _ _ upd_same)) (dps_ints hs)) (.cons (.int (1 + M2)) (.cons (.bl _) .nil))))), sh, dep, len, rfl, ?_⟩
      rw [decide_eq_true rfl]
      exact out _ (s09.trans z8)
    refine ite2 (fun z => ?_) (fun z => ?_)
    · exact ⟨(by show 4 ≤ sizeLine; decide), fin true (by rw [z]; rfl)⟩
    · refine ⟨_, rfl, p, _, 1, .ref g, rfl, rfl, same_sqt s09 p1, rfl, g, _, rfl, .inl (SqL.of (s09 _ _ p3)), rfl, ?_⟩
      rw [len0_v]
      have zf : ts.isEmpty = false := by simpa using z
      exact ⟨(by show 4 ≤ sizeLine; decide), fin hs.isEmpty (by rw [zf]; rfl)⟩
end
end K33
namespace K33
open PySem PySem.Spec PyProof.Rows L2 Par Msk
theorem cut_drop1 (xs : List V) (h : 1 ≤ xs.length) : cutV xs (some 1) none = xs.drop 1 := by
  have e : cutV xs (some ((1 : Nat) : Int)) none = xs.drop 1 := by
    unfold cutV
    rw [HT.sIx_none, HT.sIx_nat, Nat.min_eq_left h]
    exact List.take_of_length_le (by rw [List.length_drop]; exact Nat.le_refl _)
  exact e
/-- the cells but cell 0 that are up -/
def upS (bs : List Int) : List Int := (upF 0 bs).drop 1
theorem upS_mem {bs : List Int} (h : OkB bs) {i : Nat} (hi : i < bs.length) : ((i : Int) ∈ upS bs) ↔ (1 ≤ i ∧ bs.getD i 0 = 1) := by
  obtain ⟨t, e1, e2⟩ := up_cons h
  have up := upF_up 0 bs
  have ui := up_iff (bs := bs) i hi
  unfold upS
  rw [e2] at up ui ⊢
  rw [List.drop_one, List.tail_cons]
  have lt := (List.pairwise_cons.mp up).1
  constructor
  · intro hm
    have := lt _ hm
    exact ⟨by omega, ui.mp (List.mem_cons_of_mem _ hm)⟩
  · rintro ⟨h1, h2⟩
    rcases List.mem_cons.mp (ui.mpr h2) with z | z
    · omega
    · exact z
theorem upS_in {bs : List Int} (h : OkB bs) {k : Int} (hk : k ∈ upS bs) : 1 ≤ k ∧ k < bs.length := by
  have h1 := upF_in ((List.drop_sublist _ _).subset hk)
  have := (upS_mem h (i := k.toNat) (by omega)).mp (by rw [Int.toNat_of_nonneg h1.1]; exact hk)
  omega
theorem upS_lt (bs : List Int) : (upS bs).Pairwise (· < ·) := (upF_up 0 bs).sublist (List.drop_sublist _ _)
theorem upS_len (bs : List Int) : (upS bs).length ≤ bs.length := by
  have := upF_len 0 bs
  unfold upS
  rw [List.length_drop]
  omega
theorem one_le {bs : List Int} (h : OkB bs) : 1 ≤ bs.length := by
  have := (List.getElem?_eq_some_iff.mp h.2.1).1
  omega
theorem bare_at {n i : Nat} (hi : i < n) : (bs1 n).getD i 0 = if i = 0 then 1 else 0 := by
  unfold bs1 mkB
  rw [List.getD_eq_getElem?_getD, List.getElem?_map, List.getElem?_range hi]
  by_cases z : i = 0
  · subst z
    rfl
  · show (if (decide (i = 0) || false) = true then (1 : Int) else 0) = _
    rw [decide_eq_false z, if_neg z]
    rfl
theorem flip_bare {bs : List Int} (h : OkB bs) : flipB (bs1 bs.length) (upS bs) = bs := by
  refine List.ext_getElem (by rw [flipB_len, bs1_len]) fun i h1 h2 => ?_
  have e : (flipB (bs1 bs.length) (upS bs))[i] = if decide ((i : Int) ∈ upS bs) = true then 1 - (bs1 bs.length).getD i 0 else (bs1 bs.length).getD i 0 := by
    unfold flipB
    simp
  have g : bs.getD i 0 = bs[i] := by
    rw [List.getD_eq_getElem?_getD, List.getElem?_eq_getElem h2]
    rfl
  rw [e, bare_at h2, ← g]
  have m := upS_mem h h2
  rcases bit_at h h2 with z | z
  · have i0 : i ≠ 0 := fun y => by
      subst y
      rw [List.getD_eq_getElem?_getD, h.2.1] at z
      cases z
    rw [decide_eq_false (fun q => by have := (m.mp q).2; omega), if_neg Bool.false_ne_true, if_neg i0, z]
  · by_cases i0 : i = 0
    · rw [decide_eq_false (fun q => by have := (m.mp q).1; omega), if_neg Bool.false_ne_true, if_pos i0, z]
    · rw [decide_eq_true (m.mpr ⟨by omega, z⟩), if_pos rfl, if_neg i0, z]
      rfl
theorem par_bare {n : Nat} (h : 1 ≤ n) : parB (bs1 n) [0] = 1 := by
  unfold parB
  show ((bs1 n).getD (0 : Int).toNat 0 + 0) % 2 = 1
  rw [show (0 : Int).toNat = 0 from rfl, bare_at (by omega), if_pos rfl]
  rfl
theorem aft_bare {bs : List Int} (h : OkB bs) : aftB (bs1 bs.length) [0] (upS bs) = bs := by
  unfold aftB
  rw [decide_eq_true (par_bare (one_le h)), if_pos rfl, flip_bare h]
/-- the rows of the table that turns cells -/
def rowsS (bs : List Int) (n : Nat) : List (List Int) := (List.range n).map fun (i : Nat) => if decide ((i : Int) ∈ upS bs) = true then [0, (i : Int)] else [(i : Int)]
theorem rowsS_len (bs : List Int) (n : Nat) : (rowsS bs n).length = n := by simp [rowsS]
theorem rowsS_succ (bs : List Int) (n : Nat) : rowsS bs (n + 1) = rowsS bs n ++ [if decide ((n : Int) ∈ upS bs) = true then [0, (n : Int)] else [(n : Int)]] := by
  unfold rowsS
  rw [List.range_succ, List.map_append]
  rfl
theorem rowsS_ok {bs : List Int} (h : OkB bs) : OkRows (rowsS bs bs.length) := by
  intro ns hns
  rw [rowsS_len]
  obtain ⟨i, hi, rfl⟩ := List.mem_map.mp hns
  have hi2 := List.mem_range.mp hi
  by_cases z : (i : Int) ∈ upS bs
  · have := upS_in h z
    rw [decide_eq_true z, if_pos rfl]
    refine ⟨by simp; omega, fun k hk => ?_⟩
    rcases List.mem_cons.mp hk with rfl | hk
    · omega
    · rw [List.mem_singleton.mp hk]
      omega
  · rw [decide_eq_false z, if_neg Bool.false_ne_true]
    refine ⟨by simp, fun k hk => ?_⟩
    rw [List.mem_singleton.mp hk]
    omega
theorem rowsS_masks {bs : List Int} (h : OkB bs) : (rowsS bs bs.length).map maskI = aftM (oneM bs.length) [0] (upS bs) := by
  have hl := one_le h
  refine List.ext_getElem (by rw [List.length_map, rowsS_len, aftM_len, oneM_len]) fun i h1 h2 => ?_
  have hi : i < bs.length := by rw [List.length_map, rowsS_len] at h1; exact h1
  have e2 : (aftM (oneM bs.length) [0] (upS bs))[i] = (aftM (oneM bs.length) [0] (upS bs)).getD i 0 := by
    rw [List.getD_eq_getElem?_getD, List.getElem?_eq_getElem h2]
    rfl
  rw [e2, aftM_at (by rw [oneM_len]; exact hi), oneM_at hi]
  have a0 : addM (oneM bs.length) [0] = 1 := by
    show 0 ^^^ (oneM bs.length).getD (0 : Int).toNat 0 = 1
    rw [show (0 : Int).toNat = 0 from rfl, oneM_at (by omega)]
    rfl
  have e1 : ((rowsS bs bs.length).map maskI)[i] = maskI (if decide ((i : Int) ∈ upS bs) = true then [0, (i : Int)] else [(i : Int)]) := by
    unfold rowsS
    simp
  rw [e1, a0]
  have two : (2 : Nat) ^ ((i : Int)).toNat = 2 ^ i := by rw [Int.toNat_natCast]
  by_cases z : (i : Int) ∈ upS bs
  · rw [decide_eq_true z, if_pos rfl, if_pos rfl]
    show 2 ^ (0 : Int).toNat ^^^ (2 ^ ((i : Int)).toNat ^^^ 0) = 2 ^ i ^^^ 1
    rw [two, Nat.xor_zero, Nat.xor_comm]
    rfl
  · rw [decide_eq_false z, if_neg Bool.false_ne_true, if_neg Bool.false_ne_true]
    show 2 ^ ((i : Int)).toNat ^^^ 0 = 2 ^ i
    rw [two, Nat.xor_zero]
theorem fit_bare {bs : List Int} (h : OkB bs) : Fit1 bs.length [([0], upS bs)] := by
  intro t ht
  rw [List.mem_singleton.mp ht]
  have hl := one_le h
  refine ⟨fun k hk => ?_, fun k hk => upS_in h hk, ?_⟩
  · rw [List.mem_singleton.mp hk]
    omega
  · have n0 : ¬ (0 : Int) ∈ upS bs := fun z => by have := upS_in h z; omega
    unfold comm
    rw [List.filter_cons_of_neg (by simpa using n0)]
    rfl
theorem rep_bare {bs : List Int} (h : OkB bs) : Rep (aftM (oneM bs.length) [0] (upS bs)) bs.length [([0], upS bs)] :=
  rep_step (rep_one bs.length) (t := ([0], upS bs)) fun k hk => by
    have hl := one_le h
    rw [List.mem_singleton.mp hk]
    omega
theorem img_bare {bs : List Int} (h : OkB bs) : imgB (aftM (oneM bs.length) [0] (upS bs)) (bs1 bs.length) = bs := by
  rw [img_run (rep_bare h) (fit_bare h) (bs1_ok (one_le h) h.2.2) (bs1_len _)]
  exact aft_bare h
theorem no_mem : (fun k : Int => decide (k ∈ ([] : List Int))) = fun _ => false := by
  funext k
  simp
/-- Board as a class, cell 0 alone where nothing is said -/
theorem made_bare {K : PySem.W.Frag} {C : Addr} {H : Hp} {n : Nat} {u : Addr} {W : Addr → Hp → Prop} (hq : SqT K H u []) (n1 : 1 ≤ n) (n2 : n ≤ 40)
    (out : ∀ x H', H x = none → Same H H' → Bd C H' x (bs1 n) → W x H') :
    ∀ x dx, H x = none → H dx = none → dx ≠ x → spInit K C [.ref x, .int (n : Nat), .ref u] (upd (upd H dx (.own x)) x (.ins C dx [])) (fun v H3 => v = .non ∧ W x H3) (fun _ _ _ => False) :=
  made_board (n := n) (u := u) (ns := []) (.inr hq) (by decide) n1 n2 (fun k hk => nomatch hk) List.nodup_nil fun x H' hx s hB => by
    rw [no_mem] at hB
    exact out x H' hx s hB
theorem sq_off {K : PySem.W.Frag} {H : Hp} {a D : Addr} {o : HO} {xs : List V} (ne : a ≠ D) (h : Sq K H a xs) : Sq K (upd H D o) a xs := by
  rcases h with ((h | ⟨o, h⟩) | h) | ((h | ⟨o, h⟩) | h)
  · exact .inl (.inl (.inl (by rw [upd_ne ne]; exact h)))
  · exact .inl (.inl (.inr ⟨o, by rw [upd_ne ne]; exact h⟩))
  · exact .inl (.inr h)
  · exact .inr (.inl (.inl (by rw [upd_ne ne]; exact h)))
  · exact .inr (.inl (.inr ⟨o, by rw [upd_ne ne]; exact h⟩))
  · exact .inr (.inr h)
theorem RowsAt.off {K : PySem.W.Frag} {H : Hp} {D : Addr} {o : HO} : ∀ {as : List Addr} {nss : List (List Int)}, (∀ a ∈ as, a ≠ D) → RowsAt K H as nss → RowsAt K (upd H D o) as nss
  | [], [], _, _ => True.intro
  | a :: as, _ :: _, n, h => ⟨sq_off (n a (List.mem_cons_self ..)) h.1, RowsAt.off (fun b hb => n b (List.mem_cons_of_mem _ hb)) h.2⟩
  | [], _ :: _, _, h => h.elim
  | _ :: _, [], _, h => h.elim
/-- apply_flip, where the flip fits -/
def HasAp (P : Program) (w : World) (K : PySem.W.Frag) (mg : Str → Option Value) (base : Heap) (C CF CW : Addr) : Prop :=
  ∃ f fd, FnOk P w K mg base (L2.CX P w) 9 f fd ["board", "flip"] (spApply C CF CW) ∧ mg "apply_flip" = some (.ref f) ∧ PySem.W.keepIn K (.ref f) = true ∧ Binds K fd ["board", "flip"] []
section
variable {P : Program} {w : World} {K : PySem.W.Frag} {mg : Str → Option Value} {base : Heap}
/-- a board of these bits, made in one of four ways -/
def spStarted (CB : Addr) : Sp := fun vs H Q _ => ∃ (p r : Addr) (bs : List Int), vs = [.ref p, .ref r] ∧ PotAt H p ∧ r ≠ p ∧ H r = some (.lst (bs.map V.int)) ∧ OkB bs ∧ ∀ q H', But p H H' → PotAt H' p → Bd CB H' q bs → Q (.ref q) H'
abbrev nStarted : List Str := ["_law_pot_here", "_law_bits_here", "_law_way", "_law_spots_here", "_law_bare", "_law_rows", "_law_spot"]
theorem scStarted : FnScope nStarted ["_law_pot_here", "_law_bits_here"] (defScope slStarted) := ⟨rfl, rfl, rfl, by decide +kernel, rfl, by decide +kernel, by decide +kernel⟩
theorem ok_started {f CB CF CW Tt : Addr} {fd : FuncData} (F : Fun K "_law_started" "_law_started" slStarted f fd) (B : Bl mg) (TB : BC K mg CB) (TF : FC K mg CF) (TT : TC K mg Tt) (DD : Has P w K mg base "_law_draw" 2 ["_law_pot_here", "_law_many"] spDraw) (DU : Has P w K mg base "_law_up" 2 ["_law_bits_here"] (spUpL K)) (DI : HasIni P w K mg base CB) (DJ : HasFI P w K mg base CF) (DA : HasAp P w K mg base CB CF CW) (DT : HasTI P w K mg base Tt) (DT2 : HasM P w K mg base CB "toggled" 8 ["self", "cells"] (spTog K CB)) (DM : HasM P w K mg base Tt "image" 8 ["self", "board"] (spImage Tt CB)) (DE : Has P w K mg base "_law_made" 8 ["_law_bits_here"] (spMade CB)) : FnOk P w K mg base CX0 11 f fd ["_law_pot_here", "_law_bits_here"] (spStarted CB) := by
  obtain ⟨fD, fdD, GD, mD, kD, bD⟩ := DD
  obtain ⟨fU, fdU, GU, mU, kU, bU⟩ := DU
  obtain ⟨fI, fdI, GI, MI, _, _, e0, dsI, hE0, hdI, bI⟩ := DI
  obtain ⟨fJ, fdJ, GJ, MJ, bJ⟩ := DJ
  obtain ⟨fA, fdA, GA, mA, kA, bA⟩ := DA
  obtain ⟨fT, fdT, GT, MT, bT⟩ := DT
  obtain ⟨fT2, fdT2, GT2, mT2, bT2⟩ := DT2
  obtain ⟨fM, fdM, GM, mM, bM⟩ := DM
  obtain ⟨fE, fdE, GE, mE, kE, bE⟩ := DE
  refine F.ok scStarted (fun vs H Q E h => ?_) (fun cdv A outer s H vs Q E hr h => ?_)
  · obtain ⟨p, r, bs, rfl, _⟩ := h
    rfl
  · obtain ⟨p, r, bs, rfl, hp, rp, hr0, oB, out⟩ := h
    have r2 : Room 2 _ := hr.mono (by decide)
    have r7 : Room 7 _ := hr.mono (by decide)
    have r8 : Room 8 _ := hr.mono (by decide)
    have r9 : Room 9 _ := hr.mono (by decide)
    refine ⟨_, (pss_cons (ps_asg (pe_tup (pa_cons (pe_call GD r2 (by rfl) mD kD bD .nil pass0 (pa_cons (pv 0) (pa_cons pe_int pa_nil))) (pa_cons (pe_slice (r := rSlL K) sl_list (pe_call GU r2 (by rfl) mU kU bU .nil pass0 (pa_cons (pv 1) pa_nil)) (po_some pe_int) po_none) pa_nil))) (pg_tup rfl (pgs_cons (pg_name (i := 2) scStarted.nd rfl (Or.inl rfl)) (pgs_cons (pg_name (i := 3) scStarted.nd rfl (Or.inr rfl)) pgs_nil))))
      (pss_cons (ps_set (i := 4) scStarted.nd rfl (Or.inl rfl) (pe_make (E := E0) MI GI r7 (by rfl) TB.mgC bI hdI pass0 (pa_cons (pe_callB call_len_seq (by rfl) B.len PySem.boot_len (pa_cons (pv 1) pa_nil)) pa_nil)))
      (pss_cons (ps_if (pt_cmpR op_eq (pv 2) pe_int (nomark _)) (pss_one (ps_ret (pe_meth (pv 4) TB.cl mT2 GT2 r8 bT2 .nil pass0 (pa_cons (pv 3) pa_nil)))) pss_nil)
      (pss_cons (ps_if (pt_cmpR op_eq (pv 2) pe_int (nomark _)) (pss_one (ps_ret (pe_call (fnOk0 GA) r9 (by rfl) mA kA bA .nil pass0 (pa_cons (pv 4) (pa_cons (pe_make (E := E0) MJ GJ r7 (by rfl) TF.mgC bJ .nil pass0 (pa_cons (pe_lst (pa_cons pe_int pa_nil)) (pa_cons (pv 3) pa_nil))) pa_nil))))) pss_nil)
      (pss_cons (ps_if (pt_cmpR op_eq (pv 2) pe_int (nomark _)) (pss_cons (ps_setLc (i := 5) (own := [("_law_spot", 6)]) (g := gName 6) (te := tIf (tTest (tOp (rIn K false) (tVar 6) (tVar 3))) (tLst (tCons (tC (.int 0)) (tCons (tVar 6) tNil))) (tLst (tCons (tVar 6) tNil))) rfl scStarted.nd rfl rfl (sw_true rfl rfl rfl (by decide +kernel)) (pi_range1 (by rfl) B.range (pa_cons (pe_callB call_len_seq (by rfl) B.len PySem.boot_len (pa_cons (pv 1) pa_nil)) pa_nil)) (blkOk_by (own := [("_law_spot", 6)]) (N := nStarted) (sc := defScope slStarted) (by decide +kernel)) (fun _ _ _ _ _ => (pg_name (i := 6) scStarted.nd rfl (Or.inl rfl))) (fun _ _ _ _ _ => pts_nil) (fun _ _ _ _ _ => by exact (pe_ifExp (pt_cmpR op_in_seq (pv 6) (pv 3) (by rfl)) (pe_lst (pa_cons pe_int (pa_cons (pv 6) pa_nil))) (pe_lst (pa_cons (pv 6) pa_nil)))))
      (pss_one (ps_ret (pe_meth (pe_make (E := E0) MT GT r7 (by rfl) TT.mgC bT .nil pass0 (pa_cons (pv 5) pa_nil)) TT.cl mM GM r8 bM .nil pass0 (pa_cons (pv 4) pa_nil))))) pss_nil)
      (pss_one (ps_ret (pe_call GE r8 (by rfl) mE kE bE .nil pass0 (pa_cons (pv 1) pa_nil))))))))), ?_⟩
    have n1 := one_le oB
    have n40 := oB.2.2
    refine ⟨_, rfl, p, 4, rfl, hp, by decide, by decide, fun d H1 d0 d1 b1 pot1 => ?_⟩
    have er1 := b1 r _ rp hr0
    refine ⟨_, rfl, r, bs, rfl, er1, n40, fun u H2 hu s2 eu => ?_⟩
    refine ⟨_, rfl, u, _, rfl, SqL.of eu, fun g hg => ?_⟩
    rw [cut_drop1 _ (by obtain ⟨t, _, e⟩ := up_cons oB; rw [e]; simp), ← List.map_drop]
    have s3 := same_new (o := .lst (((upF 0 bs).drop 1).map V.int)) hg
    have eg : (upd H2 g (.lst (((upF 0 bs).drop 1).map V.int))) g = some (.lst ((upS bs).map V.int)) := upd_same
    generalize (upd H2 g (.lst (((upF 0 bs).drop 1).map V.int))) = H3 at s3 eg ⊢
    refine ⟨(by show 2 ≤ sizeLine; decide), fun T hT => ⟨T, _, rfl, SqT.of upd_same, rfl, _, _, rfl, _, _, rfl, rfl, ?_⟩⟩
    have s4 := same_new (o := .tup [.int d, .ref g]) hT
    generalize (upd H3 T (.tup [.int d, .ref g])) = H4 at s4 ⊢
    have s14 := (s2.trans s3).trans s4
    have er4 := s14 _ _ er1
    have eg4 := s4 _ _ eg
    refine ⟨_, rfl, r, _, rfl, .inl (SqL.of er4), ?_⟩
    rw [List.length_map]
    refine made_bare (hE0 _) n1 n40 fun x H5 hx s5 hB5 => ?_
    have b05 : But p H H5 := b1.trans (But.same (s14.trans s5))
    have pot5 := pot1.same (s14.trans s5)
    have er5 := s5 _ _ er4
    have eg5 := s5 _ _ eg4
    have lS := upS_len bs
    have nS := nodup_lt_ (upS_lt bs)
    obtain ⟨dx, tx, x1, x2⟩ := id hB5
    have ob := bs1_ok n1 n40
    have lb := bs1_len bs.length
    refine ⟨_, rfl, rfl, _, rfl, ite2 (fun _ => ?_) (fun _ => ?_)⟩
    · refine ⟨_, rfl, x, dx, _, rfl, x1, no_fld (by decide +kernel), _, rfl, x, g, bs1 bs.length, upS bs, rfl, hB5, ob, .inl (SqL.of eg5), by omega, fun k hk => by rw [lb]; exact upS_in oB hk, nS, fun q H6 hq s6 hB6 => ?_⟩
      rw [flip_bare oB] at hB6
      exact out q H6 (b05.trans (But.same s6)) (pot5.same s6) hB6
    refine ⟨_, rfl, rfl, _, rfl, ite2 (fun _ => ?_) (fun _ => ?_)⟩
    · refine ⟨_, rfl, (by show 1 ≤ sizeLine; decide), fun L hL => ⟨_, rfl, ?_⟩⟩
      have s6 := same_new (o := .lst [.int 0]) hL
      have eL : (upd H5 L (.lst [.int 0])) L = some (.lst (([0] : List Int).map V.int)) := upd_same
      have n0 : ¬ (0 : Int) ∈ upS bs := fun z => by have := upS_in oB z; omega
      refine made_flip (ts := [0]) (hs := upS bs) (.inl (SqL.of eL)) (.inl (SqL.of (s6 _ _ eg5))) (by decide) (by omega) (by decide) (fun k hk => by have := upS_in oB hk; omega) (by decide) nS (by
        unfold comm
        rw [List.filter_cons_of_neg (by simpa using n0)]
        rfl) fun y ts hs H7 hy s7 p1 p2 w1 w2 fp => ?_
      have e1 := sort_same p1 w1 (List.pairwise_singleton ..)
      have e2 := sort_same p2 w2 (upS_lt bs)
      subst e1 e2
      have s57 := s6.trans s7
      refine ⟨x, y, bs1 bs.length, [0], upS bs, rfl, hB5.same s57, ob, fp, ⟨by decide, fun k hk => by have := upS_in oB hk; omega, by decide, nS, by decide, by omega⟩, fun M fit le q H8 hq s8 hB8 => ?_, fun M fit gt => ?_⟩
      · rw [aft_bare oB] at hB8
        exact out q H8 (b05.trans (But.same (s57.trans s8))) (pot5.same (s57.trans s8)) hB8
      · rw [lb] at gt
        rcases fit.2.2 with z | z | z
        · omega
        · have := List.mem_singleton.mp z
          omega
        · have := upS_in oB z
          omega
    refine ⟨_, rfl, rfl, _, rfl, ite2 (fun _ => ?_) (fun _ => ?_)⟩
    · refine ⟨_, rfl, r, _, rfl, .inl (SqL.of er5), _, rfl, by rw [List.length_map]; omega, by rw [List.length_map]; omega, fun D hD => ?_⟩
      rw [List.length_map, Int.toNat_natCast]
      refine lc_range (lo := 0) (n := bs.length) (fun i H' => Same H5 H' ∧ ∃ as : List Addr, H' D = some (.lst (as.map V.ref)) ∧ RowsAt K H' as (rowsS bs i) ∧ as.length = i ∧ ∀ a ∈ as, a ≠ D) ⟨same_new hD, [], upd_same, True.intro, rfl, fun a ha => nomatch ha⟩ ?_ ?_
      · rintro i H6 hi ⟨s6, as, hD6, ra, la, nD⟩
        have e0 : (0 : Int) + (i : Nat) = (i : Nat) := by omega
        rw [e0]
        have step : ∀ ns : List Int, (if decide ((i : Int) ∈ upS bs) = true then [0, (i : Int)] else [(i : Int)]) = ns → ∀ q, H6 q = none → ∃ acc, (upd H6 q (.lst (ns.map V.int))) D = some (.lst acc) ∧ acc.length < sizeLine ∧
            Same H5 (upd (upd H6 q (.lst (ns.map V.int))) D (.lst (acc ++ [V.ref q]))) ∧ ∃ as : List Addr, (upd (upd H6 q (.lst (ns.map V.int))) D (.lst (acc ++ [V.ref q]))) D = some (.lst (as.map V.ref)) ∧ RowsAt K (upd (upd H6 q (.lst (ns.map V.int))) D (.lst (acc ++ [V.ref q]))) as (rowsS bs (i + 1)) ∧ as.length = i + 1 ∧ ∀ a ∈ as, a ≠ D := by
          intro ns hns q hq
          have s7 := same_new (o := .lst (ns.map V.int)) hq
          have qD : q ≠ D := fun z => by rw [z, hD6] at hq; cases hq
          refine ⟨_, s7 _ _ hD6, by rw [List.length_map, la]; exact small1000 (by omega), ?_, as ++ [q], by rw [upd_same, List.map_append]; rfl, ?_, by rw [List.length_append, la]; rfl, fun a ha => ?_⟩
          · intro z o e
            rw [upd_ne (ne_of_none e hD)]
            exact s7 _ _ (s6 z o e)
          · rw [rowsS_succ, hns]
            refine RowsAt.snoc (.inl (SqL.of (by rw [upd_ne qD]; exact upd_same))) ?_
            exact RowsAt.off nD (ra.same s7)
          · rcases List.mem_append.mp ha with z | z
            · exact nD a z
            · rw [List.mem_singleton.mp z]
              exact qD
        refine ⟨rfl, yesT ?_⟩
        refine ⟨_, rfl, _, rfl, g, _, rfl, .inl (SqL.of (s6 _ _ eg5)), rfl, flat_ints _, _, rfl, ?_⟩
        show if inV (V.int ((i : Nat) : Int)) ((upS bs).map V.int) = true then _ else _
        rw [in_ints]
        by_cases z : ((i : Nat) : Int) ∈ upS bs
        · rw [decide_eq_true z] at step ⊢
          exact iteT ⟨_, rfl, (by show 2 ≤ sizeLine; decide), step [0, (i : Int)] (if_pos rfl)⟩
        · rw [decide_eq_false z] at step ⊢
          exact iteF ⟨_, rfl, (by show 1 ≤ sizeLine; decide), step [(i : Int)] (if_neg Bool.false_ne_true)⟩
      · rintro H6 ⟨s6, as, hD6, ra, la, nD⟩
        have gt : GoodT ((rowsS bs bs.length).map maskI) := by
          rw [rowsS_masks oB]
          exact rep_good (rep_bare oB) (fit_bare oB) n1 n40
        refine ⟨_, rfl, made_table (.inl (SqL.of hD6)) ra (rowsS_ok oB) gt fun y H7 hy s7 tb => ?_⟩
        rw [rowsS_masks oB] at tb gt
        obtain ⟨dy, ty, y1, y2⟩ := id tb
        have s57 := s6.trans s7
        refine ⟨y, dy, _, rfl, y1, no_fldM (by decide +kernel), _, rfl, y, x, _, bs1 bs.length, rfl, tb, hB5.same s57, ob, ?_, gt.lt, fun q H8 hq s8 hB8 => ?_⟩
        · rw [lb, aftM_len, oneM_len]
        · rw [img_bare oB] at hB8
          exact out q H8 (b05.trans (But.same (s57.trans s8))) (pot5.same (s57.trans s8)) hB8
    · refine ⟨_, rfl, r, bs, rfl, er5, oB, fun q H6 hq s6 hB6 => ?_⟩
      exact out q H6 (b05.trans (But.same s6)) (pot5.same s6) hB6
end
end K33
namespace Par
open PySem PySem.Spec PyProof.Rows L2
/-! ### a list against the empty list -/
/-- list == [], list != []: whatever stands in it -/
def rEqNil (b : Bool) : R2 := fun x y H Q => ∃ a c xs, x = .ref a ∧ y = .ref c ∧ H a = some (.lst xs) ∧ H c = some (.lst []) ∧ Q (.bl (if xs.isEmpty = true then b else !b)) H
theorem op_eqNil {X : Cx} (hu : X.A.units < cLine) : OpR X (compareOp .Eq) (rEqNil true) := by
  intro pins s σ H x y v u Q I rx ry h
  obtain ⟨a, b, xs, rfl, rfl, ha, hb, q⟩ := h
  cases rx
  cases ry
  obtain ⟨its, rv, p1, _⟩ := I.list (a := a) (xs := xs) (SqL.of ha)
  obtain ⟨its2, rv2, p2, _⟩ := I.list (a := b) (xs := []) (SqL.of hb)
  have l1 := rv.length
  cases rv2
  by_cases z : xs.isEmpty = true
  · have e : xs = [] := List.isEmpty_iff.mp z
    subst e
    cases rv
    exact SeqAt.RcAt.lists (e := fun _ => true) p1.isList p2.isList rfl hu (fun j h1 h2 => absurd h1 (by simp)) X.prog X.w X.xe _ ⟨.bl true, H, I, rfl, q⟩
  · rw [if_neg z] at q
    refine SeqAt.RcAt.lists_lengths p1.isList p2.isList ?_ hu X.prog X.w X.xe _ ⟨.bl false, H, I, rfl, q⟩
    have : xs.length ≠ 0 := fun e => z (by rw [List.eq_nil_of_length_eq_zero e]; rfl)
    simp only [List.size_toArray, bne_iff_ne, List.length_nil]
    omega
theorem op_neNil {X : Cx} (hu : X.A.units + 64 < cLine) : OpR X (compareOp .NotEq) (rEqNil false) := by
  intro pins s σ H x y v u Q I rx ry h
  obtain ⟨a, b, xs, rfl, rfl, ha, hb, q⟩ := h
  by_cases z : xs.isEmpty = true
  · have e : xs = [] := List.isEmpty_iff.mp z
    subst e
    refine op_neP hu pins s σ H _ _ v u Q I rx ry ⟨.list [], .list [], .lst (SqL.of ha) .nil, .lst (SqL.of hb) .nil, rfl, rfl, by decide, ?_⟩
    have e2 : PyData.eqv (.list []) (.list []) = true := rfl
    rw [e2]
    exact q
  · rw [if_neg z] at q
    refine op_neLen (by omega) pins s σ H _ _ v u Q I rx ry ⟨a, b, xs, [], rfl, rfl, ha, hb, fun e => z ?_, q⟩
    rw [List.eq_nil_of_length_eq_zero e]
    rfl
/-- x in xs, a list of data of any depth -/
def rInL (K : PySem.W.Frag) : R2 := fun x y H Q => ∃ d ds, Dp K H x d ∧ Dp K H y (.list ds) ∧ d.canLay0 = true ∧ PyData.canLayAll0 ds = true ∧ d.depth ≤ 60 ∧ Q (.bl (ds.any fun z => PyData.eqv z d)) H
theorem op_inL {X : Cx} (hu : X.A.units + 65 < cLine) : OpR X (compareOp .In) (rInL X.K) := by
  intro pins s σ H x y v u Q I rx ry h
  obtain ⟨d, ds, hd, he, sd, se, dp, q⟩ := h
  obtain ⟨as, r1⟩ := Dp.reads I d x v hd rx
  obtain ⟨bs, r2⟩ := Dp.reads I (.list ds) y u he ry
  exact SeqAt.in_list_reads r2 r1 se sd (by have := Nat.min_le_right (PyData.depthAll ds) d.depth; omega) ⟨.bl _, H, I, rfl, q⟩
end Par
namespace K33
open PySem PySem.Spec PyProof.Rows L2 Par X
theorem PotAt.ne_of {H : Hp} {p z : Addr} {o : HO} (h : PotAt H p) (e : H z = some o) (no : ∀ i j, o ≠ .lst [.int i, .int j]) : z ≠ p := fun q => by
  obtain ⟨i, j, e2, _⟩ := h
  rw [q, e2] at e
  exact no i j (Option.some.inj e).symm
/-- a note: its stamp, its pair, whether it stands, how often it was changed -/
structure Note1 (H : Hp) (y : Nx) : Prop where
  en : H y.n = some (.lst [.ref y.a, .ref y.q, .bl y.e.on, .int ((y.e.k : Nat) : Int)])
  ea : H y.a = some (.tup (mkV y.m))
  eq : H y.q = some (.tup [.ref y.t, .ref y.g])
  et : H y.t = some (.lst (y.e.ts.map V.int))
  eg : H y.g = some (.lst (y.e.hs.map V.int))
theorem Note1.same {H H' : Hp} {y : Nx} (s : Same H H') (h : Note1 H y) : Note1 H' y := ⟨s _ _ h.en, s _ _ h.ea, s _ _ h.eq, s _ _ h.et, s _ _ h.eg⟩
/-- no tuple, and no list of four of which the first is an object -/
theorem Note1.off {M : List Addr} {H H' : Hp} {y : Nx} (o : Off M H H') (n1 : y.n ∉ M) (n2 : y.t ∉ M) (n3 : y.g ∉ M) (no : ∀ z ∈ M, ∀ xs, H z ≠ some (.tup xs)) (h : Note1 H y) : Note1 H' y :=
  ⟨o _ _ n1 h.en, o _ _ (fun z => no _ z _ h.ea) h.ea, o _ _ (fun z => no _ z _ h.eq) h.eq, o _ _ n2 h.et, o _ _ n3 h.eg⟩
/-- all that the law keeps: the pot, its list of notes, its bits, the history -/
structure St (C CF CB : Addr) (H : Hp) (p l r x b d1 d2 : Addr) (bs : List Int) (xs : List Nx) : Prop where
  pot : PotAt H p
  his : HisAt C CF H x b d1 d2 xs
  bd : Bd CB H b bs
  okb : OkB bs
  er : H r = some (.lst (bs.map V.int))
  el : H l = some (.lst (xs.map fun y => V.ref y.n))
  nt : ∀ y ∈ xs, Note1 H y
  nd : (xs.map Nx.n).Nodup
  okp : ∀ y ∈ xs, Okp bs.length (y.e.ts, y.e.hs)
  rp : r ≠ p
  rl : r ≠ l
  lp : l ≠ p
  tp : ∀ y ∈ xs, y.t ≠ p ∧ y.g ≠ p ∧ y.t ≠ l ∧ y.g ≠ l
theorem St.same {C CF CB : Addr} {H H' : Hp} {p l r x b d1 d2 : Addr} {bs : List Int} {xs : List Nx} (s : Same H H') (h : St C CF CB H p l r x b d1 d2 bs xs) : St C CF CB H' p l r x b d1 d2 bs xs :=
  ⟨h.pot.same s, h.his.same s, h.bd.same s, h.okb, s _ _ h.er, s _ _ h.el, fun y hy => (h.nt y hy).same s, h.nd, h.okp, h.rp, h.rl, h.lp, h.tp⟩
theorem Fp.off {CF : Addr} {H H' : Hp} {f : Addr} {ts hs : List Int} {M : List Addr} (o : Off M H H') (n : ∀ a ∈ M, (∀ xs, H a ≠ some (.tup xs)) ∧ ∀ C d fs, H a ≠ some (.ins C d fs)) (h : Fp CF H f ts hs) : Fp CF H' f ts hs := by
  obtain ⟨dx, u, v, e1, e2, e3⟩ := h
  exact ⟨dx, u, v, o _ _ (fun z => (n _ z).2 _ _ _ e1) e1, o _ _ (fun z => (n _ z).1 _ e2) e2, o _ _ (fun z => (n _ z).1 _ e3) e3⟩
theorem Bd.off {CB : Addr} {H H' : Hp} {b : Addr} {bs : List Int} {M : List Addr} (o : Off M H H') (n : ∀ a ∈ M, (∀ xs, H a ≠ some (.tup xs)) ∧ ∀ C d fs, H a ≠ some (.ins C d fs)) (h : Bd CB H b bs) : Bd CB H' b bs := by
  obtain ⟨dx, u, e1, e2⟩ := h
  exact ⟨dx, u, o _ _ (fun z => (n _ z).2 _ _ _ e1) e1, o _ _ (fun z => (n _ z).1 _ e2) e2⟩
theorem pot_no {H : Hp} {p : Addr} (h : PotAt H p) : (∀ xs, H p ≠ some (.tup xs)) ∧ ∀ C d fs, H p ≠ some (.ins C d fs) := by
  obtain ⟨i, j, e, _⟩ := h
  rw [e]
  exact ⟨fun _ q => (nomatch Option.some.inj q), fun _ _ _ q => (nomatch Option.some.inj q)⟩
theorem But.toOff {p : Addr} {H H' : Hp} (h : But p H H') : Off [p] H H' := Off.of_but h (List.mem_singleton.mpr rfl)
theorem St.but {C CF CB : Addr} {H H' : Hp} {p l r x b d1 d2 : Addr} {bs : List Int} {xs : List Nx} (s : But p H H') (hp : PotAt H' p) (h : St C CF CB H p l r x b d1 d2 bs xs) : St C CF CB H' p l r x b d1 d2 bs xs := by
  have ne : ∀ {z : Addr} {o : HO}, H z = some o → (∀ i j, o ≠ .lst [.int i, .int j]) → H' z = some o := fun e no => s _ _ (h.pot.ne_of e no) e
  have no : ∀ a ∈ [p], (∀ xs, H a ≠ some (.tup xs)) ∧ ∀ C d fs, H a ≠ some (.ins C d fs) := fun a ha => by
    rw [List.mem_singleton.mp ha]
    exact pot_no h.pot
  obtain ⟨dx, hx⟩ := h.his.hs
  refine ⟨hp, ⟨⟨dx, ne hx fun _ _ q => (nomatch q)⟩, ne h.his.e1 fun _ _ q => (nomatch q), ne h.his.e2 fun _ _ q => (nomatch q), h.his.ne, h.his.ds, h.his.om, h.his.few, fun y hy => (h.his.fl y hy).off s.toOff no⟩, h.bd.off s.toOff no, h.okb, s _ _ h.rp h.er, s _ _ h.lp h.el, fun y hy => ?_, h.nd, h.okp, h.rp, h.rl, h.lp, h.tp⟩
  have t := h.tp y hy
  have n := h.nt y hy
  exact n.off s.toOff (by rw [List.mem_singleton]; exact h.pot.ne_of n.en fun _ _ q => nomatch q) (by rw [List.mem_singleton]; exact t.1) (by rw [List.mem_singleton]; exact t.2.1) fun z hz => (no z hz).1
theorem lw_z : Lw "zzzzzzzz" := by intro c hc; revert c hc; decide +kernel
theorem okM_mix {a b c : Mk} (ha : OkM a) (hb : OkM b) (hc : OkM c) : OkM ⟨a.t, b.h, c.n⟩ := ⟨ha.t0, ha.t1, hc.n0, hc.n1, hb.h1, hb.h8, hb.lw⟩
theorem okM_z : OkM ⟨0, "zzzzzzzz", most⟩ := ⟨by decide, by decide, by decide, by decide, by decide +kernel, by decide +kernel, lw_z⟩
/-- a[lo:hi] + b[lo:hi], tuples, no part the whole or empty -/
theorem catS {K : PySem.W.Frag} {σ : L2.St} {H : Hp} {Q : VK} {i j : Nat} {a b : Addr} {xs ys us vs : List V} {l1 h1 l2 h2 : Option Int} {tl1 th1 tl2 th2 : TO} (p1 : ∀ H Q, Q l1 H → tl1 σ H Q) (p2 : ∀ H Q, Q h1 H → th1 σ H Q) (p3 : ∀ H Q, Q l2 H → tl2 σ H Q) (p4 : ∀ H Q, Q h2 H → th2 σ H Q)
    (e1 : σ[i]? = some (some (.ref a))) (e2 : σ[j]? = some (some (.ref b))) (s1 : SqT K H a xs) (s2 : H b = some (.tup ys)) (w1 : ¬ (HT.sIx xs.length 0 l1 = 0 ∧ HT.sIx xs.length xs.length h1 = xs.length)) (w2 : ¬ (HT.sIx ys.length 0 l2 = 0 ∧ HT.sIx ys.length ys.length h2 = ys.length))
    (n1 : cutV xs l1 h1 = us) (n2 : cutV ys l2 h2 = vs) (m1 : us ≠ []) (m2 : vs ≠ []) (len : us.length + vs.length ≤ sizeLine) (out : ∀ c H', Same H H' → H' c = some (.tup (us ++ vs)) → Q (.ref c) H') :
    tOp (rCatT K) (tSl (rSlT K) (tVar i) tl1 th1) (tSl (rSlT K) (tVar j) tl2 th2) σ H Q := by
  refine ⟨_, e1, p1 _ _ (p2 _ _ ⟨a, xs, rfl, s1, w1, fun u hu => ?_⟩)⟩
  rw [n1]
  have t1 := same_new (o := .tup us) hu
  have eu : (upd H u (.tup us)) u = some (.tup us) := upd_same
  generalize (upd H u (.tup us)) = H1 at t1 eu ⊢
  refine ⟨_, e2, p3 _ _ (p4 _ _ ⟨b, ys, rfl, SqT.of (t1 _ _ s2), w2, fun v hv => ?_⟩)⟩
  rw [n2]
  have t2 := same_new (o := .tup vs) hv
  have ev : (upd H1 v (.tup vs)) v = some (.tup vs) := upd_same
  generalize (upd H1 v (.tup vs)) = H2 at t2 ev ⊢
  refine ⟨u, v, us, vs, rfl, rfl, SqT.of (t2 _ _ eu), SqT.of ev, m1, len, fun q => absurd q m2, fun _ c hc => ?_⟩
  exact out c _ ((t1.trans t2).trans (same_new hc)) upd_same
section
variable {P : Program} {w : World} {K : PySem.W.Frag} {mg : Str → Option Value} {base : Heap}
/-- a stamp near those of the notes -/
def spNear (C CF CB : Addr) : Sp := fun vs H Q _ => ∃ (p l r x b d1 d2 : Addr) (bs : List Int) (xs : List Nx), vs = [.ref p, .ref l] ∧ St C CF CB H p l r x b d1 d2 bs xs ∧ ∀ q (m : Mk) H', But p H H' → PotAt H' p → H' q = some (.tup (mkV m)) → OkM m → Q (.ref q) H'
abbrev nNear : List Str := ["_law_pot_here", "_law_notes", "_law_mark_here", "_law_other", "_law_some"]
theorem scNear : FnScope nNear ["_law_pot_here", "_law_notes"] (defScope slNearMark) := ⟨rfl, rfl, rfl, by decide +kernel, rfl, by decide +kernel, by decide +kernel⟩
theorem ok_near {f C CF CB : Addr} {fd : FuncData} (F : Fun K "_law_near_mark" "_law_near_mark" slNearMark f fd) (B : Bl mg) (DM : Has P w K mg base "_law_mark" 4 ["_law_pot_here"] spMark) (DD : Has P w K mg base "_law_draw" 2 ["_law_pot_here", "_law_many"] spDrawW) : FnOk P w K mg base CX0 5 f fd ["_law_pot_here", "_law_notes"] (spNear C CF CB) := by
  obtain ⟨fM, fdM, GM, mM, kM, bM⟩ := DM
  obtain ⟨fD, fdD, GD, mD, kD, bD⟩ := DD
  refine F.ok scNear (fun vs H Q E h => ?_) (fun cdv A outer s H vs Q E hr h => ?_)
  · obtain ⟨p, l, r, x, b, d1, d2, bs, xs, rfl, _⟩ := h
    rfl
  · obtain ⟨p, l, r, x, b, d1, d2, bs, xs, rfl, hS, out⟩ := h
    have hu := hr.units
    have hu0 : (A.deeper (envOfC "_law_near_mark" (defScope slNearMark) s.heap.objs.size f cdv)).units < cLine := by omega
    have r2 : Room 2 _ := hr.mono (by decide)
    refine ⟨_, (pss_cons (ps_set (i := 2) scNear.nd rfl (Or.inl rfl) (pe_call GM hr (by rfl) mM kM bM .nil pass0 (pa_cons (pv 0) pa_nil)))
      (pss_cons (ps_if (PW.pt (pw_or (pt_cmpR (op_eqNil hu0) (pv 1) (pe_lst pa_nil) (nomark _)) (pw_or1 (pt_cmpR op_gt (pe_call GD r2 (by rfl) mD kD bD .nil pass0 (pa_cons (pv 0) (pa_cons pe_int pa_nil))) pe_int (nomark _))))) (pss_one (ps_ret (pv 2))) pss_nil)
      (pss_cons (ps_set (i := 3) scNear.nd rfl (Or.inl rfl) (pe_ix ix_list (pe_ix ix_list (pv 1) (pe_call GD r2 (by rfl) mD kD bD .nil pass0 (pa_cons (pv 0) (pa_cons (pe_callB call_len_seq (by rfl) B.len PySem.boot_len (pa_cons (pv 1) pa_nil)) pa_nil))) (fun _ _ => rfl)) pe_int (fun _ _ => rfl)))
      (pss_cons (ps_set (i := 4) scNear.nd rfl (Or.inl rfl) (pe_lst (pa_cons (pe_op op_catT (pe_slice (r := rSlT K) sl_tup (pv 3) po_none (po_some pe_int)) (pe_slice (r := rSlT K) sl_tup (pv 2) (po_some pe_int) po_none)) (pa_cons (pe_op op_catT (pe_slice (r := rSlT K) sl_tup (pv 3) po_none (po_some pe_int)) (pe_slice (r := rSlT K) sl_tup (pv 2) (po_some pe_int) po_none)) (pa_cons (pe_op op_catT (pe_slice (r := rSlT K) sl_tup (pv 2) po_none (po_some pe_int)) (pe_slice (r := rSlT K) sl_tup (pv 3) (po_some pe_int) po_none)) (pa_cons (pe_op op_catT (pe_slice (r := rSlT K) sl_tup (pv 3) po_none (po_some pe_int)) (pe_tup (pa_cons pe_str (pa_cons (pe_op op_pow pe_int pe_int) pa_nil)))) pa_nil))))))
      (pss_one (ps_ret (pe_ix ix_list (pv 4) (pe_call GD r2 (by rfl) mD kD bD .nil pass0 (pa_cons (pv 0) (pa_cons pe_int pa_nil))) (fun _ _ => rfl)))))))), ?_⟩
    refine ⟨_, rfl, p, rfl, hS.pot, fun q m H1 hq b1 pot1 em om => ?_⟩
    have S1 := hS.but b1 pot1
    refine ⟨_, rfl, (by show 0 ≤ sizeLine; decide), fun e0 he0 => ?_⟩
    have s2 := same_new (o := .lst []) he0
    have ee : (upd H1 e0 (.lst [])) e0 = some (.lst []) := upd_same
    generalize (upd H1 e0 (.lst [])) = H2 at s2 ee ⊢
    have S2 := S1.same s2
    have em2 := s2 _ _ em
    have b02 : But p H H2 := b1.trans (But.same s2)
    refine ⟨l, e0, _, rfl, rfl, S2.el, ee, _, rfl, ?_⟩
    have going : ∀ H3, But p H H3 → PotAt H3 p → H3 q = some (.tup (mkV m)) → Q (.ref q) H3 := fun H3 b3 p3 e3 => out q m H3 b3 p3 e3 om
    by_cases z : (xs.map fun y => V.ref y.n).isEmpty = true
    · rw [if_pos z]
      exact iteT ⟨_, rfl, going H2 b02 S2.pot em2⟩
    rw [if_neg z]
    have xl : 1 ≤ xs.length := by
      rcases xs with _ | ⟨y, xs⟩
      · exact absurd rfl z
      · simp
    have x3 := hS.his.few
    refine iteF ⟨_, rfl, p, 3, rfl, S2.pot, by decide, by decide, fun d H3 d0 d1 b3 pot3 => ⟨_, _, rfl, rfl, _, rfl, ite2 (fun _ => ?_) (fun _ => ?_)⟩⟩
    · have nq : q ≠ p := S2.pot.ne_of em2 fun _ _ q => nomatch q
      exact ⟨_, rfl, going H3 (b02.trans b3) pot3 (b3 _ _ nq em2)⟩
    have S3 := S2.but b3 pot3
    have nq : q ≠ p := S2.pot.ne_of em2 fun _ _ q => nomatch q
    have em3 := b3 _ _ nq em2
    refine ⟨_, rfl, _, rfl, _, rfl, l, _, rfl, .inl (SqL.of S3.el), p, ((xs.map fun y => V.ref y.n).length : Nat), rfl, S3.pot, by rw [List.length_map]; omega, by rw [List.length_map]; exact Int.lt_of_lt_of_le (show ((xs.length : Nat) : Int) < 1000 by omega) (by decide), fun d H4 d0 d1 b4 pot4 => ?_⟩
    have S4 := S3.but b4 pot4
    rw [List.length_map] at d1
    obtain ⟨i, rfl⟩ : ∃ i : Nat, d = ((i : Nat) : Int) := ⟨d.toNat, by omega⟩
    have hi : i < xs.length := by omega
    obtain ⟨y, hy⟩ : ∃ y, xs[i]? = some y := ⟨_, List.getElem?_eq_getElem hi⟩
    have my := List.mem_of_getElem? hy
    have n4 := S4.nt y my
    have oy := S4.his.om y my
    refine ⟨l, _, _, .ref y.n, rfl, rfl, SqL.of S4.el, atI_nat (by rw [List.getElem?_map, hy]; rfl), y.n, _, 0, .ref y.a, rfl, rfl, SqL.of n4.en, rfl, ?_⟩
    have nq4 : q ≠ p := S3.pot.ne_of em3 fun _ _ q => nomatch q
    have em := b4 _ _ nq4 em3
    have eo := n4.ea
    have b04 := (b02.trans b3).trans b4
    clear S1 S2 S3 em2 em3
    refine catS (xs := mkV y.m) (ys := mkV m) (us := [.int y.m.t, .str y.m.h]) (vs := [.int m.n]) (l1 := none) (h1 := some 2) (l2 := some 2) (h2 := none) (fun _ _ q => q) (fun _ _ q => ⟨_, rfl, q⟩) (fun _ _ q => ⟨_, rfl, q⟩) (fun _ _ q => q) rfl rfl (SqT.of eo) em (show ¬(HT.sIx 3 0 none = 0 ∧ HT.sIx 3 3 (some 2) = 3) by decide) (show ¬(HT.sIx 3 0 (some 2) = 0 ∧ HT.sIx 3 3 none = 3) by decide) rfl rfl (fun q => nomatch q) (fun q => nomatch q) (by show 3 ≤ sizeLine; decide) fun c0 K1 k1 a1 => ?_
    refine catS (xs := mkV y.m) (ys := mkV m) (us := [.int y.m.t]) (vs := [.str m.h, .int m.n]) (l1 := none) (h1 := some 1) (l2 := some 1) (h2 := none) (fun _ _ q => q) (fun _ _ q => ⟨_, rfl, q⟩) (fun _ _ q => ⟨_, rfl, q⟩) (fun _ _ q => q) rfl rfl (SqT.of (k1 _ _ eo)) (k1 _ _ em) (show ¬(HT.sIx 3 0 none = 0 ∧ HT.sIx 3 3 (some 1) = 3) by decide) (show ¬(HT.sIx 3 0 (some 1) = 0 ∧ HT.sIx 3 3 none = 3) by decide) rfl rfl (fun q => nomatch q) (fun q => nomatch q) (by show 3 ≤ sizeLine; decide) fun c1 K2 k2 a2 => ?_
    refine catS (xs := mkV m) (ys := mkV y.m) (us := [.int m.t]) (vs := [.str y.m.h, .int y.m.n]) (l1 := none) (h1 := some 1) (l2 := some 1) (h2 := none) (fun _ _ q => q) (fun _ _ q => ⟨_, rfl, q⟩) (fun _ _ q => ⟨_, rfl, q⟩) (fun _ _ q => q) rfl rfl (SqT.of (k2 _ _ (k1 _ _ em))) (k2 _ _ (k1 _ _ eo)) (show ¬(HT.sIx 3 0 none = 0 ∧ HT.sIx 3 3 (some 1) = 3) by decide) (show ¬(HT.sIx 3 0 (some 1) = 0 ∧ HT.sIx 3 3 none = 3) by decide) rfl rfl (fun q => nomatch q) (fun q => nomatch q) (by show 3 ≤ sizeLine; decide) fun c2 K3 k3 a3 => ?_
    refine ⟨_, rfl, _, rfl, y.a, mkV y.m, rfl, SqT.of (k3 _ _ (k2 _ _ (k1 _ _ eo))), (show ¬(HT.sIx 3 0 none = 0 ∧ HT.sIx 3 3 (some 1) = 3) by decide), fun u hu => ?_⟩
    have k4 : Same K3 (upd K3 u (.tup [.int y.m.t])) := same_new hu
    have au : (upd K3 u (.tup [.int y.m.t])) u = some (.tup [.int y.m.t]) := upd_same
    rw [show cutV (mkV y.m) none (some 1) = [.int y.m.t] from rfl]
    generalize (upd K3 u (.tup [.int y.m.t])) = K4 at k4 au ⊢
    refine ⟨10, 18, rfl, rfl, ⟨by decide, by decide, by decide⟩, (by show 2 ≤ sizeLine; decide), fun v hv => ?_⟩
    rw [show (fun (i j : Int) => V.int (i ^ j.toNat)) 10 18 = V.int most from rfl]
    have k5 : Same K4 (upd K4 v (.tup [.str "zzzzzzzz", .int most])) := same_new hv
    have av : (upd K4 v (.tup [.str "zzzzzzzz", .int most])) v = some (.tup [.str "zzzzzzzz", .int most]) := upd_same
    generalize (upd K4 v (.tup [.str "zzzzzzzz", .int most])) = K5 at k5 av ⊢
    refine ⟨u, v, _, _, rfl, rfl, SqT.of (k5 _ _ au), SqT.of av, (fun q => nomatch q), (by show 3 ≤ sizeLine; decide), (fun q => nomatch q), fun _ c3 hc3 => ?_⟩
    have k6 : Same K5 (upd K5 c3 (.tup ([.int y.m.t] ++ [.str "zzzzzzzz", .int most]))) := same_new hc3
    have a4 : (upd K5 c3 (.tup ([.int y.m.t] ++ [.str "zzzzzzzz", .int most]))) c3 = some (.tup ([.int y.m.t] ++ [.str "zzzzzzzz", .int most])) := upd_same
    generalize (upd K5 c3 (.tup ([.int y.m.t] ++ [.str "zzzzzzzz", .int most]))) = K6 at k6 a4 ⊢
    refine ⟨(by show 4 ≤ sizeLine; decide), fun L hL => ?_⟩
    have k7 : Same K6 (upd K6 L (.lst [.ref c0, .ref c1, .ref c2, .ref c3])) := same_new hL
    have aL : (upd K6 L (.lst [.ref c0, .ref c1, .ref c2, .ref c3])) L = some (.lst [.ref c0, .ref c1, .ref c2, .ref c3]) := upd_same
    generalize (upd K6 L (.lst [.ref c0, .ref c1, .ref c2, .ref c3])) = K7 at k7 aL ⊢
    have k36 : Same K3 K7 := ((k4.trans k5).trans k6).trans k7
    have s47 : Same H4 K7 := ((k1.trans k2).trans k3).trans k36
    have pot7 := S4.pot.same s47
    refine ⟨_, rfl, _, rfl, p, 4, rfl, pot7, by decide, by decide, fun d H8 e0 e1 b8 pot8 => ?_⟩
    obtain ⟨j, rfl⟩ : ∃ j : Nat, d = ((j : Nat) : Int) := ⟨d.toNat, by omega⟩
    have pick : ∃ (c : Addr) (mm : Mk), [V.ref c0, .ref c1, .ref c2, .ref c3][j]? = some (.ref c) ∧ K7 c = some (.tup (mkV mm)) ∧ OkM mm := by
      match j, (show j < 4 by omega) with
      | 0, _ => exact ⟨c0, ⟨y.m.t, y.m.h, m.n⟩, rfl, k36 _ _ (k3 _ _ (k2 _ _ a1)), okM_mix oy oy om⟩
      | 1, _ => exact ⟨c1, ⟨y.m.t, m.h, m.n⟩, rfl, k36 _ _ (k3 _ _ a2), okM_mix oy om om⟩
      | 2, _ => exact ⟨c2, ⟨m.t, y.m.h, y.m.n⟩, rfl, k36 _ _ a3, okM_mix om oy oy⟩
      | 3, _ => exact ⟨c3, ⟨y.m.t, "zzzzzzzz", most⟩, rfl, k7 _ _ a4, okM_mix oy okM_z okM_z⟩
    obtain ⟨c, mm, p1, p2, p3⟩ := pick
    have nL : L ≠ p := pot7.ne_of aL fun _ _ q => nomatch q
    have nc : c ≠ p := pot7.ne_of p2 fun _ _ q => nomatch q
    exact ⟨L, _, _, .ref c, rfl, rfl, SqL.of (b8 _ _ nL aL), atI_nat p1, out c mm H8 ((b04.trans (But.same s47)).trans b8) pot8 (b8 _ _ nc p2) p3⟩
end
end K33
namespace K33
open PySem PySem.Spec PyProof.Rows L2 Par X
theorem dp_note {K : PySem.W.Frag} {H : Hp} {y : Nx} (h : Note1 H y) : Dp K H (.ref y.n) (noteD y.e) :=
  .lst (SqL.of h.en) (.cons (dp_mk h.ea) (.cons (.tup (SqT.of h.eq) (.cons (.lst (SqL.of h.et) (dps_ints _)) (.cons (.lst (SqL.of h.eg) (dps_ints _)) .nil))) (.cons (.bl _) (.cons (.int _) .nil))))
theorem note_depth (e : En) : (noteD e).depth ≤ 40 := by
  show (max (PyData.tuple [.int e.m.t, .str e.m.h, .int e.m.n]).depth (max (max (PyData.depthAll (e.ts.map PyData.int) + 1) (max (PyData.depthAll (e.hs.map PyData.int) + 1) 0) + 1) (max 0 (max 0 0)))) + 1 ≤ 40
  rw [depth_ints, depth_ints, show (PyData.tuple [.int e.m.t, .str e.m.h, .int e.m.n]).depth = 1 from rfl]
  decide
section
variable {P : Program} {w : World} {K : PySem.W.Frag} {mg : Str → Option Value} {base : Heap}
/-- a flip of this pair, moved twice past another one or not -/
def spDeed (CF : Addr) : Sp := fun vs H Q _ => ∃ (p q : Addr) (ts hs : List Int) (n : Nat), vs = [.ref p, .ref q, .int (n : Nat)] ∧ PotAt H p ∧ PrP p H q ts hs ∧ OkF ts hs ∧ (comm ts hs).length % 2 = 0 ∧ ts.Pairwise (· < ·) ∧ hs.Pairwise (· < ·) ∧ 1 ≤ n ∧ n ≤ 40 ∧ ∀ f H', But p H H' → PotAt H' p → Fp CF H' f ts hs → Q (.ref f) H'
abbrev nDeed : List Str := ["_law_pot_here", "_law_pair_here", "_law_width_here", "_law_deed_here", "_law_other"]
theorem scDeed : FnScope nDeed ["_law_pot_here", "_law_pair_here", "_law_width_here"] (defScope slDeed) := ⟨rfl, rfl, rfl, by decide +kernel, rfl, by decide +kernel, by decide +kernel⟩
theorem ok_deed {f CF : Addr} {fd : FuncData} (F : Fun K "_law_deed" "_law_deed" slDeed f fd) (DF : Has P w K mg base "_law_flip_of" 8 ["_law_pair_here"] (spFlipS K CF)) (DD : Has P w K mg base "_law_draw" 2 ["_law_pot_here", "_law_many"] spDraw) (DP : Has P w K mg base "_law_pair" 4 ["_law_pot_here", "_law_width_here"] spPairL) (DM : Has P w K mg base "moved_past" 8 ["flip", "later"] (spMoved CF)) : FnOk P w K mg base CX0 9 f fd ["_law_pot_here", "_law_pair_here", "_law_width_here"] (spDeed CF) := by
  obtain ⟨fF, fdF, GF, mF, kF, bF⟩ := DF
  obtain ⟨fD, fdD, GD, mD, kD, bD⟩ := DD
  obtain ⟨fP, fdP, GP, mP, kP, bP⟩ := DP
  obtain ⟨fM, fdM, GM, mM, kM, bM⟩ := DM
  refine F.ok scDeed (fun vs H Q E h => ?_) (fun cdv A outer s H vs Q E hr h => ?_)
  · obtain ⟨p, q, ts, hs, n, rfl, _⟩ := h
    rfl
  · obtain ⟨p, q, ts, hs, n, rfl, hp, hP, oF, ev, w1, w2, n1, n2, out⟩ := h
    have r2 : Room 2 _ := hr.mono (by decide)
    have r4 : Room 4 _ := hr.mono (by decide)
    refine ⟨_, (pss_cons (ps_set (i := 3) scDeed.nd rfl (Or.inl rfl) (pe_call GF hr (by rfl) mF kF bF .nil pass0 (pa_cons (pv 1) pa_nil)))
      (pss_cons (ps_if (pt_cmpR op_gt (pe_call GD r2 (by rfl) mD kD bD .nil pass0 (pa_cons (pv 0) (pa_cons pe_int pa_nil))) pe_int (nomark _)) (pss_one (ps_ret (pv 3))) pss_nil)
      (pss_cons (ps_set (i := 4) scDeed.nd rfl (Or.inl rfl) (pe_call GF hr (by rfl) mF kF bF .nil pass0 (pa_cons (pe_call GP r4 (by rfl) mP kP bP .nil pass0 (pa_cons (pv 0) (pa_cons (pv 2) pa_nil))) pa_nil)))
      (pss_one (ps_ret (pe_call GM hr (by rfl) mM kM bM .nil pass0 (pa_cons (pe_call GM hr (by rfl) mM kM bM .nil pass0 (pa_cons (pv 3) (pa_cons (pv 4) pa_nil))) (pa_cons (pv 4) pa_nil)))))))), ?_⟩
    refine ⟨_, rfl, q, ts, hs, rfl, hP.pr, oF, ev, fun f ts' hs' H1 hf s1 p1 p2 v1 v2 fp => ?_⟩
    have e1 := sort_same p1 v1 w1
    have e2 := sort_same p2 v2 w2
    subst e1 e2
    have pot1 := hp.same s1
    refine ⟨_, rfl, p, 3, rfl, pot1, by decide, by decide, fun d H2 d0 d1 b2 pot2 => ⟨_, _, rfl, rfl, _, rfl, ?_⟩⟩
    have no : ∀ {H : Hp}, PotAt H p → ∀ a ∈ [p], (∀ xs, H a ≠ some (.tup xs)) ∧ ∀ C d fs, H a ≠ some (.ins C d fs) := fun h a ha => by
      rw [List.mem_singleton.mp ha]
      exact pot_no h
    have fp2 := fp.off b2.toOff (no pot1)
    have b02 : But p H H2 := (But.same s1).trans b2
    refine ite2 (fun _ => ⟨_, rfl, out f H2 b02 pot2 fp2⟩) (fun _ => ?_)
    refine ⟨_, rfl, _, rfl, p, n, rfl, pot2, n1, n2, fun q2 us vs H3 hq2 b3 pot3 pf o2 c1 c2 ev2 x1 x2 => ?_⟩
    have fp3 := fp2.off b3.toOff (no pot2)
    refine ⟨q2, us, vs, rfl, pf.prp.pr, o2, ev2, fun g us' vs' H4 hg s4 p3 p4 v3 v4 gp => ?_⟩
    have e3 := sort_same p3 v3 x1
    have e4 := sort_same p4 v4 x2
    subst e3 e4
    have fp4 := fp3.same s4
    refine ⟨_, rfl, _, rfl, f, g, ts', hs', us', vs', rfl, fp4, oF, ev, gp, o2, ev2, fun k as bs H5 s5 y1 y2 m1 m2 kp => ?_⟩
    have o3 := moved_okF oF o2 y1 y2 m1 m2
    have ev3 := ev_of (nodup_lt_ y1) (nodup_lt_ y2) (moved_nd oF.2.2.1 o2.2.2.1) (movedH_nd oF.2.2.2.1 o2.2.2.2.1) m1 m2 (moved_even oF.2.2.1 oF.2.2.2.1 o2.2.2.1 o2.2.2.2.1 ev ev2)
    refine ⟨_, rfl, k, g, as, bs, us', vs', rfl, kp, o3, ev3, gp.same s5, o2, ev2, fun k2 as2 bs2 H6 s6 y3 y4 m3 m4 kp2 => ?_⟩
    obtain ⟨z1, z2⟩ := moved_twice oF ev o2 ev2 w1 w2 y1 y2 y3 y4 m1 m2 m3 m4
    rw [z1, z2] at kp2
    have s46 := (s4.trans s5).trans s6
    exact out k2 H6 ((b02.trans b3).trans (But.same s46)) (pot3.same s46) kp2
/-- the notes that stand, in order -/
def spStanding : Sp := fun vs H Q _ => ∃ (l : Addr) (xs : List Nx), vs = [.ref l] ∧ H l = some (.lst (xs.map fun y => V.ref y.n)) ∧ (∀ y ∈ xs, Note1 H y) ∧ Dst xs ∧ xs.length ≤ 300 ∧ ∀ q H', Same H H' → H' q = some (.lst (((srtN xs).filter fun y => y.e.on).map fun y => V.ref y.n)) → Q (.ref q) H'
abbrev nStanding : List Str := ["_law_notes", "_law_note"]
theorem scStanding : FnScope nStanding ["_law_notes"] (defScope slStanding) := ⟨rfl, rfl, rfl, by decide +kernel, rfl, by decide +kernel, by decide +kernel⟩
theorem ok_standing {f : Addr} {fd : FuncData} (F : Fun K "_law_standing" "_law_standing" slStanding f fd) (B : Bl mg) : FnOk P w K mg base CX0 2 f fd ["_law_notes"] spStanding := by
  refine F.ok scStanding (fun vs H Q E h => ?_) (fun cdv A outer s H vs Q E hr h => ?_)
  · obtain ⟨l, xs, rfl, _⟩ := h
    rfl
  · obtain ⟨l, xs, rfl, el, nt, ds, few, out⟩ := h
    have hu := hr.units
    have hu1 := hu_of hr
    refine ⟨_, (pss_one (ps_ret (pe_lc (own := [("_law_note", 1)]) (g := gName 1) (tt := tB (tOp (rIxL K) (tVar 1) (tC (.int 2)))) (te := tVar 1) rfl scStanding.nd (pi_list (pe_callB (cr_sortedD hu) (by rfl) B.sorted (by decide +kernel) (pa_cons (pv 0) pa_nil))) (blkOk_by (own := [("_law_note", 1)]) (N := nStanding) (sc := defScope slStanding) (by decide +kernel)) (fun _ _ _ _ _ => (pg_name (i := 1) scStanding.nd rfl (Or.inl rfl))) (fun _ _ _ _ _ => by exact (pts_one (pt_val (pe_ix ix_list (pv 1) pe_int (fun _ _ => rfl))))) (fun _ _ _ _ _ => by exact (pv 1))))), ?_⟩
    refine ⟨_, rfl, l, Nx, xs, fun y => .ref y.n, fun y => noteD y.e, rfl, SqL.of el, fun y hy => dp_note (nt y hy), W.AllAlike.of fun u v => alike_notes u.e v.e, W.Sortable.others fun u => ⟨(fun q => nomatch q), fun _ q => (nomatch q)⟩, fun y _ => note_depth y.e, fun a ha => ?_⟩
    rw [srtN_notes ds]
    have s1 := same_new (o := .lst ((srtN xs).map fun y => V.ref y.n)) ha
    have ea : (upd H a (.lst ((srtN xs).map fun y => V.ref y.n))) a = some (.lst ((srtN xs).map fun y => V.ref y.n)) := upd_same
    generalize (upd H a (.lst ((srtN xs).map fun y => V.ref y.n))) = H1 at s1 ea ⊢
    refine ⟨a, rfl, ⟨_, SqL.of ea⟩, fun D hD => ?_⟩
    have item : ∀ {j : Nat} {v : V} {y : Nx}, ((srtN xs).map fun y => V.ref y.n)[j]? = some v → (srtN xs)[j]? = some y → v = .ref y.n ∧ y ∈ xs := fun {j v y} hv hy => by
      rw [List.getElem?_map, hy] at hv
      exact ⟨(Option.some.inj hv).symm, srtN_mem.mp (List.mem_of_getElem? hy)⟩
    refine lc_selA (srtN xs) (fun y => y.e.on) (fun y => .ref y.n) (List.length_map ..) (by show 1 < 2; decide) hD (SqL.of ea) (by rw [srtN_len]; omega) ?_ ?_ ?_
    · intro j v y σ2 H2 Y hv hy e s2 k
      subst e
      obtain ⟨rfl, my⟩ := item hv hy
      exact ⟨_, rfl, y.n, _, 2, .bl y.e.on, rfl, rfl, SqL.of (s2 _ _ (s1 _ _ (nt y my).en)), rfl, _, rfl, k H2 (Same.refl _)⟩
    · intro j v y σ2 H2 Y hv hy hk e s2 k
      subst e
      obtain ⟨rfl, my⟩ := item hv hy
      exact ⟨_, rfl, k H2 (Same.refl _)⟩
    · intro H' s2 e
      exact out D H' (s1.trans s2) e
theorem prs_of {H : Hp} : ∀ {ys : List Nx}, (∀ y ∈ ys, Note1 H y) → Prs K H (ys.map Nx.q) (ys.map fun y => (y.e.ts, y.e.hs))
  | [], _ => True.intro
  | y :: ys, h => ⟨⟨y.t, y.g, SqT.of (h y (List.mem_cons_self ..)).eq, (h y (List.mem_cons_self ..)).et, (h y (List.mem_cons_self ..)).eg⟩, prs_of fun z hz => h z (List.mem_cons_of_mem _ hz)⟩
/-- the bits behind all flips that stand -/
def spNow : Sp := fun vs H Q _ => ∃ (r l : Addr) (bs : List Int) (xs : List Nx), vs = [.ref r, .ref l] ∧ H r = some (.lst (bs.map V.int)) ∧ bs.length ≤ 40 ∧ H l = some (.lst (xs.map fun y => V.ref y.n)) ∧ (∀ y ∈ xs, Note1 H y ∧ Okp bs.length (y.e.ts, y.e.hs)) ∧ Dst xs ∧ xs.length ≤ 300 ∧ ∀ q H', Same H H' → H' q = some (.lst ((runB bs (stdP xs)).map V.int)) → Q (.ref q) H'
abbrev nNow : List Str := ["_law_bits_here", "_law_notes", "_law_note"]
theorem scNow : FnScope nNow ["_law_bits_here", "_law_notes"] (defScope slNow) := ⟨rfl, rfl, rfl, by decide +kernel, rfl, by decide +kernel, by decide +kernel⟩
theorem ok_now {f : Addr} {fd : FuncData} (F : Fun K "_law_now" "_law_now" slNow f fd) (DA : Has P w K mg base "_law_after_all" 4 ["_law_bits_here", "_law_pairs"] (spAfterAll K)) (DS : Has P w K mg base "_law_standing" 2 ["_law_notes"] spStanding) : FnOk P w K mg base CX0 5 f fd ["_law_bits_here", "_law_notes"] spNow := by
  obtain ⟨fA, fdA, GA, mA, kA, bA⟩ := DA
  obtain ⟨fS, fdS, GS, mS, kS, bS⟩ := DS
  refine F.ok scNow (fun vs H Q E h => ?_) (fun cdv A outer s H vs Q E hr h => ?_)
  · obtain ⟨r, l, bs, xs, rfl, _⟩ := h
    rfl
  · obtain ⟨r, l, bs, xs, rfl, er, h40, el, nt, ds, few, out⟩ := h
    have r2 : Room 2 _ := hr.mono (by decide)
    refine ⟨_, (pss_one (ps_ret (pe_call GA hr (by rfl) mA kA bA .nil pass0 (pa_cons (pv 0) (pa_cons (pe_lc (own := [("_law_note", 2)]) (g := gName 2) (te := tOp (rIxL K) (tVar 2) (tC (.int 1))) rfl scNow.nd (pi_list (pe_call GS r2 (by rfl) mS kS bS .nil pass0 (pa_cons (pv 1) pa_nil))) (blkOk_by (own := [("_law_note", 2)]) (N := nNow) (sc := defScope slNow) (by decide +kernel)) (fun _ _ _ _ _ => (pg_name (i := 2) scNow.nd rfl (Or.inl rfl))) (fun _ _ _ _ _ => pts_nil) (fun _ _ _ _ _ => by exact (pe_ix ix_list (pv 2) pe_int (fun _ _ => rfl)))) pa_nil))))), ?_⟩
    refine ⟨_, rfl, _, rfl, l, xs, rfl, el, (fun y hy => (nt y hy).1), ds, few, fun q H1 s1 eq1 => ?_⟩
    generalize hys : (srtN xs).filter (fun y => y.e.on) = ys at eq1
    have sub : ∀ y ∈ ys, y ∈ xs := fun y hy => by
      rw [← hys] at hy
      exact srtN_mem.mp (List.mem_filter.mp hy).1
    have yl : ys.length ≤ 300 := by
      have h1 := List.length_filter_le (fun y : Nx => y.e.on) (srtN xs)
      rw [hys, srtN_len] at h1
      omega
    refine ⟨q, rfl, ⟨_, SqL.of eq1⟩, fun D hD => ?_⟩
    refine lc_selA ys (fun _ => true) (fun y => .ref y.q) (List.length_map ..) (by show 2 < 3; decide) hD (SqL.of eq1) (by omega) ?_ ?_ ?_
    · intro j v y σ2 H2 Y hv hy e s2 k
      exact k H2 (Same.refl _)
    · intro j v y σ2 H2 Y hv hy hk e s2 k
      subst e
      rw [List.getElem?_map, hy] at hv
      cases hv
      exact ⟨_, rfl, y.n, _, 1, .ref y.q, rfl, rfl, SqL.of (s2 _ _ (s1 _ _ (nt y (sub y (List.mem_of_getElem? hy))).1.en)), rfl, k H2 (Same.refl _)⟩
    · intro H2 s2 e
      rw [List.filter_eq_self.mpr fun _ _ => rfl] at e
      have s12 := s1.trans s2
      refine ⟨r, D, bs, ys.map Nx.q, ys.map fun y => (y.e.ts, y.e.hs), rfl, s12 _ _ er, h40, by rw [e, List.map_map]; rfl, prs_of fun y hy => (nt y (sub y hy)).1.same s12, fun t ht => ?_, fun q2 H3 s3 e3 => ?_⟩
      · obtain ⟨y, hy, rfl⟩ := List.mem_map.mp ht
        have o := (nt y (sub y hy)).2
        exact ⟨by have := o.1.2.2.2.2.1; omega, fun k hk => ⟨(o.1.1 k hk).1, o.2.1 k hk⟩⟩
      · refine out q2 H3 (s12.trans s3) ?_
        rw [e3, ← hys]
        rfl
end
end K33
namespace K33
open PySem PySem.Spec PyProof.Rows L2 Par X
theorem lw_low {z : Str} (h : Lw z) : Low z := fun c hc => by
  have := h c hc
  unfold lowc at this
  rw [Bool.and_eq_true, decide_eq_true_eq, decide_eq_true_eq] at this
  omega
theorem int_len {i : Int} (h0 : 0 ≤ i) (h1 : i ≤ most) : (PyData.int i).showable = true ∧ (PyData.int i).shown.length ≤ 100 := by
  have hb : i.natAbs < 2 ^ 60 := by
    have : i ≤ 1000000000000000000 := h1
    omega
  have h2 := log_lt hb (by decide)
  refine ⟨?_, ?_⟩
  · show decide (i.natAbs.log2 < 1920) = true
    exact decide_eq_true (by omega)
  · show (Str.ofString (toString i)).length ≤ 100
    have h2 := int_text_length_le (a := i) (k := 60) (by decide) h2
    rw [PySem.ofString_length]
    omega
/-- data that can be shown in many -/
def medium (d : PyData) : Prop := d.showable = true ∧ d.depth ≤ 8 ∧ d.shown.length ≤ 1000
theorem medium_mk {m : Mk} (h : OkM m) : medium (mkD m) := by
  obtain ⟨a1, a2⟩ := int_len h.t0 h.t1
  obtain ⟨b1, b2⟩ := int_len h.n0 h.n1
  have c2 : (PyData.str m.h).shown.length ≤ 100 := by
    have := low_len (lw_low h.lw)
    have := h.h8
    show (reprText m.h).length ≤ 100
    omega
  refine ⟨?_, by show 1 ≤ 8; decide, ?_⟩
  · show ((PyData.int m.t).showable && (true && ((PyData.int m.n).showable && true))) = true
    rw [a1, b1]
    rfl
  · show (tupleText (PyData.shownAll [.int m.t, .str m.h, .int m.n])).length ≤ 1000
    have h1 := tupleText_le (PyData.shownAll [.int m.t, .str m.h, .int m.n])
    have h2 := piledAll (n := 100) (ds := [.int m.t, .str m.h, .int m.n]) fun d hd => by
      rcases List.mem_cons.mp hd with rfl | hd
      · exact a2
      rcases List.mem_cons.mp hd with rfl | hd
      · exact c2
      · rw [List.mem_singleton.mp hd]
        exact b2
    have h3 : ([.int m.t, .str m.h, .int m.n] : List PyData).length * (100 + 2) = 306 := rfl
    omega
theorem shown_med {ds : List PyData} (h : ∀ d ∈ ds, medium d) (hl : ds.length ≤ 400) : (PyData.list ds).showable = true ∧ (PyData.list ds).depth ≤ 40 ∧ (PyData.list ds).shown.length ≤ sizeLine := by
  refine ⟨showAll fun d hd => (h d hd).1, ?_, ?_⟩
  · show PyData.depthAll ds + 1 ≤ 40
    have := depthAll (n := 8) fun d hd => (h d hd).2.1
    omega
  · show (listText (PyData.shownAll ds)).length ≤ sizeLine
    have h1 := listText_le (PyData.shownAll ds)
    have h2 := piledAll (n := 1000) fun d hd => (h d hd).2.2
    have h3 : ds.length * (1000 + 2) ≤ 400 * (1000 + 2) := Nat.mul_le_mul_right _ hl
    rw [sizeLine_eq]
    omega
theorem med_bl (b : Bool) : medium (.bool b) := by
  have := small_bool b
  exact ⟨this.1, by have := this.2.1; omega, by have := this.2.2; omega⟩
theorem med_int {i : Int} (h : i.natAbs < 2 ^ 100) : medium (.int i) := by
  have := small_int h
  exact ⟨this.1, by have := this.2.1; omega, by have := this.2.2; omega⟩
theorem dps_mks {K : PySem.W.Frag} {H : Hp} : ∀ {as : List Addr} {ms : List Mk}, Mks H as ms → DpAll K H (as.map V.ref) (ms.map mkD)
  | [], [], _ => .nil
  | _ :: _, _ :: _, h => .cons (dp_mk h.1) (dps_mks h.2)
  | [], _ :: _, h => h.elim
  | _ :: _, [], h => h.elim
theorem mks_notes {H : Hp} : ∀ {ys : List Nx}, (∀ y ∈ ys, Note1 H y) → Mks H (ys.map Nx.a) (ys.map Nx.m)
  | [], _ => True.intro
  | y :: ys, h => ⟨(h y (List.mem_cons_self ..)).ea, mks_notes fun z hz => h z (List.mem_cons_of_mem _ hz)⟩
theorem shown_marks {ys : List Nx} (h : ∀ y ∈ ys, OkM y.m) (hl : ys.length ≤ 300) : (PyData.list ((ys.map Nx.m).map mkD)).showable = true ∧ (PyData.list ((ys.map Nx.m).map mkD)).depth ≤ 40 ∧ (PyData.list ((ys.map Nx.m).map mkD)).shown.length ≤ sizeLine :=
  shown_med (fun d hd => by
    obtain ⟨m, hm, rfl⟩ := List.mem_map.mp hd
    obtain ⟨y, hy, rfl⟩ := List.mem_map.mp hm
    exact medium_mk (h y hy)) (by rw [List.length_map, List.length_map]; omega)
theorem fits_okp {m : Nat} {t : List Int × List Int} (h : Okp m t) (m1 : 1 ≤ m) : ∀ M, Fits t.1 t.2 M → M ≤ m := by
  intro M f
  rcases f.2.2 with z | z | z
  · omega
  · have := h.2.1 _ z
    omega
  · have := h.2.2.1 _ z
    omega
section
variable {P : Program} {w : World} {K : PySem.W.Frag} {mg : Str → Option Value} {base : Heap}
/-- all that is told of the history is as in the notes -/
def spTold (C CF CB : Addr) : Sp := fun vs H Q _ => ∃ (p l r x b d1 d2 : Addr) (bs : List Int) (xs : List Nx), vs = [.ref x, .ref r, .ref l] ∧ St C CF CB H p l r x b d1 d2 bs xs ∧ (∀ y ∈ xs, y.e.k < 2 ^ 90) ∧ ∀ H', Same H H' → Q (.bl true) H'
abbrev nTold : List Str := ["_law_tale", "_law_bits_here", "_law_notes", "_law_due", "_law_mark_here", "_law_pair_here", "_law_is_on", "_law_turns", "_law_note"]
theorem scTold : FnScope nTold ["_law_tale", "_law_bits_here", "_law_notes"] (defScope slIsTold) := ⟨rfl, rfl, rfl, by decide +kernel, rfl, by decide +kernel, by decide +kernel⟩
theorem ok_told {f C CF CB : Addr} {fd : FuncData} (F : Fun K "_law_is_told" "_law_is_told" slIsTold f fd) (B : Bl mg) (T : HC K mg C) (DS : HasM P w K mg base C "stamps" 2 ["self"] (spStamps C CF)) (DL : HasM P w K mg base C "__len__" 2 ["self"] (spHLen C)) (DF : HasM P w K mg base C "flip" 7 ["self", "stamp"] (spFlipH C CF)) (DW : HasM P w K mg base C "stands" 8 ["self", "stamp"] (spStands C CF)) (DG : HasM P w K mg base C "changes" 7 ["self", "stamp"] (spChanges C CF)) (DA : HasM P w K mg base C "start" 2 ["self"] (spStart C)) (DO : HasM P w K mg base C "board" 11 ["self"] (spBoardH C CF CB)) (DP : HasG P w K mg base "_law_is_pair" 3 ["_law_found", "_law_pair_here"] (spIsPair K CF)) (DI : HasG P w K mg base "_law_is_so" 7 ["_law_found", "_law_bits_here"] (spIsSo CB)) (DN : Has P w K mg base "_law_now" 5 ["_law_bits_here", "_law_notes"] spNow) : FnG P w K mg base CX0 12 f fd ["_law_tale", "_law_bits_here", "_law_notes"] (spTold C CF CB) := by
  obtain ⟨fS, fdS, GS, mS, bS⟩ := DS
  obtain ⟨fL, fdL, GL, mL, bL⟩ := DL
  obtain ⟨fF, fdF, GF, mF, bF⟩ := DF
  obtain ⟨fW, fdW, GW, mW, bW⟩ := DW
  obtain ⟨fG, fdG, GG, mG, bG⟩ := DG
  obtain ⟨fA, fdA, GA, mA, bA⟩ := DA
  obtain ⟨fO, fdO, GO, mO, bO⟩ := DO
  obtain ⟨fP, fdP, GP, mP, kP, bP⟩ := DP
  obtain ⟨fI, fdI, GI, mI, kI, bI⟩ := DI
  obtain ⟨fN, fdN, GN, mN, kN, bN⟩ := DN
  refine fnG_of F scTold (fun vs H Q E h => ?_) (fun cdv A outer s H vs Q E gs hr h => ?_)
  · obtain ⟨p, l, r, x, b, d1, d2, bs, xs, rfl, _⟩ := h
    rfl
  · obtain ⟨p, l, r, x, b, d1, d2, bs, xs, rfl, hS, small, out⟩ := h
    have hu := hr.units
    have hu1 := hu_of hr
    have r2 : Room 2 _ := hr.mono (by decide)
    have r3 : Room 3 _ := hr.mono (by decide)
    have r5 : Room 5 _ := hr.mono (by decide)
    have r7 : Room 7 _ := hr.mono (by decide)
    have r8 : Room 8 _ := hr.mono (by decide)
    refine ⟨_, (pss_cons (ps_set (i := 3) scTold.nd rfl (Or.inl rfl) (pe_callB (cr_sortedD hu) (by rfl) B.sorted (by decide +kernel) (pa_cons (pv 2) pa_nil)))
      (pss_cons (ps_if (PW.pt (pw_or (pt_cmpR op_ne (pe_callB (cr_repr gs hu) (by rfl) B.repr (by decide +kernel) (pa_cons (pe_meth0 (pv 0) T.cl mS GS r2 bS .nil pass0) pa_nil)) (pe_callB (cr_repr gs hu) (by rfl) B.repr (by decide +kernel) (pa_cons (pe_lc (own := [("_law_note", 8)]) (g := gName 8) (te := tOp (rIxL K) (tVar 8) (tC (.int 0))) rfl scTold.nd (pi_list (pv 3)) (blkOk_by (own := [("_law_note", 8)]) (N := nTold) (sc := defScope slIsTold) (by decide +kernel)) (fun _ _ _ _ _ => (pg_name (i := 8) scTold.nd rfl (Or.inl rfl))) (fun _ _ _ _ _ => pts_nil) (fun _ _ _ _ _ => by exact (pe_ix ix_list (pv 8) pe_int (fun _ _ => rfl)))) pa_nil)) (nomark _)) (pw_or1 (pt_cmpR op_ne (pe_callB (cr_lenOwn (E := E0) mL.at_ mL.fn GL r3 bL pass0) (by rfl) B.len PySem.boot_len (pa_cons (pv 0) pa_nil)) (pe_callB call_len_seq (by rfl) B.len PySem.boot_len (pa_cons (pv 3) pa_nil)) (nomark _))))) (pss_one (ps_ret pe_bl)) pss_nil)
      (pss_cons (ps_for PassesOwn.never rfl (pi_list (pv 3)) (pg_unl rfl (pgs_cons (pg_name (i := 4) scTold.nd rfl (Or.inl rfl)) (pgs_cons (pg_name (i := 5) scTold.nd rfl (Or.inl rfl)) (pgs_cons (pg_name (i := 6) scTold.nd rfl (Or.inl rfl)) (pgs_cons (pg_name (i := 7) scTold.nd rfl (Or.inl rfl)) pgs_nil))))) (pss_cons (ps_if (pt_not (pt_val (pe_callG GP gs r3 (by rfl) mP kP bP pass0 (pa_cons (pe_meth (pv 0) T.cl mF GF r7 bF .nil pass0 (pa_cons (pv 4) pa_nil)) (pa_cons (pv 5) pa_nil))))) (pss_one (ps_ret pe_bl)) pss_nil)
      (pss_one (ps_if (pt_cmpR op_ne (pe_callB (cr_repr gs hu) (by rfl) B.repr (by decide +kernel) (pa_cons (pe_lst (pa_cons (pe_meth (pv 0) T.cl mW GW r8 bW .nil pass0 (pa_cons (pv 4) pa_nil)) (pa_cons (pe_meth (pv 0) T.cl mG GG r7 bG .nil pass0 (pa_cons (pv 4) pa_nil)) pa_nil))) pa_nil)) (pe_callB (cr_repr gs hu) (by rfl) B.repr (by decide +kernel) (pa_cons (pe_lst (pa_cons (pv 6) (pa_cons (pv 7) pa_nil))) pa_nil)) (nomark _)) (pss_one (ps_ret pe_bl)) pss_nil))))
      (pss_one (ps_ret (pe_and (pe_callG GI gs r7 (by rfl) mI kI bI pass0 (pa_cons (pe_meth0 (pv 0) T.cl mA GA r2 bA .nil pass0) (pa_cons (pv 1) pa_nil))) (pe_one (pe_callG GI gs r7 (by rfl) mI kI bI pass0 (pa_cons (pe_meth0 (pv 0) T.cl mO GO hr bO .nil pass0) (pa_cons (pe_call GN r5 (by rfl) mN kN bN .nil pass0 (pa_cons (pv 1) (pa_cons (pv 2) pa_nil))) pa_nil)))))))))), ?_⟩
    have few := hS.his.few
    have n1 := one_le hS.okb
    have n40 := hS.okb.2.2
    refine ⟨_, rfl, l, Nx, xs, fun y => .ref y.n, fun y => noteD y.e, rfl, SqL.of hS.el, fun y hy => dp_note (hS.nt y hy), W.AllAlike.of fun u v => alike_notes u.e v.e, W.Sortable.others fun u => ⟨(fun q => nomatch q), fun _ q => (nomatch q)⟩, fun y _ => note_depth y.e, fun a ha => ?_⟩
    rw [srtN_notes hS.his.ds]
    have s1 := same_new (o := .lst ((srtN xs).map fun y => V.ref y.n)) ha
    have ea : (upd H a (.lst ((srtN xs).map fun y => V.ref y.n))) a = some (.lst ((srtN xs).map fun y => V.ref y.n)) := upd_same
    generalize (upd H a (.lst ((srtN xs).map fun y => V.ref y.n))) = H1 at s1 ea ⊢
    have S1 := hS.same s1
    obtain ⟨dx, hx⟩ := id S1.his.hs
    obtain ⟨sh, dp, le⟩ := shown_marks (ys := srtN xs) (fun y hy => hS.his.om y (srtN_mem.mp hy)) (by rw [srtN_len]; exact few)
    refine ⟨_, rfl, x, dx, _, rfl, hx, (no3h (by decide +kernel) (by decide +kernel) (by decide +kernel)), x, b, d1, d2, xs, rfl, S1.his, fun u as H2 hu2 s2 eu mk => ?_⟩
    refine ⟨_, _, rfl, .dp (.lst (SqL.of eu) (dps_mks mk)), sh, dp, le, ?_⟩
    have ea2 := s2 _ _ ea
    refine ⟨_, rfl, a, rfl, ⟨_, SqL.of ea2⟩, fun D hD => ?_⟩
    have S2 := S1.same s2
    have nts : ∀ y ∈ srtN xs, Note1 H2 y := fun y hy => S2.nt y (srtN_mem.mp hy)
    refine lc_selA (srtN xs) (fun _ => true) (fun y => .ref y.a) (List.length_map ..) (by show 8 < 9; decide) hD (SqL.of ea2) (by rw [srtN_len]; omega) (fun j v y σ2 H3 Y hv hy e s3 k => k H3 (Same.refl _)) ?_ ?_
    · intro j v y σ2 H3 Y hv hy hk e s3 k
      subst e
      rw [List.getElem?_map, hy] at hv
      cases hv
      exact ⟨_, rfl, y.n, _, 0, .ref y.a, rfl, rfl, SqL.of (s3 _ _ (nts y (List.mem_of_getElem? hy)).en), rfl, k H3 (Same.refl _)⟩
    intro H3 s3 e3
    rw [List.filter_eq_self.mpr fun _ _ => rfl] at e3
    have S3 := S2.same s3
    have nts3 : ∀ y ∈ srtN xs, Note1 H3 y := fun y hy => S3.nt y (srtN_mem.mp hy)
    refine ⟨_, _, rfl, .dp (.lst (SqL.of (by rw [e3, List.map_map]; rfl)) (dps_mks (mks_notes nts3))), sh, dp, le, rfl, _, rfl, iteNS rfl ?_⟩
    have ea3 := s3 _ _ ea2
    obtain ⟨dx3, hx3⟩ := id S3.his.hs
    refine ⟨_, rfl, x, dx3, _, rfl, hx3, x, b, d1, d2, _, rfl, S3.his.hs, S3.his.e1, ((xs.length : Nat) : Int), (by unfold kF; rw [List.length_map]), by omega, by omega, _, rfl, a, _, rfl, .inl (SqL.of ea3), ?_⟩
    rw [List.length_map, srtN_len]
    refine ⟨rfl, _, rfl, iteNS rfl ?_⟩
    have s13 : Same H H3 := (s1.trans s2).trans s3
    refine ⟨_, rfl, a, rfl, ⟨_, SqL.of ea3⟩, ?_⟩
    refine for_list (K := K) (a := a) (xs := (srtN xs).map fun y => V.ref y.n) (fun i σ H' => Same H3 H' ∧ ∃ v4 v5 v6 v7 : Option V, σ = [some (.ref x), some (.ref r), some (.ref l), some (.ref a), v4, v5, v6, v7, none])
      ⟨Same.refl _, none, none, none, none, rfl⟩ (fun i σ H' _ h => SqL.of (h.1 _ _ ea3)) ?_ ?_
    · rintro i v σ H4 hv ⟨s4, v4, v5, v6, v7, rfl⟩
      rw [List.getElem?_map] at hv
      obtain ⟨y, hy, rfl⟩ : ∃ y, (srtN xs)[i]? = some y ∧ v = V.ref y.n := by
        cases e : (srtN xs)[i]? with
        | none => rw [e] at hv; cases hv
        | some y => rw [e] at hv; exact ⟨y, rfl, (Option.some.inj hv).symm⟩
      have my := srtN_mem.mp (List.mem_of_getElem? hy)
      have S4 := S3.same s4
      have n4 := S4.nt y my
      obtain ⟨dx4, hx4⟩ := id S4.his.hs
      refine ⟨y.n, _, rfl, SqL.of n4.en, rfl, _, _, rfl, _, _, rfl, _, _, rfl, _, _, rfl, rfl, ?_⟩
      refine ⟨_, rfl, x, dx4, _, rfl, hx4, (no3h (by decide +kernel) (by decide +kernel) (by decide +kernel)), _, rfl, x, b, d1, d2, y.a, xs, y, rfl, S4.his, my, n4.ea, fun H5 s5 => ?_⟩
      have S5 := S4.same s5
      have n5 := S5.nt y my
      refine ⟨_, rfl, y.f, y.q, y.e.ts, y.e.hs, rfl, S5.his.fl y my, (S5.okp y my).1, ⟨y.t, y.g, SqT.of n5.eq, n5.et, n5.eg⟩, fun H6 s6 => ⟨_, rfl, iteF ?_⟩⟩
      have S6 := S5.same s6
      have n6 := S6.nt y my
      obtain ⟨dx6, hx6⟩ := id S6.his.hs
      refine ⟨_, rfl, x, dx6, _, rfl, hx6, (no3h (by decide +kernel) (by decide +kernel) (by decide +kernel)), _, rfl, x, b, d1, d2, y.a, xs, y, rfl, S6.his, my, n6.ea, fun H7 s7 => ?_⟩
      have S7 := S6.same s7
      have n7 := S7.nt y my
      obtain ⟨dx7, hx7⟩ := id S7.his.hs
      refine ⟨_, rfl, x, dx7, _, rfl, hx7, (no3h (by decide +kernel) (by decide +kernel) (by decide +kernel)), _, rfl, x, b, d1, d2, y.a, xs, y, rfl, S7.his, my, n7.ea, fun H8 s8 => ⟨(by show 2 ≤ sizeLine; decide), fun L hL => ?_⟩⟩
      obtain ⟨sh2, dp2, le2⟩ := shown_med (ds := [.bool y.e.on, .int ((y.e.k : Nat) : Int)]) (fun d hd => by
        rcases List.mem_cons.mp hd with rfl | hd
        · exact med_bl _
        · rw [List.mem_singleton.mp hd]
          have := small y my
          exact med_int (by omega)) (by show 2 ≤ 400; decide)
      have s9 := same_new (o := .lst [.bl y.e.on, .int ((y.e.k : Nat) : Int)]) hL
      refine ⟨_, _, rfl, .dp (.lst (SqL.of upd_same) (.cons (.bl _) (.cons (.int _) .nil))), sh2, dp2, le2, ?_⟩
      refine ⟨_, rfl, _, rfl, (by show 2 ≤ sizeLine; decide), fun L2x hL2 => ?_⟩
      have s10 := same_new (o := .lst [.bl y.e.on, .int ((y.e.k : Nat) : Int)]) hL2
      refine ⟨_, _, rfl, .dp (.lst (SqL.of upd_same) (.cons (.bl _) (.cons (.int _) .nil))), sh2, dp2, le2, rfl, _, rfl, iteNS rfl ?_⟩
      exact ⟨s4.trans (s5.trans (s6.trans (s7.trans (s8.trans (s9.trans s10))))), _, _, _, _, rfl⟩
    · rintro σ H4 ⟨s4, v4, v5, v6, v7, rfl⟩
      have S4 := S3.same s4
      obtain ⟨dx4, hx4⟩ := id S4.his.hs
      refine ⟨_, rfl, x, dx4, _, rfl, hx4, (no3h (by decide +kernel) (by decide +kernel) (by decide +kernel)), x, b, d1, d2, rfl, S4.his.hs, _, rfl, b, r, bs, rfl, S4.bd, S4.okb, S4.er, fun H5 s5 => ⟨_, rfl, iteT ?_⟩⟩
      have S5 := S4.same s5
      obtain ⟨dx5, hx5⟩ := id S5.his.hs
      refine ⟨_, rfl, x, dx5, _, rfl, hx5, (no3h (by decide +kernel) (by decide +kernel) (by decide +kernel)), x, b, d1, d2, xs, bs, rfl, S5.his, S5.bd, S5.okb, fun y hy => ⟨(S5.okp y hy).1, fits_okp (S5.okp y hy) n1⟩, fun q H6 s6 hq => ?_⟩
      have S6 := S5.same s6
      refine ⟨_, rfl, _, rfl, r, l, bs, xs, rfl, S6.er, n40, S6.el, fun y hy => ⟨S6.nt y hy, S6.okp y hy⟩, S6.his.ds, few, fun q2 H7 s7 eq2 => ?_⟩
      refine ⟨q, q2, runB bs (stdP xs), rfl, hq.same s7, ?_, eq2, fun H8 s8 => ?_⟩
      · refine run_okp (fun t ht k hk => ?_) hS.okb
        obtain ⟨y, hy, rfl⟩ := List.mem_map.mp ht
        have o := hS.okp y (srtN_mem.mp (List.mem_filter.mp hy).1)
        exact (o.1.2.1 k hk).1
      · exact out H8 (s13.trans (s4.trans (s5.trans (s6.trans (s7.trans s8)))))
end
end K33
namespace K33
open PySem PySem.Spec PyProof.Rows L2 Par X
theorem Off.step {M N : List Addr} {H H1 H2 : Hp} (a : Off M H H1) (b : Off N H1 H2) (s : ∀ z ∈ N, z ∈ M ∨ H z = none) : Off M H H2 := fun c o n e => b c o (fun q => (s c q).elim n fun f => by rw [e] at f; cases f) (a c o n e)
theorem sw_ns {xs : List Nx} {i : Nat} {y : Nx} (h : xs[i]? = some y) : (xs.set i y.sw).map Nx.n = xs.map Nx.n := by
  rw [List.map_set]
  refine List.ext_getElem? fun j => ?_
  rw [List.getElem?_set]
  split
  · next e =>
    subst e
    split
    · rw [List.getElem?_map, h]
      rfl
    · next z =>
      rw [List.length_map] at z
      exact absurd (List.getElem?_eq_some_iff.mp h).1 z
  · rfl
theorem refs_ns {xs ys : List Nx} (h : ys.map Nx.n = xs.map Nx.n) : (ys.map fun y => V.ref y.n) = xs.map fun y => V.ref y.n := by
  have := congrArg (List.map V.ref) h
  rw [List.map_map, List.map_map] at this
  exact this
theorem sw_mem {xs : List Nx} {i : Nat} {y : Nx} (h : xs[i]? = some y) (nd : (xs.map Nx.n).Nodup) {z : Nx} (hz : z ∈ xs.set i y.sw) : z = y.sw ∨ (z ∈ xs ∧ z.n ≠ y.n) := by
  obtain ⟨j, hj⟩ := List.getElem?_of_mem hz
  rw [List.getElem?_set] at hj
  by_cases e : i = j
  · subst e
    rw [if_pos rfl, if_pos (List.getElem?_eq_some_iff.mp h).1] at hj
    exact .inl (Option.some.inj hj).symm
  · rw [if_neg e] at hj
    refine .inr ⟨List.mem_of_getElem? hj, fun q => e ?_⟩
    obtain ⟨li, ei⟩ := List.getElem?_eq_some_iff.mp h
    obtain ⟨lj, ej⟩ := List.getElem?_eq_some_iff.mp hj
    refine (List.getElem_inj (h₀ := by rw [List.length_map]; exact li) (h₁ := by rw [List.length_map]; exact lj) nd).mp ?_
    rw [List.getElem_map, List.getElem_map, ei, ej]
    exact q.symm
theorem HisAt.off {C CF : Addr} {H H' : Hp} {x b d1 d2 : Addr} {xs : List Nx} {M : List Addr} (o : Off M H H') (no : ∀ a ∈ M, ∃ ys, H a = some (.lst ys)) (h : HisAt C CF H x b d1 d2 xs) : HisAt C CF H' x b d1 d2 xs := by
  have k : ∀ {z : Addr} {u : HO}, H z = some u → (∀ ys, u ≠ .lst ys) → H' z = some u := fun hz hu => o _ _ (fun q => by
    obtain ⟨ys, e⟩ := no _ q
    rw [hz] at e
    exact hu ys (Option.some.inj e)) hz
  obtain ⟨dx, hx⟩ := h.hs
  refine ⟨⟨dx, k hx fun _ q => (nomatch q)⟩, k h.e1 fun _ q => (nomatch q), k h.e2 fun _ q => (nomatch q), h.ne, h.ds, h.om, h.few, fun y hy => ?_⟩
  obtain ⟨df, u, v, e1, e2, e3⟩ := h.fl y hy
  exact ⟨df, u, v, k e1 fun _ q => (nomatch q), k e2 fun _ q => (nomatch q), k e3 fun _ q => (nomatch q)⟩
theorem bits_no {bs : List Int} (h : OkB bs) {a q : Addr} {b : Bool} {k : Int} : (HO.lst (bs.map V.int)) ≠ .lst [.ref a, .ref q, .bl b, .int k] := fun e => by
  injection e with e
  cases bs with
  | nil => cases h.2.1
  | cons c cs => cases e
theorem refs_no {xs : List Nx} {a q : Addr} {b : Bool} {k : Int} : (HO.lst (xs.map fun y => V.ref y.n)) ≠ .lst [.ref a, .ref q, .bl b, .int k] := fun e => by
  injection e with e
  match xs, e with
  | [], e => cases e
  | [_], e => cases e
  | [_, _], e => cases e
  | _ :: _ :: _ :: _, e =>
    injection e with _ e
    injection e with _ e
    injection e with e _
    cases e
theorem ints_no {ns : List Int} {a q : Addr} {b : Bool} {k : Int} : (HO.lst (ns.map V.int)) ≠ .lst [.ref a, .ref q, .bl b, .int k] := fun e => by
  injection e with e
  cases ns with
  | nil => cases e
  | cons c cs => cases e
/-- an entry switched, and its note -/
theorem St.sw {C CF CB : Addr} {H H' : Hp} {p l r x b d1 d2 : Addr} {bs : List Int} {xs : List Nx} (h : St C CF CB H p l r x b d1 d2 bs xs) {i : Nat} {y : Nx} (hy : xs[i]? = some y) (o : Off [d2, y.n] H H') (hh : HisAt C CF H' x b d1 d2 (xs.set i y.sw))
    (en : H' y.n = some (.lst [.ref y.a, .ref y.q, .bl y.sw.e.on, .int ((y.sw.e.k : Nat) : Int)])) : St C CF CB H' p l r x b d1 d2 bs (xs.set i y.sw) := by
  have my := List.mem_of_getElem? hy
  have ny := h.nt y my
  have no : ∀ a ∈ [d2, y.n], (∀ xs, H a ≠ some (.tup xs)) ∧ ∀ C d fs, H a ≠ some (.ins C d fs) := fun a ha => by
    rcases List.mem_cons.mp ha with rfl | ha
    · rw [h.his.e2]
      exact ⟨fun _ q => (nomatch Option.some.inj q), fun _ _ _ q => (nomatch Option.some.inj q)⟩
    · rw [List.mem_singleton.mp ha, ny.en]
      exact ⟨fun _ q => (nomatch Option.some.inj q), fun _ _ _ q => (nomatch Option.some.inj q)⟩
  have nn : ∀ {z : Addr} {u : HO}, H z = some u → (∀ kvs, u ≠ .dT kvs) → u ≠ .lst [.ref y.a, .ref y.q, .bl y.e.on, .int ((y.e.k : Nat) : Int)] → z ∉ [d2, y.n] := fun hz n1 n2 hm => by
    rcases List.mem_cons.mp hm with rfl | hm
    · rw [h.his.e2] at hz
      exact n1 _ (Option.some.inj hz).symm
    · rw [List.mem_singleton.mp hm, ny.en] at hz
      exact n2 (Option.some.inj hz).symm
  obtain ⟨pi, pj, ep, p0, p1, p2⟩ := id h.pot
  have ep' := o _ _ (nn ep (fun _ q => (nomatch q)) (fun q => by injection q with q; cases q)) ep
  refine ⟨⟨pi, pj, ep', p0, p1, p2⟩, hh, h.bd.off o no, h.okb, o _ _ (nn h.er (fun _ q => (nomatch q)) (bits_no h.okb)) h.er, ?_, fun z hz => ?_, ?_, fun z hz => ?_, h.rp, h.rl, h.lp, fun z hz => ?_⟩
  · rw [refs_ns (sw_ns hy)]
    exact o _ _ (nn h.el (fun _ q => (nomatch q)) refs_no) h.el
  · have keep : ∀ z ∈ xs, z.n ≠ y.n ∨ z = y → H' z.a = some (.tup (mkV z.m)) ∧ H' z.q = some (.tup [.ref z.t, .ref z.g]) ∧ H' z.t = some (.lst (z.e.ts.map V.int)) ∧ H' z.g = some (.lst (z.e.hs.map V.int)) := fun z hz _ => by
      have n := h.nt z hz
      exact ⟨o _ _ (fun q => (no _ q).1 _ n.ea) n.ea, o _ _ (fun q => (no _ q).1 _ n.eq) n.eq, o _ _ (nn n.et (fun _ q => (nomatch q)) ints_no) n.et, o _ _ (nn n.eg (fun _ q => (nomatch q)) ints_no) n.eg⟩
    rcases sw_mem hy h.nd hz with rfl | ⟨hz2, nz⟩
    · obtain ⟨k1, k2, k3, k4⟩ := keep y my (.inr rfl)
      exact ⟨en, k1, k2, k3, k4⟩
    · obtain ⟨k1, k2, k3, k4⟩ := keep z hz2 (.inl nz)
      have n := h.nt z hz2
      refine ⟨o _ _ (fun q => ?_) n.en, k1, k2, k3, k4⟩
      rcases List.mem_cons.mp q with e | q
      · have := n.en
        rw [e, h.his.e2] at this
        cases this
      · exact nz (List.mem_singleton.mp q)
  · rw [sw_ns hy]
    exact h.nd
  · rcases sw_mem hy h.nd hz with rfl | ⟨hz2, _⟩
    · exact h.okp y my
    · exact h.okp z hz2
  · rcases sw_mem hy h.nd hz with rfl | ⟨hz2, _⟩
    · exact h.tp y my
    · exact h.tp z hz2
/-- how often the entries were changed at most -/
def Bk (c : Nat) (xs : List Nx) : Prop := ∀ y ∈ xs, y.e.k ≤ c
theorem Bk.mono {c d : Nat} {xs : List Nx} (h : Bk c xs) (l : c ≤ d) : Bk d xs := fun y hy => Nat.le_trans (h y hy) l
theorem Bk.sw {c : Nat} {xs : List Nx} (h : Bk c xs) {i : Nat} {y : Nx} (hy : xs[i]? = some y) : Bk (c + 1) (xs.set i y.sw) := fun z hz => by
  rcases List.mem_or_eq_of_mem_set hz with q | rfl
  · have := h z q
    omega
  · have := h y (List.mem_of_getElem? hy)
    show y.e.k + 1 ≤ c + 1
    omega
/-- the pairs' lists are those of before or new ones -/
def Tg (H : Hp) (xs ys : List Nx) : Prop := ∀ y ∈ ys, (∃ z ∈ xs, y.t = z.t ∧ y.g = z.g) ∨ (H y.t = none ∧ H y.g = none)
/-- what the notes were and at most k new ones -/
def Gr (H : Hp) (xs ys : List Nx) (k : Nat) : Prop := (∃ ns : List Addr, ys.map Nx.n = xs.map Nx.n ++ ns ∧ ns.length ≤ k ∧ ∀ a ∈ ns, H a = none) ∧ Tg H xs ys
theorem Tg.refl (H : Hp) (xs : List Nx) : Tg H xs xs := fun y hy => .inl ⟨y, hy, rfl, rfl⟩
theorem Gr.refl (H : Hp) (xs : List Nx) : Gr H xs xs 0 := ⟨⟨[], by rw [List.append_nil], Nat.le_refl _, fun a ha => nomatch ha⟩, .refl _ _⟩
theorem Gr.mono {H : Hp} {xs ys : List Nx} {k m : Nat} (h : Gr H xs ys k) (l : k ≤ m) : Gr H xs ys m := by
  obtain ⟨⟨ns, e, l0, f⟩, t⟩ := h
  exact ⟨⟨ns, e, by omega, f⟩, t⟩
theorem Gr.len {H : Hp} {xs ys : List Nx} {k : Nat} (h : Gr H xs ys k) : ys.length ≤ xs.length + k := by
  obtain ⟨⟨ns, e, l, _⟩, _⟩ := h
  have := congrArg List.length e
  rw [List.length_map, List.length_append, List.length_map] at this
  omega
theorem Gr.sub {H : Hp} {xs ys : List Nx} {k : Nat} (h : Gr H xs ys k) : ∀ z ∈ ys.map Nx.n, z ∈ xs.map Nx.n ∨ H z = none := by
  obtain ⟨⟨ns, e, _, f⟩, _⟩ := h
  intro z hz
  rw [e] at hz
  exact (List.mem_append.mp hz).imp id (f z)
theorem Gr.trans {M : List Addr} {H H1 : Hp} {xs ys zs : List Nx} {k m : Nat} (o : Off M H H1) (nM : ∀ a ∈ M, H a ≠ none → H1 a ≠ none) (h : Gr H xs ys k) (g : Gr H1 ys zs m) : Gr H xs zs (k + m) := by
  obtain ⟨⟨n1, e1, l1, f1⟩, t1⟩ := h
  obtain ⟨⟨n2, e2, l2, f2⟩, t2⟩ := g
  have back : ∀ a, H1 a = none → H a = none := fun a f => by
    cases e : H a with
    | none => rfl
    | some u =>
      by_cases m : a ∈ M
      · exact absurd f (nM a m (by rw [e]; simp))
      · rw [o a u m e] at f
        cases f
  refine ⟨⟨n1 ++ n2, by rw [e2, e1, List.append_assoc], by rw [List.length_append]; omega, fun a ha => ?_⟩, fun y hy => ?_⟩
  · rcases List.mem_append.mp ha with q | q
    · exact f1 a q
    · exact back a (f2 a q)
  · rcases t2 y hy with ⟨z, hz, a1, a2⟩ | ⟨a1, a2⟩
    · rcases t1 z hz with ⟨w, hw, b1, b2⟩ | ⟨b1, b2⟩
      · exact .inl ⟨w, hw, a1.trans b1, a2.trans b2⟩
      · exact .inr ⟨by rw [a1]; exact b1, by rw [a2]; exact b2⟩
    · exact .inr ⟨back _ a1, back _ a2⟩
/-- a list of its own changes -/
theorem St.acc {C CF CB : Addr} {H H' : Hp} {p l r x b d1 d2 D : Addr} {bs : List Int} {xs : List Nx} (h : St C CF CB H p l r x b d1 d2 bs xs) (hD : ∃ us, H D = some (.lst us)) (np : p ≠ D) (nl : l ≠ D) (nn : ∀ y ∈ xs, y.n ≠ D) (nr : r ≠ D) (nt : ∀ y ∈ xs, y.t ≠ D ∧ y.g ≠ D) (o : Off [D] H H') : St C CF CB H' p l r x b d1 d2 bs xs := by
  obtain ⟨us, hD⟩ := hD
  have no : ∀ a ∈ [D], (∀ xs, H a ≠ some (.tup xs)) ∧ ∀ C d fs, H a ≠ some (.ins C d fs) := fun a ha => by
    rw [List.mem_singleton.mp ha, hD]
    exact ⟨fun _ q => (nomatch Option.some.inj q), fun _ _ _ q => (nomatch Option.some.inj q)⟩
  obtain ⟨i, j, e, q0⟩ := id h.pot
  exact ⟨⟨i, j, o _ _ (by rw [List.mem_singleton]; exact np) e, q0⟩, h.his.off o (fun a ha => ⟨us, by rw [List.mem_singleton.mp ha]; exact hD⟩), h.bd.off o no, h.okb, o _ _ (by rw [List.mem_singleton]; exact nr) h.er, o _ _ (by rw [List.mem_singleton]; exact nl) h.el,
    fun y hy => (h.nt y hy).off o (by rw [List.mem_singleton]; exact nn y hy) (by rw [List.mem_singleton]; exact (nt y hy).1) (by rw [List.mem_singleton]; exact (nt y hy).2) fun a ha => (no a ha).1, h.nd, h.okp, h.rp, h.rl, h.lp, h.tp⟩
section
variable {P : Program} {w : World} {K : PySem.W.Frag} {mg : Str → Option Value} {base : Heap}
/-- an entry switched by the law -/
def spLSw (C CF CB : Addr) : Sp := fun vs H Q _ => ∃ (p l r x b d1 d2 : Addr) (bs : List Int) (xs : List Nx) (i : Nat) (y : Nx), vs = [.ref x, .ref y.n] ∧ St C CF CB H p l r x b d1 d2 bs xs ∧ xs[i]? = some y ∧ ∀ H', Off [d2, y.n] H H' → St C CF CB H' p l r x b d1 d2 bs (xs.set i y.sw) → Q (.bl true) H'
abbrev nLSw : List Str := ["_law_tale", "_law_note", "_law_told"]
theorem scLSw : FnScope nLSw ["_law_tale", "_law_note"] (defScope slSwitch) := ⟨rfl, rfl, rfl, by decide +kernel, rfl, by decide +kernel, by decide +kernel⟩
theorem ok_lsw {f C CF CB : Addr} {fd : FuncData} (F : Fun K "_law_switch" "_law_switch" slSwitch f fd) (T : HC K mg C) (DR : HasM P w K mg base C "remove" 9 ["self", "stamp"] (spSwitch true C CF)) (DU : HasM P w K mg base C "restore" 9 ["self", "stamp"] (spSwitch false C CF)) : FnOk P w K mg base CX0 10 f fd ["_law_tale", "_law_note"] (spLSw C CF CB) := by
  obtain ⟨fR, fdR, GR, mR, bR⟩ := DR
  obtain ⟨fU, fdU, GU, mU, bU⟩ := DU
  refine F.ok scLSw (fun vs H Q E h => ?_) (fun cdv A outer s H vs Q E hr h => ?_)
  · obtain ⟨p, l, r, x, b, d1, d2, bs, xs, i, y, rfl, _⟩ := h
    rfl
  · obtain ⟨p, l, r, x, b, d1, d2, bs, xs, i, y, rfl, hS, hy, out⟩ := h
    refine ⟨_, (pss_cons (ps_set (i := 2) scLSw.nd rfl (Or.inl rfl) (pe_ifExp (pt_val (pe_ix ix_list (pv 1) pe_int (fun _ _ => rfl))) (pe_meth (pv 0) T.cl mR GR hr bR .nil pass0 (pa_cons (pe_ix ix_list (pv 1) pe_int (fun _ _ => rfl)) pa_nil)) (pe_meth (pv 0) T.cl mU GU hr bU .nil pass0 (pa_cons (pe_ix ix_list (pv 1) pe_int (fun _ _ => rfl)) pa_nil))))
      (pss_cons (ps_asg (pe_not (pe_ix ix_list (pv 1) pe_int (fun _ _ => rfl))) (pg_sub (pv 1) pe_int set_list))
      (pss_cons (ps_asg (pe_op op_add (pe_ix ix_list (pv 1) pe_int (fun _ _ => rfl)) pe_int) (pg_sub (pv 1) pe_int set_list))
      (pss_one (ps_ret (pe_cmp (pc_isN (pv 2)))))))), ?_⟩
    have my := List.mem_of_getElem? hy
    have ny := hS.nt y my
    obtain ⟨dx, hx⟩ := id hS.his.hs
    have nd : y.n ≠ d2 := fun q => by have := ny.en; rw [q, hS.his.e2] at this; cases this
    refine seq_outE (R := fun v H' => v = .non ∧ Off [d2] H H' ∧ HisAt C CF H' x b d1 d2 (xs.set i y.sw)) ?_ ?_
    · rintro v H1 ⟨rfl, o1, h1⟩
      have e1 := o1 _ _ (by rw [List.mem_singleton]; exact nd) ny.en
      refine ⟨_, rfl, y.n, _, 2, .bl y.e.on, rfl, rfl, SqL.of e1, rfl, _, rfl, _, rfl, y.n, _, 2, 2, rfl, rfl, e1, rfl, ?_⟩
      have e2 : (upd H1 y.n (.lst ([V.ref y.a, .ref y.q, .bl y.e.on, .int ((y.e.k : Nat) : Int)].set 2 (.bl (!y.e.on))))) y.n = some (.lst [V.ref y.a, .ref y.q, .bl (!y.e.on), .int ((y.e.k : Nat) : Int)]) := upd_same
      have o2 : Off [y.n] H1 (upd H1 y.n (.lst ([V.ref y.a, .ref y.q, .bl y.e.on, .int ((y.e.k : Nat) : Int)].set 2 (.bl (!y.e.on))))) := Off.upd (List.mem_singleton.mpr rfl)
      generalize (upd H1 y.n (.lst ([V.ref y.a, .ref y.q, .bl y.e.on, .int ((y.e.k : Nat) : Int)].set 2 (.bl (!y.e.on))))) = H2 at e2 o2 ⊢
      refine ⟨_, rfl, y.n, _, 3, .int ((y.e.k : Nat) : Int), rfl, rfl, SqL.of e2, rfl, _, _, rfl, rfl, _, rfl, y.n, _, 3, 3, rfl, rfl, e2, rfl, _, rfl, ?_⟩
      have e3 : (upd H2 y.n (.lst ([V.ref y.a, .ref y.q, .bl (!y.e.on), .int ((y.e.k : Nat) : Int)].set 3 (.int (((y.e.k : Nat) : Int) + 1))))) y.n = some (.lst [V.ref y.a, .ref y.q, .bl (!y.e.on), .int (((y.e.k : Nat) : Int) + 1)]) := upd_same
      have o3 : Off [y.n] H2 (upd H2 y.n (.lst ([V.ref y.a, .ref y.q, .bl (!y.e.on), .int ((y.e.k : Nat) : Int)].set 3 (.int (((y.e.k : Nat) : Int) + 1))))) := Off.upd (List.mem_singleton.mpr rfl)
      generalize (upd H2 y.n (.lst ([V.ref y.a, .ref y.q, .bl (!y.e.on), .int ((y.e.k : Nat) : Int)].set 3 (.int (((y.e.k : Nat) : Int) + 1))))) = H3 at e3 o3 ⊢
      have o13 := o2.trans o3
      have m1 : ∀ z ∈ [d2], z ∈ [d2, y.n] := fun z hz => by rw [List.mem_singleton.mp hz]; simp
      have m2 : ∀ z ∈ [y.n], z ∈ [d2, y.n] := fun z hz => by rw [List.mem_singleton.mp hz]; simp
      have o03 : Off [d2, y.n] H H3 := (o1.mono m1).trans (o13.mono m2)
      refine out H3 o03 (hS.sw hy o03 (h1.off o13 fun a ha => ⟨[.ref y.a, .ref y.q, .bl y.e.on, .int ((y.e.k : Nat) : Int)], by rw [List.mem_singleton.mp ha]; exact e1⟩) ?_)
      rw [e3, sw_on]
      rfl
    · intro Q' hQ'
      refine ⟨_, rfl, y.n, _, 2, .bl y.e.on, rfl, rfl, SqL.of ny.en, rfl, _, rfl, ite2 (fun z => ?_) (fun z => ?_)⟩
      · exact ⟨_, rfl, x, dx, _, rfl, hx, (no3h (by decide +kernel) (by decide +kernel) (by decide +kernel)), _, rfl, y.n, _, 0, .ref y.a, rfl, rfl, SqL.of ny.en, rfl, x, b, d1, d2, y.a, xs, i, y, rfl, hS.his, hy, z, ny.ea, fun H1 o1 h1 => hQ' _ _ ⟨rfl, o1, h1⟩⟩
      · exact ⟨_, rfl, x, dx, _, rfl, hx, (no3h (by decide +kernel) (by decide +kernel) (by decide +kernel)), _, rfl, y.n, _, 0, .ref y.a, rfl, rfl, SqL.of ny.en, rfl, x, b, d1, d2, y.a, xs, i, y, rfl, hS.his, hy, by simpa using z, ny.ea, fun H1 o1 h1 => hQ' _ _ ⟨rfl, o1, h1⟩⟩
end
end K33
namespace K33
open PySem PySem.Spec PyProof.Rows L2 Par X
theorem eqv_str (x y : Str) : PyData.eqv (.str x) (.str y) = decide (x = y) := by
  show (x == y) = _
  by_cases z : x = y
  · subst z
    simp
  · rw [decide_eq_false z]
    simpa using z
theorem eqv_mk (a b : Mk) : PyData.eqv (mkD a) (mkD b) = decide (a = b) := by
  show ((a.t == b.t) && ((PyData.eqv (.str a.h) (.str b.h)) && ((a.n == b.n) && true))) = _
  rw [eqv_str]
  cases a with
  | mk t h n =>
    cases b with
    | mk t2 h2 n2 =>
      by_cases x : t = t2 <;> by_cases y : h = h2 <;> by_cases z : n = n2 <;> simp [x, y, z]
theorem any_mk (ms : List Mk) (m : Mk) : ((ms.map mkD).any fun z => PyData.eqv z (mkD m)) = decide (m ∈ ms) := by
  induction ms with
  | nil => simp
  | cons a ms ih =>
    rw [List.map_cons, List.any_cons, ih, eqv_mk]
    by_cases x : a = m
    · subst x
      simp
    · by_cases y : m ∈ ms
      · simp [y]
      · have : ¬ m = a := fun q => x q.symm
        simp [x, y, this]
theorem lay_mk {m : Mk} (h : OkM m) : (mkD m).canLay0 = true := by
  show (true && (PyData.strOk m.h && (true && true))) = true
  have : PyData.strOk m.h = true := by
    unfold PyData.strOk
    rw [← Array.all_toList]
    refine List.all_eq_true.mpr fun c hc => ?_
    have := h.lw c hc
    unfold lowc at this
    rw [Bool.and_eq_true, decide_eq_true_eq, decide_eq_true_eq] at this
    exact decide_eq_true (by omega)
  rw [this]
  rfl
theorem lay_mks : ∀ {ms : List Mk}, (∀ m ∈ ms, OkM m) → PyData.canLayAll0 (ms.map mkD) = true
  | [], _ => rfl
  | m :: ms, h => by
    show ((mkD m).canLay0 && PyData.canLayAll0 (ms.map mkD)) = true
    rw [lay_mk (h m (List.mem_cons_self ..)), lay_mks fun z hz => h z (List.mem_cons_of_mem _ hz)]
    rfl
section
variable {P : Program} {w : World} {K : PySem.W.Frag} {mg : Str → Option Value} {base : Heap}
/-- an entry, or none where the stamp is taken -/
def spLEnter (C CF CB : Addr) : Sp := fun vs H Q _ => ∃ (p l r x b d1 d2 : Addr) (bs : List Int) (xs : List Nx), vs = [.ref p, .ref x, .ref l, .int (bs.length : Nat)] ∧ St C CF CB H p l r x b d1 d2 bs xs ∧ xs.length < 300 ∧ ∀ ys H', Off [p, l, d1, d2] H H' → St C CF CB H' p l r x b d1 d2 bs ys → Gr H xs ys 1 → (∀ c, Bk c xs → Bk c ys) → Q (.bl true) H'
abbrev nLEnter : List Str := ["_law_pot_here", "_law_tale", "_law_notes", "_law_width_here", "_law_mark_here", "_law_pair_here", "_law_note"]
theorem scLEnter : FnScope nLEnter ["_law_pot_here", "_law_tale", "_law_notes", "_law_width_here"] (defScope slEnter) := ⟨rfl, rfl, rfl, by decide +kernel, rfl, by decide +kernel, by decide +kernel⟩
theorem ok_lenter {f C CF CB : Addr} {fd : FuncData} (F : Fun K "_law_enter" "_law_enter" slEnter f fd) (B : Bl mg) (T : HC K mg C) (DM : Has P w K mg base "_law_near_mark" 5 ["_law_pot_here", "_law_notes"] (spNear C CF CB)) (DP : Has P w K mg base "_law_pair" 4 ["_law_pot_here", "_law_width_here"] spPairL) (DD : Has P w K mg base "_law_deed" 9 ["_law_pot_here", "_law_pair_here", "_law_width_here"] (spDeed CF)) (DE : HasM P w K mg base C "enter" 5 ["self", "stamp", "flip"] (spEnterH C CF CB)) : FnOk P w K mg base CX0 10 f fd ["_law_pot_here", "_law_tale", "_law_notes", "_law_width_here"] (spLEnter C CF CB) := by
  obtain ⟨fM, fdM, GM, mM, kM, bM⟩ := DM
  obtain ⟨fP, fdP, GP, mP, kP, bP⟩ := DP
  obtain ⟨fD, fdD, GD, mD, kD, bD⟩ := DD
  obtain ⟨fE, fdE, GE, mE, bE⟩ := DE
  refine F.ok scLEnter (fun vs H Q E h => ?_) (fun cdv A outer s H vs Q E hr h => ?_)
  · obtain ⟨p, l, r, x, b, d1, d2, bs, xs, rfl, _⟩ := h
    rfl
  · obtain ⟨p, l, r, x, b, d1, d2, bs, xs, rfl, hS, lt, out⟩ := h
    have hu := hr.units
    have r4 : Room 4 _ := hr.mono (by decide)
    have r5 : Room 5 _ := hr.mono (by decide)
    have hu5 : (A.deeper (envOfC "_law_enter" (defScope slEnter) s.heap.objs.size f cdv)).units + 65 < cLine := by have := hr.un; omega
    refine ⟨_, (pss_cons (ps_par (by rfl) scLEnter.nd (i := 4) (j := 5) rfl rfl (by decide) rfl rfl (pa_cons (pe_call GM r5 (by rfl) mM kM bM .nil pass0 (pa_cons (pv 0) (pa_cons (pv 2) pa_nil))) (pa_cons (pe_call GP r4 (by rfl) mP kP bP .nil pass0 (pa_cons (pv 0) (pa_cons (pv 3) pa_nil))) pa_nil)) (by rfl))
      (pss_cons (ps_if (pt_cmpR (op_inL hu5) (pv 4) (pe_lc (own := [("_law_note", 6)]) (g := gName 6) (te := tOp (rIxL K) (tVar 6) (tC (.int 0))) rfl scLEnter.nd (pi_list (pv 2)) (blkOk_by (own := [("_law_note", 6)]) (N := nLEnter) (sc := defScope slEnter) (by decide +kernel)) (fun _ _ _ _ _ => (pg_name (i := 6) scLEnter.nd rfl (Or.inl rfl))) (fun _ _ _ _ _ => pts_nil) (fun _ _ _ _ _ => by exact (pe_ix ix_list (pv 6) pe_int (fun _ _ => rfl)))) (by rfl)) (pss_one (ps_ret pe_bl)) pss_nil)
      (pss_cons (ps_expr (pe_bm PySem.F.plainAttrs_list PySem.F.slot_list_append PySem.F.type_list_append mt_append (pv 2) (pa_cons (pe_lst (pa_cons (pv 4) (pa_cons (pv 5) (pa_cons pe_bl (pa_cons pe_int pa_nil))))) pa_nil)))
      (pss_one (ps_ret (pe_cmp (pc_isN (pe_meth (pv 1) T.cl mE GE r5 bE .nil pass0 (pa_cons (pv 4) (pa_cons (pe_call GD hr (by rfl) mD kD bD .nil pass0 (pa_cons (pv 0) (pa_cons (pv 5) (pa_cons (pv 3) pa_nil)))) pa_nil)))))))))), ?_⟩
    have n1 := one_le hS.okb
    have n40 := hS.okb.2.2
    refine ⟨_, rfl, _, rfl, p, l, r, x, b, d1, d2, bs, xs, rfl, hS, fun q m H1 b1 pot1 em om => ?_⟩
    have S1 := hS.but b1 pot1
    refine ⟨_, rfl, _, rfl, p, bs.length, rfl, pot1, n1, n40, fun q2 ts hs H2 hq2 b2 pot2 pf oF c1 c2 ev w1 w2 => ⟨_, _, rfl, ?_⟩⟩
    have S2 := S1.but b2 pot2
    have em2 := b2 _ _ (pot1.ne_of em fun _ _ q => (nomatch q)) em
    obtain ⟨t, g, ft, fg, nt, ng, eq2, et, eg⟩ := pf
    refine ⟨_, rfl, _, rfl, l, rfl, ⟨_, SqL.of S2.el⟩, fun D hD => ?_⟩
    refine lc_selA xs (fun _ => true) (fun y => .ref y.a) (List.length_map ..) (by show 6 < 7; decide) hD (SqL.of S2.el) (by omega) (fun j v y σ2 H3 Y hv hy e s3 k => k H3 (Same.refl _)) ?_ ?_
    · intro j v y σ2 H3 Y hv hy hk e s3 k
      subst e
      rw [List.getElem?_map, hy] at hv
      cases hv
      exact ⟨_, rfl, y.n, _, 0, .ref y.a, rfl, rfl, SqL.of (s3 _ _ (S2.nt y (List.mem_of_getElem? hy)).en), rfl, k H3 (Same.refl _)⟩
    intro H3 s3 e3
    rw [List.filter_eq_self.mpr fun _ _ => rfl] at e3
    have S3 := S2.same s3
    have em3 := s3 _ _ em2
    have oms : ∀ m ∈ xs.map Nx.m, OkM m := fun m hm => by
      obtain ⟨y, hy, rfl⟩ := List.mem_map.mp hm
      exact S3.his.om y hy
    refine ⟨mkD m, (xs.map Nx.m).map mkD, dp_mk em3, .lst (SqL.of (by rw [e3, List.map_map]; rfl)) (dps_mks (mks_notes S3.nt)), lay_mk om, lay_mks oms, (by show 1 ≤ 60; decide), _, rfl, ?_⟩
    rw [any_mk]
    have o3 : Off [p, l, d1, d2] H H3 := Off.of_but ((b1.trans b2).trans (But.same s3)) (by simp)
    refine ite2 (fun z => ?_) (fun z => ?_)
    · exact out xs H3 o3 S3 ((Gr.refl _ _).mono (by decide)) fun c h => h
    have nw : m ∉ xs.map Nx.m := fun q => z (decide_eq_true q)
    have eq3 := s3 _ _ eq2
    have et3 := s3 _ _ et
    have eg3 := s3 _ _ eg
    refine ⟨_, rfl, .inl ⟨rfl, _, .inl (.inl S3.el)⟩, _, rfl, _, rfl, (by show 4 ≤ sizeLine; decide), fun n hn => ?_⟩
    have s4 := same_new (o := .lst [.ref q, .ref q2, .bl true, .int 0]) hn
    have en : (upd H3 n (.lst [.ref q, .ref q2, .bl true, .int 0])) n = some (.lst [.ref q, .ref q2, .bl true, .int 0]) := upd_same
    generalize (upd H3 n (.lst [.ref q, .ref q2, .bl true, .int 0])) = H4 at s4 en ⊢
    have S4 := S3.same s4
    have fn : H n = none := by
      cases e : H n with
      | none => rfl
      | some u =>
        have np : n ≠ p := pot_ne S3.pot hn
        have := s3 _ _ (b2 _ _ np (b1 _ _ np e))
        rw [hn] at this
        cases this
    refine ⟨l, _, _, rfl, rfl, S4.el, (by rw [List.length_map, sizeLine_eq]; omega), ?_⟩
    have el5 : (upd H4 l (.lst ((xs.map fun y => V.ref y.n) ++ [V.ref n]))) l = some (.lst ((xs.map fun y => V.ref y.n) ++ [V.ref n])) := upd_same
    have o5 : Off [l] H4 (upd H4 l (.lst ((xs.map fun y => V.ref y.n) ++ [V.ref n]))) := Off.upd (List.mem_singleton.mpr rfl)
    generalize (upd H4 l (.lst ((xs.map fun y => V.ref y.n) ++ [V.ref n]))) = H5 at el5 o5 ⊢
    -- what stands behind the new note
    have lno : ∀ a ∈ [l], ∃ ys, H4 a = some (.lst ys) := fun a ha => ⟨xs.map fun y => V.ref y.n, by rw [List.mem_singleton.mp ha]; exact S4.el⟩
    have lno2 : ∀ a ∈ [l], (∀ xs, H4 a ≠ some (.tup xs)) ∧ ∀ C d fs, H4 a ≠ some (.ins C d fs) := fun a ha => by
      obtain ⟨ys, e⟩ := lno a ha
      rw [e]
      exact ⟨fun _ q => (nomatch Option.some.inj q), fun _ _ _ q => (nomatch Option.some.inj q)⟩
    have nl : ∀ {z : Addr} {u : HO}, z ≠ l → H4 z = some u → H5 z = some u := fun hz e => o5 _ _ (by rw [List.mem_singleton]; exact hz) e
    have ne_l : ∀ {z : Addr} {xs : List V}, H4 z = some (.tup xs) → z ≠ l := fun e q => by rw [q, S4.el] at e; cases e
    have nln : n ≠ l := fun q => by rw [q, S3.el] at hn; cases hn
    have el1 : H1 l ≠ none := by rw [S1.el]; simp
    have tl : t ≠ l := fun q => el1 (q ▸ ft)
    have gl : g ≠ l := fun q => el1 (q ▸ fg)
    have his5 := S4.his.off o5 lno
    have em5 := nl (ne_l (s4 _ _ em3)) (s4 _ _ em3)
    have eq5 := nl (ne_l (s4 _ _ eq3)) (s4 _ _ eq3)
    have et5 := nl tl (s4 _ _ et3)
    have eg5 := nl gl (s4 _ _ eg3)
    have en5 := nl nln en
    have er5 := nl S4.rl S4.er
    have bd5 := S4.bd.off o5 lno2
    obtain ⟨pi, pj, ep4, p0, p1, p2⟩ := id S4.pot
    have pot5 : PotAt H5 p := ⟨pi, pj, nl (Ne.symm S4.lp) ep4, p0, p1, p2⟩
    have nts5 : ∀ y ∈ xs, Note1 H5 y := fun y hy => (S4.nt y hy).off o5 (by
      rw [List.mem_singleton]
      intro q
      have := (S4.nt y hy).en
      rw [q, S4.el] at this
      exact refs_no (Option.some.inj this)) (by rw [List.mem_singleton]; exact (S4.tp y hy).2.2.1) (by rw [List.mem_singleton]; exact (S4.tp y hy).2.2.2) fun a ha => (lno2 a ha).1
    obtain ⟨dx5, hx5⟩ := id his5.hs
    refine ⟨_, rfl, x, dx5, _, rfl, hx5, (no3h (by decide +kernel) (by decide +kernel) (by decide +kernel)), _, rfl, _, rfl, _, rfl, _, rfl, p, q2, ts, hs, bs.length, rfl, pot5, ⟨t, g, nt, ng, eq5, et5, eg5⟩, oF, ev, w1, w2, n1, n40, fun f H6 b6 pot6 fp => ?_⟩
    have n6 : ∀ {z : Addr} {u : HO}, z ≠ p → H5 z = some u → H6 z = some u := fun hz e => b6 _ _ hz e
    have pno : ∀ a ∈ [p], ∃ ys, H5 a = some (.lst ys) := fun a ha => by
      obtain ⟨i, j, e, _⟩ := pot5
      exact ⟨_, by rw [List.mem_singleton.mp ha]; exact e⟩
    have his6 := his5.off b6.toOff pno
    have em6 := n6 (pot5.ne_of em5 fun _ _ q => (nomatch q)) em5
    have bd6 := bd5.off b6.toOff fun a ha => by rw [List.mem_singleton.mp ha]; exact pot_no pot5
    -- the new entry
    have okn : Okp bs.length (ts, hs) := ⟨oF, c1, c2, ev, w1, w2⟩
    let y : Nx := ⟨n, q, q2, t, g, f, ⟨m, ts, hs, 0⟩⟩
    refine ⟨x, b, d1, d2, q, xs, y, bs, rfl, his6, lt, em6, om, nw, rfl, fp, oF, bd6, fits_okp okn n1, fun H7 o7 his7 => ?_⟩
    have dno : ∀ a ∈ [d1, d2], ∃ kvs, H6 a = some (.dT kvs) := fun a ha => by
      rcases List.mem_cons.mp ha with rfl | ha
      · exact ⟨_, his6.e1⟩
      · rw [List.mem_singleton.mp ha]
        exact ⟨_, his6.e2⟩
    have n7 : ∀ {z : Addr} {u : HO}, H6 z = some u → (∀ kvs, u ≠ .dT kvs) → H7 z = some u := fun e hu => o7 _ _ (fun q => by
      obtain ⟨kvs, e2⟩ := dno _ q
      rw [e] at e2
      exact hu kvs (Option.some.inj e2)) e
    have dno2 : ∀ a ∈ [d1, d2], (∀ xs, H6 a ≠ some (.tup xs)) ∧ ∀ C d fs, H6 a ≠ some (.ins C d fs) := fun a ha => by
      obtain ⟨kvs, e⟩ := dno a ha
      rw [e]
      exact ⟨fun _ q => (nomatch Option.some.inj q), fun _ _ _ q => (nomatch Option.some.inj q)⟩
    have l7 : ∀ {z : Addr} {ys : List V}, z ≠ p → H5 z = some (.lst ys) → H7 z = some (.lst ys) := fun hz e => n7 (n6 hz e) fun _ q => (nomatch q)
    have t7 : ∀ {z : Addr} {ys : List V}, H5 z = some (.tup ys) → H7 z = some (.tup ys) := fun e => n7 (n6 (pot5.ne_of e fun _ _ q => (nomatch q)) e) fun _ q => (nomatch q)
    have np : n ≠ p := pot_ne S3.pot hn
    have ny : Note1 H7 y := ⟨l7 np en5, t7 em5, t7 eq5, l7 nt et5, l7 ng eg5⟩
    have o07 : Off [p, l, d1, d2] H H7 := by
      refine ((o3.trans (Off.same s4)).trans (o5.mono fun z hz => ?_)).trans ((b6.toOff.mono fun z hz => ?_).trans (o7.mono fun z hz => ?_))
      · rw [List.mem_singleton.mp hz]; simp
      · rw [List.mem_singleton.mp hz]; simp
      · rcases List.mem_cons.mp hz with rfl | hz
        · simp
        · rw [List.mem_singleton.mp hz]; simp
    show Q (.bl (decide (V.non = V.non))) H7
    rw [decide_eq_true rfl]
    obtain ⟨qi, qj, ep6, q0, q1, q2'⟩ := id pot6
    refine out (xs ++ [y]) H7 o07 ⟨⟨qi, qj, n7 ep6 fun _ q => (nomatch q), q0, q1, q2'⟩, his7, bd6.off o7 dno2, hS.okb, l7 hS.rp er5, ?_, fun z hz => ?_, ?_, fun z hz => ?_, hS.rp, hS.rl, hS.lp, fun z hz => ?_⟩ ⟨⟨[n], by rw [List.map_append]; rfl, Nat.le_refl _, fun a ha => by rw [List.mem_singleton.mp ha]; exact fn⟩, fun z hz => ?_⟩ fun c h z hz => ?_
    · rw [List.map_append]
      exact l7 hS.lp el5
    · rcases List.mem_append.mp hz with hz | hz
      · have k := nts5 z hz
        exact ⟨l7 (pot5.ne_of k.en fun _ _ q => by injection q with q; cases q) k.en, t7 k.ea, t7 k.eq, l7 (hS.tp z hz).1 k.et, l7 (hS.tp z hz).2.1 k.eg⟩
      · rw [List.mem_singleton.mp hz]
        exact ny
    · rw [List.map_append]
      refine List.nodup_append.mpr ⟨hS.nd, by simp, fun u hu v hv q => ?_⟩
      obtain ⟨z, hz, rfl⟩ := List.mem_map.mp hu
      have e1 : v = n := by simpa using hv
      have := (S3.nt z hz).en
      rw [q, e1, hn] at this
      cases this
    · rcases List.mem_append.mp hz with hz | hz
      · exact hS.okp z hz
      · rw [List.mem_singleton.mp hz]
        exact okn
    · rcases List.mem_append.mp hz with hz | hz
      · exact hS.tp z hz
      · rw [List.mem_singleton.mp hz]
        exact ⟨nt, ng, tl, gl⟩
    · rcases List.mem_append.mp hz with hz | hz
      · exact .inl ⟨z, hz, rfl, rfl⟩
      · have back : ∀ a, a ≠ p → H1 a = none → H a = none := fun a na f => by
          cases e : H a with
          | none => rfl
          | some u =>
            rw [b1 _ _ na e] at f
            cases f
        rw [List.mem_singleton.mp hz]
        exact .inr ⟨back t nt ft, back g ng fg⟩
    · rcases List.mem_append.mp hz with hz | hz
      · exact h z hz
      · rw [List.mem_singleton.mp hz]
        exact Nat.zero_le _
end
end K33
namespace K33
open PySem PySem.Spec PyProof.Rows L2 Par X
theorem seq_outT {c : TT} {t u rest : TS} {D : Ends} {σ : L2.St} {H : Hp} (R : Bool → Hp → Prop) (out : ∀ b H', R b H' → (if b = true then t { D with nx := rest D } σ H' else u { D with nx := rest D } σ H')) (h : ∀ Q' : Bool → Hp → Prop, (∀ b H', R b H' → Q' b H') → c σ H Q') : tSeq (tIfS c t u) rest D σ H := h _ out
/-- what the law changes: the pot, its list, the history's dicts, its notes -/
def Mm (p l d1 d2 : Addr) (xs : List Nx) : List Addr := p :: l :: d1 :: d2 :: xs.map Nx.n
theorem St.there {C CF CB : Addr} {H : Hp} {p l r x b d1 d2 : Addr} {bs : List Int} {xs : List Nx} (h : St C CF CB H p l r x b d1 d2 bs xs) : ∀ a ∈ Mm p l d1 d2 xs, H a ≠ none := by
  intro a ha
  rcases List.mem_cons.mp ha with rfl | ha
  · obtain ⟨_, _, e, _⟩ := h.pot
    rw [e]; simp
  rcases List.mem_cons.mp ha with rfl | ha
  · rw [h.el]; simp
  rcases List.mem_cons.mp ha with rfl | ha
  · rw [h.his.e1]; simp
  rcases List.mem_cons.mp ha with rfl | ha
  · rw [h.his.e2]; simp
  obtain ⟨y, hy, rfl⟩ := List.mem_map.mp ha
  rw [(h.nt y hy).en]; simp
theorem Gr.mm {H : Hp} {xs ys : List Nx} {k : Nat} {p l d1 d2 : Addr} (h : Gr H xs ys k) : ∀ z ∈ Mm p l d1 d2 ys, z ∈ Mm p l d1 d2 xs ∨ H z = none := by
  intro z hz
  unfold Mm at hz ⊢
  rcases List.mem_cons.mp hz with rfl | hz
  · exact .inl (by simp)
  rcases List.mem_cons.mp hz with rfl | hz
  · exact .inl (by simp)
  rcases List.mem_cons.mp hz with rfl | hz
  · exact .inl (by simp)
  rcases List.mem_cons.mp hz with rfl | hz
  · exact .inl (by simp)
  rcases h.sub z hz with q | q
  · exact .inl (List.mem_cons_of_mem _ (List.mem_cons_of_mem _ (List.mem_cons_of_mem _ (List.mem_cons_of_mem _ q))))
  · exact .inr q
theorem Gr.up {H : Hp} {xs ys : List Nx} {k : Nat} {p l d1 d2 : Addr} (h : Gr H xs ys k) : ∀ z ∈ Mm p l d1 d2 xs, z ∈ Mm p l d1 d2 ys := by
  intro z hz
  obtain ⟨⟨ns, e, _⟩, _⟩ := h
  unfold Mm at hz ⊢
  rw [e]
  simp only [List.mem_cons, List.mem_append] at hz ⊢
  rcases hz with q | q | q | q | q <;> simp [q]
/-- one step behind the other -/
theorem step_chain {C CF CB : Addr} {H H1 H2 : Hp} {p l r x b d1 d2 : Addr} {bs : List Int} {xs ys zs : List Nx} {k m : Nat} (o : Off (Mm p l d1 d2 xs) H H1) (s1 : St C CF CB H1 p l r x b d1 d2 bs ys) (g : Gr H xs ys k) (o2 : Off (Mm p l d1 d2 ys) H1 H2) (g2 : Gr H1 ys zs m) :
    Off (Mm p l d1 d2 xs) H H2 ∧ Gr H xs zs (k + m) :=
  ⟨o.step o2 g.mm, Gr.trans o (fun a ha _ => s1.there a (g.up a ha)) g g2⟩
theorem St.draw {C CF CB : Addr} {H H1 : Hp} {p l r x b d1 d2 : Addr} {bs : List Int} {xs : List Nx} (h : St C CF CB H p l r x b d1 d2 bs xs) (b1 : But p H H1) (p1 : PotAt H1 p) : Off (Mm p l d1 d2 xs) H H1 ∧ St C CF CB H1 p l r x b d1 d2 bs xs ∧ Gr H xs xs 0 :=
  ⟨Off.of_but b1 (by unfold Mm; simp), h.but b1 p1, .refl _ _⟩
theorem St.switched {C CF CB : Addr} {H H1 : Hp} {p l r x b d1 d2 : Addr} {bs : List Int} {xs : List Nx} (h : St C CF CB H p l r x b d1 d2 bs xs) {i : Nat} {y : Nx} (hy : xs[i]? = some y) (o : Off [d2, y.n] H H1) : Off (Mm p l d1 d2 xs) H H1 ∧ Gr H xs (xs.set i y.sw) 0 :=
  ⟨o.mono fun z hz => by
    unfold Mm
    rcases List.mem_cons.mp hz with rfl | hz
    · simp
    · rw [List.mem_singleton.mp hz]
      exact List.mem_cons_of_mem _ (List.mem_cons_of_mem _ (List.mem_cons_of_mem _ (List.mem_cons_of_mem _ (List.mem_map.mpr ⟨y, List.mem_of_getElem? hy, rfl⟩)))), ⟨⟨[], by rw [sw_ns hy, List.append_nil], Nat.le_refl _, fun a ha => nomatch ha⟩, fun z hz => by
    rcases List.mem_or_eq_of_mem_set hz with q | rfl
    · exact .inl ⟨z, q, rfl, rfl⟩
    · exact .inl ⟨y, List.mem_of_getElem? hy, rfl, rfl⟩⟩⟩
section
variable {P : Program} {w : World} {K : PySem.W.Frag} {mg : Str → Option Value} {base : Heap}
/-- one step: an entry or a switch -/
def spStep (C CF CB : Addr) : Sp := fun vs H Q _ => ∃ (p l r x b d1 d2 : Addr) (bs : List Int) (xs : List Nx), vs = [.ref p, .ref x, .ref l, .int (bs.length : Nat)] ∧ St C CF CB H p l r x b d1 d2 bs xs ∧ xs.length < 300 ∧ ∀ ys H', Off (Mm p l d1 d2 xs) H H' → St C CF CB H' p l r x b d1 d2 bs ys → Gr H xs ys 1 → (∀ c, Bk c xs → Bk (c + 1) ys) → Q (.bl true) H'
abbrev nStep : List Str := ["_law_pot_here", "_law_tale", "_law_notes", "_law_width_here"]
theorem scStep : FnScope nStep ["_law_pot_here", "_law_tale", "_law_notes", "_law_width_here"] (defScope slStep) := ⟨rfl, rfl, rfl, by decide +kernel, rfl, by decide +kernel, by decide +kernel⟩
theorem ok_step {f C CF CB : Addr} {fd : FuncData} (F : Fun K "_law_step" "_law_step" slStep f fd) (B : Bl mg) (DD : Has P w K mg base "_law_draw" 2 ["_law_pot_here", "_law_many"] spDraw) (DE : Has P w K mg base "_law_enter" 10 ["_law_pot_here", "_law_tale", "_law_notes", "_law_width_here"] (spLEnter C CF CB)) (DS : Has P w K mg base "_law_switch" 10 ["_law_tale", "_law_note"] (spLSw C CF CB)) : FnOk P w K mg base CX0 11 f fd ["_law_pot_here", "_law_tale", "_law_notes", "_law_width_here"] (spStep C CF CB) := by
  obtain ⟨fD, fdD, GD, mD, kD, bD⟩ := DD
  obtain ⟨fE, fdE, GE, mE, kE, bE⟩ := DE
  obtain ⟨fS, fdS, GS, mS, kS, bS⟩ := DS
  refine F.ok scStep (fun vs H Q E h => ?_) (fun cdv A outer s H vs Q E hr h => ?_)
  · obtain ⟨p, l, r, x, b, d1, d2, bs, xs, rfl, _⟩ := h
    rfl
  · obtain ⟨p, l, r, x, b, d1, d2, bs, xs, rfl, hS, lt, out⟩ := h
    have r2 : Room 2 _ := hr.mono (by decide)
    refine ⟨_, (pss_cons (ps_if (PW.pt (pw_or (pt_cmpR (op_eqNil hr.units0) (pv 2) (pe_lst pa_nil) (nomark _)) (pw_or1 (pt_cmpR op_lt (pe_call GD r2 (by rfl) mD kD bD .nil pass0 (pa_cons (pv 0) (pa_cons pe_int pa_nil))) pe_int (nomark _))))) (pss_one (ps_ret (pe_call GE hr (by rfl) mE kE bE .nil pass0 (pa_cons (pv 0) (pa_cons (pv 1) (pa_cons (pv 2) (pa_cons (pv 3) pa_nil))))))) pss_nil)
      (pss_one (ps_ret (pe_call GS hr (by rfl) mS kS bS .nil pass0 (pa_cons (pv 1) (pa_cons (pe_ix ix_list (pv 2) (pe_call GD r2 (by rfl) mD kD bD .nil pass0 (pa_cons (pv 0) (pa_cons (pe_callB call_len_seq (by rfl) B.len PySem.boot_len (pa_cons (pv 2) pa_nil)) pa_nil))) (fun _ _ => rfl)) pa_nil)))))), ?_⟩
    refine seq_outT (R := fun c H' => But p H H' ∧ PotAt H' p ∧ (c = false → 1 ≤ xs.length)) ?_ ?_
    · rintro c H1 ⟨b1, p1, ne⟩
      obtain ⟨o1, S1, g1⟩ := hS.draw b1 p1
      refine ite2 (fun z => ?_) (fun z => ?_)
      · refine ⟨_, rfl, _, rfl, _, rfl, _, rfl, p, l, r, x, b, d1, d2, bs, xs, rfl, S1, lt, fun ys H2 o2 S2 g2 k2 => ?_⟩
        obtain ⟨o3, g3⟩ := step_chain o1 S1 g1 (o2.mono fun z hz => by unfold Mm; simp only [List.mem_cons, List.not_mem_nil, or_false] at hz ⊢; rcases hz with q | q | q | q <;> simp [q]) g2
        exact out ys H2 o3 S2 (by rw [Nat.zero_add] at g3; exact g3) fun c h => (k2 c h).mono (Nat.le_succ _)
      have x1 := ne (by simpa using z)
      refine ⟨_, rfl, _, rfl, _, rfl, _, rfl, l, _, rfl, .inl (SqL.of S1.el), p, ((xs.map fun y => V.ref y.n).length : Nat), rfl, S1.pot, by rw [List.length_map]; omega, by rw [List.length_map]; omega, fun d H2 e0 e1 b2 pot2 => ?_⟩
      obtain ⟨o2, S2, g2⟩ := S1.draw b2 pot2
      rw [List.length_map] at e1
      obtain ⟨i, rfl⟩ : ∃ i : Nat, d = ((i : Nat) : Int) := ⟨d.toNat, by omega⟩
      obtain ⟨y, hy⟩ : ∃ y, xs[i]? = some y := ⟨_, List.getElem?_eq_getElem (by omega)⟩
      refine ⟨l, _, _, .ref y.n, rfl, rfl, SqL.of S2.el, atI_nat (by rw [List.getElem?_map, hy]; rfl), p, l, r, x, b, d1, d2, bs, xs, i, y, rfl, S2, hy, fun H3 o3 S3 => ?_⟩
      obtain ⟨o3', g3⟩ := S2.switched hy o3
      obtain ⟨o4, g4⟩ := step_chain o1 S1 g1 o2 g2
      obtain ⟨o5, g5⟩ := step_chain o4 S2 g4 o3' g3
      exact out _ H3 o5 S3 (g5.mono (by omega)) fun c h => h.sw hy
    · intro Q' hQ'
      refine ⟨_, rfl, (by show 0 ≤ sizeLine; decide), fun e0 he0 => ?_⟩
      have s1 := same_new (o := .lst []) he0
      have ee : (upd H e0 (.lst [])) e0 = some (.lst []) := upd_same
      generalize (upd H e0 (.lst [])) = H1 at s1 ee ⊢
      have S1 := hS.same s1
      refine ⟨l, e0, _, rfl, rfl, S1.el, ee, _, rfl, ?_⟩
      by_cases z : (xs.map fun y => V.ref y.n).isEmpty = true
      · rw [if_pos z]
        exact iteT (hQ' _ _ ⟨But.same s1, S1.pot, fun q => nomatch q⟩)
      · rw [if_neg z]
        have xl : 1 ≤ xs.length := by
          rcases xs with _ | ⟨y, xs⟩
          · exact absurd rfl z
          · simp
        exact iteF ⟨_, rfl, p, 3, rfl, S1.pot, by decide, by decide, fun d H2 e0 e1 b2 pot2 => ⟨_, _, rfl, rfl, _, rfl, hQ' _ _ ⟨(But.same s1).trans b2, pot2, fun _ => xl⟩⟩⟩
/-- some steps -/
def spSteps (C CF CB : Addr) : Sp := fun vs H Q _ => ∃ (p l r x b d1 d2 : Addr) (bs : List Int) (xs : List Nx), vs = [.ref p, .ref x, .ref l, .int (bs.length : Nat)] ∧ St C CF CB H p l r x b d1 d2 bs xs ∧ xs.length < 250 ∧ ∀ ys H', Off (Mm p l d1 d2 xs) H H' → St C CF CB H' p l r x b d1 d2 bs ys → Gr H xs ys 4 → (∀ c, Bk c xs → Bk (c + 4) ys) → Q (.bl true) H'
abbrev nSteps : List Str := ["_law_pot_here", "_law_tale", "_law_notes", "_law_width_here", "_law_at", "_law_other", "_law_k"]
theorem scSteps : FnScope nSteps ["_law_pot_here", "_law_tale", "_law_notes", "_law_width_here"] (defScope slSomeSteps) := ⟨rfl, rfl, rfl, by decide +kernel, rfl, by decide +kernel, by decide +kernel⟩
theorem ok_steps {f C CF CB : Addr} {fd : FuncData} (F : Fun K "_law_some_steps" "_law_some_steps" slSomeSteps f fd) (B : Bl mg) (DD : Has P w K mg base "_law_draw" 2 ["_law_pot_here", "_law_many"] spDraw) (DT : Has P w K mg base "_law_step" 11 ["_law_pot_here", "_law_tale", "_law_notes", "_law_width_here"] (spStep C CF CB)) (DS : Has P w K mg base "_law_switch" 10 ["_law_tale", "_law_note"] (spLSw C CF CB)) : FnOk P w K mg base CX0 12 f fd ["_law_pot_here", "_law_tale", "_law_notes", "_law_width_here"] (spSteps C CF CB) := by
  obtain ⟨fD, fdD, GD, mD, kD, bD⟩ := DD
  obtain ⟨fT, fdT, GT, mT, kT, bT⟩ := DT
  obtain ⟨fS, fdS, GS, mS, kS, bS⟩ := DS
  refine F.ok scSteps (fun vs H Q E h => ?_) (fun cdv A outer s H vs Q E hr h => ?_)
  · obtain ⟨p, l, r, x, b, d1, d2, bs, xs, rfl, _⟩ := h
    rfl
  · obtain ⟨p, l, r, x, b, d1, d2, bs, xs, rfl, hS, lt, out⟩ := h
    have r2 : Room 2 _ := hr.mono (by decide)
    have r10 : Room 10 _ := hr.mono (by decide)
    refine ⟨_, (pss_cons (ps_if (PW.pt (pw_and (pt_cmpR op_gt (pe_callB call_len_seq (by rfl) B.len PySem.boot_len (pa_cons (pv 2) pa_nil)) pe_int (nomark _)) (pw_and1 (pt_cmpR op_eq (pe_call GD r2 (by rfl) mD kD bD .nil pass0 (pa_cons (pv 0) (pa_cons pe_int pa_nil))) pe_int (nomark _))))) (pss_cons (ps_set (i := 4) scSteps.nd rfl (Or.inl rfl) (pe_call GD r2 (by rfl) mD kD bD .nil pass0 (pa_cons (pv 0) (pa_cons (pe_callB call_len_seq (by rfl) B.len PySem.boot_len (pa_cons (pv 2) pa_nil)) pa_nil))))
      (pss_cons (ps_set (i := 5) scSteps.nd rfl (Or.inl rfl) (pe_op op_mod (pe_op op_add (pe_op op_add (pv 4) pe_int) (pe_call GD r2 (by rfl) mD kD bD .nil pass0 (pa_cons (pv 0) (pa_cons (pe_op op_sub (pe_callB call_len_seq (by rfl) B.len PySem.boot_len (pa_cons (pv 2) pa_nil)) pe_int) pa_nil)))) (pe_callB call_len_seq (by rfl) B.len PySem.boot_len (pa_cons (pv 2) pa_nil))))
      (pss_one (ps_ret (pe_and (pe_call GS r10 (by rfl) mS kS bS .nil pass0 (pa_cons (pv 1) (pa_cons (pe_ix ix_list (pv 2) (pv 4) (fun _ _ => rfl)) pa_nil))) (pe_one (pe_call GS r10 (by rfl) mS kS bS .nil pass0 (pa_cons (pv 1) (pa_cons (pe_ix ix_list (pv 2) (pv 5) (fun _ _ => rfl)) pa_nil))))))))) pss_nil)
      (pss_one (ps_ret (pe_callB (cr_all rfl) (by rfl) B.all (by decide +kernel) (pa_cons (pe_lc (own := [("_law_k", 6)]) (g := gName 6) (te := tCall (spStep C CF CB) [] E0 (tCons (tVar 0) (tCons (tVar 1) (tCons (tVar 2) (tCons (tVar 3) tNil))))) rfl scSteps.nd (pi_range1 (by rfl) B.range (pa_cons (pe_call GD r2 (by rfl) mD kD bD .nil pass0 (pa_cons (pv 0) (pa_cons pe_int pa_nil))) pa_nil)) (blkOk_by (own := [("_law_k", 6)]) (N := nSteps) (sc := defScope slSomeSteps) (by decide +kernel)) (fun _ _ _ _ _ => (pg_name (i := 6) scSteps.nd rfl (Or.inl rfl))) (fun _ _ _ _ _ => pts_nil) (fun _ _ _ _ _ => by exact (pe_call GT hr (by rfl) mT kT bT .nil pass0 (pa_cons (pv 0) (pa_cons (pv 1) (pa_cons (pv 2) (pa_cons (pv 3) pa_nil))))))) pa_nil))))), ?_⟩
    refine seq_outT (R := fun c H' => But p H H' ∧ PotAt H' p ∧ (c = true → 2 ≤ xs.length)) ?_ ?_
    · rintro c H1 ⟨b1, p1, ne⟩
      obtain ⟨o1, S1, g1⟩ := hS.draw b1 p1
      refine ite2 (fun z => ?_) (fun z => ?_)
      · have x2 := ne z
        refine ⟨_, rfl, _, rfl, l, _, rfl, .inl (SqL.of S1.el), p, ((xs.map fun y => V.ref y.n).length : Nat), rfl, S1.pot, by rw [List.length_map]; omega, by rw [List.length_map]; omega, fun d H2 e0 e1 b2 pot2 => ?_⟩
        obtain ⟨o2, S2, g2⟩ := S1.draw b2 pot2
        rw [List.length_map] at e1
        obtain ⟨i, rfl⟩ : ∃ i : Nat, d = ((i : Nat) : Int) := ⟨d.toNat, by omega⟩
        refine ⟨_, rfl, _, _, rfl, rfl, _, rfl, _, rfl, l, _, rfl, .inl (SqL.of S2.el), _, _, rfl, rfl, p, _, rfl, S2.pot, by rw [List.length_map]; omega, by rw [List.length_map]; omega, fun d H3 f0 f1 b3 pot3 => ?_⟩
        obtain ⟨o3, S3, g3⟩ := S2.draw b3 pot3
        rw [List.length_map] at f1
        refine ⟨_, _, rfl, rfl, _, rfl, l, _, rfl, .inl (SqL.of S3.el), _, _, rfl, rfl, by rw [List.length_map]; omega, ?_⟩
        rw [List.length_map]
        obtain ⟨j, hj⟩ : ∃ j : Nat, (((i : Nat) : Int) + 1 + d) % ((xs.length : Nat) : Int) = ((j : Nat) : Int) := ⟨((((i : Nat) : Int) + 1 + d) % ((xs.length : Nat) : Int)).toNat, by
          have := Int.emod_nonneg (((i : Nat) : Int) + 1 + d) (b := ((xs.length : Nat) : Int)) (by omega)
          omega⟩
        have jl : j < xs.length := by
          have := Int.emod_lt_of_pos (((i : Nat) : Int) + 1 + d) (b := ((xs.length : Nat) : Int)) (by omega)
          omega
        rw [show (fun (i j : Int) => V.int (i % j)) (((i : Nat) : Int) + 1 + d) ((xs.length : Nat) : Int) = V.int ((j : Nat) : Int) from congrArg V.int hj]
        obtain ⟨y, hy⟩ : ∃ y, xs[i]? = some y := ⟨_, List.getElem?_eq_getElem (by omega)⟩
        refine ⟨_, rfl, _, rfl, _, rfl, l, _, _, .ref y.n, rfl, rfl, SqL.of S3.el, atI_nat (by rw [List.getElem?_map, hy]; rfl), p, l, r, x, b, d1, d2, bs, xs, i, y, rfl, S3, hy, fun H4 o4 S4 => ⟨_, rfl, iteT ?_⟩⟩
        obtain ⟨o4', g4⟩ := S3.switched hy o4
        obtain ⟨w, hw⟩ : ∃ w, (xs.set i y.sw)[j]? = some w := ⟨_, List.getElem?_eq_getElem (by rw [List.length_set]; exact jl)⟩
        refine ⟨_, rfl, _, rfl, _, rfl, l, _, _, .ref w.n, rfl, rfl, SqL.of S4.el, atI_nat (by rw [List.getElem?_map, hw]; rfl), p, l, r, x, b, d1, d2, bs, _, j, w, rfl, S4, hw, fun H5 o5 S5 => ?_⟩
        obtain ⟨o5', g5⟩ := S4.switched hw o5
        obtain ⟨q1, k1⟩ := step_chain o1 S1 g1 o2 g2
        obtain ⟨q2, k2⟩ := step_chain q1 S2 k1 o3 g3
        obtain ⟨q3, k3⟩ := step_chain q2 S3 k2 o4' g4
        obtain ⟨q4, k4⟩ := step_chain q3 S4 k3 o5' g5
        exact out _ H5 q4 S5 (k4.mono (by omega)) fun c h => ((h.sw hy).sw hw).mono (by omega)
      · refine ⟨_, rfl, p, 5, rfl, S1.pot, by decide, by decide, fun d H2 e0 e1 b2 pot2 => ?_⟩
        obtain ⟨o2, S2, g2⟩ := S1.draw b2 pot2
        obtain ⟨n, rfl⟩ : ∃ n : Nat, d = ((n : Nat) : Int) := ⟨d.toNat, by omega⟩
        refine ⟨_, rfl, by omega, by omega, fun D hD => ?_⟩
        rw [Int.toNat_natCast]
        obtain ⟨q1, k1⟩ := step_chain o1 S1 g1 o2 g2
        have fD : ∀ {a : Addr}, H2 a ≠ none → D ≠ a := fun h q => h (q ▸ hD)
        refine lc_range (lo := 0) (n := n) (fun i H' => ∃ ys, Off (Mm p l d1 d2 xs) H2 H' ∧ St C CF CB H' p l r x b d1 d2 bs ys ∧ Gr H2 xs ys i ∧ (∀ c, Bk c xs → Bk (c + i) ys) ∧ H' D = some (.lst ((List.replicate i true).map V.bl)) ∧ D ∉ Mm p l d1 d2 ys ∧ ∀ y ∈ ys, y.t ≠ D ∧ y.g ≠ D) ⟨xs, Off.same (same_new hD), S2.same (same_new hD), .refl _ _, fun c h => h, upd_same, fun q => S2.there D q hD, fun y hy => ⟨fun q => (by have := (S2.nt y hy).et; rw [q, hD] at this; cases this), fun q => (by have := (S2.nt y hy).eg; rw [q, hD] at this; cases this)⟩⟩ ?_ ?_
        · rintro i H3 hi ⟨ys, o3, S3, g3, k3, hD3, dn, dt⟩
          refine ⟨rfl, yesT ?_⟩
          refine ⟨_, rfl, _, rfl, _, rfl, _, rfl, p, l, r, x, b, d1, d2, bs, ys, rfl, S3, by have := g3.len; omega, fun zs H4 o4 S4 g4 k4 => ?_⟩
          have hD4 := o4 _ _ dn hD3
          obtain ⟨q2, k2⟩ := step_chain o3 S3 g3 o4 g4
          have sD : ∀ b o, b ≠ D → H4 b = some o → (upd H4 D (.lst ((List.replicate i true).map V.bl ++ [.bl true]))) b = some o := fun b o nb e => by rw [upd_ne nb]; exact e
          have k5 : Off [D] H4 (upd H4 D (.lst ((List.replicate i true).map V.bl ++ [.bl true]))) := Off.upd (List.mem_singleton.mpr rfl)
          have dn4 : D ∉ Mm p l d1 d2 zs := fun q => by
            rcases g4.mm D q with z | z
            · exact dn z
            · rw [hD3] at z
              cases z
          have dt4 : ∀ y ∈ zs, y.t ≠ D ∧ y.g ≠ D := fun y hy => by
            rcases g4.2 y hy with ⟨z, hz, a1, a2⟩ | ⟨a1, a2⟩
            · rw [a1, a2]
              exact dt z hz
            · exact ⟨fun q => (by rw [q, hD3] at a1; cases a1), fun q => (by rw [q, hD3] at a2; cases a2)⟩
          have mn : ∀ a ∈ Mm p l d1 d2 zs, a ≠ D := fun a ha q => dn4 (q ▸ ha)
          have S5 : St C CF CB (upd H4 D (.lst ((List.replicate i true).map V.bl ++ [.bl true]))) p l r x b d1 d2 bs zs := S4.acc (D := D) ⟨_, hD4⟩ (mn p (by unfold Mm; simp)) (mn l (by unfold Mm; simp)) (fun y hy => mn y.n (by
            unfold Mm
            exact List.mem_cons_of_mem _ (List.mem_cons_of_mem _ (List.mem_cons_of_mem _ (List.mem_cons_of_mem _ (List.mem_map.mpr ⟨y, hy, rfl⟩)))))) (fun q => by
            have := S2.er
            rw [q, hD] at this
            cases this) dt4 k5
          refine ⟨_, hD4, by rw [List.length_map, List.length_replicate]; exact small1000 (by omega), zs, q2.step k5 (fun z hz => .inr (by rw [List.mem_singleton.mp hz]; exact hD)), S5, k2, fun c h => ?_, ?_, dn4, dt4⟩
          · have := k4 _ (k3 c h)
            exact this
          · rw [upd_same, List.replicate_succ', List.map_append]
            rfl
        · rintro H3 ⟨ys, o3, S3, g3, k3, hD3, _, _⟩
          refine ⟨D, _, rfl, SqL.of hD3, ?_⟩
          have eall : ∀ k, (List.replicate k true).all id = true := fun k => by
            rw [List.all_eq_true]
            intro b hb
            rw [List.eq_of_mem_replicate hb]
            rfl
          rw [eall]
          obtain ⟨q2, k2⟩ := step_chain q1 S2 k1 o3 g3
          exact out ys H3 q2 S3 (k2.mono (by omega)) fun c h => (k3 c h).mono (by omega)
    · intro Q' hQ'
      refine ⟨_, rfl, l, _, rfl, .inl (SqL.of hS.el), _, _, rfl, rfl, _, rfl, ?_⟩
      rw [List.length_map]
      refine ite2 (fun z => ?_) (fun z => ?_)
      · have x2 : 2 ≤ xs.length := by
          have := of_decide_eq_true z
          omega
        exact ⟨_, rfl, p, 3, rfl, hS.pot, by decide, by decide, fun d H2 e0 e1 b2 pot2 => ⟨rfl, _, rfl, hQ' _ _ ⟨b2, pot2, fun _ => x2⟩⟩⟩
      · exact hQ' _ _ ⟨But.refl _ _, hS.pot, fun q => nomatch q⟩
end
end K33
namespace K33
open PySem PySem.Spec PyProof.Rows L2 Par X
theorem seq_outS {a rest : TS} {D : Ends} {σ : L2.St} {H : Hp} (R : L2.St → Hp → Prop) (out : ∀ σ' H', R σ' H' → rest D σ' H') (h : ∀ N : L2.St → Hp → Prop, (∀ σ' H', R σ' H' → N σ' H') → a { D with nx := N } σ H) : tSeq a rest D σ H := h _ out
/-- History as a class -/
def HasHI (P : Program) (w : World) (K : PySem.W.Frag) (mg : Str → Option Value) (base : Heap) (C : Addr) : Prop :=
  ∃ f fd, FnOk P w K mg base CX0 2 f fd ["self", "board"] (spHIni C) ∧ Mk K C f ∧ Binds K fd ["self", "board"] []
/-- what History(..) leads to -/
theorem made_hist {C b : Addr} {H : Hp} {W : Addr → Hp → Prop} (out : ∀ x d1 d2 H', H x = none → H d1 = none → H d2 = none → d1 ≠ d2 → Same H H' → H' d1 = some (.dT []) → H' d2 = some (.dT []) → Hs C H' x b d1 d2 → W x H') :
    ∀ x dx, H x = none → H dx = none → dx ≠ x → spHIni C [.ref x, .ref b] (upd (upd H dx (.own x)) x (.ins C dx [])) (fun v H3 => v = .non ∧ W x H3) (fun _ _ _ => False) := by
  intro x dx hx hdx ne
  have s1 : Same H (upd (upd H dx (.own x)) x (.ins C dx [])) := fun z o e => by
    rw [upd_ne (ne_of_none e hx), upd_ne (ne_of_none e hdx)]
    exact e
  refine ⟨x, dx, b, rfl, upd_same, fun d1 d2 H' h1 h2 n bt e1 e2 hs => ⟨rfl, ?_⟩⟩
  exact out x d1 d2 H' hx (s1.free h1) (s1.free h2) n (fun z o e => bt z o (ne_of_none e hx) (s1 z o e)) e1 e2 hs
section
variable {P : Program} {w : World} {K : PySem.W.Frag} {mg : Str → Option Value} {base : Heap}
/-- the whole with one pot -/
def spRight : Sp := fun vs H Q _ => ∃ p : Addr, vs = [.ref p] ∧ PotAt H p ∧ ∀ H', But p H H' → Q (.bl true) H'
abbrev nRight : List Str := ["_law_pot_here", "_law_width_here", "_law_bits_here", "_law_notes", "_law_tale", "_law_turn", "_law_told", "_law_note"]
theorem scRight : FnScope nRight ["_law_pot_here"] (defScope slRight) := ⟨rfl, rfl, rfl, by decide +kernel, rfl, by decide +kernel, by decide +kernel⟩
theorem ok_right {f C CF CB : Addr} {fd : FuncData} (F : Fun K "_law_right" "_law_right" slRight f fd) (B : Bl mg) (T : HC K mg C) (DD : Has P w K mg base "_law_draw" 2 ["_law_pot_here", "_law_many"] spDraw) (DW : Has P w K mg base "_law_width" 3 ["_law_pot_here", "_law_most"] spWidth) (DZ : Has P w K mg base "_law_bits" 3 ["_law_pot_here", "_law_width_here"] spBits) (DA : Has P w K mg base "_law_started" 11 ["_law_pot_here", "_law_bits_here"] (spStarted CB)) (DH : HasHI P w K mg base C) (DM : Has P w K mg base "_law_some_steps" 12 ["_law_pot_here", "_law_tale", "_law_notes", "_law_width_here"] (spSteps C CF CB)) (DS : Has P w K mg base "_law_switch" 10 ["_law_tale", "_law_note"] (spLSw C CF CB)) (DL : HasM P w K mg base C "stamps" 2 ["self"] (spStamps C CF)) (DI : HasG P w K mg base "_law_is_told" 12 ["_law_tale", "_law_bits_here", "_law_notes"] (spTold C CF CB)) : FnG P w K mg base CX0 13 f fd ["_law_pot_here"] spRight := by
  obtain ⟨fD, fdD, GD, mD, kD, bD⟩ := DD
  obtain ⟨fW, fdW, GW, mW, kW, bW⟩ := DW
  obtain ⟨fZ, fdZ, GZ, mZ, kZ, bZ⟩ := DZ
  obtain ⟨fA, fdA, GA, mA, kA, bA⟩ := DA
  obtain ⟨fH, fdH, GH, MH, bH⟩ := DH
  obtain ⟨fM, fdM, GM, mM, kM, bM⟩ := DM
  obtain ⟨fS, fdS, GS, mS, kS, bS⟩ := DS
  obtain ⟨fL, fdL, GL, mL, bL⟩ := DL
  obtain ⟨fI, fdI, GI, mI, kI, bI⟩ := DI
  refine fnG_of F scRight (fun vs H Q E h => ?_) (fun cdv A outer s H vs Q E gs hr h => ?_)
  · obtain ⟨p, rfl, _⟩ := h
    rfl
  · obtain ⟨p, rfl, hp, out⟩ := h
    have hu := hr.units
    have r2 : Room 2 _ := hr.mono (by decide)
    have r3 : Room 3 _ := hr.mono (by decide)
    have r10 : Room 10 _ := hr.mono (by decide)
    have r11 : Room 11 _ := hr.mono (by decide)
    refine ⟨_, (pss_cons (ps_set (i := 1) scRight.nd rfl (Or.inl rfl) (pe_call GW r3 (by rfl) mW kW bW .nil pass0 (pa_cons (pv 0) (pa_cons (pe_ix ix_list (pe_lst (pa_cons pe_int (pa_cons pe_int pa_nil))) (pe_call GD r2 (by rfl) mD kD bD .nil pass0 (pa_cons (pv 0) (pa_cons pe_int pa_nil))) (fun _ _ => rfl)) pa_nil))))
      (pss_cons (ps_par (by rfl) scRight.nd (i := 2) (j := 3) rfl rfl (by decide) rfl rfl (pa_cons (pe_call GZ r3 (by rfl) mZ kZ bZ .nil pass0 (pa_cons (pv 0) (pa_cons (pv 1) pa_nil))) (pa_cons (pe_lst pa_nil) pa_nil)) (by rfl))
      (pss_cons (ps_set (i := 4) scRight.nd rfl (Or.inl rfl) (pe_make (E := E0) MH GH r3 (by rfl) T.mgC bH .nil pass0 (pa_cons (pe_call GA r11 (by rfl) mA kA bA .nil pass0 (pa_cons (pv 0) (pa_cons (pv 2) pa_nil))) pa_nil)))
      (pss_cons (ps_for PassesOwn.never rfl (pi_range1 (by rfl) B.range (pa_cons (pe_call GD r2 (by rfl) mD kD bD .nil pass0 (pa_cons (pv 0) (pa_cons pe_int pa_nil))) pa_nil)) (pg_name (i := 5) scRight.nd rfl (Or.inl rfl)) (pss_cons (ps_if (PW.pt (pw_or (pt_not (pt_val (pe_call GM hr (by rfl) mM kM bM .nil pass0 (pa_cons (pv 0) (pa_cons (pv 4) (pa_cons (pv 3) (pa_cons (pv 1) pa_nil))))))) (pw_or1 (pt_not (pt_val (pe_callG GI gs hr (by rfl) mI kI bI pass0 (pa_cons (pv 4) (pa_cons (pv 2) (pa_cons (pv 3) pa_nil))))))))) (pss_one (ps_ret pe_bl)) pss_nil)
      (pss_cons (ps_set (i := 6) scRight.nd rfl (Or.inl rfl) (pe_meth0 (pv 4) T.cl mL GL r2 bL .nil pass0))
      (pss_cons (ps_expr (pe_bm PySem.F.plainAttrs_list PySem.F.slot_list_append PySem.F.type_list_append mt_append (pv 6) (pa_cons (pe_tup (pa_cons pe_int (pa_cons pe_str (pa_cons pe_int pa_nil)))) pa_nil)))
      (pss_one (ps_expr (pe_bm0 PySem.F.plainAttrs_list PySem.F.slot_list_reverse PySem.F.type_list_reverse mt_reverse (pv 6))))))))
      (pss_cons (ps_if (pt_cmpR (op_neNil hu) (pv 3) (pe_lst pa_nil) (nomark _)) (pss_cons (ps_set (i := 7) scRight.nd rfl (Or.inl rfl) (pe_ix ix_list (pv 3) (pe_call GD r2 (by rfl) mD kD bD .nil pass0 (pa_cons (pv 0) (pa_cons (pe_callB call_len_seq (by rfl) B.len PySem.boot_len (pa_cons (pv 3) pa_nil)) pa_nil))) (fun _ _ => rfl)))
      (pss_one (ps_for PassesOwn.never rfl (pi_range1 (by rfl) B.range (pa_cons (pe_call GD r2 (by rfl) mD kD bD .nil pass0 (pa_cons (pv 0) (pa_cons pe_int pa_nil))) pa_nil)) (pg_name (i := 5) scRight.nd rfl (Or.inl rfl)) (pss_one (ps_if (pt_not (pt_val (pe_call GS r10 (by rfl) mS kS bS .nil pass0 (pa_cons (pv 4) (pa_cons (pv 7) pa_nil))))) (pss_one (ps_ret pe_bl)) pss_nil))))) pss_nil)
      (pss_one (ps_ret (pe_callG GI gs hr (by rfl) mI kI bI pass0 (pa_cons (pv 4) (pa_cons (pv 2) (pa_cons (pv 3) pa_nil))))))))))), ?_⟩
    refine ⟨_, rfl, (by show 2 ≤ sizeLine; decide), fun L hL => ?_⟩
    have sL := same_new (o := .lst [.int 8, .int 40]) hL
    have eL : (upd H L (.lst [.int 8, .int 40])) L = some (.lst [.int 8, .int 40]) := upd_same
    have zL := pot_ne hp hL
    generalize (upd H L (.lst [.int 8, .int 40])) = H0 at sL eL ⊢
    refine ⟨_, rfl, p, 2, rfl, hp.same sL, by decide, by decide, fun d H1 d0 d1 b1 pot1 => ?_⟩
    obtain ⟨mm, hm, m5, m40⟩ : ∃ mm : Int, ([.int 8, .int 40] : List V)[d.toNat]? = some (.int mm) ∧ 5 ≤ mm ∧ mm ≤ 40 := by
      obtain z | z : d.toNat = 0 ∨ d.toNat = 1 := by omega
      · rw [z]
        exact ⟨8, rfl, by decide, by decide⟩
      · rw [z]
        exact ⟨40, rfl, by decide, by decide⟩
    have hat := atI_nat hm
    rw [Int.toNat_of_nonneg d0] at hat
    refine ⟨L, _, d, .int mm, rfl, rfl, SqL.of (b1 _ _ zL eL), hat, ?_⟩
    refine ⟨p, mm, rfl, pot1, m5, by omega, fun n H2 n1 nm b2 pot2 => ?_⟩
    have n40 : n ≤ 40 := by omega
    have b02 : But p H H2 := ((But.same sL).trans b1).trans b2
    refine ⟨_, rfl, _, rfl, p, n, rfl, pot2, n1, n40, fun r bs H3 hr3 oB bl b3 pot3 er => ?_⟩
    have rp : r ≠ p := pot_ne pot2 hr3
    refine ⟨(by show 0 ≤ sizeLine; decide), fun l hl => ⟨_, _, rfl, ?_⟩⟩
    have lp : l ≠ p := pot_ne pot3 hl
    have rl : r ≠ l := ne_of_none er hl
    have s4 := same_new (o := .lst []) hl
    have el : (upd H3 l (.lst [])) l = some (.lst []) := upd_same
    generalize (upd H3 l (.lst [])) = H4 at s4 el ⊢
    have er4 := s4 _ _ er
    have b04 : But p H H4 := (b02.trans b3).trans (But.same s4)
    have pot4 := pot3.same s4
    refine ⟨_, rfl, _, rfl, p, r, bs, rfl, pot4, rp, er4, oB, fun b H5 b5 pot5 hB => ?_⟩
    have er5 := b5 _ _ rp er4
    have el5 := b5 _ _ lp el
    have b05 := b04.trans b5
    refine made_hist fun x d1 d2 H6 hx h1 h2 dd s6 e1 e2 hs => ?_
    have hB6 := hB.same s6
    have pot6 := pot5.same s6
    have b06 : But p H H6 := b05.trans (But.same s6)
    have S6 : St C CF CB H6 p l r x b d1 d2 bs [] := ⟨pot6, ⟨hs, e1, e2, dd, List.nodup_nil, fun y hy => (nomatch hy), by decide, fun y hy => (nomatch hy)⟩, hB6, oB, s6 _ _ er5, s6 _ _ el5, fun y hy => (nomatch hy), List.nodup_nil, fun y hy => (nomatch hy), rp, rl, lp, fun y hy => (nomatch hy)⟩
    have fl : H l = none := by
      cases e : H l with
      | none => rfl
      | some u =>
        have := (b02.trans b3) _ _ lp e
        rw [hl] at this
        cases this
    have fr : ∀ a, a ≠ p → H5 a = none → H a = none := fun a na f => by
      cases e : H a with
      | none => rfl
      | some u =>
        rw [b05 _ _ na e] at f
        cases f
    have np5 : ∀ a, H5 a = none → a ≠ p := fun a f => pot_ne pot5 f
    have newM : ∀ z ∈ Mm p l d1 d2 [], z ∈ [p] ∨ H z = none := fun z hz => by
      unfold Mm at hz
      simp only [List.map_nil, List.mem_cons, List.not_mem_nil, or_false] at hz
      rcases hz with rfl | rfl | rfl | rfl
      · exact .inl (by simp)
      · exact .inr fl
      · exact .inr (fr _ (np5 _ h1) h1)
      · exact .inr (fr _ (np5 _ h2) h2)
    have fin : ∀ H', Off (Mm p l d1 d2 []) H6 H' → But p H H' := fun H' o z u nz e => (b06.toOff.step o newM) z u (by rw [List.mem_singleton]; exact nz) e
    have nE : n = bs.length := bl.symm
    subst nE
    refine ⟨_, rfl, p, 13, rfl, pot6, by decide, by decide, fun k H7 k0 k1 b7 pot7 => ?_⟩
    obtain ⟨k, rfl⟩ : ∃ j : Nat, k = ((j : Nat) : Int) := ⟨k.toNat, by omega⟩
    obtain ⟨o7, S7, g7⟩ := S6.draw b7 pot7
    refine ⟨_, rfl, by omega, by omega, ?_⟩
    rw [Int.toNat_natCast]
    refine for_range (lo := 0) (n := k) (fun i σ H' => ∃ (ys : List Nx) (v5 v6 : Option V), σ = [some (.ref p), some (.int (bs.length : Nat)), some (.ref r), some (.ref l), some (.ref x), v5, v6, none] ∧ Off (Mm p l d1 d2 []) H6 H' ∧ St C CF CB H' p l r x b d1 d2 bs ys ∧ Gr H6 [] ys (4 * i) ∧ Bk (4 * i) ys)
      ⟨[], none, none, rfl, o7, S7, g7, fun y hy => nomatch hy⟩ ?_ ?_
    · rintro i σ H8 hi ⟨ys, v5, v6, rfl, o8, S8, g8, k8⟩
      have yl := g8.len
      rw [List.length_nil] at yl
      refine ⟨_, rfl, _, rfl, _, rfl, _, rfl, p, l, r, x, b, d1, d2, bs, ys, rfl, S8, by omega, fun zs H9 o9 S9 g9 k9 => ⟨_, rfl, iteF ?_⟩⟩
      obtain ⟨q9, gg9⟩ := step_chain o8 S8 g8 o9 g9
      have kk9 : Bk (4 * (i + 1)) zs := k9 _ k8
      refine ⟨_, rfl, _, rfl, _, rfl, p, l, r, x, b, d1, d2, bs, zs, rfl, S9, fun y hy => ?_, fun H10 s10 => ⟨_, rfl, iteF ?_⟩⟩
      · have := kk9 y hy
        exact Nat.lt_of_le_of_lt this (by
          have : 4 * (i + 1) ≤ 100 := by omega
          exact Nat.lt_of_le_of_lt this (by decide))
      have S10 := S9.same s10
      obtain ⟨dx, hx10⟩ := id S10.his.hs
      refine ⟨_, rfl, x, dx, _, rfl, hx10, (no3h (by decide +kernel) (by decide +kernel) (by decide +kernel)), x, b, d1, d2, zs, rfl, S10.his, fun u as H11 hu11 s11 eu mk => ?_⟩
      refine ⟨_, rfl, .inl ⟨rfl, _, .inl (.inl eu)⟩, (by show 3 ≤ sizeLine; decide), fun T0 hT0 => ?_⟩
      have s12 := same_new (o := .tup [.int 0, .str "late", .int 0]) hT0
      have eu12 := s12 _ _ eu
      generalize (upd H11 T0 (.tup [.int 0, .str "late", .int 0])) = H12 at s12 eu12 ⊢
      have al : as.length ≤ 300 := by
        have := mk.len
        rw [List.length_map, srtN_len] at this
        have := S10.his.few
        omega
      refine ⟨u, _, _, rfl, rfl, eu12, (by rw [List.length_map, sizeLine_eq]; omega), ?_⟩
      have o13 : Off [u] H12 (upd H12 u (.lst (as.map V.ref ++ [.ref T0]))) := Off.upd (List.mem_singleton.mpr rfl)
      have eu13 : (upd H12 u (.lst (as.map V.ref ++ [.ref T0]))) u = some (.lst (as.map V.ref ++ [.ref T0])) := upd_same
      generalize (upd H12 u (.lst (as.map V.ref ++ [.ref T0]))) = H13 at o13 eu13 ⊢
      refine ⟨_, rfl, .inl ⟨rfl, _, .inl (.inl eu13)⟩, u, _, rfl, rfl, eu13, ?_⟩
      have o14 : Off [u] H13 (upd H13 u (.lst (as.map V.ref ++ [V.ref T0]).reverse)) := Off.upd (List.mem_singleton.mpr rfl)
      generalize (upd H13 u (.lst (as.map V.ref ++ [V.ref T0]).reverse)) = H14 at o14 ⊢
      have sAll : Same H10 H14 := fun z o e => by
        have nz : z ∉ [u] := fun q => by
          rw [List.mem_singleton.mp q, hu11] at e
          cases e
        exact o14 _ _ nz (o13 _ _ nz (s12 _ _ (s11 _ _ e)))
      exact ⟨zs, _, _, rfl, q9.trans (Off.same (s10.trans sAll)), S10.same sAll, gg9, kk9⟩
    · rintro σ H8 ⟨ys, v5, v6, rfl, o8, S8, g8, k8⟩
      have yl := g8.len
      rw [List.length_nil] at yl
      dsimp only []
      refine seq_outS (R := fun σ' H' => ∃ (zs : List Nx) (w5 w7 : Option V), σ' = [some (.ref p), some (.int (bs.length : Nat)), some (.ref r), some (.ref l), some (.ref x), w5, v6, w7] ∧ Off (Mm p l d1 d2 []) H6 H' ∧ St C CF CB H' p l r x b d1 d2 bs zs ∧ Gr H6 [] zs 60 ∧ Bk 60 zs) ?_ ?_
      · rintro σ' H9 ⟨zs, w5, w7, rfl, o9, S9, g9, k9⟩
        refine ⟨_, rfl, _, rfl, _, rfl, p, l, r, x, b, d1, d2, bs, zs, rfl, S9, fun y hy => Nat.lt_of_le_of_lt (k9 y hy) (by decide), fun H10 s10 => ?_⟩
        exact out H10 (fin _ (o9.trans (Off.same s10)))
      · intro N hN
        refine ⟨_, rfl, (by show 0 ≤ sizeLine; decide), fun e0 he0 => ?_⟩
        have s9 := same_new (o := .lst []) he0
        have ee : (upd H8 e0 (.lst [])) e0 = some (.lst []) := upd_same
        generalize (upd H8 e0 (.lst [])) = H9 at s9 ee ⊢
        have S9 := S8.same s9
        have o9 := o8.trans (Off.same s9)
        refine ⟨l, e0, _, rfl, rfl, S9.el, ee, _, rfl, ?_⟩
        have kk : Bk 48 ys := k8.mono (by omega)
        by_cases z : (ys.map fun y => V.ref y.n).isEmpty = true
        · rw [if_pos z]
          exact iteF (hN _ _ ⟨ys, _, _, rfl, o9, S9, g8.mono (by omega), kk.mono (by decide)⟩)
        rw [if_neg z]
        have y1 : 1 ≤ ys.length := by
          rcases ys with _ | ⟨y, ys⟩
          · exact absurd rfl z
          · simp
        refine iteT ?_
        refine ⟨_, rfl, _, rfl, _, rfl, l, _, rfl, .inl (SqL.of S9.el), p, ((ys.map fun y => V.ref y.n).length : Nat), rfl, S9.pot, by rw [List.length_map]; omega, by rw [List.length_map]; omega, fun d H10 e0 e1 b10 pot10 => ?_⟩
        obtain ⟨o10, S10, g10⟩ := S9.draw b10 pot10
        rw [List.length_map] at e1
        obtain ⟨i, rfl⟩ : ∃ i : Nat, d = ((i : Nat) : Int) := ⟨d.toNat, by omega⟩
        obtain ⟨y, hy⟩ : ∃ y, ys[i]? = some y := ⟨_, List.getElem?_eq_getElem (by omega)⟩
        refine ⟨l, _, _, .ref y.n, rfl, rfl, SqL.of S10.el, atI_nat (by rw [List.getElem?_map, hy]; rfl), ?_⟩
        obtain ⟨q10, gg10⟩ := step_chain o9 S9 g8 o10 g10
        refine ⟨_, rfl, p, 6, rfl, S10.pot, by decide, by decide, fun j H11 j0 j1 b11 pot11 => ?_⟩
        obtain ⟨j, rfl⟩ : ∃ i : Nat, j = ((i : Nat) : Int) := ⟨j.toNat, by omega⟩
        obtain ⟨o11, S11, g11⟩ := S10.draw b11 pot11
        obtain ⟨q11, gg11⟩ := step_chain q10 S10 gg10 o11 g11
        refine ⟨_, rfl, by omega, by omega, ?_⟩
        rw [Int.toNat_natCast]
        refine for_range (lo := 0) (n := j) (fun t σ H' => ∃ (zs : List Nx) (v : Nx) (w5 : Option V), σ = [some (.ref p), some (.int (bs.length : Nat)), some (.ref r), some (.ref l), some (.ref x), w5, v6, some (.ref y.n)] ∧ Off (Mm p l d1 d2 []) H6 H' ∧ St C CF CB H' p l r x b d1 d2 bs zs ∧ Gr H6 [] zs 60 ∧ Bk (48 + t) zs ∧ zs[i]? = some v ∧ v.n = y.n)
          ⟨ys, y, _, rfl, q11, S11, gg11.mono (by omega), kk, hy, rfl⟩ ?_ ?_
        · rintro t σ H12 ht ⟨zs, v, w5, rfl, o12, S12, g12, k12, hv, ev⟩
          refine ⟨_, rfl, _, rfl, p, l, r, x, b, d1, d2, bs, zs, i, v, congrArg (fun z => [V.ref x, V.ref z]) ev.symm, S12, hv, fun H13 o13 S13 => ⟨_, rfl, iteF ?_⟩⟩
          obtain ⟨o13', g13⟩ := S12.switched hv o13
          obtain ⟨q13, gg13⟩ := step_chain o12 S12 g12 o13' g13
          exact ⟨_, v.sw, _, rfl, q13, S13, gg13.mono (by decide), k12.sw hv, by rw [List.getElem?_set_self (List.getElem?_eq_some_iff.mp hv).1], ev⟩
        · rintro σ H12 ⟨zs, v, w5, rfl, o12, S12, g12, k12, hv, ev⟩
          exact hN _ _ ⟨zs, _, _, rfl, o12, S12, g12, k12.mono (by omega)⟩
def spLaw (K : PySem.W.Frag) : Sp := fun vs H Q _ => ∃ (a : Addr) (ns : List Int), vs = [.ref a] ∧ SqL K H a (ns.map V.int) ∧ ns.length ≤ 63 ∧ ∀ H', Q (.bl true) H'
abbrev nLaw : List Str := ["_law_script", "_law_k"]
theorem scLaw : FnScope nLaw ["_law_script"] (defScope sLaw) := ⟨rfl, rfl, rfl, by decide +kernel, rfl, by decide +kernel, by decide +kernel⟩
theorem ok_law {f : Addr} {fd : FuncData} (F : Fun K "law" "law" sLaw f fd) (B : Bl mg) (DP : Has P w K mg base "_law_pot" 2 ["_law_script", "_law_k"] (spPot K)) (DR : HasG P w K mg base "_law_right" 13 ["_law_pot_here"] spRight) : FnG P w K mg base CX0 14 f fd ["_law_script"] (spLaw K) := by
  obtain ⟨fP, fdP, GP, mP, kP, bP⟩ := DP
  obtain ⟨fR, fdR, GR, mR, kR, bR⟩ := DR
  refine fnG_of F scLaw (fun vs H Q E h => ?_) (fun cdv A outer s H vs Q E gs hr h => ?_)
  · obtain ⟨a, ns, rfl, _⟩ := h
    rfl
  · obtain ⟨a, ns, rfl, hS, hlen, out⟩ := h
    have r2 : Room 2 _ := hr.mono (by decide)
    refine ⟨_, (pss_one (ps_ret (pe_callB (cr_all rfl) (by rfl) B.all (by decide +kernel) (pa_cons (pe_lc (own := [("_law_k", 1)]) (g := gName 1) (te := tCall spRight [] E0 (tCons (tCall (spPot K) [] E0 (tCons (tVar 0) (tCons (tVar 1) tNil))) tNil)) rfl scLaw.nd (pi_range1 (by rfl) B.range (pa_cons (pe_callB (call_max2 rfl) (by rfl) B.max (by decide +kernel) (pa_cons pe_int (pa_cons (pe_callB (call_min2 rfl) (by rfl) B.min (by decide +kernel) (pa_cons (pe_callB call_len_seq (by rfl) B.len PySem.boot_len (pa_cons (pv 0) pa_nil)) (pa_cons pe_int pa_nil))) pa_nil))) pa_nil)) (blkOk_by (own := [("_law_k", 1)]) (N := nLaw) (sc := defScope sLaw) (by decide +kernel)) (fun _ _ _ _ _ => (pg_name (i := 1) scLaw.nd rfl (Or.inl rfl))) (fun _ _ _ _ _ => pts_nil) (fun _ _ _ _ _ => by exact (pe_callG GR gs hr (by rfl) mR kR bR pass0 (pa_cons (pe_call GP r2 (by rfl) mP kP bP .nil pass0 (pa_cons (pv 0) (pa_cons (pv 1) pa_nil))) pa_nil)))) pa_nil)))), ?_⟩
    refine ⟨_, rfl, a, _, rfl, .inl hS, _, _, rfl, _, _, rfl, _, rfl, ?_, ?_, fun D hD => ?_⟩
    · rw [List.length_map]
      split <;> split <;> omega
    · rw [List.length_map]
      split <;> split <;> omega
    refine lc_range (lo := 0) (fun i H' => Same H H' ∧ H' D = some (.lst ((List.replicate i true).map V.bl))) ⟨same_new hD, upd_same⟩ ?_ ?_
    · rintro i H2 hi ⟨s2, hD2⟩
      have hi8 : i < 6 := by
        rw [List.length_map] at hi
        revert hi
        split <;> split <;> omega
      refine ⟨rfl, yesT ?_⟩
      refine ⟨_, rfl, _, rfl, a, ns, i, (by rw [Int.zero_add]; rfl), s2.seq hS, by omega, fun p H3 hp s3 pot3 => ?_⟩
      have pD : D ≠ p := fun z => by rw [← z, hD2] at hp; cases hp
      refine ⟨p, rfl, pot3, fun H4 b4 => ?_⟩
      refine ⟨_, b4 _ _ pD (s3 _ _ hD2), ?_, ?_, ?_⟩
      · rw [List.length_map, List.length_replicate]
        exact small1000 (by omega)
      · intro z o e
        rw [upd_ne (ne_of_none e hD)]
        exact b4 _ _ (ne_of_none (s2 _ _ e) hp) (s3 _ _ (s2 _ _ e))
      · rw [upd_same, List.replicate_succ', List.map_append]
        rfl
    · rintro H2 ⟨s2, hD2⟩
      refine ⟨D, _, rfl, SqL.of hD2, ?_⟩
      have eall : ∀ k, (List.replicate k true).all id = true := fun k => by
        rw [List.all_eq_true]
        intro b hb
        rw [List.eq_of_mem_replicate hb]
        rfl
      rw [eall]
      exact out H2
end
end K33
namespace K33
open PySem PySem.Spec PyProof.Rows L2 Par
theorem kb_size {K : PySem.W.Frag} {x : Str} {st : Stmt} {f : Addr} {fd : FuncData} {y : Str} (F : FunD K x x (defArgs st) (defBody st) (defScope st) [] [("size", .int 40)] f fd)
    (h : ∀ (D : Addr) (doc pm : Value) (an : Option Addr) (cdv ct u v : Value), bindArgs (PySem.W.fnOf x x (defArgs st) (defBody st) (defScope st) .none (.ref D) doc pm an cdv ct) ⟨[u], [("size", v)]⟩ = pure [(y, u), ("size", v)]) :
    KBn K fd [y, "size"] 1 ["size"] (fun us ws => us ++ ws) (fun vs zs => vs ++ zs) := by
  obtain ⟨oc, od, dV, kV, doc, pm, an, cdv, ct, osl, rfl, lk, hcd, hD, hK⟩ := F.ex
  rcases hD with ⟨_, rfl⟩ | ⟨e, _⟩
  · rcases hK with e | ⟨D, rfl, hq⟩
    · cases e
    · refine ⟨fun s us ws X l1 l2 => ?_, fun r1 r2 => r1.append r2⟩
      match us, ws, l1, l2 with
      | [u], [v], _, _ => exact .of_eq (h D doc pm an cdv ct u v)
  · exact absurd rfl e
theorem kb_one {K : PySem.W.Frag} {x q : Str} {st : Stmt} {f : Addr} {fd : FuncData} {y : Str} (F : Fun K x q st f fd)
    (h : ∀ (kV doc pm : Value) (an : Option Addr) (cdv ct u v : Value), bindArgs (PySem.W.fnOf x q (defArgs st) (defBody st) (defScope st) .none kV doc pm an cdv ct) ⟨[u], [(y, v)]⟩ = pure ([("self", u), (y, v)] : List (Str × Value))) :
    KBn K fd ["self", y] 1 [y] (fun us ws => us ++ ws) (fun vs zs => vs ++ zs) := by
  obtain ⟨oc, od, kV, doc, pm, an, cdv, ct, osl, rfl, lk, hcd⟩ := F.ex
  refine ⟨fun s us ws X l1 l2 => ?_, fun r1 r2 => r1.append r2⟩
  match us, ws, l1, l2 with
  | [u], [v], _, _ => exact .of_eq (h kV doc pm an cdv ct u v)
theorem kb_ini {K : PySem.W.Frag} {f e : Addr} {fd : FuncData} {n : Nat} {ks : List Str} (F : FunD K "__init__" "Board.__init__" (defArgs mInit) (defBody mInit) (defScope mInit) [] [("up", .ref e)] f fd)
    (h : ∀ (D : Addr) (doc pm : Value) (an : Option Addr) (cdv ct : Value) (us ws : List Value), us.length = n → ws.length = ks.length →
      bindArgs (PySem.W.fnOf "__init__" "Board.__init__" (defArgs mInit) (defBody mInit) (defScope mInit) .none (.ref D) doc pm an cdv ct) ⟨us, ks.zip ws⟩ = pure ((["self", "size", "up"] : List Str).zip (us ++ ws))) :
    KBn K fd ["self", "size", "up"] n ks (fun us ws => us ++ ws) (fun vs zs => vs ++ zs) := by
  obtain ⟨oc, od, dV, kV, doc, pm, an, cdv, ct, osl, rfl, lk, hcd, hD, hK⟩ := F.ex
  rcases hD with ⟨_, rfl⟩ | ⟨e, _⟩
  · rcases hK with e | ⟨D, rfl, hq⟩
    · cases e
    · exact ⟨fun s us ws X l1 l2 => .of_eq (h D doc pm an cdv ct us ws l1 l2), fun r1 r2 => r1.append r2⟩
  · exact absurd rfl e
theorem kit_own {K : PySem.W.Frag} {D C : Addr} {b : Bool} (ne : D ≠ C) (hd : PySem.W.hasDictIn K C = true) (ty : PySem.W.typeIn K (.ref C) = some (.type "type")) (sub : PySem.W.subIn K (.ref D) (.ref C) = some b) :
    PySem.W.kitOne K (.ref D) (.ref C) = some b := by
  obtain ⟨cd, hc, _⟩ := PySem.W.any_some hd
  have e1 : (Value.ref D == Value.ref C) = false := beq_eq_false_iff_ne.mpr fun z => ne (Value.ref.inj z)
  have e2 : ((PySem.W.clsIn K C).isSome && PySem.W.typeIn K (.ref C) == some (.type "type")) = true := by
    rw [hc, ty]
    rfl
  show (if (Value.ref D == Value.ref C) = true then some true else if ((PySem.W.clsIn K C).isSome && PySem.W.typeIn K (.ref C) == some (.type "type")) = true then PySem.W.subIn K (.ref D) (.ref C) else none) = some b
  rw [if_neg (by rw [e1]; simp), if_pos e2]
  exact sub
theorem kit_blt {K : PySem.W.Frag} {D : Addr} {T : String} {b : Bool} (mt : PySem.W.kitMeta T = true) (sub : PySem.W.subIn K (.ref D) (.type T) = some b) : PySem.W.kitOne K (.ref D) (.type T) = some b := by
  have e1 : (Value.ref D == Value.type T) = false := beq_eq_false_iff_ne.mpr fun z => nomatch z
  show (if (Value.ref D == Value.type T) = true then some true else if PySem.W.kitMeta T = true then PySem.W.subIn K (.ref D) (.type T) else none) = some b
  rw [if_neg (by rw [e1]; simp), if_pos mt]
  exact sub
theorem rev_vals : ∀ {vs : List V} {us : List Value}, Vals vs us → Vals vs.reverse us.reverse
  | _, _, .nil => .nil
  | _, _, .cons r rs => by
    rw [List.reverse_cons, List.reverse_cons]
    exact (rev_vals rs).append (.cons r .nil)
theorem kb_back {K : PySem.W.Frag} {x : Str} {st : Stmt} {f : Addr} {fd : FuncData} {y z : Str} (F : Fun K x x st f fd)
    (h : ∀ (kV doc pm : Value) (an : Option Addr) (cdv ct u v : Value), bindArgs (PySem.W.fnOf x x (defArgs st) (defBody st) (defScope st) .none kV doc pm an cdv ct) ⟨[], [(z, v), (y, u)]⟩ = pure ([(y, u), (z, v)] : List (Str × Value))) :
    KBn K fd [y, z] 0 [z, y] (fun us ws => us ++ ws.reverse) (fun vs zs => vs ++ zs.reverse) := by
  obtain ⟨oc, od, kV, doc, pm, an, cdv, ct, osl, rfl, lk, hcd⟩ := F.ex
  refine ⟨fun s us ws X l1 l2 => ?_, fun r1 r2 => r1.append (rev_vals r2)⟩
  match us, ws, l1, l2 with
  | [], [v, u], _, _ => exact .of_eq (h kV doc pm an cdv ct u v)
theorem kb_zero {K : PySem.W.Frag} {x : Str} {st : Stmt} {f : Addr} {fd : FuncData} {y : Str} (F : Fun K x x st f fd)
    (h : ∀ (kV doc pm : Value) (an : Option Addr) (cdv ct u : Value), bindArgs (PySem.W.fnOf x x (defArgs st) (defBody st) (defScope st) .none kV doc pm an cdv ct) ⟨[], [(y, u)]⟩ = pure ([(y, u)] : List (Str × Value))) :
    KBn K fd [y] 0 [y] (fun us ws => us ++ ws) (fun vs zs => vs ++ zs) := by
  obtain ⟨oc, od, kV, doc, pm, an, cdv, ct, osl, rfl, lk, hcd⟩ := F.ex
  refine ⟨fun s us ws X l1 l2 => ?_, fun r1 r2 => r1.append r2⟩
  match us, ws, l1, l2 with
  | [], [u], _, _ => exact .of_eq (h kV doc pm an cdv ct u)
theorem kb_two {K : PySem.W.Frag} {x : Str} {st : Stmt} {f : Addr} {fd : FuncData} {y z : Str} (F : Fun K x x st f fd)
    (h : ∀ (kV doc pm : Value) (an : Option Addr) (cdv ct u v : Value), bindArgs (PySem.W.fnOf x x (defArgs st) (defBody st) (defScope st) .none kV doc pm an cdv ct) ⟨[], [(y, u), (z, v)]⟩ = pure ([(y, u), (z, v)] : List (Str × Value))) :
    KBn K fd [y, z] 0 [y, z] (fun us ws => us ++ ws) (fun vs zs => vs ++ zs) := by
  obtain ⟨oc, od, kV, doc, pm, an, cdv, ct, osl, rfl, lk, hcd⟩ := F.ex
  refine ⟨fun s us ws X l1 l2 => ?_, fun r1 r2 => r1.append r2⟩
  match us, ws, l1, l2 with
  | [], [u, v], _, _ => exact .of_eq (h kV doc pm an cdv ct u v)
theorem all_mk {l : PySem.W.OpenLaw} {w : World} {K : PySem.W.Frag} {h : Heap} {mg : Str → Option Value} {fa : Addr} (X : K.In h) (G : h.Ns mainGlobals mg) (hfa : mg "law" = some (.ref fa))
    {fi1 : Addr} {oci1 kVi1 dci1 pmi1 cdi1 cti1 : Value} {odi1 ani1 : Option Addr} {sli1 : Array (Option Value)}
    {fi2 : Addr} {oci2 kVi2 dci2 pmi2 cdi2 cti2 : Value} {odi2 ani2 : Option Addr} {sli2 : Array (Option Value)}
    {fi3 : Addr} {oci3 kVi3 dci3 pmi3 cdi3 cti3 : Value} {odi3 ani3 : Option Addr} {sli3 : Array (Option Value)}
    {fi4 : Addr} {oci4 kVi4 dci4 pmi4 cdi4 cti4 : Value} {odi4 ani4 : Option Addr} {sli4 : Array (Option Value)}
    {fi5 : Addr} {oci5 kVi5 dci5 pmi5 cdi5 cti5 : Value} {odi5 ani5 : Option Addr} {sli5 : Array (Option Value)}
    {fi6 : Addr} {oci6 kVi6 dci6 pmi6 cdi6 cti6 : Value} {odi6 ani6 : Option Addr} {sli6 : Array (Option Value)}
    {ffi : Addr} {ocfi kVfi dcfi pmfi cdfi ctfi : Value} {odfi anfi : Option Addr} {slfi : Array (Option Value)}
    {fap : Addr} {ocap kVap dcap pmap cdap ctap : Value} {odap anap : Option Addr} {slap : Array (Option Value)}
    {faa : Addr} {ocaa kVaa dcaa pmaa cdaa ctaa : Value} {odaa anaa : Option Addr} {slaa : Array (Option Value)}
    {fmo : Addr} {ocmo kVmo dcmo pmmo cdmo ctmo : Value} {odmo anmo : Option Addr} {slmo : Array (Option Value)}
    {fpa : Addr} {ocpa kVpa dcpa pmpa cdpa ctpa : Value} {odpa anpa : Option Addr} {slpa : Array (Option Value)}
    {fic Dic : Addr} {tic : Tok} {ocic dcic pmic cdic ctic : Value} {odic anic : Option Addr} {slic : Array (Option Value)}
    {fct Dct : Addr} {tct : Tok} {occt dcct pmct cdct ctct : Value} {odct anct : Option Addr} {slct : Array (Option Value)}
    {C : Addr}
    {fI DI e : Addr} {ocI dcI pmI cdI ctI : Value} {odI anI : Option Addr} {slI : Array (Option Value)} {ode : Option Addr} {ne : Nat} {sle : Array (Option Value)}
    {fS : Addr} {ocS kVS dcS pmS cdS ctS : Value} {odS anS : Option Addr} {slS : Array (Option Value)}
    {fU : Addr} {ocU kVU dcU pmU cdU ctU : Value} {odU anU : Option Addr} {slU : Array (Option Value)}
    {fX : Addr} {ocX kVX dcX pmX cdX ctX : Value} {odX anX : Option Addr} {slX : Array (Option Value)}
    {fY : Addr} {ocY kVY dcY pmY cdY ctY : Value} {odY anY : Option Addr} {slY : Array (Option Value)}
    {fZ : Addr} {ocZ kVZ dcZ pmZ cdZ ctZ : Value} {odZ anZ : Option Addr} {slZ : Array (Option Value)}
    {V : Addr}
    {fJ : Addr} {ocJ kVJ dcJ pmJ cdJ ctJ : Value} {odJ anJ : Option Addr} {slJ : Array (Option Value)}
    {fg1 : Addr} {ocg1 kVg1 dcg1 pmg1 cdg1 ctg1 : Value} {odg1 ang1 : Option Addr} {slg1 : Array (Option Value)}
    {fg2 : Addr} {ocg2 kVg2 dcg2 pmg2 cdg2 ctg2 : Value} {odg2 ang2 : Option Addr} {slg2 : Array (Option Value)}
    {fg3 : Addr} {ocg3 kVg3 dcg3 pmg3 cdg3 ctg3 : Value} {odg3 ang3 : Option Addr} {slg3 : Array (Option Value)}
    {fg4 : Addr} {ocg4 kVg4 dcg4 pmg4 cdg4 ctg4 : Value} {odg4 ang4 : Option Addr} {slg4 : Array (Option Value)}
    {W NnW : Addr} {nmW qnW : Str} {bsW : List Value} {snW : List Str} {subW : List Value} {abW : Bool} {colW : Option Bool} {ddW : Option Addr} {m0W m1W m2W m3W m5W : Option Value}
    {w0W : Addr}
    {fN : Addr} {ocN kVN dcN pmN cdN ctN : Value} {odN anN : Option Addr} {slN : Array (Option Value)}
    {tM : Tok}
    {fm1 : Addr} {ocm1 kVm1 dcm1 pmm1 cdm1 ctm1 : Value} {odm1 anm1 : Option Addr} {slm1 : Array (Option Value)}
    {fm2 : Addr} {ocm2 kVm2 dcm2 pmm2 cdm2 ctm2 : Value} {odm2 anm2 : Option Addr} {slm2 : Array (Option Value)}
    {fm3 : Addr} {ocm3 kVm3 dcm3 pmm3 cdm3 ctm3 : Value} {odm3 anm3 : Option Addr} {slm3 : Array (Option Value)}
    {fm4 : Addr} {ocm4 kVm4 dcm4 pmm4 cdm4 ctm4 : Value} {odm4 anm4 : Option Addr} {slm4 : Array (Option Value)}
    {fm5 : Addr} {ocm5 kVm5 dcm5 pmm5 cdm5 ctm5 : Value} {odm5 anm5 : Option Addr} {slm5 : Array (Option Value)}
    {fm6 : Addr} {ocm6 kVm6 dcm6 pmm6 cdm6 ctm6 : Value} {odm6 anm6 : Option Addr} {slm6 : Array (Option Value)}
    {Tt : Addr}
    {fti : Addr} {octi kVti dcti pmti cdti ctti : Value} {odti anti : Option Addr} {slti : Array (Option Value)}
    {ft2 : Addr} {oct2 kVt2 dct2 pmt2 cdt2 ctt2 : Value} {odt2 ant2 : Option Addr} {slt2 : Array (Option Value)}
    {ft3 : Addr} {oct3 kVt3 dct3 pmt3 cdt3 ctt3 : Value} {odt3 ant3 : Option Addr} {slt3 : Array (Option Value)}
    {ft5 : Addr} {oct5 kVt5 dct5 pmt5 cdt5 ctt5 : Value} {odt5 ant5 : Option Addr} {slt5 : Array (Option Value)}
    {ft4 : Addr} {oct4 kVt4 dct4 pmt4 cdt4 ctt4 : Value} {odt4 ant4 : Option Addr} {slt4 : Array (Option Value)}
    {fsn : Addr} {ocsn kVsn dcsn pmsn cdsn ctsn : Value} {odsn ansn : Option Addr} {slsn : Array (Option Value)}
    {fst : Addr} {ocst kVst dcst pmst cdst ctst : Value} {odst anst : Option Addr} {slst : Array (Option Value)}
    {fss : Addr} {ocss kVss dcss pmss cdss ctss : Value} {odss anss : Option Addr} {slss : Array (Option Value)}
    {tTi : Tok}
    {tNu : Tok}
    {tLe : Tok}
    {Q : Addr}
    {fqi : Addr} {ocqi kVqi dcqi pmqi cdqi ctqi : Value} {odqi anqi : Option Addr} {slqi : Array (Option Value)}
    {fql : Addr} {ocql kVql dcql pmql cdql ctql : Value} {odql anql : Option Addr} {slql : Array (Option Value)}
    {fqe : Addr} {ocqe kVqe dcqe pmqe cdqe ctqe : Value} {odqe anqe : Option Addr} {slqe : Array (Option Value)}
    {fqk : Addr} {ocqk kVqk dcqk pmqk cdqk ctqk : Value} {odqk anqk : Option Addr} {slqk : Array (Option Value)}
    {fqr : Addr} {ocqr kVqr dcqr pmqr cdqr ctqr : Value} {odqr anqr : Option Addr} {slqr : Array (Option Value)}
    {fqu : Addr} {ocqu kVqu dcqu pmqu cdqu ctqu : Value} {odqu anqu : Option Addr} {slqu : Array (Option Value)}
    {fqs : Addr} {ocqs kVqs dcqs pmqs cdqs ctqs : Value} {odqs anqs : Option Addr} {slqs : Array (Option Value)}
    {fqb : Addr} {ocqb kVqb dcqb pmqb cdqb ctqb : Value} {odqb anqb : Option Addr} {slqb : Array (Option Value)}
    {fqm : Addr} {ocqm kVqm dcqm pmqm cdqm ctqm : Value} {odqm anqm : Option Addr} {slqm : Array (Option Value)}
    {fqf : Addr} {ocqf kVqf dcqf pmqf cdqf ctqf : Value} {odqf anqf : Option Addr} {slqf : Array (Option Value)}
    {fqw : Addr} {ocqw kVqw dcqw pmqw cdqw ctqw : Value} {odqw anqw : Option Addr} {slqw : Array (Option Value)}
    {fqg : Addr} {ocqg kVqg dcqg pmqg cdqg ctqg : Value} {odqg anqg : Option Addr} {slqg : Array (Option Value)}
    {fqh : Addr} {ocqh kVqh dcqh pmqh cdqh ctqh : Value} {odqh anqh : Option Addr} {slqh : Array (Option Value)}
    {fqc : Addr} {ocqc kVqc dcqc pmqc cdqc ctqc : Value} {odqc anqc : Option Addr} {slqc : Array (Option Value)}
    {fsf : Addr} {ocsf kVsf dcsf pmsf cdsf ctsf : Value} {odsf ansf : Option Addr} {slsf : Array (Option Value)}
    {tEn : Tok}
    {f31 : Addr} {oc31 kV31 dc31 pm31 cd31 ct31 : Value} {od31 an31 : Option Addr} {sl31 : Array (Option Value)}
    {f32 : Addr} {oc32 kV32 dc32 pm32 cd32 ct32 : Value} {od32 an32 : Option Addr} {sl32 : Array (Option Value)}
    {f33 : Addr} {oc33 kV33 dc33 pm33 cd33 ct33 : Value} {od33 an33 : Option Addr} {sl33 : Array (Option Value)}
    {f34 : Addr} {oc34 kV34 dc34 pm34 cd34 ct34 : Value} {od34 an34 : Option Addr} {sl34 : Array (Option Value)}
    {f35 : Addr} {oc35 kV35 dc35 pm35 cd35 ct35 : Value} {od35 an35 : Option Addr} {sl35 : Array (Option Value)}
    {f37 : Addr} {oc37 kV37 dc37 pm37 cd37 ct37 : Value} {od37 an37 : Option Addr} {sl37 : Array (Option Value)}
    {f38 : Addr} {oc38 kV38 dc38 pm38 cd38 ct38 : Value} {od38 an38 : Option Addr} {sl38 : Array (Option Value)}
    {f39 : Addr} {oc39 kV39 dc39 pm39 cd39 ct39 : Value} {od39 an39 : Option Addr} {sl39 : Array (Option Value)}
    {f40 : Addr} {oc40 kV40 dc40 pm40 cd40 ct40 : Value} {od40 an40 : Option Addr} {sl40 : Array (Option Value)}
    {f41 : Addr} {oc41 kV41 dc41 pm41 cd41 ct41 : Value} {od41 an41 : Option Addr} {sl41 : Array (Option Value)}
    {f42 : Addr} {oc42 kV42 dc42 pm42 cd42 ct42 : Value} {od42 an42 : Option Addr} {sl42 : Array (Option Value)}
    {f43 : Addr} {oc43 kV43 dc43 pm43 cd43 ct43 : Value} {od43 an43 : Option Addr} {sl43 : Array (Option Value)}
    {f44 : Addr} {oc44 kV44 dc44 pm44 cd44 ct44 : Value} {od44 an44 : Option Addr} {sl44 : Array (Option Value)}
    {f45 : Addr} {oc45 kV45 dc45 pm45 cd45 ct45 : Value} {od45 an45 : Option Addr} {sl45 : Array (Option Value)}
    {f51 : Addr} {oc51 kV51 dc51 pm51 cd51 ct51 : Value} {od51 an51 : Option Addr} {sl51 : Array (Option Value)}
    {f52 : Addr} {oc52 kV52 dc52 pm52 cd52 ct52 : Value} {od52 an52 : Option Addr} {sl52 : Array (Option Value)}
    {f54 : Addr} {oc54 kV54 dc54 pm54 cd54 ct54 : Value} {od54 an54 : Option Addr} {sl54 : Array (Option Value)}
    {f55 : Addr} {oc55 kV55 dc55 pm55 cd55 ct55 : Value} {od55 an55 : Option Addr} {sl55 : Array (Option Value)}
    {f56 : Addr} {oc56 kV56 dc56 pm56 cd56 ct56 : Value} {od56 an56 : Option Addr} {sl56 : Array (Option Value)}
    {f57 : Addr} {oc57 kV57 dc57 pm57 cd57 ct57 : Value} {od57 an57 : Option Addr} {sl57 : Array (Option Value)}
    {f59 : Addr} {oc59 kV59 dc59 pm59 cd59 ct59 : Value} {od59 an59 : Option Addr} {sl59 : Array (Option Value)}
    {f53 : Addr} {oc53 kV53 dc53 pm53 cd53 ct53 : Value} {od53 an53 : Option Addr} {sl53 : Array (Option Value)}
    {f58 : Addr} {oc58 kV58 dc58 pm58 cd58 ct58 : Value} {od58 an58 : Option Addr} {sl58 : Array (Option Value)}
    {f60 : Addr} {oc60 kV60 dc60 pm60 cd60 ct60 : Value} {od60 an60 : Option Addr} {sl60 : Array (Option Value)}
    {f61 : Addr} {oc61 kV61 dc61 pm61 cd61 ct61 : Value} {od61 an61 : Option Addr} {sl61 : Array (Option Value)}
    {f62 : Addr} {oc62 kV62 dc62 pm62 cd62 ct62 : Value} {od62 an62 : Option Addr} {sl62 : Array (Option Value)}
    {f63 : Addr} {oc63 kV63 dc63 pm63 cd63 ct63 : Value} {od63 an63 : Option Addr} {sl63 : Array (Option Value)}
    {flaw : Addr} {oclaw kVlaw dclaw pmlaw cdlaw ctlaw : Value} {odlaw anlaw : Option Addr} {sllaw : Array (Option Value)}
    (ai1 : PySem.W.nsIn K mainGlobals "is_integer" = some (some (.ref fi1)))
    (li1 : K.lookup fi1 = some ⟨oci1, odi1, .func (PySem.W.fnOf "is_integer" "is_integer" (defArgs sInteger) (defBody sInteger) (defScope sInteger) .none kVi1 dci1 pmi1 ani1 cdi1 cti1), sli1⟩)
    (ci1 : PySem.W.codeIn K cdi1 "is_integer" = true)
    (ki1 : PySem.W.keepIn K (.ref fi1) = true)
    (ai2 : PySem.W.nsIn K mainGlobals "is_integer_between" = some (some (.ref fi2)))
    (li2 : K.lookup fi2 = some ⟨oci2, odi2, .func (PySem.W.fnOf "is_integer_between" "is_integer_between" (defArgs sBetween) (defBody sBetween) (defScope sBetween) .none kVi2 dci2 pmi2 ani2 cdi2 cti2), sli2⟩)
    (ci2 : PySem.W.codeIn K cdi2 "is_integer_between" = true)
    (ki2 : PySem.W.keepIn K (.ref fi2) = true)
    (ai3 : PySem.W.nsIn K mainGlobals "is_size" = some (some (.ref fi3)))
    (li3 : K.lookup fi3 = some ⟨oci3, odi3, .func (PySem.W.fnOf "is_size" "is_size" (defArgs sIsSize) (defBody sIsSize) (defScope sIsSize) .none kVi3 dci3 pmi3 ani3 cdi3 cti3), sli3⟩)
    (ci3 : PySem.W.codeIn K cdi3 "is_size" = true)
    (ki3 : PySem.W.keepIn K (.ref fi3) = true)
    (ai4 : PySem.W.nsIn K mainGlobals "are_cells" = some (some (.ref fi4)))
    (li4 : K.lookup fi4 = some ⟨oci4, odi4, .func (PySem.W.fnOf "are_cells" "are_cells" (defArgs sAre) (defBody sAre) (defScope sAre) .none kVi4 dci4 pmi4 ani4 cdi4 cti4), sli4⟩)
    (ci4 : PySem.W.codeIn K cdi4 "are_cells" = true)
    (ki4 : PySem.W.keepIn K (.ref fi4) = true)
    (ai5 : PySem.W.nsIn K mainGlobals "added_cells" = some (some (.ref fi5)))
    (li5 : K.lookup fi5 = some ⟨oci5, odi5, .func (PySem.W.fnOf "added_cells" "added_cells" (defArgs sAdded) (defBody sAdded) (defScope sAdded) .none kVi5 dci5 pmi5 ani5 cdi5 cti5), sli5⟩)
    (ci5 : PySem.W.codeIn K cdi5 "added_cells" = true)
    (ki5 : PySem.W.keepIn K (.ref fi5) = true)
    (ai6 : PySem.W.nsIn K mainGlobals "share_odd" = some (some (.ref fi6)))
    (li6 : K.lookup fi6 = some ⟨oci6, odi6, .func (PySem.W.fnOf "share_odd" "share_odd" (defArgs sShare) (defBody sShare) (defScope sShare) .none kVi6 dci6 pmi6 ani6 cdi6 cti6), sli6⟩)
    (ci6 : PySem.W.codeIn K cdi6 "share_odd" = true)
    (ki6 : PySem.W.keepIn K (.ref fi6) = true)
    (afi : PySem.W.nsIn K mainGlobals "check_fit" = some (some (.ref ffi)))
    (lfi : K.lookup ffi = some ⟨ocfi, odfi, .func (PySem.W.fnOf "check_fit" "check_fit" (defArgs sFit) (defBody sFit) (defScope sFit) .none kVfi dcfi pmfi anfi cdfi ctfi), slfi⟩)
    (cfi : PySem.W.codeIn K cdfi "check_fit" = true)
    (kfi : PySem.W.keepIn K (.ref ffi) = true)
    (aap : PySem.W.nsIn K mainGlobals "apply_flip" = some (some (.ref fap)))
    (lap : K.lookup fap = some ⟨ocap, odap, .func (PySem.W.fnOf "apply_flip" "apply_flip" (defArgs sApply) (defBody sApply) (defScope sApply) .none kVap dcap pmap anap cdap ctap), slap⟩)
    (cap : PySem.W.codeIn K cdap "apply_flip" = true)
    (kap : PySem.W.keepIn K (.ref fap) = true)
    (aaa : PySem.W.nsIn K mainGlobals "apply_flips" = some (some (.ref faa)))
    (laa : K.lookup faa = some ⟨ocaa, odaa, .func (PySem.W.fnOf "apply_flips" "apply_flips" (defArgs sApplyAll) (defBody sApplyAll) (defScope sApplyAll) .none kVaa dcaa pmaa anaa cdaa ctaa), slaa⟩)
    (caa : PySem.W.codeIn K cdaa "apply_flips" = true)
    (kaa : PySem.W.keepIn K (.ref faa) = true)
    (amo : PySem.W.nsIn K mainGlobals "moved_past" = some (some (.ref fmo)))
    (lmo : K.lookup fmo = some ⟨ocmo, odmo, .func (PySem.W.fnOf "moved_past" "moved_past" (defArgs sMoved) (defBody sMoved) (defScope sMoved) .none kVmo dcmo pmmo anmo cdmo ctmo), slmo⟩)
    (cmo : PySem.W.codeIn K cdmo "moved_past" = true)
    (kmo : PySem.W.keepIn K (.ref fmo) = true)
    (apa : PySem.W.nsIn K mainGlobals "cells_past" = some (some (.ref fpa)))
    (lpa : K.lookup fpa = some ⟨ocpa, odpa, .func (PySem.W.fnOf "cells_past" "cells_past" (defArgs sPast) (defBody sPast) (defScope sPast) .none kVpa dcpa pmpa anpa cdpa ctpa), slpa⟩)
    (cpa : PySem.W.codeIn K cdpa "cells_past" = true)
    (kpa : PySem.W.keepIn K (.ref fpa) = true)
    (aic : PySem.W.nsIn K mainGlobals "is_cell" = some (some (.ref fic)))
    (lic : K.lookup fic = some ⟨ocic, odic, .func (PySem.W.fnOf "is_cell" "is_cell" (defArgs sIsCell) (defBody sIsCell) (defScope sIsCell) .none (.ref Dic) dcic pmic anic cdic ctic), slic⟩)
    (dic : PySem.W.nsIn K Dic "size" = some (some (.int 40 tic)))
    (cic : PySem.W.codeIn K cdic "is_cell" = true)
    (kic : PySem.W.keepIn K (.ref fic) = true)
    (act : PySem.W.nsIn K mainGlobals "cell_tuple" = some (some (.ref fct)))
    (lct : K.lookup fct = some ⟨occt, odct, .func (PySem.W.fnOf "cell_tuple" "cell_tuple" (defArgs sCells) (defBody sCells) (defScope sCells) .none (.ref Dct) dcct pmct anct cdct ctct), slct⟩)
    (dct : PySem.W.nsIn K Dct "size" = some (some (.int 40 tct)))
    (cct : PySem.W.codeIn K cdct "cell_tuple" = true)
    (kct : PySem.W.keepIn K (.ref fct) = true)
    (aC : PySem.W.nsIn K mainGlobals "Board" = some (some (.ref C)))
    (pgC : PySem.W.plainGet K C Str.empty = true)
    (hdC : PySem.W.hasDictIn K C = true)
    (poC : PySem.W.plainOver K C = true)
    (saC : PySem.W.findIn K (.ref C) "__setattr__" = some (some (.builtin "object.__setattr__")))
    (mkC : PySem.W.makesIn K C = true)
    (kcC : PySem.W.keepIn K (.ref C) = true)
    (nf0C : PySem.W.findIn K (.ref C) "states" = some none)
    (jaC : PySem.W.findIn K (.ref C) "__class__" = some (some (.builtin "object.__class__")))
    (jnC : PySem.W.specialIn K (.builtin "object.__class__") "__get__" = some (some (.builtin "getset_descriptor.__get__")))
    (jtC : PySem.W.takesIn K (.builtin "object.__class__") = some true)
    (jmC : PySem.W.mroIn K C (.type "object") = some true)
    (iI : PySem.W.findIn K (.ref C) "__init__" = some (some (.ref fI)))
    (nI : PySem.W.isFn K (.ref fI) = true)
    (lI : K.lookup fI = some ⟨ocI, odI, .func (PySem.W.fnOf "__init__" "Board.__init__" (defArgs mInit) (defBody mInit) (defScope mInit) .none (.ref DI) dcI pmI anI cdI ctI), slI⟩)
    (dI : PySem.W.nsIn K DI "up" = some (some (.ref e)))
    (le : K.lookup e = some ⟨.type "tuple", ode, .seq #[] ne, sle⟩)
    (cI : PySem.W.codeIn K cdI "Board.__init__" = true)
    (kI : PySem.W.keepIn K (.ref fI) = true)
    (aS : PySem.W.findIn K (.ref C) "size" = some (some (.ref fS)))
    (nS : PySem.W.isFn K (.ref fS) = true)
    (lS : K.lookup fS = some ⟨ocS, odS, .func (PySem.W.fnOf "size" "Board.size" (defArgs mSize) (defBody mSize) (defScope mSize) .none kVS dcS pmS anS cdS ctS), slS⟩)
    (cS : PySem.W.codeIn K cdS "Board.size" = true)
    (kS : PySem.W.keepIn K (.ref fS) = true)
    (aU : PySem.W.findIn K (.ref C) "up" = some (some (.ref fU)))
    (nU : PySem.W.isFn K (.ref fU) = true)
    (lU : K.lookup fU = some ⟨ocU, odU, .func (PySem.W.fnOf "up" "Board.up" (defArgs mUps) (defBody mUps) (defScope mUps) .none kVU dcU pmU anU cdU ctU), slU⟩)
    (cU : PySem.W.codeIn K cdU "Board.up" = true)
    (kU : PySem.W.keepIn K (.ref fU) = true)
    (aX : PySem.W.findIn K (.ref C) "is_up" = some (some (.ref fX)))
    (nX : PySem.W.isFn K (.ref fX) = true)
    (lX : K.lookup fX = some ⟨ocX, odX, .func (PySem.W.fnOf "is_up" "Board.is_up" (defArgs mIsUp) (defBody mIsUp) (defScope mIsUp) .none kVX dcX pmX anX cdX ctX), slX⟩)
    (cX : PySem.W.codeIn K cdX "Board.is_up" = true)
    (kX : PySem.W.keepIn K (.ref fX) = true)
    (aY : PySem.W.findIn K (.ref C) "parity" = some (some (.ref fY)))
    (nY : PySem.W.isFn K (.ref fY) = true)
    (lY : K.lookup fY = some ⟨ocY, odY, .func (PySem.W.fnOf "parity" "Board.parity" (defArgs mPar) (defBody mPar) (defScope mPar) .none kVY dcY pmY anY cdY ctY), slY⟩)
    (cY : PySem.W.codeIn K cdY "Board.parity" = true)
    (kY : PySem.W.keepIn K (.ref fY) = true)
    (aZ : PySem.W.findIn K (.ref C) "toggled" = some (some (.ref fZ)))
    (nZ : PySem.W.isFn K (.ref fZ) = true)
    (lZ : K.lookup fZ = some ⟨ocZ, odZ, .func (PySem.W.fnOf "toggled" "Board.toggled" (defArgs mTog) (defBody mTog) (defScope mTog) .none kVZ dcZ pmZ anZ cdZ ctZ), slZ⟩)
    (cZ : PySem.W.codeIn K cdZ "Board.toggled" = true)
    (kZ : PySem.W.keepIn K (.ref fZ) = true)
    (aV : PySem.W.nsIn K mainGlobals "Flip" = some (some (.ref V)))
    (pgV : PySem.W.plainGet K V Str.empty = true)
    (hdV : PySem.W.hasDictIn K V = true)
    (poV : PySem.W.plainOver K V = true)
    (saV : PySem.W.findIn K (.ref V) "__setattr__" = some (some (.builtin "object.__setattr__")))
    (mkV : PySem.W.makesIn K V = true)
    (kcV : PySem.W.keepIn K (.ref V) = true)
    (nf0V : PySem.W.findIn K (.ref V) "tested_cells" = some none)
    (nf1V : PySem.W.findIn K (.ref V) "toggled_cells" = some none)
    (jaV : PySem.W.findIn K (.ref V) "__class__" = some (some (.builtin "object.__class__")))
    (jnV : PySem.W.specialIn K (.builtin "object.__class__") "__get__" = some (some (.builtin "getset_descriptor.__get__")))
    (jtV : PySem.W.takesIn K (.builtin "object.__class__") = some true)
    (jmV : PySem.W.mroIn K V (.type "object") = some true)
    (aJ : PySem.W.findIn K (.ref V) "__init__" = some (some (.ref fJ)))
    (nJ : PySem.W.isFn K (.ref fJ) = true)
    (lJ : K.lookup fJ = some ⟨ocJ, odJ, .func (PySem.W.fnOf "__init__" "Flip.__init__" (defArgs gInit) (defBody gInit) (defScope gInit) .none kVJ dcJ pmJ anJ cdJ ctJ), slJ⟩)
    (cJ : PySem.W.codeIn K cdJ "Flip.__init__" = true)
    (kJ : PySem.W.keepIn K (.ref fJ) = true)
    (ag1 : PySem.W.findIn K (.ref V) "tested" = some (some (.ref fg1)))
    (ng1 : PySem.W.isFn K (.ref fg1) = true)
    (lg1 : K.lookup fg1 = some ⟨ocg1, odg1, .func (PySem.W.fnOf "tested" "Flip.tested" (defArgs gTested) (defBody gTested) (defScope gTested) .none kVg1 dcg1 pmg1 ang1 cdg1 ctg1), slg1⟩)
    (cg1 : PySem.W.codeIn K cdg1 "Flip.tested" = true)
    (kg1 : PySem.W.keepIn K (.ref fg1) = true)
    (ag2 : PySem.W.findIn K (.ref V) "toggled" = some (some (.ref fg2)))
    (ng2 : PySem.W.isFn K (.ref fg2) = true)
    (lg2 : K.lookup fg2 = some ⟨ocg2, odg2, .func (PySem.W.fnOf "toggled" "Flip.toggled" (defArgs gToggled) (defBody gToggled) (defScope gToggled) .none kVg2 dcg2 pmg2 ang2 cdg2 ctg2), slg2⟩)
    (cg2 : PySem.W.codeIn K cdg2 "Flip.toggled" = true)
    (kg2 : PySem.W.keepIn K (.ref fg2) = true)
    (ag3 : PySem.W.findIn K (.ref V) "width" = some (some (.ref fg3)))
    (ng3 : PySem.W.isFn K (.ref fg3) = true)
    (lg3 : K.lookup fg3 = some ⟨ocg3, odg3, .func (PySem.W.fnOf "width" "Flip.width" (defArgs gWidth) (defBody gWidth) (defScope gWidth) .none kVg3 dcg3 pmg3 ang3 cdg3 ctg3), slg3⟩)
    (cg3 : PySem.W.codeIn K cdg3 "Flip.width" = true)
    (kg3 : PySem.W.keepIn K (.ref fg3) = true)
    (ag4 : PySem.W.findIn K (.ref V) "is_idle" = some (some (.ref fg4)))
    (ng4 : PySem.W.isFn K (.ref fg4) = true)
    (lg4 : K.lookup fg4 = some ⟨ocg4, odg4, .func (PySem.W.fnOf "is_idle" "Flip.is_idle" (defArgs gIdle) (defBody gIdle) (defScope gIdle) .none kVg4 dcg4 pmg4 ang4 cdg4 ctg4), slg4⟩)
    (cg4 : PySem.W.codeIn K cdg4 "Flip.is_idle" = true)
    (kg4 : PySem.W.keepIn K (.ref fg4) = true)
    (aW : PySem.W.nsIn K mainGlobals "TooWide" = some (some (.ref W)))
    (xW : K.lookup W = some (excClassObj nmW qnW W NnW bsW (([w0W] : List Addr).map Value.ref ++ [.type "ArithmeticError", .type "Exception", .type "BaseException", .type "object"]) true snW subW abW colW ddW m0W m1W m2W m3W m5W "ArithmeticError.__new__"))
    (saW : PySem.W.findIn K (.ref W) "__setattr__" = some (some (.builtin "object.__setattr__")))
    (exW : PySem.W.subIn K (.ref W) (.type "BaseException") = some true)
    (tyW : PySem.W.typeIn K (.ref W) = some (.type "type"))
    (kpW : PySem.W.keepIn K (.ref W) = true)
    (nf0W : PySem.W.findIn K (.ref W) "needed" = some none)
    (iN : PySem.W.findIn K (.ref W) "__init__" = some (some (.ref fN)))
    (tN : PySem.W.typeIn K (.ref fN) = some (.type "function"))
    (lN : K.lookup fN = some ⟨ocN, odN, .func (PySem.W.fnOf "__init__" "TooWide.__init__" (defArgs sWIni) (defBody sWIni) (defScope sWIni) .none kVN dcN pmN anN cdN ctN), slN⟩)
    (cN : PySem.W.codeIn K cdN "TooWide.__init__" = true)
    (kN : PySem.W.keepIn K (.ref fN) = true)
    (c_M : PySem.W.nsIn K mainGlobals "MOST_CELLS" = some (some (.int 40 tM)))
    (am1 : PySem.W.nsIn K mainGlobals "mask_of" = some (some (.ref fm1)))
    (lm1 : K.lookup fm1 = some ⟨ocm1, odm1, .func (PySem.W.fnOf "mask_of" "mask_of" (defArgs sMaskOf) (defBody sMaskOf) (defScope sMaskOf) .none kVm1 dcm1 pmm1 anm1 cdm1 ctm1), slm1⟩)
    (cm1 : PySem.W.codeIn K cdm1 "mask_of" = true)
    (km1 : PySem.W.keepIn K (.ref fm1) = true)
    (am2 : PySem.W.nsIn K mainGlobals "cells_of" = some (some (.ref fm2)))
    (lm2 : K.lookup fm2 = some ⟨ocm2, odm2, .func (PySem.W.fnOf "cells_of" "cells_of" (defArgs sCellsOf) (defBody sCellsOf) (defScope sCellsOf) .none kVm2 dcm2 pmm2 anm2 cdm2 ctm2), slm2⟩)
    (cm2 : PySem.W.codeIn K cdm2 "cells_of" = true)
    (km2 : PySem.W.keepIn K (.ref fm2) = true)
    (am3 : PySem.W.nsIn K mainGlobals "pivots_of" = some (some (.ref fm3)))
    (lm3 : K.lookup fm3 = some ⟨ocm3, odm3, .func (PySem.W.fnOf "pivots_of" "pivots_of" (defArgs sPivots) (defBody sPivots) (defScope sPivots) .none kVm3 dcm3 pmm3 anm3 cdm3 ctm3), slm3⟩)
    (cm3 : PySem.W.codeIn K cdm3 "pivots_of" = true)
    (km3 : PySem.W.keepIn K (.ref fm3) = true)
    (am4 : PySem.W.nsIn K mainGlobals "reduced" = some (some (.ref fm4)))
    (lm4 : K.lookup fm4 = some ⟨ocm4, odm4, .func (PySem.W.fnOf "reduced" "reduced" (defArgs sReduced) (defBody sReduced) (defScope sReduced) .none kVm4 dcm4 pmm4 anm4 cdm4 ctm4), slm4⟩)
    (cm4 : PySem.W.codeIn K cdm4 "reduced" = true)
    (km4 : PySem.W.keepIn K (.ref fm4) = true)
    (am5 : PySem.W.nsIn K mainGlobals "rank_of" = some (some (.ref fm5)))
    (lm5 : K.lookup fm5 = some ⟨ocm5, odm5, .func (PySem.W.fnOf "rank_of" "rank_of" (defArgs sRank) (defBody sRank) (defScope sRank) .none kVm5 dcm5 pmm5 anm5 cdm5 ctm5), slm5⟩)
    (cm5 : PySem.W.codeIn K cdm5 "rank_of" = true)
    (km5 : PySem.W.keepIn K (.ref fm5) = true)
    (am6 : PySem.W.nsIn K mainGlobals "are_rows" = some (some (.ref fm6)))
    (lm6 : K.lookup fm6 = some ⟨ocm6, odm6, .func (PySem.W.fnOf "are_rows" "are_rows" (defArgs sRows) (defBody sRows) (defScope sRows) .none kVm6 dcm6 pmm6 anm6 cdm6 ctm6), slm6⟩)
    (cm6 : PySem.W.codeIn K cdm6 "are_rows" = true)
    (km6 : PySem.W.keepIn K (.ref fm6) = true)
    (aTt : PySem.W.nsIn K mainGlobals "Table" = some (some (.ref Tt)))
    (pgTt : PySem.W.plainGet K Tt Str.empty = true)
    (hdTt : PySem.W.hasDictIn K Tt = true)
    (poTt : PySem.W.plainOver K Tt = true)
    (saTt : PySem.W.findIn K (.ref Tt) "__setattr__" = some (some (.builtin "object.__setattr__")))
    (mkTt : PySem.W.makesIn K Tt = true)
    (kcTt : PySem.W.keepIn K (.ref Tt) = true)
    (nf0Tt : PySem.W.findIn K (.ref Tt) "masks" = some none)
    (ati : PySem.W.findIn K (.ref Tt) "__init__" = some (some (.ref fti)))
    (nti : PySem.W.isFn K (.ref fti) = true)
    (lti : K.lookup fti = some ⟨octi, odti, .func (PySem.W.fnOf "__init__" "Table.__init__" (defArgs hInit) (defBody hInit) (defScope hInit) .none kVti dcti pmti anti cdti ctti), slti⟩)
    (cti : PySem.W.codeIn K cdti "Table.__init__" = true)
    (kti : PySem.W.keepIn K (.ref fti) = true)
    (at2 : PySem.W.findIn K (.ref Tt) "size" = some (some (.ref ft2)))
    (nt2 : PySem.W.isFn K (.ref ft2) = true)
    (lt2 : K.lookup ft2 = some ⟨oct2, odt2, .func (PySem.W.fnOf "size" "Table.size" (defArgs hSize) (defBody hSize) (defScope hSize) .none kVt2 dct2 pmt2 ant2 cdt2 ctt2), slt2⟩)
    (ct2 : PySem.W.codeIn K cdt2 "Table.size" = true)
    (kt2 : PySem.W.keepIn K (.ref ft2) = true)
    (at3 : PySem.W.findIn K (.ref Tt) "row" = some (some (.ref ft3)))
    (nt3 : PySem.W.isFn K (.ref ft3) = true)
    (lt3 : K.lookup ft3 = some ⟨oct3, odt3, .func (PySem.W.fnOf "row" "Table.row" (defArgs hRow) (defBody hRow) (defScope hRow) .none kVt3 dct3 pmt3 ant3 cdt3 ctt3), slt3⟩)
    (ct3 : PySem.W.codeIn K cdt3 "Table.row" = true)
    (kt3 : PySem.W.keepIn K (.ref ft3) = true)
    (at5 : PySem.W.findIn K (.ref Tt) "check_size" = some (some (.ref ft5)))
    (nt5 : PySem.W.isFn K (.ref ft5) = true)
    (lt5 : K.lookup ft5 = some ⟨oct5, odt5, .func (PySem.W.fnOf "check_size" "Table.check_size" (defArgs hCheck) (defBody hCheck) (defScope hCheck) .none kVt5 dct5 pmt5 ant5 cdt5 ctt5), slt5⟩)
    (ct5 : PySem.W.codeIn K cdt5 "Table.check_size" = true)
    (kt5 : PySem.W.keepIn K (.ref ft5) = true)
    (at4 : PySem.W.findIn K (.ref Tt) "image" = some (some (.ref ft4)))
    (nt4 : PySem.W.isFn K (.ref ft4) = true)
    (lt4 : K.lookup ft4 = some ⟨oct4, odt4, .func (PySem.W.fnOf "image" "Table.image" (defArgs hImage) (defBody hImage) (defScope hImage) .none kVt4 dct4 pmt4 ant4 cdt4 ctt4), slt4⟩)
    (ct4 : PySem.W.codeIn K cdt4 "Table.image" = true)
    (kt4 : PySem.W.keepIn K (.ref ft4) = true)
    (asn : PySem.W.nsIn K mainGlobals "is_name" = some (some (.ref fsn)))
    (lsn : K.lookup fsn = some ⟨ocsn, odsn, .func (PySem.W.fnOf "is_name" "is_name" (defArgs K33.X.sName) (defBody K33.X.sName) (defScope K33.X.sName) .none kVsn dcsn pmsn ansn cdsn ctsn), slsn⟩)
    (csn : PySem.W.codeIn K cdsn "is_name" = true)
    (ksn : PySem.W.keepIn K (.ref fsn) = true)
    (ast : PySem.W.nsIn K mainGlobals "is_time" = some (some (.ref fst)))
    (lst : K.lookup fst = some ⟨ocst, odst, .func (PySem.W.fnOf "is_time" "is_time" (defArgs K33.X.sTime) (defBody K33.X.sTime) (defScope K33.X.sTime) .none kVst dcst pmst anst cdst ctst), slst⟩)
    (cst : PySem.W.codeIn K cdst "is_time" = true)
    (kst : PySem.W.keepIn K (.ref fst) = true)
    (ass : PySem.W.nsIn K mainGlobals "is_stamp" = some (some (.ref fss)))
    (lss : K.lookup fss = some ⟨ocss, odss, .func (PySem.W.fnOf "is_stamp" "is_stamp" (defArgs K33.X.sStamp) (defBody K33.X.sStamp) (defScope K33.X.sStamp) .none kVss dcss pmss anss cdss ctss), slss⟩)
    (css : PySem.W.codeIn K cdss "is_stamp" = true)
    (kss : PySem.W.keepIn K (.ref fss) = true)
    (c_Ti : PySem.W.nsIn K mainGlobals "MOST_TIME" = some (some (.int K33.X.most tTi)))
    (c_Nu : PySem.W.nsIn K mainGlobals "MOST_NUMBER" = some (some (.int K33.X.most tNu)))
    (c_Le : PySem.W.nsIn K mainGlobals "MOST_LETTERS" = some (some (.int 8 tLe)))
    (aQ : PySem.W.nsIn K mainGlobals "History" = some (some (.ref Q)))
    (pgQ : PySem.W.plainGet K Q Str.empty = true)
    (hdQ : PySem.W.hasDictIn K Q = true)
    (poQ : PySem.W.plainOver K Q = true)
    (saQ : PySem.W.findIn K (.ref Q) "__setattr__" = some (some (.builtin "object.__setattr__")))
    (mkQ : PySem.W.makesIn K Q = true)
    (kcQ : PySem.W.keepIn K (.ref Q) = true)
    (nf0Q : PySem.W.findIn K (.ref Q) "start_board" = some none)
    (nf1Q : PySem.W.findIn K (.ref Q) "flips_entered" = some none)
    (nf2Q : PySem.W.findIn K (.ref Q) "change_counts" = some none)
    (aqi : PySem.W.findIn K (.ref Q) "__init__" = some (some (.ref fqi)))
    (nqi : PySem.W.isFn K (.ref fqi) = true)
    (lqi : K.lookup fqi = some ⟨ocqi, odqi, .func (PySem.W.fnOf "__init__" "History.__init__" (defArgs yIni) (defBody yIni) (defScope yIni) .none kVqi dcqi pmqi anqi cdqi ctqi), slqi⟩)
    (cqi : PySem.W.codeIn K cdqi "History.__init__" = true)
    (kqi : PySem.W.keepIn K (.ref fqi) = true)
    (aql : PySem.W.findIn K (.ref Q) "__len__" = some (some (.ref fql)))
    (nql : PySem.W.isFn K (.ref fql) = true)
    (lql : K.lookup fql = some ⟨ocql, odql, .func (PySem.W.fnOf "__len__" "History.__len__" (defArgs yLen) (defBody yLen) (defScope yLen) .none kVql dcql pmql anql cdql ctql), slql⟩)
    (cql : PySem.W.codeIn K cdql "History.__len__" = true)
    (kql : PySem.W.keepIn K (.ref fql) = true)
    (aqe : PySem.W.findIn K (.ref Q) "enter" = some (some (.ref fqe)))
    (nqe : PySem.W.isFn K (.ref fqe) = true)
    (lqe : K.lookup fqe = some ⟨ocqe, odqe, .func (PySem.W.fnOf "enter" "History.enter" (defArgs yEnter) (defBody yEnter) (defScope yEnter) .none kVqe dcqe pmqe anqe cdqe ctqe), slqe⟩)
    (cqe : PySem.W.codeIn K cdqe "History.enter" = true)
    (kqe : PySem.W.keepIn K (.ref fqe) = true)
    (aqk : PySem.W.findIn K (.ref Q) "keep" = some (some (.ref fqk)))
    (nqk : PySem.W.isFn K (.ref fqk) = true)
    (lqk : K.lookup fqk = some ⟨ocqk, odqk, .func (PySem.W.fnOf "keep" "History.keep" (defArgs yKeep) (defBody yKeep) (defScope yKeep) .none kVqk dcqk pmqk anqk cdqk ctqk), slqk⟩)
    (cqk : PySem.W.codeIn K cdqk "History.keep" = true)
    (kqk : PySem.W.keepIn K (.ref fqk) = true)
    (aqr : PySem.W.findIn K (.ref Q) "remove" = some (some (.ref fqr)))
    (nqr : PySem.W.isFn K (.ref fqr) = true)
    (lqr : K.lookup fqr = some ⟨ocqr, odqr, .func (PySem.W.fnOf "remove" "History.remove" (defArgs yRemove) (defBody yRemove) (defScope yRemove) .none kVqr dcqr pmqr anqr cdqr ctqr), slqr⟩)
    (cqr : PySem.W.codeIn K cdqr "History.remove" = true)
    (kqr : PySem.W.keepIn K (.ref fqr) = true)
    (aqu : PySem.W.findIn K (.ref Q) "restore" = some (some (.ref fqu)))
    (nqu : PySem.W.isFn K (.ref fqu) = true)
    (lqu : K.lookup fqu = some ⟨ocqu, odqu, .func (PySem.W.fnOf "restore" "History.restore" (defArgs yRestore) (defBody yRestore) (defScope yRestore) .none kVqu dcqu pmqu anqu cdqu ctqu), slqu⟩)
    (cqu : PySem.W.codeIn K cdqu "History.restore" = true)
    (kqu : PySem.W.keepIn K (.ref fqu) = true)
    (aqs : PySem.W.findIn K (.ref Q) "start" = some (some (.ref fqs)))
    (nqs : PySem.W.isFn K (.ref fqs) = true)
    (lqs : K.lookup fqs = some ⟨ocqs, odqs, .func (PySem.W.fnOf "start" "History.start" (defArgs yStart) (defBody yStart) (defScope yStart) .none kVqs dcqs pmqs anqs cdqs ctqs), slqs⟩)
    (cqs : PySem.W.codeIn K cdqs "History.start" = true)
    (kqs : PySem.W.keepIn K (.ref fqs) = true)
    (aqb : PySem.W.findIn K (.ref Q) "board" = some (some (.ref fqb)))
    (nqb : PySem.W.isFn K (.ref fqb) = true)
    (lqb : K.lookup fqb = some ⟨ocqb, odqb, .func (PySem.W.fnOf "board" "History.board" (defArgs yBoard) (defBody yBoard) (defScope yBoard) .none kVqb dcqb pmqb anqb cdqb ctqb), slqb⟩)
    (cqb : PySem.W.codeIn K cdqb "History.board" = true)
    (kqb : PySem.W.keepIn K (.ref fqb) = true)
    (aqm : PySem.W.findIn K (.ref Q) "stamps" = some (some (.ref fqm)))
    (nqm : PySem.W.isFn K (.ref fqm) = true)
    (lqm : K.lookup fqm = some ⟨ocqm, odqm, .func (PySem.W.fnOf "stamps" "History.stamps" (defArgs yStamps) (defBody yStamps) (defScope yStamps) .none kVqm dcqm pmqm anqm cdqm ctqm), slqm⟩)
    (cqm : PySem.W.codeIn K cdqm "History.stamps" = true)
    (kqm : PySem.W.keepIn K (.ref fqm) = true)
    (aqf : PySem.W.findIn K (.ref Q) "flip" = some (some (.ref fqf)))
    (nqf : PySem.W.isFn K (.ref fqf) = true)
    (lqf : K.lookup fqf = some ⟨ocqf, odqf, .func (PySem.W.fnOf "flip" "History.flip" (defArgs yFlip) (defBody yFlip) (defScope yFlip) .none kVqf dcqf pmqf anqf cdqf ctqf), slqf⟩)
    (cqf : PySem.W.codeIn K cdqf "History.flip" = true)
    (kqf : PySem.W.keepIn K (.ref fqf) = true)
    (aqw : PySem.W.findIn K (.ref Q) "stands" = some (some (.ref fqw)))
    (nqw : PySem.W.isFn K (.ref fqw) = true)
    (lqw : K.lookup fqw = some ⟨ocqw, odqw, .func (PySem.W.fnOf "stands" "History.stands" (defArgs yStands) (defBody yStands) (defScope yStands) .none kVqw dcqw pmqw anqw cdqw ctqw), slqw⟩)
    (cqw : PySem.W.codeIn K cdqw "History.stands" = true)
    (kqw : PySem.W.keepIn K (.ref fqw) = true)
    (aqg : PySem.W.findIn K (.ref Q) "changes" = some (some (.ref fqg)))
    (nqg : PySem.W.isFn K (.ref fqg) = true)
    (lqg : K.lookup fqg = some ⟨ocqg, odqg, .func (PySem.W.fnOf "changes" "History.changes" (defArgs yChanges) (defBody yChanges) (defScope yChanges) .none kVqg dcqg pmqg anqg cdqg ctqg), slqg⟩)
    (cqg : PySem.W.codeIn K cdqg "History.changes" = true)
    (kqg : PySem.W.keepIn K (.ref fqg) = true)
    (aqh : PySem.W.findIn K (.ref Q) "has_entry" = some (some (.ref fqh)))
    (nqh : PySem.W.isFn K (.ref fqh) = true)
    (lqh : K.lookup fqh = some ⟨ocqh, odqh, .func (PySem.W.fnOf "has_entry" "History.has_entry" (defArgs yHas) (defBody yHas) (defScope yHas) .none kVqh dcqh pmqh anqh cdqh ctqh), slqh⟩)
    (cqh : PySem.W.codeIn K cdqh "History.has_entry" = true)
    (kqh : PySem.W.keepIn K (.ref fqh) = true)
    (aqc : PySem.W.findIn K (.ref Q) "check_entry" = some (some (.ref fqc)))
    (nqc : PySem.W.isFn K (.ref fqc) = true)
    (lqc : K.lookup fqc = some ⟨ocqc, odqc, .func (PySem.W.fnOf "check_entry" "History.check_entry" (defArgs yCheck) (defBody yCheck) (defScope yCheck) .none kVqc dcqc pmqc anqc cdqc ctqc), slqc⟩)
    (cqc : PySem.W.codeIn K cdqc "History.check_entry" = true)
    (kqc : PySem.W.keepIn K (.ref fqc) = true)
    (asf : PySem.W.nsIn K mainGlobals "standing_flips" = some (some (.ref fsf)))
    (lsf : K.lookup fsf = some ⟨ocsf, odsf, .func (PySem.W.fnOf "standing_flips" "standing_flips" (defArgs sStanding) (defBody sStanding) (defScope sStanding) .none kVsf dcsf pmsf ansf cdsf ctsf), slsf⟩)
    (csf : PySem.W.codeIn K cdsf "standing_flips" = true)
    (ksf : PySem.W.keepIn K (.ref fsf) = true)
    (c_En : PySem.W.nsIn K mainGlobals "MOST_ENTRIES" = some (some (.int 300 tEn)))
    (a31 : PySem.W.nsIn K mainGlobals "_law_pot" = some (some (.ref f31)))
    (l31 : K.lookup f31 = some ⟨oc31, od31, .func (PySem.W.fnOf "_law_pot" "_law_pot" (defArgs sPot) (defBody sPot) (defScope sPot) .none kV31 dc31 pm31 an31 cd31 ct31), sl31⟩)
    (c31 : PySem.W.codeIn K cd31 "_law_pot" = true)
    (k31 : PySem.W.keepIn K (.ref f31) = true)
    (a32 : PySem.W.nsIn K mainGlobals "_law_draw" = some (some (.ref f32)))
    (l32 : K.lookup f32 = some ⟨oc32, od32, .func (PySem.W.fnOf "_law_draw" "_law_draw" (defArgs sDraw) (defBody sDraw) (defScope sDraw) .none kV32 dc32 pm32 an32 cd32 ct32), sl32⟩)
    (c32 : PySem.W.codeIn K cd32 "_law_draw" = true)
    (k32 : PySem.W.keepIn K (.ref f32) = true)
    (a33 : PySem.W.nsIn K mainGlobals "_law_width" = some (some (.ref f33)))
    (l33 : K.lookup f33 = some ⟨oc33, od33, .func (PySem.W.fnOf "_law_width" "_law_width" (defArgs sWidth) (defBody sWidth) (defScope sWidth) .none kV33 dc33 pm33 an33 cd33 ct33), sl33⟩)
    (c33 : PySem.W.codeIn K cd33 "_law_width" = true)
    (k33 : PySem.W.keepIn K (.ref f33) = true)
    (a34 : PySem.W.nsIn K mainGlobals "_law_spots" = some (some (.ref f34)))
    (l34 : K.lookup f34 = some ⟨oc34, od34, .func (PySem.W.fnOf "_law_spots" "_law_spots" (defArgs sSpots) (defBody sSpots) (defScope sSpots) .none kV34 dc34 pm34 an34 cd34 ct34), sl34⟩)
    (c34 : PySem.W.codeIn K cd34 "_law_spots" = true)
    (k34 : PySem.W.keepIn K (.ref f34) = true)
    (a35 : PySem.W.nsIn K mainGlobals "_law_pair" = some (some (.ref f35)))
    (l35 : K.lookup f35 = some ⟨oc35, od35, .func (PySem.W.fnOf "_law_pair" "_law_pair" (defArgs sPair) (defBody sPair) (defScope sPair) .none kV35 dc35 pm35 an35 cd35 ct35), sl35⟩)
    (c35 : PySem.W.codeIn K cd35 "_law_pair" = true)
    (k35 : PySem.W.keepIn K (.ref f35) = true)
    (a37 : PySem.W.nsIn K mainGlobals "_law_bits" = some (some (.ref f37)))
    (l37 : K.lookup f37 = some ⟨oc37, od37, .func (PySem.W.fnOf "_law_bits" "_law_bits" (defArgs sBits) (defBody sBits) (defScope sBits) .none kV37 dc37 pm37 an37 cd37 ct37), sl37⟩)
    (c37 : PySem.W.codeIn K cd37 "_law_bits" = true)
    (k37 : PySem.W.keepIn K (.ref f37) = true)
    (a38 : PySem.W.nsIn K mainGlobals "_law_parity" = some (some (.ref f38)))
    (l38 : K.lookup f38 = some ⟨oc38, od38, .func (PySem.W.fnOf "_law_parity" "_law_parity" (defArgs sParity) (defBody sParity) (defScope sParity) .none kV38 dc38 pm38 an38 cd38 ct38), sl38⟩)
    (c38 : PySem.W.codeIn K cd38 "_law_parity" = true)
    (k38 : PySem.W.keepIn K (.ref f38) = true)
    (a39 : PySem.W.nsIn K mainGlobals "_law_after" = some (some (.ref f39)))
    (l39 : K.lookup f39 = some ⟨oc39, od39, .func (PySem.W.fnOf "_law_after" "_law_after" (defArgs sAfter) (defBody sAfter) (defScope sAfter) .none kV39 dc39 pm39 an39 cd39 ct39), sl39⟩)
    (c39 : PySem.W.codeIn K cd39 "_law_after" = true)
    (k39 : PySem.W.keepIn K (.ref f39) = true)
    (a40 : PySem.W.nsIn K mainGlobals "_law_after_all" = some (some (.ref f40)))
    (l40 : K.lookup f40 = some ⟨oc40, od40, .func (PySem.W.fnOf "_law_after_all" "_law_after_all" (defArgs slAfterAll) (defBody slAfterAll) (defScope slAfterAll) .none kV40 dc40 pm40 an40 cd40 ct40), sl40⟩)
    (c40 : PySem.W.codeIn K cd40 "_law_after_all" = true)
    (k40 : PySem.W.keepIn K (.ref f40) = true)
    (a41 : PySem.W.nsIn K mainGlobals "_law_up" = some (some (.ref f41)))
    (l41 : K.lookup f41 = some ⟨oc41, od41, .func (PySem.W.fnOf "_law_up" "_law_up" (defArgs sUp) (defBody sUp) (defScope sUp) .none kV41 dc41 pm41 an41 cd41 ct41), sl41⟩)
    (c41 : PySem.W.codeIn K cd41 "_law_up" = true)
    (k41 : PySem.W.keepIn K (.ref f41) = true)
    (a42 : PySem.W.nsIn K mainGlobals "_law_made" = some (some (.ref f42)))
    (l42 : K.lookup f42 = some ⟨oc42, od42, .func (PySem.W.fnOf "_law_made" "_law_made" (defArgs sMade) (defBody sMade) (defScope sMade) .none kV42 dc42 pm42 an42 cd42 ct42), sl42⟩)
    (c42 : PySem.W.codeIn K cd42 "_law_made" = true)
    (k42 : PySem.W.keepIn K (.ref f42) = true)
    (a43 : PySem.W.nsIn K mainGlobals "_law_flip_of" = some (some (.ref f43)))
    (l43 : K.lookup f43 = some ⟨oc43, od43, .func (PySem.W.fnOf "_law_flip_of" "_law_flip_of" (defArgs sFlipOf) (defBody sFlipOf) (defScope sFlipOf) .none kV43 dc43 pm43 an43 cd43 ct43), sl43⟩)
    (c43 : PySem.W.codeIn K cd43 "_law_flip_of" = true)
    (k43 : PySem.W.keepIn K (.ref f43) = true)
    (a44 : PySem.W.nsIn K mainGlobals "_law_is_so" = some (some (.ref f44)))
    (l44 : K.lookup f44 = some ⟨oc44, od44, .func (PySem.W.fnOf "_law_is_so" "_law_is_so" (defArgs sIsSo) (defBody sIsSo) (defScope sIsSo) .none kV44 dc44 pm44 an44 cd44 ct44), sl44⟩)
    (c44 : PySem.W.codeIn K cd44 "_law_is_so" = true)
    (k44 : PySem.W.keepIn K (.ref f44) = true)
    (a45 : PySem.W.nsIn K mainGlobals "_law_is_pair" = some (some (.ref f45)))
    (l45 : K.lookup f45 = some ⟨oc45, od45, .func (PySem.W.fnOf "_law_is_pair" "_law_is_pair" (defArgs slIsPair) (defBody slIsPair) (defScope slIsPair) .none kV45 dc45 pm45 an45 cd45 ct45), sl45⟩)
    (c45 : PySem.W.codeIn K cd45 "_law_is_pair" = true)
    (k45 : PySem.W.keepIn K (.ref f45) = true)
    (a51 : PySem.W.nsIn K mainGlobals "_law_moment" = some (some (.ref f51)))
    (l51 : K.lookup f51 = some ⟨oc51, od51, .func (PySem.W.fnOf "_law_moment" "_law_moment" (defArgs slMoment) (defBody slMoment) (defScope slMoment) .none kV51 dc51 pm51 an51 cd51 ct51), sl51⟩)
    (c51 : PySem.W.codeIn K cd51 "_law_moment" = true)
    (k51 : PySem.W.keepIn K (.ref f51) = true)
    (a52 : PySem.W.nsIn K mainGlobals "_law_mark" = some (some (.ref f52)))
    (l52 : K.lookup f52 = some ⟨oc52, od52, .func (PySem.W.fnOf "_law_mark" "_law_mark" (defArgs slMark) (defBody slMark) (defScope slMark) .none kV52 dc52 pm52 an52 cd52 ct52), sl52⟩)
    (c52 : PySem.W.codeIn K cd52 "_law_mark" = true)
    (k52 : PySem.W.keepIn K (.ref f52) = true)
    (a54 : PySem.W.nsIn K mainGlobals "_law_started" = some (some (.ref f54)))
    (l54 : K.lookup f54 = some ⟨oc54, od54, .func (PySem.W.fnOf "_law_started" "_law_started" (defArgs slStarted) (defBody slStarted) (defScope slStarted) .none kV54 dc54 pm54 an54 cd54 ct54), sl54⟩)
    (c54 : PySem.W.codeIn K cd54 "_law_started" = true)
    (k54 : PySem.W.keepIn K (.ref f54) = true)
    (a55 : PySem.W.nsIn K mainGlobals "_law_deed" = some (some (.ref f55)))
    (l55 : K.lookup f55 = some ⟨oc55, od55, .func (PySem.W.fnOf "_law_deed" "_law_deed" (defArgs slDeed) (defBody slDeed) (defScope slDeed) .none kV55 dc55 pm55 an55 cd55 ct55), sl55⟩)
    (c55 : PySem.W.codeIn K cd55 "_law_deed" = true)
    (k55 : PySem.W.keepIn K (.ref f55) = true)
    (a56 : PySem.W.nsIn K mainGlobals "_law_standing" = some (some (.ref f56)))
    (l56 : K.lookup f56 = some ⟨oc56, od56, .func (PySem.W.fnOf "_law_standing" "_law_standing" (defArgs slStanding) (defBody slStanding) (defScope slStanding) .none kV56 dc56 pm56 an56 cd56 ct56), sl56⟩)
    (c56 : PySem.W.codeIn K cd56 "_law_standing" = true)
    (k56 : PySem.W.keepIn K (.ref f56) = true)
    (a57 : PySem.W.nsIn K mainGlobals "_law_now" = some (some (.ref f57)))
    (l57 : K.lookup f57 = some ⟨oc57, od57, .func (PySem.W.fnOf "_law_now" "_law_now" (defArgs slNow) (defBody slNow) (defScope slNow) .none kV57 dc57 pm57 an57 cd57 ct57), sl57⟩)
    (c57 : PySem.W.codeIn K cd57 "_law_now" = true)
    (k57 : PySem.W.keepIn K (.ref f57) = true)
    (a59 : PySem.W.nsIn K mainGlobals "_law_switch" = some (some (.ref f59)))
    (l59 : K.lookup f59 = some ⟨oc59, od59, .func (PySem.W.fnOf "_law_switch" "_law_switch" (defArgs slSwitch) (defBody slSwitch) (defScope slSwitch) .none kV59 dc59 pm59 an59 cd59 ct59), sl59⟩)
    (c59 : PySem.W.codeIn K cd59 "_law_switch" = true)
    (k59 : PySem.W.keepIn K (.ref f59) = true)
    (a53 : PySem.W.nsIn K mainGlobals "_law_near_mark" = some (some (.ref f53)))
    (l53 : K.lookup f53 = some ⟨oc53, od53, .func (PySem.W.fnOf "_law_near_mark" "_law_near_mark" (defArgs slNearMark) (defBody slNearMark) (defScope slNearMark) .none kV53 dc53 pm53 an53 cd53 ct53), sl53⟩)
    (c53 : PySem.W.codeIn K cd53 "_law_near_mark" = true)
    (k53 : PySem.W.keepIn K (.ref f53) = true)
    (a58 : PySem.W.nsIn K mainGlobals "_law_is_told" = some (some (.ref f58)))
    (l58 : K.lookup f58 = some ⟨oc58, od58, .func (PySem.W.fnOf "_law_is_told" "_law_is_told" (defArgs slIsTold) (defBody slIsTold) (defScope slIsTold) .none kV58 dc58 pm58 an58 cd58 ct58), sl58⟩)
    (c58 : PySem.W.codeIn K cd58 "_law_is_told" = true)
    (k58 : PySem.W.keepIn K (.ref f58) = true)
    (a60 : PySem.W.nsIn K mainGlobals "_law_enter" = some (some (.ref f60)))
    (l60 : K.lookup f60 = some ⟨oc60, od60, .func (PySem.W.fnOf "_law_enter" "_law_enter" (defArgs slEnter) (defBody slEnter) (defScope slEnter) .none kV60 dc60 pm60 an60 cd60 ct60), sl60⟩)
    (c60 : PySem.W.codeIn K cd60 "_law_enter" = true)
    (k60 : PySem.W.keepIn K (.ref f60) = true)
    (a61 : PySem.W.nsIn K mainGlobals "_law_step" = some (some (.ref f61)))
    (l61 : K.lookup f61 = some ⟨oc61, od61, .func (PySem.W.fnOf "_law_step" "_law_step" (defArgs slStep) (defBody slStep) (defScope slStep) .none kV61 dc61 pm61 an61 cd61 ct61), sl61⟩)
    (c61 : PySem.W.codeIn K cd61 "_law_step" = true)
    (k61 : PySem.W.keepIn K (.ref f61) = true)
    (a62 : PySem.W.nsIn K mainGlobals "_law_some_steps" = some (some (.ref f62)))
    (l62 : K.lookup f62 = some ⟨oc62, od62, .func (PySem.W.fnOf "_law_some_steps" "_law_some_steps" (defArgs slSomeSteps) (defBody slSomeSteps) (defScope slSomeSteps) .none kV62 dc62 pm62 an62 cd62 ct62), sl62⟩)
    (c62 : PySem.W.codeIn K cd62 "_law_some_steps" = true)
    (k62 : PySem.W.keepIn K (.ref f62) = true)
    (a63 : PySem.W.nsIn K mainGlobals "_law_right" = some (some (.ref f63)))
    (l63 : K.lookup f63 = some ⟨oc63, od63, .func (PySem.W.fnOf "_law_right" "_law_right" (defArgs slRight) (defBody slRight) (defScope slRight) .none kV63 dc63 pm63 an63 cd63 ct63), sl63⟩)
    (c63 : PySem.W.codeIn K cd63 "_law_right" = true)
    (k63 : PySem.W.keepIn K (.ref f63) = true)
    (alaw : PySem.W.nsIn K mainGlobals "law" = some (some (.ref flaw)))
    (llaw : K.lookup flaw = some ⟨oclaw, odlaw, .func (PySem.W.fnOf "law" "law" (defArgs sLaw) (defBody sLaw) (defScope sLaw) .none kVlaw dclaw pmlaw anlaw cdlaw ctlaw), sllaw⟩)
    (claw : PySem.W.codeIn K cdlaw "law" = true)
    (klaw : PySem.W.keepIn K (.ref flaw) = true)
    (z_len : PySem.W.nsIn K mainGlobals "len" = some none)
    (z_abs : PySem.W.nsIn K mainGlobals "abs" = some none)
    (z_max : PySem.W.nsIn K mainGlobals "max" = some none)
    (z_min : PySem.W.nsIn K mainGlobals "min" = some none)
    (z_divmod : PySem.W.nsIn K mainGlobals "divmod" = some none)
    (z_list : PySem.W.nsIn K mainGlobals "list" = some none)
    (z_tuple : PySem.W.nsIn K mainGlobals "tuple" = some none)
    (z_range : PySem.W.nsIn K mainGlobals "range" = some none)
    (z_isinstance : PySem.W.nsIn K mainGlobals "isinstance" = some none)
    (z_bool : PySem.W.nsIn K mainGlobals "bool" = some none)
    (z_int : PySem.W.nsIn K mainGlobals "int" = some none)
    (z_sorted : PySem.W.nsIn K mainGlobals "sorted" = some none)
    (z_set : PySem.W.nsIn K mainGlobals "set" = some none)
    (z_all : PySem.W.nsIn K mainGlobals "all" = some none)
    (z_enumerate : PySem.W.nsIn K mainGlobals "enumerate" = some none)
    (z_repr : PySem.W.nsIn K mainGlobals "repr" = some none)
    (z_sum : PySem.W.nsIn K mainGlobals "sum" = some none)
    (z_str : PySem.W.nsIn K mainGlobals "str" = some none) :
    ∃ fd : FuncData, (∀ (s : Shared) (v : Value), BindsTo s fd ⟨[v], []⟩ [("_law_script", v)]) ∧ ∀ base : Heap, K.In base → base.Ns mainGlobals mg → FnG l.prog w K mg base CX0 14 fa fd ["_law_script"] (spLaw K) := by
  have e0 := hfa.symm.trans (PySem.W.mg_of X G alaw)
  cases e0
  have B : Bl mg := ⟨PySem.W.mg_none_of X G z_len, PySem.W.mg_none_of X G z_abs, PySem.W.mg_none_of X G z_max, PySem.W.mg_none_of X G z_min, PySem.W.mg_none_of X G z_divmod, PySem.W.mg_none_of X G z_list, PySem.W.mg_none_of X G z_tuple, PySem.W.mg_none_of X G z_range, PySem.W.mg_none_of X G z_isinstance, PySem.W.mg_none_of X G z_bool, PySem.W.mg_none_of X G z_int, PySem.W.mg_none_of X G z_sorted, PySem.W.mg_none_of X G z_set, PySem.W.mg_none_of X G z_all, PySem.W.mg_none_of X G z_enumerate, PySem.W.mg_none_of X G z_repr, PySem.W.mg_none_of X G z_sum⟩
  have Fi1 := fun_mk (st := sInteger) li1 ci1 ki1
  have bi1 := Fi1.binds (ps := ["thing"]) fun _ _ _ _ _ _ us hl => match us, hl with | [_], _ => rfl
  have mi1 := PySem.W.mg_of X G ai1
  have Fi2 := fun_mk (st := sBetween) li2 ci2 ki2
  have bi2 := Fi2.binds (ps := ["thing", "low", "high"]) fun _ _ _ _ _ _ us hl => match us, hl with | [_, _, _], _ => rfl
  have mi2 := PySem.W.mg_of X G ai2
  have Fi3 := fun_mk (st := sIsSize) li3 ci3 ki3
  have bi3 := Fi3.binds (ps := ["thing"]) fun _ _ _ _ _ _ us hl => match us, hl with | [_], _ => rfl
  have mi3 := PySem.W.mg_of X G ai3
  have Fi4 := fun_mk (st := sAre) li4 ci4 ki4
  have bi4 := Fi4.binds (ps := ["things", "size"]) fun _ _ _ _ _ _ us hl => match us, hl with | [_, _], _ => rfl
  have mi4 := PySem.W.mg_of X G ai4
  have Fi5 := fun_mk (st := sAdded) li5 ci5 ki5
  have bi5 := Fi5.binds (ps := ["one", "other"]) fun _ _ _ _ _ _ us hl => match us, hl with | [_, _], _ => rfl
  have mi5 := PySem.W.mg_of X G ai5
  have Fi6 := fun_mk (st := sShare) li6 ci6 ki6
  have bi6 := Fi6.binds (ps := ["one", "other"]) fun _ _ _ _ _ _ us hl => match us, hl with | [_, _], _ => rfl
  have mi6 := PySem.W.mg_of X G ai6
  have Ffi := fun_mk (st := sFit) lfi cfi kfi
  have bfi := Ffi.binds (ps := ["flip", "size"]) fun _ _ _ _ _ _ us hl => match us, hl with | [_, _], _ => rfl
  have mfi := PySem.W.mg_of X G afi
  have Fap := fun_mk (st := sApply) lap cap kap
  have bap := Fap.binds (ps := ["board", "flip"]) fun _ _ _ _ _ _ us hl => match us, hl with | [_, _], _ => rfl
  have map := PySem.W.mg_of X G aap
  have Faa := fun_mk (st := sApplyAll) laa caa kaa
  have baa := Faa.binds (ps := ["board", "flips"]) fun _ _ _ _ _ _ us hl => match us, hl with | [_, _], _ => rfl
  have maa := PySem.W.mg_of X G aaa
  have Fmo := fun_mk (st := sMoved) lmo cmo kmo
  have bmo := Fmo.binds (ps := ["flip", "later"]) fun _ _ _ _ _ _ us hl => match us, hl with | [_, _], _ => rfl
  have mmo := PySem.W.mg_of X G amo
  have Fpa := fun_mk (st := sPast) lpa cpa kpa
  have bpa := Fpa.binds (ps := ["cells", "later"]) fun _ _ _ _ _ _ us hl => match us, hl with | [_, _], _ => rfl
  have mpa := PySem.W.mg_of X G apa
  have Fic : FunD K "is_cell" "is_cell" (defArgs sIsCell) (defBody sIsCell) (defScope sIsCell) [] [("size", .int 40)] fic _ := ⟨⟨ocic, odic, .none, .ref Dic, dcic, pmic, anic, cdic, ctic, slic, rfl, lic, cic, .inl ⟨rfl, rfl⟩, .inr ⟨Dic, rfl, fun q hq => by
    rw [List.mem_singleton.mp hq]
    exact ⟨_, dic, _, rfl⟩⟩⟩, kic⟩
  have mic := PySem.W.mg_of X G aic
  have kbic := kb_size (st := sIsCell) (y := "thing") Fic (fun _ _ _ _ _ _ _ _ => rfl)
  have Fct : FunD K "cell_tuple" "cell_tuple" (defArgs sCells) (defBody sCells) (defScope sCells) [] [("size", .int 40)] fct _ := ⟨⟨occt, odct, .none, .ref Dct, dcct, pmct, anct, cdct, ctct, slct, rfl, lct, cct, .inl ⟨rfl, rfl⟩, .inr ⟨Dct, rfl, fun q hq => by
    rw [List.mem_singleton.mp hq]
    exact ⟨_, dct, _, rfl⟩⟩⟩, kct⟩
  have mct := PySem.W.mg_of X G act
  have kbct := kb_size (st := sCells) (y := "things") Fct (fun _ _ _ _ _ _ _ _ => rfl)
  obtain ⟨dsct, hdct, bdct⟩ := Fct.binds0 (ps := ["things", "size"]) 1 (by simp) rfl (fun D doc pm an cdv ct us ks h1 h2 => match us, ks, h1, h2 with | [_], [_], _, _ => ⟨_, _, _, _, _, _, rfl, rfl, rfl⟩)
  have FI : FunD K "__init__" "Board.__init__" (defArgs mInit) (defBody mInit) (defScope mInit) [] [("up", .ref e)] fI _ := ⟨⟨ocI, odI, .none, .ref DI, dcI, pmI, anI, cdI, ctI, slI, rfl, lI, cI, .inl ⟨rfl, rfl⟩, .inr ⟨DI, rfl, fun q hq => by
    rw [List.mem_singleton.mp hq]
    exact ⟨_, dI, rfl⟩⟩⟩, kI⟩
  have kbI2 := kb_ini (n := 2) (ks := ["up"]) FI (fun D doc pm an cdv ct us ws h1 h2 => match us, ws, h1, h2 with | [_, _], [_], _, _ => rfl)
  have kbI1 := kb_ini (n := 1) (ks := ["size", "up"]) FI (fun D doc pm an cdv ct us ws h1 h2 => match us, ws, h1, h2 with | [_], [_, _], _, _ => rfl)
  obtain ⟨dsI, hdI, bI⟩ := FI.binds0 (ps := ["self", "size", "up"]) 2 (by simp) rfl (fun D doc pm an cdv ct us ks h1 h2 => match us, ks, h1, h2 with | [_, _], [_], _, _ => ⟨_, _, _, _, _, _, rfl, rfl, rfl⟩)
  have mkI : Mk K C fI := ⟨mkC, iI, nI, kcC⟩
  have FS := fun_mk (st := mSize) lS cS kS
  have bS := FS.binds (ps := ["self"]) fun _ _ _ _ _ _ us hl => match us, hl with | [_], _ => rfl
  have mS : Meth K C "size" fS := ⟨aS, nS, kS⟩
  have FU := fun_mk (st := mUps) lU cU kU
  have bU := FU.binds (ps := ["self"]) fun _ _ _ _ _ _ us hl => match us, hl with | [_], _ => rfl
  have mU : Meth K C "up" fU := ⟨aU, nU, kU⟩
  have FX := fun_mk (st := mIsUp) lX cX kX
  have bX := FX.binds (ps := ["self", "cell"]) fun _ _ _ _ _ _ us hl => match us, hl with | [_, _], _ => rfl
  have mX : Meth K C "is_up" fX := ⟨aX, nX, kX⟩
  have FY := fun_mk (st := mPar) lY cY kY
  have bY := FY.binds (ps := ["self", "cells"]) fun _ _ _ _ _ _ us hl => match us, hl with | [_, _], _ => rfl
  have mY : Meth K C "parity" fY := ⟨aY, nY, kY⟩
  have FZ := fun_mk (st := mTog) lZ cZ kZ
  have bZ := FZ.binds (ps := ["self", "cells"]) fun _ _ _ _ _ _ us hl => match us, hl with | [_, _], _ => rfl
  have mZ : Meth K C "toggled" fZ := ⟨aZ, nZ, kZ⟩
  have FJ := fun_mk (st := gInit) lJ cJ kJ
  have bJ := FJ.binds (ps := ["self", "tested", "toggled"]) fun _ _ _ _ _ _ us hl => match us, hl with | [_, _, _], _ => rfl
  have Fg1 := fun_mk (st := gTested) lg1 cg1 kg1
  have bg1 := Fg1.binds (ps := ["self"]) fun _ _ _ _ _ _ us hl => match us, hl with | [_], _ => rfl
  have mg1 : Meth K V "tested" fg1 := ⟨ag1, ng1, kg1⟩
  have Fg2 := fun_mk (st := gToggled) lg2 cg2 kg2
  have bg2 := Fg2.binds (ps := ["self"]) fun _ _ _ _ _ _ us hl => match us, hl with | [_], _ => rfl
  have mg2 : Meth K V "toggled" fg2 := ⟨ag2, ng2, kg2⟩
  have Fg3 := fun_mk (st := gWidth) lg3 cg3 kg3
  have bg3 := Fg3.binds (ps := ["self"]) fun _ _ _ _ _ _ us hl => match us, hl with | [_], _ => rfl
  have mg3 : Meth K V "width" fg3 := ⟨ag3, ng3, kg3⟩
  have Fg4 := fun_mk (st := gIdle) lg4 cg4 kg4
  have bg4 := Fg4.binds (ps := ["self"]) fun _ _ _ _ _ _ us hl => match us, hl with | [_], _ => rfl
  have mg4 : Meth K V "is_idle" fg4 := ⟨ag4, ng4, kg4⟩
  have EW : ErrC K W := ⟨⟨_, _, nmW, qnW, NnW, bsW, _, snW, subW, abW, colW, ddW, m0W, m1W, m2W, m3W, m5W, bas_arith, xW, [w0W], rfl⟩, saW, exW, tyW, kpW⟩
  have gW := PySem.W.mg_of X G aW
  have FN := fun_mk (st := sWIni) lN cN kN
  have bN := FN.binds (ps := ["self", "needed"]) fun _ _ _ _ _ _ us hl => match us, hl with | [_, _], _ => rfl
  have g_M := PySem.W.mg_of X G c_M
  have T : BC K mg C := ⟨⟨pgC, hdC, poC, saC⟩, nf0C, PySem.W.mg_of X G aC⟩
  have TI : IsC K C := ⟨jaC, jnC, jtC, jmC⟩
  have TF : FC K mg V := ⟨⟨pgV, hdV, poV, saV⟩, nf0V, nf1V, PySem.W.mg_of X G aV⟩
  have TIF : IsC K V := ⟨jaV, jnV, jtV, jmV⟩
  have TW : WC K mg W := ⟨gW, EW, nf0W⟩
  have hS := PySem.W.mg_none_of X G z_str
  have Fm1 := fun_mk (st := sMaskOf) lm1 cm1 km1
  have bm1 := Fm1.binds (ps := ["cells"]) fun _ _ _ _ _ _ us hl => match us, hl with | [_], _ => rfl
  have mm1 := PySem.W.mg_of X G am1
  have Fm2 := fun_mk (st := sCellsOf) lm2 cm2 km2
  have bm2 := Fm2.binds (ps := ["mask"]) fun _ _ _ _ _ _ us hl => match us, hl with | [_], _ => rfl
  have mm2 := PySem.W.mg_of X G am2
  have Fm3 := fun_mk (st := sPivots) lm3 cm3 km3
  have bm3 := Fm3.binds (ps := ["masks"]) fun _ _ _ _ _ _ us hl => match us, hl with | [_], _ => rfl
  have mm3 := PySem.W.mg_of X G am3
  have Fm4 := fun_mk (st := sReduced) lm4 cm4 km4
  have bm4 := Fm4.binds (ps := ["pivots", "mask"]) fun _ _ _ _ _ _ us hl => match us, hl with | [_, _], _ => rfl
  have mm4 := PySem.W.mg_of X G am4
  have Fm5 := fun_mk (st := sRank) lm5 cm5 km5
  have bm5 := Fm5.binds (ps := ["masks"]) fun _ _ _ _ _ _ us hl => match us, hl with | [_], _ => rfl
  have mm5 := PySem.W.mg_of X G am5
  have Fm6 := fun_mk (st := sRows) lm6 cm6 km6
  have bm6 := Fm6.binds (ps := ["things"]) fun _ _ _ _ _ _ us hl => match us, hl with | [_], _ => rfl
  have mm6 := PySem.W.mg_of X G am6
  have Fti := fun_mk (st := hInit) lti cti kti
  have bti := Fti.binds (ps := ["self", "rows"]) fun _ _ _ _ _ _ us hl => match us, hl with | [_, _], _ => rfl
  have Ft2 := fun_mk (st := hSize) lt2 ct2 kt2
  have bt2 := Ft2.binds (ps := ["self"]) fun _ _ _ _ _ _ us hl => match us, hl with | [_], _ => rfl
  have mt2 : Meth K Tt "size" ft2 := ⟨at2, nt2, kt2⟩
  have Ft3 := fun_mk (st := hRow) lt3 ct3 kt3
  have bt3 := Ft3.binds (ps := ["self", "cell"]) fun _ _ _ _ _ _ us hl => match us, hl with | [_, _], _ => rfl
  have mt3 : Meth K Tt "row" ft3 := ⟨at3, nt3, kt3⟩
  have Ft5 := fun_mk (st := hCheck) lt5 ct5 kt5
  have bt5 := Ft5.binds (ps := ["self", "size"]) fun _ _ _ _ _ _ us hl => match us, hl with | [_, _], _ => rfl
  have mt5 : Meth K Tt "check_size" ft5 := ⟨at5, nt5, kt5⟩
  have Ft4 := fun_mk (st := hImage) lt4 ct4 kt4
  have bt4 := Ft4.binds (ps := ["self", "board"]) fun _ _ _ _ _ _ us hl => match us, hl with | [_, _], _ => rfl
  have mt4 : Meth K Tt "image" ft4 := ⟨at4, nt4, kt4⟩
  have TT : TC K mg Tt := ⟨⟨pgTt, hdTt, poTt, saTt⟩, nf0Tt, PySem.W.mg_of X G aTt⟩
  have Fsn := fun_mk (st := K33.X.sName) lsn csn ksn
  have bsn := Fsn.binds (ps := ["thing"]) fun _ _ _ _ _ _ us hl => match us, hl with | [_], _ => rfl
  have msn := PySem.W.mg_of X G asn
  have Fst := fun_mk (st := K33.X.sTime) lst cst kst
  have bst := Fst.binds (ps := ["thing"]) fun _ _ _ _ _ _ us hl => match us, hl with | [_], _ => rfl
  have mst := PySem.W.mg_of X G ast
  have Fss := fun_mk (st := K33.X.sStamp) lss css kss
  have bss := Fss.binds (ps := ["thing"]) fun _ _ _ _ _ _ us hl => match us, hl with | [_], _ => rfl
  have mss := PySem.W.mg_of X G ass
  have g_Ti := PySem.W.mg_of X G c_Ti
  have g_Nu := PySem.W.mg_of X G c_Nu
  have g_Le := PySem.W.mg_of X G c_Le
  have Fqi := fun_mk (st := yIni) lqi cqi kqi
  have bqi := Fqi.binds (ps := ["self", "board"]) fun _ _ _ _ _ _ us hl => match us, hl with | [_, _], _ => rfl
  have Fql := fun_mk (st := yLen) lql cql kql
  have bql := Fql.binds (ps := ["self"]) fun _ _ _ _ _ _ us hl => match us, hl with | [_], _ => rfl
  have mql : Meth K Q "__len__" fql := ⟨aql, nql, kql⟩
  have Fqe := fun_mk (st := yEnter) lqe cqe kqe
  have bqe := Fqe.binds (ps := ["self", "stamp", "flip"]) fun _ _ _ _ _ _ us hl => match us, hl with | [_, _, _], _ => rfl
  have mqe : Meth K Q "enter" fqe := ⟨aqe, nqe, kqe⟩
  have Fqk := fun_mk (st := yKeep) lqk cqk kqk
  have bqk := Fqk.binds (ps := ["self", "stamp", "flip", "changes"]) fun _ _ _ _ _ _ us hl => match us, hl with | [_, _, _, _], _ => rfl
  have mqk : Meth K Q "keep" fqk := ⟨aqk, nqk, kqk⟩
  have Fqr := fun_mk (st := yRemove) lqr cqr kqr
  have bqr := Fqr.binds (ps := ["self", "stamp"]) fun _ _ _ _ _ _ us hl => match us, hl with | [_, _], _ => rfl
  have mqr : Meth K Q "remove" fqr := ⟨aqr, nqr, kqr⟩
  have Fqu := fun_mk (st := yRestore) lqu cqu kqu
  have bqu := Fqu.binds (ps := ["self", "stamp"]) fun _ _ _ _ _ _ us hl => match us, hl with | [_, _], _ => rfl
  have mqu : Meth K Q "restore" fqu := ⟨aqu, nqu, kqu⟩
  have Fqs := fun_mk (st := yStart) lqs cqs kqs
  have bqs := Fqs.binds (ps := ["self"]) fun _ _ _ _ _ _ us hl => match us, hl with | [_], _ => rfl
  have mqs : Meth K Q "start" fqs := ⟨aqs, nqs, kqs⟩
  have Fqb := fun_mk (st := yBoard) lqb cqb kqb
  have bqb := Fqb.binds (ps := ["self"]) fun _ _ _ _ _ _ us hl => match us, hl with | [_], _ => rfl
  have mqb : Meth K Q "board" fqb := ⟨aqb, nqb, kqb⟩
  have Fqm := fun_mk (st := yStamps) lqm cqm kqm
  have bqm := Fqm.binds (ps := ["self"]) fun _ _ _ _ _ _ us hl => match us, hl with | [_], _ => rfl
  have mqm : Meth K Q "stamps" fqm := ⟨aqm, nqm, kqm⟩
  have Fqf := fun_mk (st := yFlip) lqf cqf kqf
  have bqf := Fqf.binds (ps := ["self", "stamp"]) fun _ _ _ _ _ _ us hl => match us, hl with | [_, _], _ => rfl
  have mqf : Meth K Q "flip" fqf := ⟨aqf, nqf, kqf⟩
  have Fqw := fun_mk (st := yStands) lqw cqw kqw
  have bqw := Fqw.binds (ps := ["self", "stamp"]) fun _ _ _ _ _ _ us hl => match us, hl with | [_, _], _ => rfl
  have mqw : Meth K Q "stands" fqw := ⟨aqw, nqw, kqw⟩
  have Fqg := fun_mk (st := yChanges) lqg cqg kqg
  have bqg := Fqg.binds (ps := ["self", "stamp"]) fun _ _ _ _ _ _ us hl => match us, hl with | [_, _], _ => rfl
  have mqg : Meth K Q "changes" fqg := ⟨aqg, nqg, kqg⟩
  have Fqh := fun_mk (st := yHas) lqh cqh kqh
  have bqh := Fqh.binds (ps := ["self", "stamp"]) fun _ _ _ _ _ _ us hl => match us, hl with | [_, _], _ => rfl
  have mqh : Meth K Q "has_entry" fqh := ⟨aqh, nqh, kqh⟩
  have Fqc := fun_mk (st := yCheck) lqc cqc kqc
  have bqc := Fqc.binds (ps := ["self", "stamp"]) fun _ _ _ _ _ _ us hl => match us, hl with | [_, _], _ => rfl
  have mqc : Meth K Q "check_entry" fqc := ⟨aqc, nqc, kqc⟩
  have Fsf := fun_mk (st := sStanding) lsf csf ksf
  have bsf := Fsf.binds (ps := ["history", "stamps"]) fun _ _ _ _ _ _ us hl => match us, hl with | [_, _], _ => rfl
  have msf := PySem.W.mg_of X G asf
  have g_En := PySem.W.mg_of X G c_En
  have TQ : HC K mg Q := ⟨⟨pgQ, hdQ, poQ, saQ⟩, nf0Q, nf1Q, nf2Q, PySem.W.mg_of X G aQ⟩
  have F31 := fun_mk (st := sPot) l31 c31 k31
  have b31 := F31.binds (ps := ["_law_script", "_law_k"]) fun _ _ _ _ _ _ us hl => match us, hl with | [_, _], _ => rfl
  have m31 := PySem.W.mg_of X G a31
  have F32 := fun_mk (st := sDraw) l32 c32 k32
  have b32 := F32.binds (ps := ["_law_pot_here", "_law_many"]) fun _ _ _ _ _ _ us hl => match us, hl with | [_, _], _ => rfl
  have m32 := PySem.W.mg_of X G a32
  have F33 := fun_mk (st := sWidth) l33 c33 k33
  have b33 := F33.binds (ps := ["_law_pot_here", "_law_most"]) fun _ _ _ _ _ _ us hl => match us, hl with | [_, _], _ => rfl
  have m33 := PySem.W.mg_of X G a33
  have F34 := fun_mk (st := sSpots) l34 c34 k34
  have b34 := F34.binds (ps := ["_law_pot_here", "_law_least", "_law_width_here"]) fun _ _ _ _ _ _ us hl => match us, hl with | [_, _, _], _ => rfl
  have m34 := PySem.W.mg_of X G a34
  have F35 := fun_mk (st := sPair) l35 c35 k35
  have b35 := F35.binds (ps := ["_law_pot_here", "_law_width_here"]) fun _ _ _ _ _ _ us hl => match us, hl with | [_, _], _ => rfl
  have m35 := PySem.W.mg_of X G a35
  have F37 := fun_mk (st := sBits) l37 c37 k37
  have b37 := F37.binds (ps := ["_law_pot_here", "_law_width_here"]) fun _ _ _ _ _ _ us hl => match us, hl with | [_, _], _ => rfl
  have m37 := PySem.W.mg_of X G a37
  have F38 := fun_mk (st := sParity) l38 c38 k38
  have b38 := F38.binds (ps := ["_law_bits_here", "_law_spots_here"]) fun _ _ _ _ _ _ us hl => match us, hl with | [_, _], _ => rfl
  have m38 := PySem.W.mg_of X G a38
  have F39 := fun_mk (st := sAfter) l39 c39 k39
  have b39 := F39.binds (ps := ["_law_bits_here", "_law_pair_here"]) fun _ _ _ _ _ _ us hl => match us, hl with | [_, _], _ => rfl
  have m39 := PySem.W.mg_of X G a39
  have F40 := fun_mk (st := slAfterAll) l40 c40 k40
  have b40 := F40.binds (ps := ["_law_bits_here", "_law_pairs"]) fun _ _ _ _ _ _ us hl => match us, hl with | [_, _], _ => rfl
  have m40 := PySem.W.mg_of X G a40
  have F41 := fun_mk (st := sUp) l41 c41 k41
  have b41 := F41.binds (ps := ["_law_bits_here"]) fun _ _ _ _ _ _ us hl => match us, hl with | [_], _ => rfl
  have m41 := PySem.W.mg_of X G a41
  have F42 := fun_mk (st := sMade) l42 c42 k42
  have b42 := F42.binds (ps := ["_law_bits_here"]) fun _ _ _ _ _ _ us hl => match us, hl with | [_], _ => rfl
  have m42 := PySem.W.mg_of X G a42
  have F43 := fun_mk (st := sFlipOf) l43 c43 k43
  have b43 := F43.binds (ps := ["_law_pair_here"]) fun _ _ _ _ _ _ us hl => match us, hl with | [_], _ => rfl
  have m43 := PySem.W.mg_of X G a43
  have F44 := fun_mk (st := sIsSo) l44 c44 k44
  have b44 := F44.binds (ps := ["_law_found", "_law_bits_here"]) fun _ _ _ _ _ _ us hl => match us, hl with | [_, _], _ => rfl
  have m44 := PySem.W.mg_of X G a44
  have F45 := fun_mk (st := slIsPair) l45 c45 k45
  have b45 := F45.binds (ps := ["_law_found", "_law_pair_here"]) fun _ _ _ _ _ _ us hl => match us, hl with | [_, _], _ => rfl
  have m45 := PySem.W.mg_of X G a45
  have F51 := fun_mk (st := slMoment) l51 c51 k51
  have b51 := F51.binds (ps := ["_law_pot_here"]) fun _ _ _ _ _ _ us hl => match us, hl with | [_], _ => rfl
  have m51 := PySem.W.mg_of X G a51
  have F52 := fun_mk (st := slMark) l52 c52 k52
  have b52 := F52.binds (ps := ["_law_pot_here"]) fun _ _ _ _ _ _ us hl => match us, hl with | [_], _ => rfl
  have m52 := PySem.W.mg_of X G a52
  have F54 := fun_mk (st := slStarted) l54 c54 k54
  have b54 := F54.binds (ps := ["_law_pot_here", "_law_bits_here"]) fun _ _ _ _ _ _ us hl => match us, hl with | [_, _], _ => rfl
  have m54 := PySem.W.mg_of X G a54
  have F55 := fun_mk (st := slDeed) l55 c55 k55
  have b55 := F55.binds (ps := ["_law_pot_here", "_law_pair_here", "_law_width_here"]) fun _ _ _ _ _ _ us hl => match us, hl with | [_, _, _], _ => rfl
  have m55 := PySem.W.mg_of X G a55
  have F56 := fun_mk (st := slStanding) l56 c56 k56
  have b56 := F56.binds (ps := ["_law_notes"]) fun _ _ _ _ _ _ us hl => match us, hl with | [_], _ => rfl
  have m56 := PySem.W.mg_of X G a56
  have F57 := fun_mk (st := slNow) l57 c57 k57
  have b57 := F57.binds (ps := ["_law_bits_here", "_law_notes"]) fun _ _ _ _ _ _ us hl => match us, hl with | [_, _], _ => rfl
  have m57 := PySem.W.mg_of X G a57
  have F59 := fun_mk (st := slSwitch) l59 c59 k59
  have b59 := F59.binds (ps := ["_law_tale", "_law_note"]) fun _ _ _ _ _ _ us hl => match us, hl with | [_, _], _ => rfl
  have m59 := PySem.W.mg_of X G a59
  have F53 := fun_mk (st := slNearMark) l53 c53 k53
  have b53 := F53.binds (ps := ["_law_pot_here", "_law_notes"]) fun _ _ _ _ _ _ us hl => match us, hl with | [_, _], _ => rfl
  have m53 := PySem.W.mg_of X G a53
  have F58 := fun_mk (st := slIsTold) l58 c58 k58
  have b58 := F58.binds (ps := ["_law_tale", "_law_bits_here", "_law_notes"]) fun _ _ _ _ _ _ us hl => match us, hl with | [_, _, _], _ => rfl
  have m58 := PySem.W.mg_of X G a58
  have F60 := fun_mk (st := slEnter) l60 c60 k60
  have b60 := F60.binds (ps := ["_law_pot_here", "_law_tale", "_law_notes", "_law_width_here"]) fun _ _ _ _ _ _ us hl => match us, hl with | [_, _, _, _], _ => rfl
  have m60 := PySem.W.mg_of X G a60
  have F61 := fun_mk (st := slStep) l61 c61 k61
  have b61 := F61.binds (ps := ["_law_pot_here", "_law_tale", "_law_notes", "_law_width_here"]) fun _ _ _ _ _ _ us hl => match us, hl with | [_, _, _, _], _ => rfl
  have m61 := PySem.W.mg_of X G a61
  have F62 := fun_mk (st := slSomeSteps) l62 c62 k62
  have b62 := F62.binds (ps := ["_law_pot_here", "_law_tale", "_law_notes", "_law_width_here"]) fun _ _ _ _ _ _ us hl => match us, hl with | [_, _, _, _], _ => rfl
  have m62 := PySem.W.mg_of X G a62
  have F63 := fun_mk (st := slRight) l63 c63 k63
  have b63 := F63.binds (ps := ["_law_pot_here"]) fun _ _ _ _ _ _ us hl => match us, hl with | [_], _ => rfl
  have m63 := PySem.W.mg_of X G a63
  have Flaw := fun_mk (st := sLaw) llaw claw klaw
  have blaw := Flaw.binds (ps := ["_law_script"]) fun _ _ _ _ _ _ us hl => match us, hl with | [_], _ => rfl
  have mlaw := PySem.W.mg_of X G alaw
  refine ⟨PySem.W.fnOf "law" "law" (defArgs sLaw) (defBody sLaw) (defScope sLaw) .none kVlaw dclaw pmlaw anlaw cdlaw ctlaw, fun s v => .of_eq rfl, fun base _ _ => ?_⟩
  have HNi : Has l.prog w K mg base "is_integer" 1 ["thing"] spInteger := ⟨fi1, _, ok_integer Fi1 B, mi1, ki1, bi1⟩
  have HB : Has l.prog w K mg base "is_integer_between" 2 ["thing", "low", "high"] spBetween := ⟨fi2, _, ok_between Fi2 B HNi, mi2, ki2, bi2⟩
  have HZ : Has l.prog w K mg base "is_size" 3 ["thing"] spIsSize := ⟨fi3, _, ok_issize Fi3 ⟨_, g_M⟩ HB, mi3, ki3, bi3⟩
  have HC : HasN l.prog w K mg base "is_cell" 3 "thing" spIsCell := ⟨fic, _, ok_iscell Fic HB, mic, kic, kbic⟩
  have HAr : Has l.prog w K mg base "are_cells" 4 ["things", "size"] (spAre K) := ⟨fi4, _, ok_are Fi4 B HC, mi4, ki4, bi4⟩
  have HE : HasN l.prog w K mg base "cell_tuple" 5 "things" (spCells K) := ⟨fct, _, ok_cells Fct B HAr, mct, kct, kbct⟩
  have HED : HasD l.prog w K mg base "cell_tuple" 5 "things" (spCells K) := ⟨fct, _, dsct, ok_cells Fct B HAr, mct, kct, hdct, bdct⟩
  have HA : Has l.prog w K mg base "added_cells" 2 ["one", "other"] (spAdded K) := ⟨fi5, _, ok_added Fi5 B, mi5, ki5, bi5⟩
  have HO : Has l.prog w K mg base "share_odd" 2 ["one", "other"] (spShare K) := ⟨fi6, _, ok_share Fi6 B, mi6, ki6, bi6⟩
  have MS : HasM l.prog w K mg base C "size" 2 ["self"] (spSize C) := ⟨fS, _, ok_size FS B T, mS, bS⟩
  have MU : HasM l.prog w K mg base C "up" 2 ["self"] (spUps C) := ⟨fU, _, ok_ups FU B T, mU, bU⟩
  have MY : HasM l.prog w K mg base C "parity" 6 ["self", "cells"] (spPar K C) := ⟨fY, _, ok_par FY B T MS HE, mY, bY⟩
  have MX : HasM l.prog w K mg base C "is_up" 4 ["self", "cell"] (spIsUp C) := ⟨fX, _, ok_isup FX B T MS HC, mX, bX⟩
  have HI : HasIni l.prog w K mg base C := ⟨fI, _, ok_init FI B T HZ HE, mkI, kbI2, kbI1, e, dsI, fun H => .inr ⟨_, #[], _, le, rfl, rfl, Nat.zero_le _, .nil⟩, hdI, bI⟩
  have MZ : HasM l.prog w K mg base C "toggled" 8 ["self", "cells"] (spTog K C) := ⟨fZ, _, ok_tog FZ B T MS MU HE HA HI, mZ, bZ⟩
  have HJ : HasFI l.prog w K mg base V := ⟨fJ, _, ok_finit FJ B TF HED HO, ⟨mkV, aJ, nJ, kcV⟩, bJ⟩
  have N1 : HasM l.prog w K mg base V "tested" 2 ["self"] (spTested V) := ⟨fg1, _, ok_tested Fg1 TF, mg1, bg1⟩
  have N2 : HasM l.prog w K mg base V "toggled" 2 ["self"] (spToggled V) := ⟨fg2, _, ok_toggled Fg2 TF, mg2, bg2⟩
  have N3 : HasM l.prog w K mg base V "width" 2 ["self"] (spFWidth V) := ⟨fg3, _, ok_fwidth Fg3 B TF, mg3, bg3⟩
  have N4 : HasM l.prog w K mg base V "is_idle" 2 ["self"] (spIdle V) := ⟨fg4, _, ok_idle Fg4 TF, mg4, bg4⟩
  have HW0 : HasW l.prog w K mg base W := ⟨fN, _, ok_wini FN TW, iN, tN, bN⟩
  have HF : HasFit l.prog w K mg base V W := ⟨ffi, _, ok_fit Ffi TF TW N3 HW0, mfi, kfi, bfi⟩
  have HAp : HasAp0 l.prog w K mg base C V W := ⟨fap, _, ok_apply Fap T TF TW MS MY MZ N1 N2 HF, map, kap, bap⟩
  have HAq : HasAp l.prog w K mg base C V W := HAp
  have HAl : ∃ f fd, FnOk l.prog w K mg base (L2.CX l.prog w) 10 f fd ["board", "flips"] (spApplyAll K C V W) ∧ mg "apply_flips" = some (.ref f) ∧ PySem.W.keepIn K (.ref f) = true ∧ Binds K fd ["board", "flips"] [] := ⟨faa, _, ok_applyAll Faa HAp, maa, kaa, baa⟩
  have HPv : Has l.prog w K mg base "cells_past" 6 ["cells", "later"] (spPastV K V) := ⟨fpa, _, ok_pastV Fpa TF HED HO HA N1 N2, mpa, kpa, bpa⟩
  have HMv : Has l.prog w K mg base "moved_past" 8 ["flip", "later"] (spMoved V) := ⟨fmo, _, ok_moved Fmo TF HPv HO HA N1 N2 HJ, mmo, kmo, bmo⟩
  have Hm1 : Has l.prog w K mg base "mask_of" 2 ["cells"] (spMaskOf K) := ⟨fm1, _, ok_maskOf Fm1 B, mm1, km1, bm1⟩
  have Hm2 : Has l.prog w K mg base "cells_of" 2 ["mask"] spCellsOf := ⟨fm2, _, ok_cellsOf Fm2 B, mm2, km2, bm2⟩
  have Hm4 : Has l.prog w K mg base "reduced" 2 ["pivots", "mask"] spReduced := ⟨fm4, _, ok_reduced Fm4, mm4, km4, bm4⟩
  have Hm3 : Has l.prog w K mg base "pivots_of" 3 ["masks"] (spPivots K) := ⟨fm3, _, ok_pivots Fm3 B Hm4, mm3, km3, bm3⟩
  have Hm5 : Has l.prog w K mg base "rank_of" 4 ["masks"] (spRank K) := ⟨fm5, _, ok_rank Fm5 B Hm3, mm5, km5, bm5⟩
  have Hm6 : Has l.prog w K mg base "are_rows" 5 ["things"] (spRows K) := ⟨fm6, _, ok_rows Fm6 B ⟨_, g_M⟩ HAr, mm6, km6, bm6⟩
  have HTI : HasTI l.prog w K mg base Tt := ⟨fti, _, ok_tinit Fti B TT Hm6 Hm1 Hm5, ⟨mkTt, ati, nti, kcTt⟩, bti⟩
  have T2 : HasM l.prog w K mg base Tt "size" 2 ["self"] (spTSize Tt) := ⟨ft2, _, ok_TSize Ft2 B TT, mt2, bt2⟩
  have T3 : HasM l.prog w K mg base Tt "row" 4 ["self", "cell"] (spRow Tt) := ⟨ft3, _, ok_row Ft3 TT T2 HC Hm2, mt3, bt3⟩
  have T5 : HasM l.prog w K mg base Tt "check_size" 3 ["self", "size"] (spCheck Tt) := ⟨ft5, _, ok_check Ft5 TT T2, mt5, bt5⟩
  have TIm : HasM l.prog w K mg base Tt "image" 8 ["self", "board"] (spImage Tt C) := ⟨ft4, _, ok_image Ft4 B TT T T5 T2 T3 MS MY HI, mt4, bt4⟩
  have HNiA : Has l.prog w K mg base "is_integer" 1 ["thing"] (K33.X.spIntegerA K) := ⟨fi1, _, K33.X.ok_integerA Fi1 B, mi1, ki1, bi1⟩
  have HBA : Has l.prog w K mg base "is_integer_between" 2 ["thing", "low", "high"] (K33.X.spBetA K) := ⟨fi2, _, K33.X.ok_betA Fi2 B HNiA, mi2, ki2, bi2⟩
  have HSn : Has l.prog w K mg base "is_name" 2 ["thing"] (K33.X.spName K) := ⟨fsn, _, K33.X.ok_name Fsn B hS ⟨_, g_Le⟩, msn, ksn, bsn⟩
  have HSt : Has l.prog w K mg base "is_time" 3 ["thing"] (K33.X.spTime K) := ⟨fst, _, K33.X.ok_time Fst ⟨_, g_Ti⟩ HBA, mst, kst, bst⟩
  have HSs : Has l.prog w K mg base "is_stamp" 4 ["thing"] (K33.X.spStamp K) := ⟨fss, _, K33.X.ok_stamp Fss B ⟨_, g_Nu⟩ HBA HSt HSn, mss, kss, bss⟩
  have HQI : HasHI l.prog w K mg base Q := ⟨fqi, _, ok_hini Fqi TQ, ⟨mkQ, aqi, nqi, kcQ⟩, bqi⟩
  have QL : HasM l.prog w K mg base Q "__len__" 2 ["self"] (spHLen Q) := ⟨fql, _, ok_hlen Fql B TQ, mql, bql⟩
  have QS : HasM l.prog w K mg base Q "start" 2 ["self"] (spStart Q) := ⟨fqs, _, ok_start Fqs TQ, mqs, bqs⟩
  have QK : HasM l.prog w K mg base Q "keep" 2 ["self", "stamp", "flip", "changes"] (spKeep Q) := ⟨fqk, _, ok_keep Fqk TQ, mqk, bqk⟩
  have QH : HasM l.prog w K mg base Q "has_entry" 5 ["self", "stamp"] (spHas Q) := ⟨fqh, _, ok_has Fqh TQ HSs, mqh, bqh⟩
  have QC : HasM l.prog w K mg base Q "check_entry" 6 ["self", "stamp"] (spCheckE Q V) := ⟨fqc, _, ok_check_e Fqc TQ QH, mqc, bqc⟩
  have QG : HasM l.prog w K mg base Q "changes" 7 ["self", "stamp"] (spChanges Q V) := ⟨fqg, _, ok_changes Fqg TQ QC, mqg, bqg⟩
  have QF : HasM l.prog w K mg base Q "flip" 7 ["self", "stamp"] (spFlipH Q V) := ⟨fqf, _, ok_flipH Fqf TQ QC, mqf, bqf⟩
  have QW : HasM l.prog w K mg base Q "stands" 8 ["self", "stamp"] (spStands Q V) := ⟨fqw, _, ok_stands Fqw TQ QG, mqw, bqw⟩
  have QM : HasM l.prog w K mg base Q "stamps" 2 ["self"] (spStamps Q V) := ⟨fqm, _, ok_stamps Fqm B TQ, mqm, bqm⟩
  have QR : HasM l.prog w K mg base Q "remove" 9 ["self", "stamp"] (spSwitch true Q V) := ⟨fqr, _, ok_remove Fqr TQ QW, mqr, bqr⟩
  have QU : HasM l.prog w K mg base Q "restore" 9 ["self", "stamp"] (spSwitch false Q V) := ⟨fqu, _, ok_restore Fqu TQ QW, mqu, bqu⟩
  have QE : HasM l.prog w K mg base Q "enter" 5 ["self", "stamp", "flip"] (spEnterH Q V C) := ⟨fqe, _, ok_enterH Fqe B TQ T ⟨_, g_En⟩ HSs HF MS QK, mqe, bqe⟩
  have HSF : Has l.prog w K mg base "standing_flips" 9 ["history", "stamps"] (spStF K Q V) := ⟨fsf, _, ok_stF Fsf TQ QW QF, msf, ksf, bsf⟩
  have QB : HasM l.prog w K mg base Q "board" 11 ["self"] (spBoardH Q V C) := ⟨fqb, _, ok_boardH Fqb TQ QM HSF HAl, mqb, bqb⟩
  have HP : Has l.prog w K mg base "_law_pot" 2 ["_law_script", "_law_k"] (spPot K) := ⟨f31, _, ok_pot F31 B, m31, k31, b31⟩
  have HD : Has l.prog w K mg base "_law_draw" 2 ["_law_pot_here", "_law_many"] spDraw := ⟨f32, _, ok_draw F32 B, m32, k32, b32⟩
  have HDW : Has l.prog w K mg base "_law_draw" 2 ["_law_pot_here", "_law_many"] spDrawW := ⟨f32, _, ok_drawW F32 B, m32, k32, b32⟩
  have HWd : Has l.prog w K mg base "_law_width" 3 ["_law_pot_here", "_law_most"] spWidth := ⟨f33, _, ok_width F33 B HD, m33, k33, b33⟩
  have HSp : Has l.prog w K mg base "_law_spots" 3 ["_law_pot_here", "_law_least", "_law_width_here"] spSpots := ⟨f34, _, ok_spots F34 B HD, m34, k34, b34⟩
  have HPr : Has l.prog w K mg base "_law_pair" 4 ["_law_pot_here", "_law_width_here"] spPairL := ⟨f35, _, ok_pair F35 B HD HSp, m35, k35, b35⟩
  have HBi : Has l.prog w K mg base "_law_bits" 3 ["_law_pot_here", "_law_width_here"] spBits := ⟨f37, _, ok_bits F37 B HD, m37, k37, b37⟩
  have HYp : Has l.prog w K mg base "_law_parity" 2 ["_law_bits_here", "_law_spots_here"] (spParity K) := ⟨f38, _, ok_parity F38 B, m38, k38, b38⟩
  have HAf : Has l.prog w K mg base "_law_after" 3 ["_law_bits_here", "_law_pair_here"] (spAfter K) := ⟨f39, _, ok_after F39 B HYp, m39, k39, b39⟩
  have HAa : Has l.prog w K mg base "_law_after_all" 4 ["_law_bits_here", "_law_pairs"] (spAfterAll K) := ⟨f40, _, ok_afterAll F40 B HAf, m40, k40, b40⟩
  have HV : Has l.prog w K mg base "_law_up" 2 ["_law_bits_here"] (spUpL K) := ⟨f41, _, ok_upL F41 B, m41, k41, b41⟩
  have HMd : Has l.prog w K mg base "_law_made" 8 ["_law_bits_here"] (spMade C) := ⟨f42, _, ok_made F42 B T HV HI, m42, k42, b42⟩
  have HFo : Has l.prog w K mg base "_law_flip_of" 8 ["_law_pair_here"] (spFlipS K V) := ⟨f43, _, ok_flipS F43 B TF HJ, m43, k43, b43⟩
  have HSo : HasG l.prog w K mg base "_law_is_so" 7 ["_law_found", "_law_bits_here"] (spIsSo C) := ⟨f44, _, ok_isSo F44 B T TI MS MU MX MY HV, m44, k44, b44⟩
  have HIp : HasG l.prog w K mg base "_law_is_pair" 3 ["_law_found", "_law_pair_here"] (spIsPair K V) := ⟨f45, _, ok_isPair F45 B TF TIF N1 N2 N3 N4, m45, k45, b45⟩
  have HMo : Has l.prog w K mg base "_law_moment" 3 ["_law_pot_here"] spMoment := ⟨f51, _, ok_moment F51 HDW, m51, k51, b51⟩
  have HMk : Has l.prog w K mg base "_law_mark" 4 ["_law_pot_here"] spMark := ⟨f52, _, ok_mark F52 B HDW HMo, m52, k52, b52⟩
  have HSd : Has l.prog w K mg base "_law_started" 11 ["_law_pot_here", "_law_bits_here"] (spStarted C) := ⟨f54, _, ok_started F54 B T TF TT HD HV HI HJ HAq HTI MZ TIm HMd, m54, k54, b54⟩
  have HDe : Has l.prog w K mg base "_law_deed" 9 ["_law_pot_here", "_law_pair_here", "_law_width_here"] (spDeed V) := ⟨f55, _, ok_deed F55 HFo HD HPr HMv, m55, k55, b55⟩
  have HSg : Has l.prog w K mg base "_law_standing" 2 ["_law_notes"] spStanding := ⟨f56, _, ok_standing F56 B, m56, k56, b56⟩
  have HNo : Has l.prog w K mg base "_law_now" 5 ["_law_bits_here", "_law_notes"] spNow := ⟨f57, _, ok_now F57 HAa HSg, m57, k57, b57⟩
  have HSw : Has l.prog w K mg base "_law_switch" 10 ["_law_tale", "_law_note"] (spLSw Q V C) := ⟨f59, _, ok_lsw F59 TQ QR QU, m59, k59, b59⟩
  have HNm : Has l.prog w K mg base "_law_near_mark" 5 ["_law_pot_here", "_law_notes"] (spNear Q V C) := ⟨f53, _, ok_near F53 B HMk HDW, m53, k53, b53⟩
  have HTo : HasG l.prog w K mg base "_law_is_told" 12 ["_law_tale", "_law_bits_here", "_law_notes"] (spTold Q V C) := ⟨f58, _, ok_told F58 B TQ QM QL QF QW QG QS QB HIp HSo HNo, m58, k58, b58⟩
  have HEn : Has l.prog w K mg base "_law_enter" 10 ["_law_pot_here", "_law_tale", "_law_notes", "_law_width_here"] (spLEnter Q V C) := ⟨f60, _, ok_lenter F60 B TQ HNm HPr HDe QE, m60, k60, b60⟩
  have HSe : Has l.prog w K mg base "_law_step" 11 ["_law_pot_here", "_law_tale", "_law_notes", "_law_width_here"] (spStep Q V C) := ⟨f61, _, ok_step F61 B HD HEn HSw, m61, k61, b61⟩
  have HSm : Has l.prog w K mg base "_law_some_steps" 12 ["_law_pot_here", "_law_tale", "_law_notes", "_law_width_here"] (spSteps Q V C) := ⟨f62, _, ok_steps F62 B HD HSe HSw, m62, k62, b62⟩
  have HRi : HasG l.prog w K mg base "_law_right" 13 ["_law_pot_here"] spRight := ⟨f63, _, ok_right F63 B TQ HD HWd HBi HSd HQI HSm HSw QM HTo, m63, k63, b63⟩
  exact ok_law Flaw B HP HRi
end K33
open PySem PySem.W PyProof.Rows
set_option maxRecDepth 100000 in
set_option maxHeartbeats 0 in
theorem PySem.Challenge.cw_paritycells_k33_removed_and_restored_holds : PySem.Challenge.rw_paritycells_k33_removed_and_restored.Holds := by
  w_on; o_law; k_head; (case hw => w_witness2)
  k_fill
  refine Par.walkG (l := PySem.Challenge.rw_paritycells_k33_removed_and_restored) (k := 14) (x := "_law_script") (sp := K33.spLaw) rfl (by decide) rfl ⟨rfl, by decide, by decide⟩ (fun w h Y => PySem.W.kIn_of Y) ?F (fun K H a ns hl _ hS => ⟨a, ns, rfl, hS, hl, fun _ => rfl⟩)
  case F =>
    intro w mg fa h KX G hmg
    refine' K33.all_mk KX G hmg ?q_ai1 ?q_li1 ?q_ci1 ?q_ki1 ?q_ai2 ?q_li2 ?q_ci2 ?q_ki2 ?q_ai3 ?q_li3 ?q_ci3 ?q_ki3 ?q_ai4 ?q_li4 ?q_ci4 ?q_ki4 ?q_ai5 ?q_li5 ?q_ci5 ?q_ki5 ?q_ai6 ?q_li6 ?q_ci6 ?q_ki6 ?q_afi ?q_lfi ?q_cfi ?q_kfi ?q_aap ?q_lap ?q_cap ?q_kap ?q_aaa ?q_laa ?q_caa ?q_kaa ?q_amo ?q_lmo ?q_cmo ?q_kmo ?q_apa ?q_lpa ?q_cpa ?q_kpa ?q_aic ?q_lic ?q_dic ?q_cic ?q_kic ?q_act ?q_lct ?q_dct ?q_cct ?q_kct ?q_aC ?q_pgC ?q_hdC ?q_poC ?q_saC ?q_mkC ?q_kcC ?q_nf0C ?q_jaC ?q_jnC ?q_jtC ?q_jmC ?q_iI ?q_nI ?q_lI ?q_dI ?q_le ?q_cI ?q_kI ?q_aS ?q_nS ?q_lS ?q_cS ?q_kS ?q_aU ?q_nU ?q_lU ?q_cU ?q_kU ?q_aX ?q_nX ?q_lX ?q_cX ?q_kX ?q_aY ?q_nY ?q_lY ?q_cY ?q_kY ?q_aZ ?q_nZ ?q_lZ ?q_cZ ?q_kZ ?q_aV ?q_pgV ?q_hdV ?q_poV ?q_saV ?q_mkV ?q_kcV ?q_nf0V ?q_nf1V ?q_jaV ?q_jnV ?q_jtV ?q_jmV ?q_aJ ?q_nJ ?q_lJ ?q_cJ ?q_kJ ?q_ag1 ?q_ng1 ?q_lg1 ?q_cg1 ?q_kg1 ?q_ag2 ?q_ng2 ?q_lg2 ?q_cg2 ?q_kg2 ?q_ag3 ?q_ng3 ?q_lg3 ?q_cg3 ?q_kg3 ?q_ag4 ?q_ng4 ?q_lg4 ?q_cg4 ?q_kg4 ?q_aW ?q_xW ?q_saW ?q_exW ?q_tyW ?q_kpW ?q_nf0W ?q_iN ?q_tN ?q_lN ?q_cN ?q_kN ?q_c_M ?q_am1 ?q_lm1 ?q_cm1 ?q_km1 ?q_am2 ?q_lm2 ?q_cm2 ?q_km2 ?q_am3 ?q_lm3 ?q_cm3 ?q_km3 ?q_am4 ?q_lm4 ?q_cm4 ?q_km4 ?q_am5 ?q_lm5 ?q_cm5 ?q_km5 ?q_am6 ?q_lm6 ?q_cm6 ?q_km6 ?q_aTt ?q_pgTt ?q_hdTt ?q_poTt ?q_saTt ?q_mkTt ?q_kcTt ?q_nf0Tt ?q_ati ?q_nti ?q_lti ?q_cti ?q_kti ?q_at2 ?q_nt2 ?q_lt2 ?q_ct2 ?q_kt2 ?q_at3 ?q_nt3 ?q_lt3 ?q_ct3 ?q_kt3 ?q_at5 ?q_nt5 ?q_lt5 ?q_ct5 ?q_kt5 ?q_at4 ?q_nt4 ?q_lt4 ?q_ct4 ?q_kt4 ?q_asn ?q_lsn ?q_csn ?q_ksn ?q_ast ?q_lst ?q_cst ?q_kst ?q_ass ?q_lss ?q_css ?q_kss ?q_c_Ti ?q_c_Nu ?q_c_Le ?q_aQ ?q_pgQ ?q_hdQ ?q_poQ ?q_saQ ?q_mkQ ?q_kcQ ?q_nf0Q ?q_nf1Q ?q_nf2Q ?q_aqi ?q_nqi ?q_lqi ?q_cqi ?q_kqi ?q_aql ?q_nql ?q_lql ?q_cql ?q_kql ?q_aqe ?q_nqe ?q_lqe ?q_cqe ?q_kqe ?q_aqk ?q_nqk ?q_lqk ?q_cqk ?q_kqk ?q_aqr ?q_nqr ?q_lqr ?q_cqr ?q_kqr ?q_aqu ?q_nqu ?q_lqu ?q_cqu ?q_kqu ?q_aqs ?q_nqs ?q_lqs ?q_cqs ?q_kqs ?q_aqb ?q_nqb ?q_lqb ?q_cqb ?q_kqb ?q_aqm ?q_nqm ?q_lqm ?q_cqm ?q_kqm ?q_aqf ?q_nqf ?q_lqf ?q_cqf ?q_kqf ?q_aqw ?q_nqw ?q_lqw ?q_cqw ?q_kqw ?q_aqg ?q_nqg ?q_lqg ?q_cqg ?q_kqg ?q_aqh ?q_nqh ?q_lqh ?q_cqh ?q_kqh ?q_aqc ?q_nqc ?q_lqc ?q_cqc ?q_kqc ?q_asf ?q_lsf ?q_csf ?q_ksf ?q_c_En ?q_a31 ?q_l31 ?q_c31 ?q_k31 ?q_a32 ?q_l32 ?q_c32 ?q_k32 ?q_a33 ?q_l33 ?q_c33 ?q_k33 ?q_a34 ?q_l34 ?q_c34 ?q_k34 ?q_a35 ?q_l35 ?q_c35 ?q_k35 ?q_a37 ?q_l37 ?q_c37 ?q_k37 ?q_a38 ?q_l38 ?q_c38 ?q_k38 ?q_a39 ?q_l39 ?q_c39 ?q_k39 ?q_a40 ?q_l40 ?q_c40 ?q_k40 ?q_a41 ?q_l41 ?q_c41 ?q_k41 ?q_a42 ?q_l42 ?q_c42 ?q_k42 ?q_a43 ?q_l43 ?q_c43 ?q_k43 ?q_a44 ?q_l44 ?q_c44 ?q_k44 ?q_a45 ?q_l45 ?q_c45 ?q_k45 ?q_a51 ?q_l51 ?q_c51 ?q_k51 ?q_a52 ?q_l52 ?q_c52 ?q_k52 ?q_a54 ?q_l54 ?q_c54 ?q_k54 ?q_a55 ?q_l55 ?q_c55 ?q_k55 ?q_a56 ?q_l56 ?q_c56 ?q_k56 ?q_a57 ?q_l57 ?q_c57 ?q_k57 ?q_a59 ?q_l59 ?q_c59 ?q_k59 ?q_a53 ?q_l53 ?q_c53 ?q_k53 ?q_a58 ?q_l58 ?q_c58 ?q_k58 ?q_a60 ?q_l60 ?q_c60 ?q_k60 ?q_a61 ?q_l61 ?q_c61 ?q_k61 ?q_a62 ?q_l62 ?q_c62 ?q_k62 ?q_a63 ?q_l63 ?q_c63 ?q_k63 ?q_alaw ?q_llaw ?q_claw ?q_klaw ?q_z_len ?q_z_abs ?q_z_max ?q_z_min ?q_z_divmod ?q_z_list ?q_z_tuple ?q_z_range ?q_z_isinstance ?q_z_bool ?q_z_int ?q_z_sorted ?q_z_set ?q_z_all ?q_z_enumerate ?q_z_repr ?q_z_sum ?q_z_str
    (case q_ai1 => k_is)
    (case q_li1 => k_is)
    (case q_ci1 => k_is)
    (case q_ki1 => k_is)
    (case q_ai2 => k_is)
    (case q_li2 => k_is)
    (case q_ci2 => k_is)
    (case q_ki2 => k_is)
    (case q_ai3 => k_is)
    (case q_li3 => k_is)
    (case q_ci3 => k_is)
    (case q_ki3 => k_is)
    (case q_ai4 => k_is)
    (case q_li4 => k_is)
    (case q_ci4 => k_is)
    (case q_ki4 => k_is)
    (case q_ai5 => k_is)
    (case q_li5 => k_is)
    (case q_ci5 => k_is)
    (case q_ki5 => k_is)
    (case q_ai6 => k_is)
    (case q_li6 => k_is)
    (case q_ci6 => k_is)
    (case q_ki6 => k_is)
    (case q_afi => k_is)
    (case q_lfi => k_is)
    (case q_cfi => k_is)
    (case q_kfi => k_is)
    (case q_aap => k_is)
    (case q_lap => k_is)
    (case q_cap => k_is)
    (case q_kap => k_is)
    (case q_aaa => k_is)
    (case q_laa => k_is)
    (case q_caa => k_is)
    (case q_kaa => k_is)
    (case q_amo => k_is)
    (case q_lmo => k_is)
    (case q_cmo => k_is)
    (case q_kmo => k_is)
    (case q_apa => k_is)
    (case q_lpa => k_is)
    (case q_cpa => k_is)
    (case q_kpa => k_is)
    (case q_aic => k_is)
    (case q_lic => k_is)
    (case q_dic => k_is)
    (case q_cic => k_is)
    (case q_kic => k_is)
    (case q_act => k_is)
    (case q_lct => k_is)
    (case q_dct => k_is)
    (case q_cct => k_is)
    (case q_kct => k_is)
    (case q_aC => k_is)
    (case q_pgC => k_is)
    (case q_hdC => k_is)
    (case q_poC => k_is)
    (case q_saC => k_is)
    (case q_mkC => k_is)
    (case q_kcC => k_is)
    (case q_nf0C => k_is)
    (case q_jaC => k_is)
    (case q_jnC => k_is)
    (case q_jtC => k_is)
    (case q_jmC => k_is)
    (case q_iI => k_is)
    (case q_nI => k_is)
    (case q_lI => k_is)
    (case q_dI => k_is)
    (case q_le => k_is)
    (case q_cI => k_is)
    (case q_kI => k_is)
    (case q_aS => k_is)
    (case q_nS => k_is)
    (case q_lS => k_is)
    (case q_cS => k_is)
    (case q_kS => k_is)
    (case q_aU => k_is)
    (case q_nU => k_is)
    (case q_lU => k_is)
    (case q_cU => k_is)
    (case q_kU => k_is)
    (case q_aX => k_is)
    (case q_nX => k_is)
    (case q_lX => k_is)
    (case q_cX => k_is)
    (case q_kX => k_is)
    (case q_aY => k_is)
    (case q_nY => k_is)
    (case q_lY => k_is)
    (case q_cY => k_is)
    (case q_kY => k_is)
    (case q_aZ => k_is)
    (case q_nZ => k_is)
    (case q_lZ => k_is)
    (case q_cZ => k_is)
    (case q_kZ => k_is)
    (case q_aV => k_is)
    (case q_pgV => k_is)
    (case q_hdV => k_is)
    (case q_poV => k_is)
    (case q_saV => k_is)
    (case q_mkV => k_is)
    (case q_kcV => k_is)
    (case q_nf0V => k_is)
    (case q_nf1V => k_is)
    (case q_jaV => k_is)
    (case q_jnV => k_is)
    (case q_jtV => k_is)
    (case q_jmV => k_is)
    (case q_aJ => k_is)
    (case q_nJ => k_is)
    (case q_lJ => k_is)
    (case q_cJ => k_is)
    (case q_kJ => k_is)
    (case q_ag1 => k_is)
    (case q_ng1 => k_is)
    (case q_lg1 => k_is)
    (case q_cg1 => k_is)
    (case q_kg1 => k_is)
    (case q_ag2 => k_is)
    (case q_ng2 => k_is)
    (case q_lg2 => k_is)
    (case q_cg2 => k_is)
    (case q_kg2 => k_is)
    (case q_ag3 => k_is)
    (case q_ng3 => k_is)
    (case q_lg3 => k_is)
    (case q_cg3 => k_is)
    (case q_kg3 => k_is)
    (case q_ag4 => k_is)
    (case q_ng4 => k_is)
    (case q_lg4 => k_is)
    (case q_cg4 => k_is)
    (case q_kg4 => k_is)
    (case q_aW => k_is)
    (case q_xW => k_is)
    (case q_saW => k_is)
    (case q_exW => k_is)
    (case q_tyW => k_is)
    (case q_kpW => k_is)
    (case q_nf0W => k_is)
    (case q_iN => k_is)
    (case q_tN => k_is)
    (case q_lN => k_is)
    (case q_cN => k_is)
    (case q_kN => k_is)
    (case q_c_M => k_is)
    (case q_am1 => k_is)
    (case q_lm1 => k_is)
    (case q_cm1 => k_is)
    (case q_km1 => k_is)
    (case q_am2 => k_is)
    (case q_lm2 => k_is)
    (case q_cm2 => k_is)
    (case q_km2 => k_is)
    (case q_am3 => k_is)
    (case q_lm3 => k_is)
    (case q_cm3 => k_is)
    (case q_km3 => k_is)
    (case q_am4 => k_is)
    (case q_lm4 => k_is)
    (case q_cm4 => k_is)
    (case q_km4 => k_is)
    (case q_am5 => k_is)
    (case q_lm5 => k_is)
    (case q_cm5 => k_is)
    (case q_km5 => k_is)
    (case q_am6 => k_is)
    (case q_lm6 => k_is)
    (case q_cm6 => k_is)
    (case q_km6 => k_is)
    (case q_aTt => k_is)
    (case q_pgTt => k_is)
    (case q_hdTt => k_is)
    (case q_poTt => k_is)
    (case q_saTt => k_is)
    (case q_mkTt => k_is)
    (case q_kcTt => k_is)
    (case q_nf0Tt => k_is)
    (case q_ati => k_is)
    (case q_nti => k_is)
    (case q_lti => k_is)
    (case q_cti => k_is)
    (case q_kti => k_is)
    (case q_at2 => k_is)
    (case q_nt2 => k_is)
    (case q_lt2 => k_is)
    (case q_ct2 => k_is)
    (case q_kt2 => k_is)
    (case q_at3 => k_is)
    (case q_nt3 => k_is)
    (case q_lt3 => k_is)
    (case q_ct3 => k_is)
    (case q_kt3 => k_is)
    (case q_at5 => k_is)
    (case q_nt5 => k_is)
    (case q_lt5 => k_is)
    (case q_ct5 => k_is)
    (case q_kt5 => k_is)
    (case q_at4 => k_is)
    (case q_nt4 => k_is)
    (case q_lt4 => k_is)
    (case q_ct4 => k_is)
    (case q_kt4 => k_is)
    (case q_asn => k_is)
    (case q_lsn => k_is)
    (case q_csn => k_is)
    (case q_ksn => k_is)
    (case q_ast => k_is)
    (case q_lst => k_is)
    (case q_cst => k_is)
    (case q_kst => k_is)
    (case q_ass => k_is)
    (case q_lss => k_is)
    (case q_css => k_is)
    (case q_kss => k_is)
    (case q_c_Ti => k_is)
    (case q_c_Nu => k_is)
    (case q_c_Le => k_is)
    (case q_aQ => k_is)
    (case q_pgQ => k_is)
    (case q_hdQ => k_is)
    (case q_poQ => k_is)
    (case q_saQ => k_is)
    (case q_mkQ => k_is)
    (case q_kcQ => k_is)
    (case q_nf0Q => k_is)
    (case q_nf1Q => k_is)
    (case q_nf2Q => k_is)
    (case q_aqi => k_is)
    (case q_nqi => k_is)
    (case q_lqi => k_is)
    (case q_cqi => k_is)
    (case q_kqi => k_is)
    (case q_aql => k_is)
    (case q_nql => k_is)
    (case q_lql => k_is)
    (case q_cql => k_is)
    (case q_kql => k_is)
    (case q_aqe => k_is)
    (case q_nqe => k_is)
    (case q_lqe => k_is)
    (case q_cqe => k_is)
    (case q_kqe => k_is)
    (case q_aqk => k_is)
    (case q_nqk => k_is)
    (case q_lqk => k_is)
    (case q_cqk => k_is)
    (case q_kqk => k_is)
    (case q_aqr => k_is)
    (case q_nqr => k_is)
    (case q_lqr => k_is)
    (case q_cqr => k_is)
    (case q_kqr => k_is)
    (case q_aqu => k_is)
    (case q_nqu => k_is)
    (case q_lqu => k_is)
    (case q_cqu => k_is)
    (case q_kqu => k_is)
    (case q_aqs => k_is)
    (case q_nqs => k_is)
    (case q_lqs => k_is)
    (case q_cqs => k_is)
    (case q_kqs => k_is)
    (case q_aqb => k_is)
    (case q_nqb => k_is)
    (case q_lqb => k_is)
    (case q_cqb => k_is)
    (case q_kqb => k_is)
    (case q_aqm => k_is)
    (case q_nqm => k_is)
    (case q_lqm => k_is)
    (case q_cqm => k_is)
    (case q_kqm => k_is)
    (case q_aqf => k_is)
    (case q_nqf => k_is)
    (case q_lqf => k_is)
    (case q_cqf => k_is)
    (case q_kqf => k_is)
    (case q_aqw => k_is)
    (case q_nqw => k_is)
    (case q_lqw => k_is)
    (case q_cqw => k_is)
    (case q_kqw => k_is)
    (case q_aqg => k_is)
    (case q_nqg => k_is)
    (case q_lqg => k_is)
    (case q_cqg => k_is)
    (case q_kqg => k_is)
    (case q_aqh => k_is)
    (case q_nqh => k_is)
    (case q_lqh => k_is)
    (case q_cqh => k_is)
    (case q_kqh => k_is)
    (case q_aqc => k_is)
    (case q_nqc => k_is)
    (case q_lqc => k_is)
    (case q_cqc => k_is)
    (case q_kqc => k_is)
    (case q_asf => k_is)
    (case q_lsf => k_is)
    (case q_csf => k_is)
    (case q_ksf => k_is)
    (case q_c_En => k_is)
    (case q_a31 => k_is)
    (case q_l31 => k_is)
    (case q_c31 => k_is)
    (case q_k31 => k_is)
    (case q_a32 => k_is)
    (case q_l32 => k_is)
    (case q_c32 => k_is)
    (case q_k32 => k_is)
    (case q_a33 => k_is)
    (case q_l33 => k_is)
    (case q_c33 => k_is)
    (case q_k33 => k_is)
    (case q_a34 => k_is)
    (case q_l34 => k_is)
    (case q_c34 => k_is)
    (case q_k34 => k_is)
    (case q_a35 => k_is)
    (case q_l35 => k_is)
    (case q_c35 => k_is)
    (case q_k35 => k_is)
    (case q_a37 => k_is)
    (case q_l37 => k_is)
    (case q_c37 => k_is)
    (case q_k37 => k_is)
    (case q_a38 => k_is)
    (case q_l38 => k_is)
    (case q_c38 => k_is)
    (case q_k38 => k_is)
    (case q_a39 => k_is)
    (case q_l39 => k_is)
    (case q_c39 => k_is)
    (case q_k39 => k_is)
    (case q_a40 => k_is)
    (case q_l40 => k_is)
    (case q_c40 => k_is)
    (case q_k40 => k_is)
    (case q_a41 => k_is)
    (case q_l41 => k_is)
    (case q_c41 => k_is)
    (case q_k41 => k_is)
    (case q_a42 => k_is)
    (case q_l42 => k_is)
    (case q_c42 => k_is)
    (case q_k42 => k_is)
    (case q_a43 => k_is)
    (case q_l43 => k_is)
    (case q_c43 => k_is)
    (case q_k43 => k_is)
    (case q_a44 => k_is)
    (case q_l44 => k_is)
    (case q_c44 => k_is)
    (case q_k44 => k_is)
    (case q_a45 => k_is)
    (case q_l45 => k_is)
    (case q_c45 => k_is)
    (case q_k45 => k_is)
    (case q_a51 => k_is)
    (case q_l51 => k_is)
    (case q_c51 => k_is)
    (case q_k51 => k_is)
    (case q_a52 => k_is)
    (case q_l52 => k_is)
    (case q_c52 => k_is)
    (case q_k52 => k_is)
    (case q_a54 => k_is)
    (case q_l54 => k_is)
    (case q_c54 => k_is)
    (case q_k54 => k_is)
    (case q_a55 => k_is)
    (case q_l55 => k_is)
    (case q_c55 => k_is)
    (case q_k55 => k_is)
    (case q_a56 => k_is)
    (case q_l56 => k_is)
    (case q_c56 => k_is)
    (case q_k56 => k_is)
    (case q_a57 => k_is)
    (case q_l57 => k_is)
    (case q_c57 => k_is)
    (case q_k57 => k_is)
    (case q_a59 => k_is)
    (case q_l59 => k_is)
    (case q_c59 => k_is)
    (case q_k59 => k_is)
    (case q_a53 => k_is)
    (case q_l53 => k_is)
    (case q_c53 => k_is)
    (case q_k53 => k_is)
    (case q_a58 => k_is)
    (case q_l58 => k_is)
    (case q_c58 => k_is)
    (case q_k58 => k_is)
    (case q_a60 => k_is)
    (case q_l60 => k_is)
    (case q_c60 => k_is)
    (case q_k60 => k_is)
    (case q_a61 => k_is)
    (case q_l61 => k_is)
    (case q_c61 => k_is)
    (case q_k61 => k_is)
    (case q_a62 => k_is)
    (case q_l62 => k_is)
    (case q_c62 => k_is)
    (case q_k62 => k_is)
    (case q_a63 => k_is)
    (case q_l63 => k_is)
    (case q_c63 => k_is)
    (case q_k63 => k_is)
    (case q_alaw => k_is)
    (case q_llaw => k_is)
    (case q_claw => k_is)
    (case q_klaw => k_is)
    (case q_z_len => k_is)
    (case q_z_abs => k_is)
    (case q_z_max => k_is)
    (case q_z_min => k_is)
    (case q_z_divmod => k_is)
    (case q_z_list => k_is)
    (case q_z_tuple => k_is)
    (case q_z_range => k_is)
    (case q_z_isinstance => k_is)
    (case q_z_bool => k_is)
    (case q_z_int => k_is)
    (case q_z_sorted => k_is)
    (case q_z_set => k_is)
    (case q_z_all => k_is)
    (case q_z_enumerate => k_is)
    (case q_z_repr => k_is)
    (case q_z_sum => k_is)
    (case q_z_str => k_is)
