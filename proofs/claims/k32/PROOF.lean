import PyProof.Rows.All
import Wide.All
import OpenK.AllK
import Wide.FinOn
import HandS.ForMost
import HandS.ForExc
import HandS.Evl
import HandS.ExcIs
import HandS.RaiseMore
import HandS.IsInst
import HandS.Replace
import HandS.Flow
import HandS.Walk
import KE.RegKIsAll
import KE.IntTextLaws
import HandS.CallLocal
import HandS.Defaults
import HandS.MakeKwOnly
import KE.KIntText
import PyProof.Rows.StrDigitsNeg
import HandS.DictComp
import KE.KSortedM
import HandS.ExcOwn
import HandS.WordsExc
import HandS.TupAny
import HandS.TupLe
import HandS.TupMul
import HandS.Iter
import KE.KExcIs
import HandS.ExcInit
import HandS.ExcField
import HandS.Nested
import HandS.FStr
import KE.KExcSuper
import HandS.ExcSuper
import HandS.ClsMeth
import PySem.Challenge.RW_plinth_k32_thread_fold_and_prune
set_option Elab.async false
set_option linter.all false
set_option maxRecDepth 100000
set_option maxHeartbeats 4000000
/-! A layer of our own: defs that are promised only where no repr is running (guards), repr of data, the end of a law. -/
namespace Gd
open PySem PySem.Spec PyProof.Rows L2

/-- a def's promise, given only where no guard stands around -/
structure GOk (P : Program) (w : World) (K : PySem.W.Frag) (mg : Str → Option Value) (base : Heap) (CX : CXT) (k : Nat) (f : Addr) (fd : FuncData) (ps : List Str) (sp : Sp) : Prop where
  len : ∀ vs H Q E, sp vs H Q E → vs.length = ps.length
  go : ∀ (A : Around) (outer : List Env) (s : Shared) (H : Hp) (args : Args) (us : List Value) (vs : List V) (Q : VK) (E : XK),
    A.guards = some [] → Room k A → Env0 P w K mg base A outer s H → BindsTo s fd args (ps.zip us) → Vals vs us → sp vs H Q E →
      codeAny (model P w) A (.call (.ref f) args) (CR CX outer P w H s Q E) s

section
variable {P : Program} {w : World} {K : PySem.W.Frag} {mg : Str → Option Value} {base : Heap}
theorem gfun {CX : CXT} {x qual : Str} {st : Stmt} {f : Addr} {fd : FuncData} {N ps : List Str} {k : Nat} {sp : Sp}
    (F : Fun K x qual st f fd) (S : FnScope N ps (defScope st)) (len : ∀ vs H Q E, sp vs H Q E → vs.length = ps.length)
    (hb : ∀ (cdv : Value) (A : Around) (outer : List Env) (s : Shared) (H : Hp) (vs : List V) (Q : VK) (E : XK),
      A.guards = some [] → Room k (A.deeper (envOfC qual (defScope st) s.heap.objs.size f cdv)) → sp vs H Q E →
      ∃ t, PSs (cxOf CX P w K mg base N qual (defScope st) f cdv A outer s H E) (defBody st) t ∧ t { nx := fun _ H' => Q .non H', rt := Q } (start N vs) H) :
    GOk P w K mg base CX (k + 1) f fd ps sp := by
  obtain ⟨oc, od, kV, doc, pm, an, cdv, ct, osl, rfl, lk, hcd⟩ := F.ex
  constructor
  · exact len
  intro A outer s H args us vs Q E hg hr e0 hbd rv hsp
  have hl := len _ _ _ _ hsp
  have kp := fun b o e => (e0.bs b o e).1
  have KX : K.In s.heap := e0.mod.kin.keeps kp
  have lim : s.heap.NoLimit := e0.mod.nolimit.keeps kp
  refine codeAny_call_function hr.depth (KX _ _ lk) rfl S.co S.gen rfl (PySem.W.codeRec_of KX hcd) (hbd _ _ _ _ ?_)
  have hkind : ∀ y ∈ ps.zip us, (defScope st).names.lookup y.1 = some .local ∨ ((defScope st).names.lookup y.1 = some .cell ∧ ((cellsFrom (s.heap.objs.size + 1) (defScope st).names []).lookup y.1).isSome = true) := by
    rintro ⟨n, v⟩ hy
    cases S.par n (List.of_mem_zip hy).1 with
    | inl q => exact .inl q
    | inr q => exact .inr ⟨q, PySem.W.cellsFrom_some _ _ _ (.inl q)⟩
  refine wpAny_newFunctionEnv_cells S.kind hkind fun env he s1 x => ?_
  subst he
  obtain ⟨t, ht, hq⟩ := hb cdv A outer s H vs Q E hg (hr.deeper _) hsp
  refine ⟨lim.keeps x.toInCall.keep, codeAny_func (wpAny_mono (ht.run [] s1 (start N vs) H _ (inv_start S hr.hd e0 hl rv x) hq) (fun fl s' hs => ?_) fun e s' hs => hs)⟩
  cases fl with
  | ret u =>
    obtain ⟨v, σ', H', J, r2, q⟩ := hs
    exact ⟨v, H', J.os, J.bare, J.base, J.hok, r2, q⟩
  | next =>
    obtain ⟨σ', H', J, q⟩ := hs
    exact ⟨V.non, H', J.os, J.bare, J.base, J.hok, rfl, q⟩
  | brk => exact (let ⟨_, _, _, q⟩ := hs; False.elim q)
  | cont => exact (let ⟨_, _, _, q⟩ := hs; False.elim q)
end

/-! ### the call of such a def, from a body around which no guard stands -/
section
variable {X : Cx} {CX : CXT} {k : Nat} {f : Addr} {fd : FuncData} {ps : List Str} {sp : Sp} {E : XK} {x : Str} {p pos : Pos} {e : Expr} {es : List Expr} {t : TA}
theorem pe_callG (F : GOk X.prog X.w X.K X.mg X.base CX k f fd ps sp) (hgd : X.A.guards = some []) (hr : Room k X.A) (hg : Gl X x) (hm : X.mg x = some (.ref f)) (hk : PySem.W.keepIn X.K (.ref f) = true)
    (hb : Binds X.K fd ps []) (hx : Passes CX X E) (ha : PA X (e :: es) t) (hdb : (x == ("__debug__" : Str)) = false := by decide)
    (he : starEach (e :: es) X.env = (false, eval e X.env) :: starEach es X.env := by rfl) (hpl : (backTo pos (starEach es X.env)).any (·.1) = false := by rfl) :
    PE X (.Call (.Name x p) (e :: es) [] pos) (tCall sp [] E t) := by
  constructor
  intro pins s σ H Q I h
  refine wpAny_Call_Name_kw (ld_glob I hg hm ?_ hdb)
  refine PySem.W.callWith_K (h₀ := X.base) I.ok.mod.kin hk (thn (ha.run pos pins s σ H _ I h) fun us s1 hh => ?_) he hpl
  obtain ⟨vs, H1, I1, r, q⟩ := hh
  refine ⟨I1.kIn, ?_⟩
  rw [List.append_nil] at q
  have hl : us.length = ps.length := r.length.symm.trans (F.len _ _ _ _ q)
  have bd := hb s1 us I1.kIn (by rw [List.append_nil]; exact hl)
  rw [List.append_nil] at bd
  refine wpAny_call (codeAny_mono (F.go X.A X.stack s1 H1 ⟨us, []⟩ us vs Q E hgd hr I1.env0 bd r q) fun r' s' hq => ?_)
  cases r' with
  | error e => exact hx pins σ H1 s1 e s' I1 hq
  | ok fl =>
    cases fl with
    | ret u => exact I1.after hq
    | next => exact False.elim hq
    | brk => exact False.elim hq
    | cont => exact False.elim hq
end

/-! ### repr of data -/
def rRepr (K : PySem.W.Frag) : List V → Hp → VK → Prop := fun xs H Q => ∃ (v : V) (d : PyData), xs = [v] ∧ Dp K H v d ∧ d.showable = true ∧ d.hasDict = false ∧ d.depth ≤ 40 ∧ d.shown.length ≤ sizeLine ∧ Q (.str d.shown) H
section
variable {X : Cx}
theorem call_reprD (hgd : X.A.guards = some []) (hu : X.A.units + 64 < cLine) : CallR X (.builtin "repr") (rRepr X.K) := by
  intro pins s σ H xs us Q I r h
  obtain ⟨v, d, rfl, hd, hs, hnd, hdp, hz, q⟩ := h
  obtain ⟨u, rfl, ru⟩ := vals1 r
  obtain ⟨as, hr⟩ := Dp.reads I d v u hd ru
  cases hd with
  | lst h1 h2 =>
    cases ru
    exact repr_of_reads' hr hs (PyData.noDict_hsm hnd) hgd (by omega) (fun _ _ e => e) (fun h' u tk hk => ⟨.str _, H, I.kept (t' := tk) hk, ⟨_, rfl⟩, q⟩) hz
  | tup h1 h2 =>
    cases ru
    exact repr_of_reads' hr hs (PyData.noDict_hsm hnd) hgd (by omega) (fun _ _ e => e) (fun h' u tk hk => ⟨.str _, H, I.kept (t' := tk) hk, ⟨_, rfl⟩, q⟩) hz
  | int i =>
    obtain ⟨t, rfl⟩ := ru
    exact PySem.P.repr_of_int (of_decide_eq_true hs) ⟨.str _, H, I.tok _, ⟨_, rfl⟩, q⟩
  | non =>
    cases ru
    exact PySem.P.repr_of_none ⟨.str _, H, I.tok _, ⟨_, rfl⟩, q⟩
  | bl b =>
    cases ru
    refine PySem.P.repr_of_bool ⟨.str _, H, I.tok _, ⟨_, rfl⟩, ?_⟩
    have e : (PyData.bool b).shown = (if b then ("True" : Str) else "False") := by unfold PyData.shown; rfl
    rw [← e]
    exact q
  | str x =>
    obtain ⟨t, rfl⟩ := ru
    exact PySem.P.repr_of_str ⟨.str _, H, I.tok _, ⟨_, rfl⟩, q⟩ hz
end

/-! ### the end of a law whose def is so promised -/
section
variable {P : Program} {w : World} {K : PySem.W.Frag} {mg mb : Str → Option Value} {CX : CXT} {k : Nat} {fa a : Addr} {fd : FuncData} {x : Str} {sp : Sp} {s₁ : Shared} {vs : List Value} {ns : List Int}
/-- from an abstract heap H that tracks at most the script -/
theorem g_core (H : Hp) (KX : K.In s₁.heap) (hns : s₁.heap.Ns mainGlobals mg) (hb : s₁.heap.Ns builtinsNs mb) (hbb : ∀ x : Str, x ≠ "__name__" → mb x = bootBuiltins x) (hlim : s₁.heap.NoLimit) (hg : s₁.gens = #[])
    (ha : s₁.heap.get? a = some { cls := .type "list", data := .seq vs.toArray }) (hr : Room k callerA)
    (F : ∀ base : Heap, K.In base → base.Ns mainGlobals mg → GOk P w K mg base CX k fa fd [x] sp) (hbind : ∀ (s : Shared) (u : Value), BindsTo s fd ⟨[u], []⟩ [(x, u)])
    (hsp : sp [.ref a] H (fun v _ => v = .bl true) fun _ _ _ => False) (hCX : ∀ e s', CX [] H s₁ (fun _ _ _ => False) e s' → False)
    (hO : Only H) (hok : HOk P w H s₁.heap) (hA : ∀ b u, H b = some u → b = a ∧ K.lookup a = none) :
    codeAny (model P w) callerA (.call (.ref fa) ⟨[.ref a], []⟩) (fun r s' => r = .ok (.ret (.bool true)) ∧ PySem.OldK s₁.heap s'.heap ∧ s'.os = s₁.os ∧ AllBare s'.gens) s₁ := by
  have hid : ∀ {b : Addr} {o : Obj}, s₁.heap.get? b = some o → H b = none → (hidT s₁.heap H).get? b = some o := fun e n => hidT_get e n
  have un_d : ∀ {b : Addr} {o : Obj} {es : Array DictEntry} {ep : Nat}, s₁.heap.get? b = some o → o.data = .dict es ep → H b = none := by
    intro b o es ep e d
    cases q : H b with
    | none => rfl
    | some u =>
      rw [(hA b u q).1, ha] at e
      cases e
      exact nomatch d
  have ns_b : ∀ {b : Addr} {m : Str → Option Value}, s₁.heap.Ns b m → (hidT s₁.heap H).Ns b m := by
    rintro b m ⟨o, es, ep, e, d, r⟩
    exact ⟨o, es, ep, hid e (un_d e d), d, r⟩
  have k_b : K.In (hidT s₁.heap H) := by
    intro b o e
    refine hid (KX b o e) ?_
    cases q : H b with
    | none => rfl
    | some u =>
      obtain ⟨e1, e2⟩ := hA b u q
      rw [e1, e2] at e
      cases e
  have nl : (hidT s₁.heap H).NoLimit := let ⟨mc, h1, h2⟩ := hlim; ⟨mc, ns_b h1, h2⟩
  have e0 : Env0 P w K mg (hidT s₁.heap H) callerA [] s₁ H :=
    { frames := rfl, mod := ⟨k_b, ns_b hns, ⟨mb, ns_b hb, hbb⟩, nl⟩, bs := fun b o e => of_hidT e, bsz := Nat.le_of_eq (hidT_size _ _), funs := trivial,
      frf := fun b z => absurd (show b ∈ ([] : List Addr) from z) List.not_mem_nil, hok := hok, bare := .of_eq hg }
  refine codeAny_mono ((F _ k_b (ns_b hns)).go callerA [] s₁ H ⟨[.ref a], []⟩ [.ref a] [.ref a] _ _ rfl hr e0 (hbind s₁ (.ref a)) (.cons rfl .nil) hsp) fun r s' h => ?_
  cases r with
  | error e => exact (hCX e s' h).elim
  | ok fl =>
    cases fl with
    | next => exact False.elim h
    | brk => exact False.elim h
    | cont => exact False.elim h
    | ret u =>
      obtain ⟨v, H', os, bare, un, hok', r', q⟩ := h
      cases (show v = .bl true from q)
      cases (show u = Value.bool true from r')
      refine ⟨rfl, OldK.of_keep fun b o e => ?_, os, bare⟩
      cases q : H b with
      | none => exact un.keep b o e q (fun z => absurd (show b ∈ ([] : List Addr) from z) List.not_mem_nil) List.not_mem_nil
      | some u =>
        cases hO b with
        | inl z => exact nomatch q.symm.trans z
        | inr z =>
          obtain ⟨ob, xs, z⟩ := z
          obtain ⟨e1, _⟩ := hok b _ z
          cases e.symm.trans e1
          exact (hok' b _ (un.frzs b _ _ z)).1

theorem g_call (KX : K.In s₁.heap) (hns : s₁.heap.Ns mainGlobals mg) (hb : s₁.heap.Ns builtinsNs mb) (hbb : ∀ x : Str, x ≠ "__name__" → mb x = bootBuiltins x) (hlim : s₁.heap.NoLimit) (hg : s₁.gens = #[])
    (ha : s₁.heap.get? a = some { cls := .type "list", data := .seq vs.toArray }) (hi : IntsAre vs ns) (hl : ns.length ≤ sizeLine) (hr : Room k callerA)
    (F : ∀ base : Heap, K.In base → base.Ns mainGlobals mg → GOk P w K mg base CX k fa fd [x] sp) (hbind : ∀ (s : Shared) (u : Value), BindsTo s fd ⟨[u], []⟩ [(x, u)])
    (hsp : ∀ H : Hp, Only H → SqL K H a (ns.map V.int) → sp [.ref a] H (fun v _ => v = .bl true) fun _ _ _ => False)
    (hCX : ∀ H e s', CX [] H s₁ (fun _ _ _ => False) e s' → False) :
    codeAny (model P w) callerA (.call (.ref fa) ⟨[.ref a], []⟩) (fun r s' => r = .ok (.ret (.bool true)) ∧ PySem.OldK s₁.heap s'.heap ∧ s'.os = s₁.os ∧ AllBare s'.gens) s₁ := by
  have rv := vals_ints hi
  cases hk : K.lookup a with
  | some o =>
    cases ha.symm.trans (KX a o hk)
    have O : Only (fun _ => none : Hp) := fun _ => .inl rfl
    refine g_core (fun _ => none) KX hns hb hbb hlim hg ha hr F hbind (hsp _ O (.inr ?_)) (hCX _) O (fun b u z => nomatch (show (none : Option HO) = some u from z)) (fun b u z => nomatch (show (none : Option HO) = some u from z))
    exact ⟨_, vs.toArray, _, hk, rfl, rfl, rfl, by rw [List.size_toArray, hi.length]; exact hl, by simpa using rv⟩
  | none =>
    let sc : HO := .frz { cls := .type "list", data := .seq vs.toArray } (.lst (ns.map V.int))
    let H : Hp := fun b => if b = a then some sc else none
    have Ha : H a = some sc := if_pos rfl
    have Hb : ∀ b u, H b = some u → b = a ∧ u = sc := by
      intro b u z
      by_cases q : b = a
      · exact ⟨q, Option.some.inj (z.symm.trans (if_pos q))⟩
      · exact nomatch z.symm.trans (if_neg q)
    have O : Only H := by
      intro b
      by_cases q : b = a
      · exact .inr ⟨_, _, if_pos q⟩
      · exact .inl (if_neg q)
    refine g_core H KX hns hb hbb hlim hg ha hr F hbind (hsp H O (.inl (.inr ⟨_, Ha⟩))) (hCX H) O (fun b u z => ?_) (fun b u z => ⟨(Hb b u z).1, hk⟩)
    obtain ⟨rfl, rfl⟩ := Hb b u z
    exact ⟨ha, by rw [List.length_map]; exact hl, vs, _, rv, ha⟩
end

/-- the goal that k_head leaves of a law whose promise hangs on the written part alone -/
theorem g_walk {l : PySem.W.OpenLaw} {n k : Nat} {q : Program} {loose : List Str} {XP : (Str → Option Value) → Heap → Prop} {YP : World → Heap → Prop} {d : DefRec} {K : Params → PySem.W.Frag} {sp : PySem.W.Frag → Sp} {x : Str}
    (hn : l.most = some n) (hn2 : n ≤ sizeLine) (hdf : d.params.defaults = []) (hr : Room k callerA) (hY : ∀ (w : World) (h : Heap), YP w h → (K w.params).In h)
    (F : ∀ (w : World) (mg : Str → Option Value) (fa : Addr) (h : Heap), (K w.params).In h → h.Ns mainGlobals mg → mg d.name = some (.ref fa) →
      ∃ fd : FuncData, (∀ (s : Shared) (u : Value), BindsTo s fd ⟨[u], []⟩ [(x, u)]) ∧ ∀ base : Heap, (K w.params).In base → base.Ns mainGlobals mg → GOk l.prog w (K w.params) mg base CX0 k fa fd [x] (sp (K w.params)))
    (hsp : ∀ (K : PySem.W.Frag) (H : Hp) (a : Addr) (ns : List Int), ns.length ≤ n → Only H → SqL K H a (ns.map V.int) → sp K [.ref a] H (fun v _ => v = .bl true) fun _ _ _ => False) :
    PySem.W.WalkO q loose XP YP l.row.toRowW d [] (fun f vs => PySem.call f vs) := by
  refine Att.attach_call hn hdf ?_
  intro w s₀ s₁ mg mb fa o pm cd doc a vs ns G Y ho hd hcd hmg hobj hints hlen hg
  have KX := hY w _ Y
  obtain ⟨fd, hb, hF⟩ := F w mg fa _ KX G.T.g hmg
  exact g_call KX G.T.g G.T.b G.T.builtins G.T.nolimit hg hobj hints (Nat.le_trans hlen hn2) hr hF hb (fun H hO hS => hsp _ H a ns hlen hO hS) fun H e s' z => z
end Gd

set_option Elab.async false
set_option linter.all false
set_option maxRecDepth 100000
set_option maxHeartbeats 4000000
/-! More of our own: what evaluates to what, for chains, calls, texts; the draws of the laws. -/
namespace Gd
open PySem PySem.Spec PyProof.Rows L2 Evl
section
variable {K : PySem.W.Frag} {σ : L2.St} {H H' : Hp} {ta tb tc te : TE} {t u : TT} {x y z v : V} {r r' : R2}
theorem ev_chain {a b : Bool} {c : V} (ha : Ev ta σ H x) (hb : Ev tb σ H y) (hr : RV r x y H (.bl a)) (hc : a = true → Ev tc σ H c) (hr2 : a = true → RV r' y c H (.bl b)) :
    Ev (tChain r r' ta tb tc) σ H (.bl (a && b)) := fun H1 e Q q =>
  ha H1 e _ fun H2 e2 => hb H2 (e.trans e2) _ fun H3 e3 => hr H3 ((e.trans e2).trans e3) _ fun H4 e4 => ⟨a, rfl, by
    have e14 := (e2.trans e3).trans e4
    cases a with
    | true =>
      rw [if_pos rfl]
      exact hc rfl H4 (e.trans e14) _ fun H5 e5 => hr2 rfl H5 ((e.trans e14).trans e5) Q fun H6 e6 => q H6 ((e14.trans e5).trans e6)
    | false =>
      rw [if_neg Bool.false_ne_true]
      exact q H4 e14⟩
theorem rv_eqI {i j : Int} : RV rEq (.int i) (.int j) H (.bl (decide (i = j))) := by
  have h : RV rEq (.int i) (.int j) H (.bl (decide (V.int i = V.int j))) := rv_eq rfl
  have e : decide (V.int i = V.int j) = decide (i = j) := by
    by_cases h : i = j
    · rw [h, decide_eq_true rfl, decide_eq_true rfl]
    · rw [decide_eq_false h, decide_eq_false (fun q => h (V.int.inj q))]
  rw [← e]
  exact h
theorem rv_eqS {i j : Str} : RV rEq (.str i) (.str j) H (.bl (decide (i = j))) := by
  have h : RV rEq (.str i) (.str j) H (.bl (decide (V.str i = V.str j))) := rv_eq rfl
  have e : decide (V.str i = V.str j) = decide (i = j) := by
    by_cases h : i = j
    · rw [h, decide_eq_true rfl, decide_eq_true rfl]
    · rw [decide_eq_false h, decide_eq_false (fun q => h (V.str.inj q))]
  rw [← e]
  exact h
theorem rv_neS {i j : Str} : RV rNe (.str i) (.str j) H (.bl (!decide (i = j))) := by
  have h : RV rNe (.str i) (.str j) H (.bl (!decide (V.str i = V.str j))) := rv_ne rfl
  have e : decide (V.str i = V.str j) = decide (i = j) := by
    by_cases h : i = j
    · rw [h, decide_eq_true rfl, decide_eq_true rfl]
    · rw [decide_eq_false h, decide_eq_false (fun q => h (V.str.inj q))]
  rw [← e]
  exact h
theorem rv_neI {i j : Int} : RV rNe (.int i) (.int j) H (.bl (!decide (i = j))) := by
  have h : RV rNe (.int i) (.int j) H (.bl (!decide (V.int i = V.int j))) := rv_ne rfl
  have e : decide (V.int i = V.int j) = decide (i = j) := by
    by_cases h : i = j
    · rw [h, decide_eq_true rfl, decide_eq_true rfl]
    · rw [decide_eq_false h, decide_eq_false (fun q => h (V.int.inj q))]
  rw [← e]
  exact h
theorem rv_mod {i j : Int} (h : j ≠ 0) : RV (rI (fun _ j => j ≠ 0) fun i j => .int (i.fmod j)) (.int i) (.int j) H (.int (i.fmod j)) := rv_I h
theorem rv_fdiv {i j : Int} (h : j ≠ 0) (h2 : j.natAbs < 1073741824) : RV (rI CDivN fun i j => .int (i.fdiv j)) (.int i) (.int j) H (.int (i.fdiv j)) := rv_I ⟨h, h2⟩
theorem rv_mulR {i j : Int} (h : -(2 ^ 64) < j ∧ j < 2 ^ 64) : RV (rI CMul fun i j => .int (i * j)) (.int i) (.int j) H (.int (i * j)) := rv_I (.inr h)
theorem rv_mulL {i j : Int} (h : -(2 ^ 64) < i ∧ i < 2 ^ 64) : RV (rI CMul fun i j => .int (i * j)) (.int i) (.int j) H (.int (i * j)) := rv_I (.inl h)
theorem rv_pow {i j : Int} (h : 0 ≤ j ∧ j ≤ 1000000 ∧ i.natAbs < 2 ^ 64) : RV (rI CPow fun i j => .int (i ^ j.toNat)) (.int i) (.int j) H (.int (i ^ j.toNat)) := rv_I h
def rAddT : R2 := fun x y H Q => ∃ i j, x = .str i ∧ y = .str j ∧ i.length + j.length ≤ sizeLine ∧ Q (.str (i ++ j)) H
theorem rv_addS {i j : Str} (h : i.length + j.length ≤ 100000) : RV rAddT (.str i) (.str j) H (.str (i ++ j)) := fun H1 _ _ q => ⟨i, j, rfl, rfl, sz_of h, q H1 (Ex.refl H1)⟩
def rInt1 : List V → Hp → VK → Prop := fun xs H Q => (∃ i, xs = [.int i] ∧ Q (.int i) H) ∨ ∃ k, xs = [.bl k] ∧ Q (.int (if k then 1 else 0)) H
theorem rc_int {i : Int} : RC rInt1 [.int i] H (.int i) := fun H1 _ _ q => .inl ⟨i, rfl, q H1 (Ex.refl H1)⟩
theorem rc_intB {k : Bool} : RC rInt1 [.bl k] H (.int (if k then 1 else 0)) := fun H1 _ _ q => .inr ⟨k, rfl, q H1 (Ex.refl H1)⟩
def rOrd : List V → Hp → VK → Prop := fun xs H Q => ∃ x, xs = [.str x] ∧ x.length = 1 ∧ Q (.int (x.cps.getD 0 0 : Nat)) H
theorem rc_ord {c : Nat} : RC rOrd [.str ⟨#[c]⟩] H (.int (c : Int)) := fun H1 _ _ q => ⟨⟨#[c]⟩, rfl, rfl, q H1 (Ex.refl H1)⟩
def rLenT : List V → Hp → VK → Prop := fun xs H Q => ∃ x, xs = [.str x] ∧ x.length ≤ sizeLine ∧ Q (.int x.length) H
theorem rc_lenS {x : Str} (h : x.length ≤ 100000) : RC rLenT [.str x] H (.int x.length) := fun H1 _ _ q => ⟨x, rfl, sz_of h, q H1 (Ex.refl H1)⟩
theorem rc_repr {d : PyData} (hd : Dp K H v d) (hm : ∀ H1, Ex H H1 → Dp K H1 v d) (hs : d.showable = true) (hn : d.hasDict = false) (hp : d.depth ≤ 40) (hz : d.shown.length ≤ sizeLine) : RC (rRepr K) [v] H (.str d.shown) :=
  fun H1 e _ q => ⟨v, d, rfl, hm H1 e, hs, hn, hp, hz, q H1 (Ex.refl H1)⟩
theorem ev_sub {a : TE} {lo hi : TO} {i j : Option Int} {z : Str} (h : Ev a σ H (.str z)) (hl : EvO lo σ H i) (hh : EvO hi σ H j) (hz : z.length ≤ 100000) : Ev (tSl rSlS a lo hi) σ H (.str (cutS z i j)) := fun H1 e Q q =>
  h H1 e _ fun H2 e2 => hl H2 (e.trans e2) _ fun H3 e3 => hh H3 ((e.trans e2).trans e3) _ fun H4 e4 => ⟨z, rfl, sz_of hz, q H4 ((e2.trans e3).trans e4)⟩
end

/-! ### data of lists of ints -/
theorem dpAll_ints {K : PySem.W.Frag} {H : Hp} : ∀ ns : List Int, DpAll K H (ns.map V.int) (ns.map PyData.int)
  | [] => .nil
  | n :: r => .cons (.int n) (dpAll_ints r)
theorem dp_ints {K : PySem.W.Frag} {H : Hp} {a : Addr} {ns : List Int} (h : SqL K H a (ns.map V.int)) : Dp K H (.ref a) (.list (ns.map PyData.int)) := .lst h (dpAll_ints ns)
theorem showAll_ints : ∀ (ns : List Int), (∀ n ∈ ns, n.natAbs.log2 < 1920) → PyData.showableAll (ns.map PyData.int) = true
  | [], _ => by simp [PyData.showableAll]
  | n :: r, h => by
    rw [List.map_cons, PyData.showableAll, PyData.showable, decide_eq_true (h n List.mem_cons_self), showAll_ints r fun m hm => h m (List.mem_cons_of_mem _ hm)]
    rfl
theorem noDict_ints : ∀ ns : List Int, PyData.hasDictAll (ns.map PyData.int) = false
  | [] => by simp [PyData.hasDictAll]
  | n :: r => by
    rw [List.map_cons, PyData.hasDictAll, noDict_ints r, PyData.hasDict]
    rfl
theorem depthAll_ints : ∀ ns : List Int, PyData.depthAll (ns.map PyData.int) ≤ 1
  | [] => by simp [PyData.depthAll]
  | n :: r => by
    rw [List.map_cons, PyData.depthAll, PyData.depth]
    have := depthAll_ints r
    omega

/-! ### the script's cells -/
def cellN (ns : List Int) (k : Nat) : Int := ns.getD k 0

/-! ### comprehensions without a test: items mapped -/
section
variable {K : PySem.W.Frag} {σ : L2.St} {H H1 : Hp} {te tl : TE} {vs : List Nat} {j : Nat}
theorem take_snoc {α : Type} {l : List α} {i : Nat} {x : α} (h : l[i]? = some x) : l.take (i + 1) = l.take i ++ [x] := by
  rw [List.take_add_one, h]
  rfl
theorem lc_map {J : It} {G : Hp → Prop} {Y : Nat → Hp → V → Hp → Prop} {xs : List V} {D : Addr} {Qd : Hp → Prop} (w : Walk J xs.length G Y) (hY : ∀ i H x H', i < xs.length → Y i H x H' → H' = H ∧ xs[i]? = some x)
    (hz : xs.length ≤ 90000) (hw : ∀ x, wipe ((wipe σ vs).set j (some x)) vs = wipe σ vs) (f : V → V) (hG : ∀ H', Ex H1 H' → G H') (he : ∀ x ∈ xs, ∀ H', Ex H1 H' → Ev te ((wipe σ vs).set j (some x)) H' (f x)) (hD : H1 D = none)
    (k : ∀ H', Ex H1 H' → H' D = some (.lst (xs.map f)) → Qd H') :
    ∃ W : Nat → Nat → Hp → Prop, (∃ m, W 0 m (upd H1 D (.lst []))) ∧ ∀ i m H, W i m H →
      (J.stop i H ∧ Qd H) ∨ (J.go i H ∧ ∃ Nx : Hp → Prop, (∀ H', Nx H' → ∃ m', m' < m ∧ W (i + 1) m' H') ∧ ∀ x H', J.yld i H x H' → gName j x (wipe σ vs) H' fun σ2 H2 => wipe σ2 vs = wipe σ vs ∧ tYes σ2 H2 fun b H3 =>
        if b = true then te σ2 H3 fun y H4 => ∃ acc, H4 D = some (.lst acc) ∧ acc.length < sizeLine ∧ Nx (upd H4 D (.lst (acc ++ [y]))) else Nx H3) := by
  refine lc_it w (fun i H' => Ex H1 H' ∧ H' D = some (.lst ((xs.take i).map f))) ⟨Ex.new hD, upd_same⟩ (fun i H' _ p => hG H' p.1) ?_ (fun H' p => k H' p.1 (by rw [p.2, List.take_length]))
  intro i x H2 H3 hi p y
  obtain ⟨e, hx⟩ := hY i H2 x H3 hi y
  subst e
  obtain ⟨p1, p2⟩ := p
  refine ⟨hw x, ?_⟩
  dsimp only [tYes]
  rw [if_pos rfl]
  refine he x (List.mem_of_getElem? hx) H3 p1 H3 (Ex.refl H3) _ fun H4 e4 => ⟨(xs.take i).map f, e4 D _ p2, sz_lt (by rw [List.length_map, List.length_take]; omega), Ex.mut (p1.trans e4) hD, ?_⟩
  rw [upd_same, take_snoc hx, List.map_append]
  rfl
theorem el_mapL {a : Addr} {xs : List V} (f : V → V) (h : Ev tl σ H (.ref a)) (hx : SqL K H a xs) (hz : xs.length ≤ 90000) (hw : ∀ x, wipe ((wipe σ vs).set j (some x)) vs = wipe σ vs)
    (he : ∀ x ∈ xs, ∀ H1, Ex H H1 → Ev te ((wipe σ vs).set j (some x)) H1 (f x)) : EvL (tLc (iList K tl) (gName j) tYes te vs) σ H (xs.map f) := fun H0 e Q q =>
  h H0 e _ fun H1 e1 => ⟨a, rfl, ⟨xs, ex_l (e.trans e1) hx⟩, fun D hD => lc_map walk_list (fun _ _ _ _ _ y => y) hz hw f (fun H' e' => ex_l ((e.trans e1).trans e') hx) (fun x m H' e' => he x m H' ((e.trans e1).trans e')) hD
    (fun H' e' hd => q D H' (fresh_back e1 hD) (e1.trans e') hd)⟩
theorem el_mapNL {xs : List V} (f : V → V) (h : EvL tl σ H xs) (hz : xs.length ≤ 90000) (hw : ∀ x, wipe ((wipe σ vs).set j (some x)) vs = wipe σ vs)
    (he : ∀ x ∈ xs, ∀ H1, Ex H H1 → Ev te ((wipe σ vs).set j (some x)) H1 (f x)) : EvL (tLc (iList K tl) (gName j) tYes te vs) σ H (xs.map f) := fun H0 e Q q =>
  h H0 e _ fun a H1 _ e1 ha => ⟨a, rfl, ⟨xs, sq_of ha⟩, fun D hD => lc_map walk_list (fun _ _ _ _ _ y => y) hz hw f (fun H' e' => sq_of (e' a _ ha)) (fun x m H' e' => he x m H' ((e.trans e1).trans e')) hD
    (fun H' e' hd => q D H' (fresh_back e1 hD) (e1.trans e') hd)⟩
def sgns (z : Str) : List V := z.cps.toList.map fun c => V.str ⟨#[c]⟩
theorem sgns_at {z : Str} {i c : Nat} (h : z.cps[i]? = some c) : (sgns z)[i]? = some (.str ⟨#[c]⟩) := by
  unfold sgns
  rw [List.getElem?_map, Array.getElem?_toList, h]
  rfl
theorem sgns_len (z : Str) : (sgns z).length = z.cps.size := by
  unfold sgns
  rw [List.length_map, Array.length_toList]
theorem walk_signs (z : Str) : Walk (Its z) (sgns z).length (fun _ => True) (YAt (sgns z)) := by
  rw [sgns_len]
  exact walk_str.mono (fun _ h => h) fun i H x H' _ _ y => by
    obtain ⟨e, c, hc, rfl⟩ := y
    exact ⟨e, sgns_at hc⟩
theorem el_mapS {z : Str} (f : V → V) (h : Ev tl σ H (.str z)) (hz : z.cps.size ≤ 90000) (hw : ∀ x, wipe ((wipe σ vs).set j (some x)) vs = wipe σ vs)
    (he : ∀ c ∈ z.cps.toList, ∀ H1, Ex H H1 → Ev te ((wipe σ vs).set j (some (.str ⟨#[c]⟩))) H1 (f (.str ⟨#[c]⟩))) : EvL (tLc (iStr tl) (gName j) tYes te vs) σ H ((sgns z).map f) := fun H0 e Q q =>
  h H0 e _ fun H1 e1 => ⟨z, rfl, fun D hD => lc_map (walk_signs z) (fun _ _ _ _ _ y => y) (by rw [sgns_len]; exact hz) hw f (fun _ _ => trivial) (fun x m H' e' => by
    obtain ⟨c, hc, rfl⟩ := List.mem_map.mp m
    exact he c hc H' ((e.trans e1).trans e')) hD (fun H' e' hd => q D H' (fresh_back e1 hD) (e1.trans e') hd)⟩
end

/-! ### join, repr, str(..) -/
section
variable {K : PySem.W.Frag} {σ : L2.St} {H H1 : Hp} {te tl to : TE}
def rJoinT (K : PySem.W.Frag) : V → List V → Hp → VK → Prop := fun x xs H Q => ∃ a p, ∃ ys : List Str, x = .str a ∧ xs = [.ref p] ∧ (SqL K H p (ys.map V.str) ∨ SqT K H p (ys.map V.str)) ∧
      (ys.map (·.length)).sum + ys.length * a.length ≤ 16777216 ∧ Q (.str (Txt.join a ys)) H
theorem ev_joinL {a : Str} {ys : List Str} (ho : Ev to σ H (.str a)) (h : EvL te σ H (ys.map V.str)) (hz : (ys.map (·.length)).sum + ys.length * a.length ≤ 16777216) : Ev (tM1 (rJoinT K) to te) σ H (.str (Txt.join a ys)) := fun H0 e Q q =>
  ho H0 e _ fun H1 e1 => ⟨⟨a, rfl⟩, h H1 (e.trans e1) _ fun p H2 _ e2 hp => ⟨a, p, ys, rfl, rfl, .inl (sq_of hp), hz, q H2 (e1.trans e2)⟩⟩
theorem joinE (ys : List Str) : (Txt.join "" ys).cps.toList = (ys.map fun y => y.cps.toList).flatten := by
  have h : ∀ l : List (List Nat), TL.joinL [] l = l.flatten := by
    intro l
    induction l with
    | nil => rfl
    | cons p r ih =>
      cases r with
      | nil => simp [TL.joinL]
      | cons q r => rw [TL.joinL, ih]; rfl
  rw [TL.join_eq]
  show TL.tl _ = _
  rw [TL.tl_join]
  exact h _
theorem show_le {ns : List Int} (hl : ns.length ≤ 1000) (hb : ∀ n ∈ ns, n.natAbs < 10 ^ 100) : (PyData.list (ns.map PyData.int)).shown.length ≤ sizeLine := by
  have hs : PyData.leavesShort 101 (.list (ns.map PyData.int)) = true := by
    unfold PyData.leavesShort
    clear hl
    induction ns with
    | nil => simp [PyData.leavesShortAll]
    | cons n r ih =>
      rw [List.map_cons, PyData.leavesShortAll, ih fun m hm => hb m (List.mem_cons_of_mem _ hm), Bool.and_true, PyData.leavesShort]
      refine decide_eq_true ?_
      unfold PyData.shown
      have h := int_text_length_le10 (k := 100) (by decide) (hb n List.mem_cons_self)
      have e : (Str.ofString (toString n)).length = (toString n).length := PySem.ofString_length _
      show (Str.ofString (toString n)).length ≤ 101
      rw [e]
      exact h
  have hk := PyData.shown_le_bulk 101 (by decide) _ hs
  have hb2 : (PyData.list (ns.map PyData.int)).bulk = ns.length := by
    unfold PyData.bulk
    clear hs hk hl hb
    induction ns with
    | nil => simp [PyData.bulkAll]
    | cons n r ih =>
      rw [List.map_cons, PyData.bulkAll, PyData.bulk, ih, List.length_cons]
      omega
  rw [hb2] at hk
  rw [sizeLine_eq]
  omega
set_option exponentiation.threshold 3000 in
theorem pow_small : 10 ^ 100 ≤ 2 ^ 1920 := by decide +kernel
set_option exponentiation.threshold 3000 in
theorem log_lt {n : Int} (h : n.natAbs < 10 ^ 100) : n.natAbs.log2 < 1920 := by
  by_cases h0 : n.natAbs = 0
  · rw [h0]; decide
  · exact (Nat.log2_lt h0).mpr (Nat.lt_of_lt_of_le h pow_small)
theorem ev_reprI {a : Addr} {ns : List Int} (h : Ev te σ H (.ref a)) (hx : SqL K H a (ns.map V.int)) (hl : ns.length ≤ 1000) (hb : ∀ n ∈ ns, n.natAbs < 10 ^ 100) :
    Ev (tCB (rRepr K) (tCons te tNil)) σ H (.str (PyData.list (ns.map PyData.int)).shown) :=
  ev_cb (ea_cons h ea_nil) fun H1 e _ q => ⟨.ref a, .list (ns.map PyData.int), rfl, dp_ints (ex_l e hx), by
    rw [PyData.showable]
    exact showAll_ints ns fun n hn => log_lt (hb n hn), by
    rw [PyData.hasDict]
    exact noDict_ints ns, by
    rw [PyData.depth]
    have := depthAll_ints ns
    omega, show_le hl hb, q H1 (Ex.refl H1)⟩
end

/-! ### what is known behind a statement -/
theorem q_mid {t u : TS} {D : Ends} {σ : L2.St} {H : Hp} (M : L2.St → Hp → Prop) (mono : ∀ (N N' : L2.St → Hp → Prop), (∀ σ H, N σ H → N' σ H) → t { D with nx := N } σ H → t { D with nx := N' } σ H)
    (h : t { D with nx := M } σ H) (k : ∀ σ' H', M σ' H' → u D σ' H') : tSeq t u D σ H := mono M (u D) k h

/-! ### isinstance -/
section
variable {K : PySem.W.Frag} {H : Hp}
theorem rc_isStr {x : Str} : RC (rIsi K) [.str x, .ty "str"] H (.bl true) := fun H1 _ _ q => ⟨_, _, _, _, true, rfl, .ty "str", .base (.str x), kit_ty (by decide +kernel), q H1 (Ex.refl H1)⟩
theorem rc_isInt {i : Int} : RC (rIsi K) [.int i, .ty "int"] H (.bl true) := fun H1 _ _ q => ⟨_, _, _, _, true, rfl, .ty "int", .base (.int i), kit_ty (by decide +kernel), q H1 (Ex.refl H1)⟩
theorem rc_isIntB {i : Int} : RC (rIsi K) [.int i, .ty "bool"] H (.bl false) := fun H1 _ _ q => ⟨_, _, _, _, false, rfl, .ty "bool", .base (.int i), kit_ty (by decide +kernel), q H1 (Ex.refl H1)⟩
theorem rc_isNonS : RC (rIsi K) [.non, .ty "str"] H (.bl false) := fun H1 _ _ q => ⟨_, _, _, _, false, rfl, .ty "str", .base .non, kit_ty (by decide +kernel), q H1 (Ex.refl H1)⟩
/-- isinstance of the error that a suite holds: its class is asked in the reading -/
def rIsX (K : PySem.W.Frag) (D a : Addr) (cls : Value) (d : Option Addr) : List V → Hp → VK → Prop := fun xs H Q => cls = .ref D ∧ d = none ∧ rIsE K D a xs H Q
theorem call_isX {X : Cx} {a D : Addr} {oe : Obj} {pn : List (Addr × Obj)} {cls : Value} {d : Option Addr} (C : ExcC X.K D) (hz : Zc cls d oe) (hf : ∃ vs, oe.data = .fields vs) : CallR (X.suite a ((a, oe) :: pn)) (.builtin "isinstance") (rIsX X.K D a cls d) := by
  intro pins s σ H xs us Q I r h
  obtain ⟨rfl, rfl, h⟩ := h
  exact call_isE C hz hf pins s σ H xs us Q I r h
theorem rc_isX {D a : Addr} {c : V} {cv : Value} {b : Bool} (hc : ∀ u, RelV c u → u = cv) (hk : PySem.W.kitOne K (.ref D) cv = some b) : RC (rIsX K D a (.ref D) none) [.ref a, c] H (.bl b) := fun H1 _ _ q => ⟨rfl, rfl, c, cv, b, rfl, hc, hk, q H1 (Ex.refl H1)⟩
end

/-! ### the draws of the laws: a cell's values -/
def lvMix (cell size : Int) (k : Nat) : Int := ((((cell.fmod 2147483647) * 48271 + (k : Int) * 69621 + 7).fmod 2147483647 * 16807).fmod 2147483647).fmod size
def lvStep (cell size : Int) (st : Int × List Int) (k : Nat) : Int × List Int :=
  if st.1 ≥ 10 ^ 12 then (st.1.fdiv size, st.2 ++ [st.1.fmod size]) else (st.1, st.2 ++ [lvMix cell size k])
def lvGo (cell size : Int) (n : Nat) : Int × List Int := (List.range n).foldl (lvStep cell size) (cell, [])
theorem lvGo_succ (cell size : Int) (n : Nat) : lvGo cell size (n + 1) = lvStep cell size (lvGo cell size n) n := by
  unfold lvGo
  rw [List.range_succ, List.foldl_append]
  rfl
/-- what _law_values gives -/
def lvals (cell : Int) (n : Nat) (size : Int) : List Int := (lvGo cell size n).2
theorem lvStep_len (cell size : Int) (st : Int × List Int) (k : Nat) : (lvStep cell size st k).2.length = st.2.length + 1 := by
  unfold lvStep
  split <;> simp
theorem lvals_len (cell : Int) (n : Nat) (size : Int) : (lvals cell n size).length = n := by
  unfold lvals
  induction n with
  | zero => rfl
  | succ n ih => rw [lvGo_succ, lvStep_len, ih]
theorem lvals_in {cell size : Int} (h : 0 < size) (n : Nat) : ∀ v ∈ lvals cell n size, 0 ≤ v ∧ v < size := by
  unfold lvals
  induction n with
  | zero => intro v hv; exact absurd hv List.not_mem_nil
  | succ n ih =>
    intro v hv
    rw [lvGo_succ] at hv
    unfold lvStep lvMix at hv
    have key : ∀ x : Int, 0 ≤ x.fmod size ∧ x.fmod size < size := fun x => ⟨Int.fmod_nonneg_of_pos x h, Int.fmod_lt_of_pos x h⟩
    split at hv
    · rcases List.mem_append.mp hv with q | q
      · exact ih v q
      · rw [List.mem_singleton.mp q]; exact key _
    · rcases List.mem_append.mp hv with q | q
      · exact ih v q
      · rw [List.mem_singleton.mp q]; exact key _

/-! ### texts and their codes -/
theorem map_at {α β : Type} {f : α → β} {l : List α} {i : Nat} {x : β} (h : (l.map f)[i]? = some x) : ∃ c, l[i]? = some c ∧ x = f c := by
  rw [List.getElem?_map] at h
  cases e : l[i]? with
  | none => rw [e] at h; cases h
  | some c => rw [e] at h; exact ⟨c, rfl, (Option.some.inj h).symm⟩
theorem sgns_map (z : Str) (f : V → V) : (sgns z).map f = z.cps.toList.map fun c => f (.str ⟨#[c]⟩) := by
  unfold sgns
  rw [List.map_map]
  rfl
theorem app_toList (x y : Str) : (x ++ y).cps.toList = x.cps.toList ++ y.cps.toList := TL.tl_append x y
theorem len_size (x : Str) : x.length = x.cps.toList.length := by simp [Str.length]
theorem str_ext {x y : Str} (h : x.cps.toList = y.cps.toList) : x = y := by
  cases x; cases y
  congr
  exact Array.toList_inj.mp h
end Gd

set_option Elab.async false
set_option linter.all false
set_option maxRecDepth 100000
set_option maxHeartbeats 4000000
/-! Of our own: draws that are popped off a list; lists of ints compared; digits. -/
namespace Gd
open PySem PySem.Spec PyProof.Rows L2 Evl
/-- all but p is kept -/
def But (p : Addr) (H H' : Hp) : Prop := ∀ b o, b ≠ p → H b = some o → H' b = some o
theorem But.refl {p : Addr} {H : Hp} : But p H H := fun _ _ _ h => h
theorem But.trans {p : Addr} {H H1 H2 : Hp} (a : But p H H1) (b : But p H1 H2) : But p H H2 := fun c o n h => b c o n (a c o n h)
theorem ex_but {p : Addr} {H H' : Hp} (e : Ex H H') : But p H H' := fun b o _ h => e b o h
theorem But.upd {p : Addr} {H : Hp} {o : HO} : But p H (upd H p o) := fun b u n h => by rw [upd_ne n]; exact h
theorem But.seq {K : PySem.W.Frag} {p a : Addr} {H H' : Hp} {xs : List V} (b : But p H H') (n : a ≠ p) (h : SqL K H a xs) : SqL K H' a xs := by
  rcases h with (h | ⟨o, h⟩) | h
  · exact .inl (.inl (b _ _ n h))
  · exact .inl (.inr ⟨o, b _ _ n h⟩)
  · exact .inr h
/-- what was free is free still, seen backwards -/
theorem But.free {p a : Addr} {H H' : Hp} {o : HO} (b : But p H H') (hp : H' p = some o) (h : H' a = none) : a ≠ p ∧ H a = none := by
  have n : a ≠ p := fun e => by rw [e, hp] at h; cases h
  refine ⟨n, ?_⟩
  cases e : H a with
  | none => rfl
  | some u => rw [b a u n e] at h; cases h
def Small (ds : List Int) : Prop := (∀ d ∈ ds, 0 ≤ d ∧ d < 1000) ∧ ds.length ≤ 20000
theorem Small.nil : Small [] := ⟨fun _ h => absurd h List.not_mem_nil, Nat.zero_le _⟩
theorem Small.app {ds es : List Int} (h1 : ∀ d ∈ ds, 0 ≤ d ∧ d < 1000) (h2 : ∀ d ∈ es, 0 ≤ d ∧ d < 1000) : ∀ d ∈ ds ++ es, 0 ≤ d ∧ d < 1000 := fun d hd => (List.mem_append.mp hd).elim (h1 d) (h2 d)
theorem Small.one {ds : List Int} {x : Int} (h1 : ∀ d ∈ ds, 0 ≤ d ∧ d < 1000) (h2 : 0 ≤ x ∧ x < 1000) : ∀ d ∈ ds ++ [x], 0 ≤ d ∧ d < 1000 := Small.app h1 fun d hd => by rw [List.mem_singleton.mp hd]; exact h2
def Drw (p : Addr) (H : Hp) : Prop := ∃ ds : List Int, H p = some (.lst (ds.map V.int)) ∧ Small ds
theorem Drw.ex {p : Addr} {H H' : Hp} (d : Drw p H) (e : Ex H H') : Drw p H' := let ⟨ds, h, s⟩ := d; ⟨ds, e _ _ h, s⟩
theorem fmod_in (x : Int) {m : Int} (h : 0 < m) : 0 ≤ x.fmod m ∧ x.fmod m < m := ⟨Int.fmod_nonneg_of_pos x h, Int.fmod_lt_of_pos x h⟩

/-! ### lists of ints compared -/
section
variable {K : PySem.W.Frag} {H : Hp} {σ : L2.St} {ta tb te : TE}
theorem can_ints : ∀ ns : List Int, PyData.canLayAll0 (ns.map PyData.int) = true
  | [] => by simp [PyData.canLayAll0]
  | n :: r => by
    rw [List.map_cons, PyData.canLayAll0, can_ints r, PyData.canLay0]
    rfl
theorem shaped_ints (ns : List Int) : SeqAt.shaped (.list (ns.map PyData.int)) = true := by
  unfold SeqAt.shaped
  rw [PyData.canLay0, can_ints, PyData.depth]
  have := depthAll_ints ns
  rw [Bool.true_and]
  exact decide_eq_true (by omega)
theorem eqv_ints : ∀ ns ms : List Int, PyData.eqvAll (ns.map PyData.int) (ms.map PyData.int) = decide (ns = ms)
  | [], [] => by simp [PyData.eqvAll]
  | [], m :: r => by simp [PyData.eqvAll]
  | n :: r, [] => by simp [PyData.eqvAll]
  | n :: r, m :: q => by
    rw [List.map_cons, List.map_cons, PyData.eqvAll, eqv_ints r q, PyData.eqv]
    by_cases h : n = m
    · subst h
      by_cases h2 : r = q
      · subst h2; simp
      · simp [h2]
    · simp [h]
theorem rv_eqL {a b : Addr} {ns ms : List Int} (ha : SqL K H a (ns.map V.int)) (hb : SqL K H b (ms.map V.int)) : RV (rEqD K) (.ref a) (.ref b) H (.bl (decide (ns = ms))) := fun H1 e Q q =>
  ⟨_, _, dp_ints (ex_l e ha), dp_ints (ex_l e hb), shaped_ints ns, shaped_ints ms, by rw [PyData.eqv, eqv_ints]; exact q H1 (Ex.refl H1)⟩
theorem rv_neL {a b : Addr} {ns ms : List Int} (ha : SqL K H a (ns.map V.int)) (hb : SqL K H b (ms.map V.int)) : RV (rNeD K) (.ref a) (.ref b) H (.bl (!decide (ns = ms))) := fun H1 e Q q =>
  ⟨_, _, dp_ints (ex_l e ha), dp_ints (ex_l e hb), shaped_ints ns, shaped_ints ms, by rw [PyData.eqv, eqv_ints]; exact q H1 (Ex.refl H1)⟩
def optV : Option Int → V
  | none => .non
  | some v => .int v
/-- value or 0 -/
theorem ev_or0 {o : Option Int} (h : Ev te σ H (optV o)) : Ev (tOrT K te (tC (.int 0))) σ H (.int (o.getD 0)) := fun H1 e Q q =>
  h H1 e _ fun H2 e2 => by
    cases o with
    | none => exact ⟨false, rfl, by rw [if_neg Bool.false_ne_true]; exact q H2 e2⟩
    | some v =>
      refine ⟨v != 0, rfl, ?_⟩
      by_cases hv : v = 0
      · subst hv
        exact q H2 e2
      · rw [if_pos (by simpa using hv)]
        exact q H2 e2
def rNotNn : R2 := fun x y H Q => y = .non ∧ Q (.bl (!decide (x = .non))) H
theorem rv_notN {o : Option Int} : RV rNotNn (optV o) .non H (.bl o.isSome) := fun H1 _ _ q => ⟨rfl, by
  have e : (!decide (optV o = .non)) = o.isSome := by
    cases o with
    | none => rfl
    | some v => exact by simp [optV]
  rw [e]
  exact q H1 (Ex.refl H1)⟩
theorem ev_listN {xs : List V} {a : Addr} (h : Ev te σ H (.ref a)) (hx : SqL K H a xs) : EvL (tCB (rListS K) (tCons te tNil)) σ H xs := el_list h hx
/-- the truth of a list -/
theorem et_truL {a : Addr} {xs : List V} (h : Ev te σ H (.ref a)) (hx : SqL K H a xs) : EvT (fun σ H Q => te σ H fun x H' => ∃ k, TruV K x H' k ∧ Q k H') σ H (!xs.isEmpty) := fun H1 e Q q =>
  h H1 e _ fun H2 e2 => ⟨!xs.isEmpty, .inl ⟨xs, ex_l (e.trans e2) hx, rfl⟩, q H2 e2⟩
end

/-! ### digits read -/
def isDg (c : Int) : Bool := decide (48 ≤ c) && decide (c ≤ 57)
def rdStep (st : List Int × Option Int) (c : Int) : List Int × Option Int :=
  if isDg c = true then (st.1, some (10 * st.2.getD 0 + c - 48)) else match st.2 with
    | some v => (st.1 ++ [v], none)
    | none => st
def rdFin (st : List Int × Option Int) : List Int := match st.2 with
  | some v => st.1 ++ [v]
  | none => st.1
def nn (c : Int) : Bool := decide (0 ≤ c)
def rdGo (ns : List Int) : List Int × Option Int := ns.foldl rdStep ([], none)
def rd (ns : List Int) : List Int := rdFin (rdGo (ns.takeWhile nn))
theorem at_sh {xs : List Nat} {c o n : Int} (h0 : 0 ≤ c - o) (hn : c - o < n) (ho : 0 ≤ o) (tab : ∀ k < n.toNat, xs[k]? = some (k + o.toNat)) : atI xs (c - o) = some c.toNat := by
  have e : c - o = (((c - o).toNat : Nat) : Int) := by omega
  rw [e]
  refine atI_nat ?_
  rw [tab _ (by omega)]
  congr 1
  omega
theorem takeWhile_pos {α : Type} {f : α → Bool} {l : List α} (h : l.takeWhile f = l) : ∀ z ∈ l, f z = true := by
  have e : (l.takeWhile f).all f = true := List.all_takeWhile
  rw [h] at e
  exact List.all_eq_true.mp e
theorem tw_stop {l : List Int} {i : Nat} {c : Int} (h : l[i]? = some c) (hc : nn c = false) (ht : (l.take i).takeWhile nn = l.take i) : l.takeWhile nn = l.take i := by
  have hi := (List.getElem?_eq_some_iff.mp h).1
  have e : l = l.take i ++ c :: l.drop (i + 1) := by
    have q := List.take_append_drop i l
    rw [List.drop_eq_getElem_cons hi] at q
    have hg : l[i] = c := by rw [List.getElem?_eq_getElem hi] at h; exact Option.some.inj h
    rw [hg] at q
    exact q.symm
  have q := congrArg (List.takeWhile nn) e
  rw [List.takeWhile_append_of_pos (fun z hz => takeWhile_pos ht z hz), List.takeWhile_cons, hc] at q
  simpa using q
theorem tw_len (l : List Int) : (l.takeWhile nn).length ≤ l.length := (List.takeWhile_sublist _).length_le
theorem foldl_snoc {α β : Type} {f : β → α → β} {b : β} {l : List α} {i : Nat} {x : α} (h : l[i]? = some x) : (l.take (i + 1)).foldl f b = f ((l.take i).foldl f b) x := by
  rw [take_snoc h, List.foldl_append]
  rfl
theorem rdGo_snoc {l : List Int} {i : Nat} {x : Int} (h : l[i]? = some x) : rdGo (l.take (i + 1)) = rdStep (rdGo (l.take i)) x := foldl_snoc h
theorem rdGo_len : ∀ (l : List Int), (rdGo l).1.length ≤ l.length := by
  intro l
  have key : ∀ (l : List Int) (st : List Int × Option Int), (l.foldl rdStep st).1.length ≤ st.1.length + l.length := by
    intro l
    induction l with
    | nil => intro st; simp
    | cons c r ih =>
      intro st
      have h1 := ih (rdStep st c)
      have h2 : (rdStep st c).1.length ≤ st.1.length + 1 := by
        unfold rdStep
        split
        · simp
        · split <;> simp
      rw [List.foldl_cons, List.length_cons]
      omega
  have := key l ([], none)
  unfold rdGo
  simpa using this
end Gd
namespace Gd
open PySem PySem.Spec PyProof.Rows L2 Evl
section
variable {K : PySem.W.Frag} {H : Hp} {σ : L2.St} {ta tb te : TE} {D : Ends} {tz : TS}
theorem rc_isList {p : Addr} {xs : List V} (h : H p = some (.lst xs)) : RC (rIsi K) [.ref p, .ty "list"] H (.bl true) := fun H1 e _ q => ⟨_, _, _, _, true, rfl, .ty "list", .base (.lst (e _ _ h)), kit_ty (by decide +kernel), q H1 (Ex.refl H1)⟩
/-- xs.extend([..]) -/
theorem s_ext {l : Addr} {xs ys : List V} (hl : H l = some (.lst xs)) (ha : Ev ta σ H (.ref l)) (h : EvL te σ H ys) (hz : xs.length + ys.length ≤ 100000) (k : ∀ H1, Ex H H1 → D.nx σ (upd H1 l (.lst (xs ++ ys)))) :
    tDrop (tBM K "list" rExtend ta (tCons te tNil)) D σ H := ha H (Ex.refl H) _ fun H1 e1 =>
  ⟨Or.inl ⟨rfl, xs, sq_of (e1 l _ hl)⟩, h H1 e1 _ fun p H2 hp e2 h2 => ⟨l, p, xs, ys, rfl, rfl, e2 l _ (e1 l _ hl), h2, sz_of hz, k H2 (e1.trans e2)⟩⟩
theorem q_ext {l : Addr} {xs ys : List V} (hl : H l = some (.lst xs)) (ha : Ev ta σ H (.ref l)) (h : EvL te σ H ys) (hz : xs.length + ys.length ≤ 100000) (k : ∀ H1, Ex H H1 → tz D σ (upd H1 l (.lst (xs ++ ys)))) :
    tSeq (tDrop (tBM K "list" rExtend ta (tCons te tNil))) tz D σ H := s_ext (D := { D with nx := tz D }) hl ha h hz k
/-- xs.reverse() -/
theorem q_rev {l : Addr} {xs : List V} (hl : H l = some (.lst xs)) (ha : Ev ta σ H (.ref l)) (k : ∀ H1, Ex H H1 → tz D σ (upd H1 l (.lst xs.reverse))) : tSeq (tDrop (tBM0 K "list" rReverse ta)) tz D σ H :=
  ha H (Ex.refl H) _ fun H1 e1 => ⟨Or.inl ⟨rfl, xs, sq_of (e1 l _ hl)⟩, l, xs, rfl, rfl, e1 l _ hl, k H1 e1⟩
/-- a + b, both lists -/
theorem el_cat {a : Addr} {xs ys : List V} (ha : Ev ta σ H (.ref a)) (hx : H a = some (.lst xs)) (hb : EvL tb σ H ys) (hz : xs.length + ys.length ≤ 100000) : EvL (tOp rCat ta tb) σ H (xs ++ ys) := fun H1 e Q q =>
  ha H1 e _ fun H2 e2 => hb H2 (e.trans e2) _ fun b H3 _ e3 h3 => ⟨a, b, xs, ys, rfl, rfl, e3 _ _ (e2 _ _ (e _ _ hx)), h3, sz_of hz, fun p hp => q p _ (fresh_back (e2.trans e3) hp) ((e2.trans e3).trans (Ex.new hp)) upd_same⟩
def rIntS : List V → Hp → VK → Prop := fun xs H Q => ∃ a n, xs = [.str a] ∧ PySem.intText? a = some n ∧ a.length ≤ 640 ∧ Q (.int n) H
theorem rc_intS {z : Str} {n : Int} (h : PySem.intText? z = some n) (hz : z.length ≤ 640) : RC rIntS [.str z] H (.int n) := fun H1 _ _ q => ⟨z, n, rfl, h, hz, q H1 (Ex.refl H1)⟩
theorem but_mut {p q : Addr} {H H' : Hp} {o : HO} (b : But p H H') (h : q = p) : But p H (upd H' q o) := fun c u n e => by
  rw [h, upd_ne n]
  exact b c u n e
end
end Gd
namespace Gd
open PySem PySem.Spec PyProof.Rows L2 Evl
/-! ### values that are not told, but bounded: what draws give -/
def EvP (te : TE) (σ : L2.St) (H : Hp) (P : V → Hp → Prop) : Prop := ∀ Q : VK, (∀ v H', P v H' → Q v H') → te σ H Q
def EtP (tt : TT) (σ : L2.St) (H : Hp) (P : Bool → Hp → Prop) : Prop := ∀ Q : Bool → Hp → Prop, (∀ b H', P b H' → Q b H') → tt σ H Q
/-- a drawn int d that keeps C; the draws at p have turned, all else stands -/
def DP (p : Addr) (H : Hp) (C : Int → Prop) : V → Hp → Prop := fun v H' => ∃ d : Int, v = .int d ∧ C d ∧ Drw p H' ∧ But p H H'
section
variable {K : PySem.W.Frag} {H : Hp} {σ : L2.St} {ta tb te : TE} {tt t u : TT} {D : Ends} {tu tz : TS} {P P1 : V → Hp → Prop} {p : Addr} {C C1 : Int → Prop}
theorem EvP.imp {P' : V → Hp → Prop} (h : EvP te σ H P) (k : ∀ v H', P v H' → P' v H') : EvP te σ H P' := fun Q q => h Q fun v H' z => q v H' (k v H' z)
theorem ep_of {v : V} (h : Ev te σ H v) : EvP te σ H (fun v' H' => v' = v ∧ Ex H H') := fun Q q => h H (Ex.refl H) Q fun H2 e2 => q v H2 ⟨rfl, e2⟩
theorem q_asgP {i : Nat} (h : EvP te σ H P) (k : ∀ v H', P v H' → tz D (σ.set i (some v)) H') : tSeq (tAsg te (gName i)) tz D σ H := h _ k
theorem s_asgP {i : Nat} (h : EvP te σ H P) (k : ∀ v H', P v H' → D.nx (σ.set i (some v)) H') : tAsg te (gName i) D σ H := h _ k
theorem s_retP (h : EvP te σ H P) (k : ∀ v H', P v H' → D.rt v H') : tRet te D σ H := h _ k
theorem ep_op {r : R2} (ha : EvP ta σ H P1) (hb : ∀ x H1, P1 x H1 → EvP tb σ H1 (fun y H2 => ∀ Q : VK, (∀ v H', P v H' → Q v H') → r x y H2 Q)) : EvP (tOp r ta tb) σ H P := fun Q q =>
  ha _ fun x H1 p1 => hb x H1 p1 _ fun y H2 h2 => h2 Q q
/-- i op (a drawn one) -/
theorem ep_opD {r : R2} {x : V} {g : Int → Int} (ha : Ev ta σ H x) (hb : ∀ H1, Ex H H1 → EvP tb σ H1 (DP p H1 C)) (hr : ∀ d H2 (Q : VK), C d → Q (.int (g d)) H2 → r x (.int d) H2 Q) (hC : ∀ d, C d → C1 (g d)) : EvP (tOp r ta tb) σ H (DP p H C1) := fun Q q =>
  ha H (Ex.refl H) _ fun H1 e1 => hb H1 e1 _ fun y H2 ⟨d, hv, hc, hD, b⟩ => by
    subst hv
    exact hr d H2 Q hc (q _ H2 ⟨g d, rfl, hC d hc, hD, (ex_but e1).trans b⟩)
/-- (a drawn one) op j -/
theorem ep_opL {r : R2} {y : V} {g : Int → Int} (ha : EvP ta σ H (DP p H C)) (hb : ∀ H1, Ev tb σ H1 y) (hr : ∀ d H2 (Q : VK), C d → Q (.int (g d)) H2 → r (.int d) y H2 Q) (hC : ∀ d, C d → C1 (g d)) : EvP (tOp r ta tb) σ H (DP p H C1) := fun Q q =>
  ha _ fun x H1 ⟨d, hv, hc, hD, b⟩ => by
    subst hv
    exact hb H1 H1 (Ex.refl H1) _ fun H2 e2 => hr d H2 Q hc (q _ H2 ⟨g d, rfl, hC d hc, hD.ex e2, b.trans (ex_but e2)⟩)
/-- two drawn ones -/
theorem ep_opDD {r : R2} {C2 : Int → Prop} {g : Int → Int → Int} (ha : EvP ta σ H (DP p H C)) (hb : ∀ H1, Drw p H1 → EvP tb σ H1 (DP p H1 C2)) (hr : ∀ d e H2 (Q : VK), C d → C2 e → Q (.int (g d e)) H2 → r (.int d) (.int e) H2 Q) (hC : ∀ d e, C d → C2 e → C1 (g d e)) : EvP (tOp r ta tb) σ H (DP p H C1) := fun Q q =>
  ha _ fun x H1 ⟨d, hv, hc, hD, b⟩ => by
    subst hv
    exact hb H1 hD _ fun y H2 ⟨e, hv2, hc2, hD2, b2⟩ => by
      subst hv2
      exact hr d e H2 Q hc hc2 (q _ H2 ⟨g d e, rfl, hC d e hc hc2, hD2, b.trans b2⟩)
/-- for k in range(drawn) -/
theorem q_forRP {j : Nat} (h : EvP te σ H P) (k : ∀ v H1, P v H1 → ∃ n : Nat, v = .int (n : Int) ∧ n ≤ 100000 ∧ ∃ Pv : Nat → L2.St → Hp → Prop, Pv 0 σ H1 ∧
    (∀ (i : Nat) σ' H', i < n → Pv i σ' H' → tu { D with nx := Pv (i + 1), ct := Pv (i + 1), bk := tz D } (σ'.set j (some (.int (i : Int)))) H') ∧ ∀ σ' H', Pv n σ' H' → tz D σ' H') :
    tSeq (tFor (iRng1 (tCons te tNil)) (gName j) tu) tz D σ H := h _ fun v H1 hv => by
  obtain ⟨n, rfl, hn, Pv, h0, hs, hd⟩ := k v H1 hv
  refine ⟨(n : Int), rfl, by omega, by omega, for_range (D := { D with nx := tz D }) (lo := 0) (n := n) Pv h0 (fun i σ' H' hi q => ?_) hd⟩
  have e0 : (0 : Int) + (i : Int) = (i : Int) := Int.zero_add _
  show tu { D with nx := Pv (i + 1), ct := Pv (i + 1), bk := tz D } (σ'.set j (some (.int ((0 : Int) + (i : Int))))) H'
  rw [e0]
  exact hs i σ' H' hi q
/-- the same, at a body's end -/
theorem s_forRP {j : Nat} (h : EvP te σ H P) (k : ∀ v H1, P v H1 → ∃ n : Nat, v = .int (n : Int) ∧ n ≤ 100000 ∧ ∃ Pv : Nat → L2.St → Hp → Prop, Pv 0 σ H1 ∧
    (∀ (i : Nat) σ' H', i < n → Pv i σ' H' → tu { D with nx := Pv (i + 1), ct := Pv (i + 1), bk := D.nx } (σ'.set j (some (.int (i : Int)))) H') ∧ ∀ σ' H', Pv n σ' H' → D.nx σ' H') :
    tFor (iRng1 (tCons te tNil)) (gName j) tu D σ H := q_forRP (tz := fun D => D.nx) (D := D) h k
/-- l.append(drawn) -/
theorem s_appP {l : Addr} {xs : List V} (ha : Ev ta σ H (.ref l)) (hl : H l = some (.lst xs)) (hz : xs.length < 100000) (h : ∀ H1, Ex H H1 → EvP te σ H1 P) (k : ∀ v H1, P v H1 → H1 l = some (.lst xs) ∧ D.nx σ (upd H1 l (.lst (xs ++ [v])))) :
    tDrop (tBM K "list" rAppend ta (tCons te tNil)) D σ H := ha H (Ex.refl H) _ fun H1 e1 =>
  ⟨Or.inl ⟨rfl, xs, sq_of (e1 l _ hl)⟩, h H1 e1 _ fun v H2 hv => ⟨l, xs, v, rfl, rfl, (k v H2 hv).1, sz_lt hz, (k v H2 hv).2⟩⟩
/-- tests -/
theorem etp_of {b : Bool} (h : EvT tt σ H b) : EtP tt σ H (fun b' H' => b' = b ∧ Ex H H') := fun Q q => h H (Ex.refl H) Q fun H2 e2 => q b H2 ⟨rfl, e2⟩
theorem etp_cmpD {r : R2} {y : V} {P2 : Bool → Hp → Prop} (ha : EvP ta σ H (DP p H C)) (hb : ∀ H1, Ev tb σ H1 y) (hr : ∀ d H2 (Q : VK), C d → (∀ b, Q (.bl b) H2) → r (.int d) y H2 Q) (k : ∀ b H', Drw p H' → But p H H' → P2 b H') : EtP (tTest (tOp r ta tb)) σ H P2 := fun Q q =>
  ha _ fun x H1 ⟨d, hv, hc, hD, b⟩ => by
    subst hv
    exact hb H1 H1 (Ex.refl H1) _ fun H2 e2 => hr d H2 _ hc fun b' => ⟨b', rfl, q b' H2 (k b' H2 (hD.ex e2) (b.trans (ex_but e2)))⟩
theorem etp_and {P1 P2 : Bool → Hp → Prop} (h1 : EtP t σ H P1) (h2 : ∀ H', P1 true H' → EtP u σ H' P2) (h3 : ∀ H', P1 false H' → P2 false H') : EtP (tAnd t u) σ H P2 := fun Q q =>
  h1 _ fun b H' hb => by
    cases b with
    | true => exact h2 H' hb Q q
    | false => exact q false H' (h3 H' hb)
theorem s_whenP {P2 : Bool → Hp → Prop} (h : EtP t σ H P2) (h1 : ∀ H', P2 true H' → tu D σ H') (h2 : ∀ H', P2 false H' → D.nx σ H') : tIfS t tu tNext D σ H := h _ fun b H' hb => by
  cases b with
  | true => exact h1 H' hb
  | false => exact h2 H' hb
/-- l[drawn] = e, e drawn -/
theorem s_setP {l : Addr} {to ti : TE} {P2 : V → Hp → Prop} (h : EvP te σ H P1) (ho : ∀ H1, Ev to σ H1 (.ref l)) (hi : ∀ v H1, P1 v H1 → ∀ H2, Ex H1 H2 → EvP ti σ H2 (P2))
    (k : ∀ v H1 H2 i H3, P1 v H1 → Ex H1 H2 → P2 i H3 → ∃ xs n j, i = .int n ∧ H3 l = some (.lst xs) ∧ ixN xs.length n = some j ∧ D.nx σ (upd H3 l (.lst (xs.set j v)))) : tAsg te (gSub to ti rSetL) D σ H := h _ fun v H1 hv =>
  ho H1 H1 (Ex.refl H1) _ fun H2 e2 => hi v H1 hv H2 e2 _ fun i H3 hi3 => by
    obtain ⟨xs, n, j, rfl, hl, hj, q⟩ := k v H1 H2 i H3 hv e2 hi3
    exact ⟨l, xs, n, j, rfl, rfl, hl, hj, q⟩
theorem dp_bk {p : Addr} {H H1 : Hp} {C C1 : Int → Prop} {v : V} {H' : Hp} (h : DP p H1 C v H') (b : But p H H1) (hC : ∀ d, C d → C1 d) : DP p H C1 v H' := let ⟨d, hv, hc, hD, b2⟩ := h; ⟨d, hv, hC d hc, hD, b.trans b2⟩
theorem ixN_of {n : Nat} {d : Int} (h0 : 0 ≤ d) (h1 : d < (n : Int)) : ixN n d = some d.toNat := by
  have e : d = ((d.toNat : Nat) : Int) := by omega
  rw [e]
  exact ixN_nat (by omega)
end
end Gd

set_option Elab.async false
set_option linter.all false
set_option maxRecDepth 100000
set_option maxHeartbeats 4000000
/-! Of our own: attributes, methods and dicts, by what evaluates. -/
namespace Gd
open PySem PySem.Spec PyProof.Rows L2 Evl
section
variable {K : PySem.W.Frag} {H : Hp} {σ : L2.St} {ta tb te tv td ty : TE} {t : TA} {D : Ends} {tz : TS} {a C dx : Addr} {fs : List (Str × V)} {f m : Str} {x y v z : V}
theorem ev_fld (h : Ev ta σ H (.ref a)) (ho : H a = some (.ins C dx fs)) (hc : Cls K C) (hn : NoAttr K C f) (hl : fs.lookup f = some v) : Ev (tFld K ta f) σ H v := fun H1 e Q q =>
  h H1 e _ fun H2 e2 => ⟨a, C, dx, fs, v, rfl, e2 _ _ (e _ _ ho), hc, hn, hl, q H2 e2⟩
theorem s_fld (hv : Ev tv σ H y) (ha : Ev ta σ H (.ref a)) (ho : H a = some (.ins C dx fs)) (hc : Cls K C) (hn : NoAttr K C f) (hz : fs.length < 1000) (k : ∀ H1, Ex H H1 → D.nx σ (upd H1 a (.ins C dx (putF f y fs)))) : sFld K ta tv f D σ H :=
  hv H (Ex.refl H) _ fun H1 e1 => ha H1 e1 _ fun H2 e2 => ⟨a, C, dx, fs, rfl, e2 _ _ (e1 _ _ ho), hc, hn, hz, k H2 (e1.trans e2)⟩
theorem q_fld (hv : Ev tv σ H y) (ha : Ev ta σ H (.ref a)) (ho : H a = some (.ins C dx fs)) (hc : Cls K C) (hn : NoAttr K C f) (hz : fs.length < 1000) (k : ∀ H1, Ex H H1 → tz D σ (upd H1 a (.ins C dx (putF f y fs)))) : tSeq (sFld K ta tv f) tz D σ H :=
  s_fld (D := { D with nx := tz D }) hv ha ho hc hn hz k
/-- o.f = [..], a new list -/
theorem s_fldL {xs : List V} (hv : EvL tv σ H xs) (ha : Ev ta σ H (.ref a)) (ho : H a = some (.ins C dx fs)) (hc : Cls K C) (hn : NoAttr K C f) (hz : fs.length < 1000) (k : ∀ p H1, H p = none → Ex H H1 → H1 p = some (.lst xs) → D.nx σ (upd H1 a (.ins C dx (putF f (.ref p) fs)))) : sFld K ta tv f D σ H :=
  hv H (Ex.refl H) _ fun p H1 hp e1 h1 => ha H1 e1 _ fun H2 e2 => ⟨a, C, dx, fs, rfl, e2 _ _ (e1 _ _ ho), hc, hn, hz, k p H2 hp (e1.trans e2) (e2 _ _ h1)⟩
theorem q_fldL {xs : List V} (hv : EvL tv σ H xs) (ha : Ev ta σ H (.ref a)) (ho : H a = some (.ins C dx fs)) (hc : Cls K C) (hn : NoAttr K C f) (hz : fs.length < 1000) (k : ∀ p H1, H p = none → Ex H H1 → H1 p = some (.lst xs) → tz D σ (upd H1 a (.ins C dx (putF f (.ref p) fs)))) : tSeq (sFld K ta tv f) tz D σ H :=
  s_fldL (D := { D with nx := tz D }) hv ha ho hc hn hz k
/-- o.f += e, ints -/
theorem s_fldaug {i j : Int} (ha : Ev ta σ H (.ref a)) (ho : H a = some (.ins C dx fs)) (hc : Cls K C) (hn : NoAttr K C f) (hl : fs.lookup f = some (.int i)) (hv : ∀ H1, Ex H H1 → Ev tv σ H1 (.int j)) (hz : fs.length < 1000) (k : ∀ H1, Ex H H1 → D.nx σ (upd H1 a (.ins C dx (putF f (.int (i + j)) fs)))) : sFldAug K ta tv L2.rAdd f D σ H :=
  ha H (Ex.refl H) _ fun H1 e1 => ⟨a, C, dx, fs, .int i, rfl, e1 _ _ ho, hc, hn, hl, hv H1 e1 H1 (Ex.refl H1) _ fun H2 e2 => ⟨i, j, rfl, rfl, dx, fs, e2 _ _ (e1 _ _ ho), hz, k H2 (e1.trans e2)⟩⟩
theorem q_fldaug {i j : Int} (ha : Ev ta σ H (.ref a)) (ho : H a = some (.ins C dx fs)) (hc : Cls K C) (hn : NoAttr K C f) (hl : fs.lookup f = some (.int i)) (hv : ∀ H1, Ex H H1 → Ev tv σ H1 (.int j)) (hz : fs.length < 1000) (k : ∀ H1, Ex H H1 → tz D σ (upd H1 a (.ins C dx (putF f (.int (i + j)) fs)))) : tSeq (sFldAug K ta tv L2.rAdd f) tz D σ H :=
  s_fldaug (D := { D with nx := tz D }) ha ho hc hn hl hv hz k
/-- o.m(..) -/
theorem ep_meth {sp : Sp} {E : XK} {vs : List V} {P : V → Hp → Prop} (ha : Ev ta σ H (.ref a)) (ho : H a = some (.ins C dx fs)) (hl : fs.lookup m = none) (ht : EvA t σ H vs) (hs : ∀ H1, Ex H H1 → ∀ Q : VK, (∀ v H', P v H' → Q v H') → sp (.ref a :: (vs ++ [])) H1 Q E) : EvP (tMeth C m sp [] E ta t) σ H P := fun Q q =>
  ha H (Ex.refl H) _ fun H1 e1 => ⟨a, dx, fs, rfl, e1 _ _ ho, hl, ht H1 e1 _ fun H2 e2 => hs H2 (e1.trans e2) Q q⟩
theorem ep_call {sp : Sp} {E : XK} {vs dvs : List V} {P : V → Hp → Prop} (ht : EvA t σ H vs) (hs : ∀ H1, Ex H H1 → ∀ Q : VK, (∀ v H', P v H' → Q v H') → sp (vs ++ dvs) H1 Q E) : EvP (tCall sp dvs E t) σ H P := fun Q q => ht H (Ex.refl H) _ fun H1 e1 => hs H1 e1 Q q
theorem q_dropP {P : V → Hp → Prop} (h : EvP te σ H P) (k : ∀ v H', P v H' → tz D σ H') : tSeq (tDrop te) tz D σ H := h _ k
theorem s_dropP {P : V → Hp → Prop} (h : EvP te σ H P) (k : ∀ v H', P v H' → D.nx σ H') : tDrop te D σ H := h _ k
/-- the truth of a bool that is read as any value -/
theorem et_truB {b : Bool} (h : Ev te σ H (.bl b)) : EvT (fun σ H Q => te σ H fun x H' => ∃ k, TruV K x H' k ∧ Q k H') σ H b := fun H1 e Q q => h H1 e _ fun H2 e2 => ⟨b, rfl, q H2 e2⟩
/-- d[k], d[k] = v -/
theorem ev_dget {kvs : List (Key × V)} {k : Key} (h : Ev td σ H (.ref a)) (hk : Ev ty σ H (kV k)) (hd : H a = some (.dK kvs)) (hv : valV kvs k = some v) : Ev (tDGet td ty) σ H v := fun H1 e Q q =>
  h H1 e _ fun H2 e2 => hk H2 (e.trans e2) _ fun H3 e3 => ⟨a, v, rfl, by rw [← hv]; exact DGet.k (e3 _ _ (e2 _ _ (e _ _ hd))), q H3 (e2.trans e3)⟩
theorem s_dput {kvs : List (Key × V)} {k : Key} (hv : Ev tv σ H v) (h : Ev td σ H (.ref a)) (hk : Ev ty σ H (kV k)) (hd : H a = some (.dK kvs)) (hz : kvs.length < 1000) (q : ∀ H1, Ex H H1 → D.nx σ (upd H1 a (.dK (putK kvs k v)))) : sDPut td ty tv D σ H :=
  hv H (Ex.refl H) _ fun H1 e1 => h H1 e1 _ fun H2 e2 => hk H2 (e1.trans e2) _ fun H3 e3 => ⟨a, _, rfl, DPut.k (e3 _ _ (e2 _ _ (e1 _ _ hd))) (Nat.lt_of_lt_of_le hz (by decide)), q H3 ((e1.trans e2).trans e3)⟩
theorem q_dput {kvs : List (Key × V)} {k : Key} (hv : Ev tv σ H v) (h : Ev td σ H (.ref a)) (hk : Ev ty σ H (kV k)) (hd : H a = some (.dK kvs)) (hz : kvs.length < 1000) (q : ∀ H1, Ex H H1 → tz D σ (upd H1 a (.dK (putK kvs k v)))) : tSeq (sDPut td ty tv) tz D σ H :=
  s_dput (D := { D with nx := tz D }) hv h hk hd hz q
end
end Gd
namespace Gd
open PySem PySem.Spec PyProof.Rows L2 Evl
/-- [..][drawn] -/
theorem ep_ixD {K : PySem.W.Frag} {H : Hp} {σ : L2.St} {ta tb : TE} {p : Addr} {C1 : Int → Prop} {ms : List Int} (hl : EvL ta σ H (ms.map V.int)) (hD : Drw p H) (hb : ∀ H1, Ex H H1 → EvP tb σ H1 (DP p H1 fun d => 0 ≤ d ∧ d < (ms.length : Int))) (hC : ∀ m ∈ ms, C1 m) :
    EvP (tOp (rIxL K) ta tb) σ H (DP p H C1) := fun Q q =>
  hl H (Ex.refl H) _ fun l H1 hl0 e1 h1 => hb H1 e1 _ fun v H2 ⟨d, hv, hd, hD2, b⟩ => by
    subst hv
    have nlp : l ≠ p := fun e => by
      obtain ⟨ds, h, _⟩ := hD
      rw [e, h] at hl0
      cases hl0
    obtain ⟨j, rfl⟩ : ∃ j : Nat, d = (j : Int) := ⟨d.toNat, by omega⟩
    have hlt : j < ms.length := by omega
    refine ⟨l, ms.map V.int, (j : Int), .int ms[j], rfl, rfl, sq_of (b _ _ nlp h1), atI_nat ?_, q _ H2 ⟨_, rfl, hC _ (List.getElem_mem _), hD2, (ex_but e1).trans b⟩⟩
    rw [List.getElem?_map, List.getElem?_eq_getElem hlt]
    rfl
theorem s_retPL {K : PySem.W.Frag} {te : TE} {σ : L2.St} {H : Hp} {D : Ends} {P : V → Hp → Prop} (h : EvP te σ H P) (k : ∀ v H', P v H' → D.rt v H') : tRet te D σ H := h _ k
end Gd

set_option Elab.async false
set_option linter.all false
set_option maxRecDepth 100000
set_option maxHeartbeats 4000000
/-! Of our own: tests that change the heap, slices of int lists, lists of int lists. -/
namespace Gd
open PySem PySem.Spec PyProof.Rows L2 Evl
section
variable {K : PySem.W.Frag} {H : Hp} {σ : L2.St} {ta tb te : TE} {t u : TT} {D : Ends} {tz tu : TS}
theorem rc_isBool {b : Bool} : RC (rIsi K) [.bl b, .ty "bool"] H (.bl true) := fun H1 _ _ q => ⟨_, _, _, _, true, rfl, .ty "bool", .base (.bl b), kit_ty (by decide +kernel), q H1 (Ex.refl H1)⟩
theorem etp_or {P1 P2 : Bool → Hp → Prop} (h1 : EtP t σ H P1) (h3 : ∀ H', P1 true H' → P2 true H') (h2 : ∀ H', P1 false H' → EtP u σ H' P2) : EtP (tOr t u) σ H P2 := fun Q q =>
  h1 _ fun b H' hb => by
    cases b with
    | true => exact q true H' (h3 H' hb)
    | false => exact h2 H' hb Q q
theorem etp_op {r : R2} {P : V → Hp → Prop} {P2 : Bool → Hp → Prop} (ha : EvP ta σ H P) (hb : ∀ v H1, P v H1 → ∃ y b, Ev tb σ H1 y ∧ RV r v y H1 (.bl b) ∧ ∀ H', Ex H1 H' → P2 b H') : EtP (tTest (tOp r ta tb)) σ H P2 := fun Q q =>
  ha _ fun v H1 hv => by
    obtain ⟨y, b, h2, h3, h4⟩ := hb v H1 hv
    exact h2 H1 (Ex.refl H1) _ fun H2 e2 => h3 H2 e2 _ fun H3 e3 => ⟨b, rfl, q b H3 (h4 H3 (e2.trans e3))⟩
theorem etp_imp {P1 P2 : Bool → Hp → Prop} (h1 : EtP t σ H P1) (k : ∀ b H', P1 b H' → P2 b H') : EtP t σ H P2 := fun Q q => h1 Q fun b H' hb => q b H' (k b H' hb)
theorem etp_not {P1 P2 : Bool → Hp → Prop} (h1 : EtP t σ H P1) (k : ∀ b H', P1 b H' → P2 (!b) H') : EtP (tNot t) σ H P2 := fun Q q => h1 _ fun b H' hb => q (!b) H' (k b H' hb)
theorem etp_B {P : V → Hp → Prop} {P2 : Bool → Hp → Prop} (h : EvP te σ H P) (k : ∀ v H', P v H' → ∃ b, v = .bl b ∧ P2 b H') : EtP (tB te) σ H P2 := fun Q q => h _ fun v H' hv => by
  obtain ⟨b, rfl, hb⟩ := k v H' hv
  exact ⟨b, rfl, q b H' hb⟩
theorem q_whenP {P2 : Bool → Hp → Prop} (h : EtP t σ H P2) (h1 : ∀ H', P2 true H' → tu { D with nx := tz D } σ H') (h2 : ∀ H', P2 false H' → tz D σ H') : tSeq (tIfS t tu tNext) tz D σ H := s_whenP (D := { D with nx := tz D }) h h1 h2
theorem cut_ints (cs : List Int) (i j : Nat) : cutV (cs.map V.int) (some (i : Int)) (some (j : Int)) = ((cs.drop i).take (j - i)).map V.int := by
  unfold cutV
  rw [HT.sIx_nat, HT.sIx_nat, List.length_map, ← List.map_drop, ← List.map_take]
  congr 1
  rcases Nat.lt_or_ge cs.length i with h | h
  · rw [List.drop_eq_nil_of_le (by omega), List.drop_eq_nil_of_le (by omega), List.take_nil, List.take_nil]
  · rw [Nat.min_eq_left h]
    rcases Nat.lt_or_ge cs.length j with g | g
    · rw [Nat.min_eq_right (by omega), List.take_of_length_le (by rw [List.length_drop]; omega), List.take_of_length_le (by rw [List.length_drop]; omega)]
    · rw [Nat.min_eq_left g]
theorem cut_from (cs : List Int) (i : Nat) : cutV (cs.map V.int) (some (i : Int)) none = (cs.drop i).map V.int := by
  unfold cutV
  rw [HT.sIx_nat, HT.sIx_none, List.length_map, ← List.map_drop, ← List.map_take]
  congr 1
  rcases Nat.lt_or_ge cs.length i with h | h
  · rw [List.drop_eq_nil_of_le (by omega), List.drop_eq_nil_of_le (by omega), List.take_nil]
  · rw [Nat.min_eq_left h, List.take_of_length_le (by rw [List.length_drop]; omega)]
/-- lists of int lists -/
def Pcs (H : Hp) : List Addr → List (List Int) → Prop
  | [], [] => True
  | a :: as, l :: ls => H a = some (.lst (l.map V.int)) ∧ Pcs H as ls
  | _, _ => False
theorem Pcs.keep {H H' : Hp} : ∀ {as : List Addr} {ls : List (List Int)}, Pcs H as ls → (∀ a o, a ∈ as → H a = some o → H' a = some o) → Pcs H' as ls
  | [], [], _, _ => trivial
  | a :: as, l :: ls, h, k => ⟨k a _ (List.mem_cons_self) h.1, Pcs.keep h.2 fun b o m => k b o (List.mem_cons_of_mem _ m)⟩
  | [], _ :: _, h, _ => h.elim
  | _ :: _, [], h, _ => h.elim
theorem Pcs.ex {H H' : Hp} {as : List Addr} {ls : List (List Int)} (h : Pcs H as ls) (e : Ex H H') : Pcs H' as ls := h.keep fun a o _ => e a o
theorem Pcs.len {H : Hp} : ∀ {as : List Addr} {ls : List (List Int)}, Pcs H as ls → as.length = ls.length
  | [], [], _ => rfl
  | a :: as, l :: ls, h => by rw [List.length_cons, List.length_cons, h.2.len]
  | [], _ :: _, h => h.elim
  | _ :: _, [], h => h.elim
theorem Pcs.snoc {H : Hp} : ∀ {as : List Addr} {ls : List (List Int)} {a : Addr} {l : List Int}, Pcs H as ls → H a = some (.lst (l.map V.int)) → Pcs H (as ++ [a]) (ls ++ [l])
  | [], [], _, _, _, h => ⟨h, trivial⟩
  | b :: as, m :: ls, _, _, g, h => ⟨g.1, g.2.snoc h⟩
  | [], _ :: _, _, _, g, _ => g.elim
  | _ :: _, [], _, _, g, _ => g.elim
theorem Pcs.at {H : Hp} : ∀ {as : List Addr} {ls : List (List Int)}, Pcs H as ls → ∀ i, i < as.length → ∃ a l, as[i]? = some a ∧ ls[i]? = some l ∧ a ∈ as ∧ H a = some (.lst (l.map V.int))
  | [], [], _, i, h => absurd h (Nat.not_lt_zero i)
  | a :: as, l :: ls, h, 0, _ => ⟨a, l, rfl, rfl, List.mem_cons_self, h.1⟩
  | a :: as, l :: ls, h, i + 1, g => by
    obtain ⟨b, m, h1, h2, h3, h4⟩ := h.2.at i (by simpa using g)
    exact ⟨b, m, by rw [List.getElem?_cons_succ]; exact h1, by rw [List.getElem?_cons_succ]; exact h2, List.mem_cons_of_mem _ h3, h4⟩
  | [], _ :: _, h, _, _ => h.elim
  | _ :: _, [], h, _, _ => h.elim
theorem Pcs.some {H : Hp} : ∀ {as : List Addr} {ls : List (List Int)}, Pcs H as ls → ∀ a ∈ as, ∃ o, H a = some o
  | [], [], _, a, h => nomatch h
  | b :: as, l :: ls, h, a, m => by
    rcases List.mem_cons.mp m with rfl | m
    · exact ⟨_, h.1⟩
    · exact h.2.some a m
  | [], _ :: _, h, _, _ => h.elim
  | _ :: _, [], h, _, _ => h.elim
/-- all but the given addresses keep what they hold -/
def Bu (L : List Addr) (H H' : Hp) : Prop := ∀ b o, b ∉ L → H b = some o → H' b = some o
theorem Bu.refl {L : List Addr} {H : Hp} : Bu L H H := fun _ _ _ h => h
theorem Bu.trans {L : List Addr} {H H1 H2 : Hp} (a : Bu L H H1) (b : Bu L H1 H2) : Bu L H H2 := fun c o n h => b c o n (a c o n h)
theorem Bu.mono {L L' : List Addr} {H H' : Hp} (b : Bu L H H') (m : ∀ a ∈ L, a ∈ L') : Bu L' H H' := fun c o n h => b c o (fun g => n (m c g)) h
theorem ex_bu {L : List Addr} {H H' : Hp} (e : Ex H H') : Bu L H H' := fun b o _ h => e b o h
theorem Bu.upd {L : List Addr} {H H' : Hp} {a : Addr} {o : HO} (b : Bu L H H') (m : a ∈ L ∨ H a = none) : Bu L H (upd H' a o) := fun c u n h => by
  rcases m with m | m
  · rw [upd_ne (fun e => n (by rw [e]; exact m))]
    exact b c u n h
  · rw [upd_ne (ne_of_none h m)]
    exact b c u n h
theorem el_callL {sp : Sp} {dvs xs ys : List V} {E : XK} (h : EvL te σ H xs) (hs : ∀ p H1, H1 p = some (.lst xs) → Ex H H1 → SpL sp ([.ref p] ++ dvs) H1 ys) : EvL (tCall sp dvs E (tCons te tNil)) σ H ys := fun H0 e Q q =>
  h H0 e _ fun p H1 _ e1 hp => hs p H1 hp (e.trans e1) H1 (Ex.refl H1) Q (fun p' H2 hp' e2 h2 => q p' H2 (fresh_back e1 hp') (e1.trans e2) h2) E
theorem len_flat {α : Type} {ps : List (List α)} {i : Nat} {l : List α} (h : ps[i]? = some l) : l.length ≤ ps.flatten.length := by
  induction ps generalizing i with
  | nil => simp at h
  | cons a r ih =>
    rw [List.flatten_cons, List.length_append]
    cases i with
    | zero => simp at h; subst h; omega
    | succ i => have := ih (by simpa using h); omega
theorem len_take_flat {α : Type} (ps : List (List α)) (i : Nat) : (ps.take i).flatten.length ≤ ps.flatten.length := by
  have h := congrArg List.length (congrArg List.flatten (List.take_append_drop i ps))
  rw [List.flatten_append, List.length_append] at h
  omega
theorem take_snocF {α : Type} {ps : List (List α)} {i : Nat} {l : List α} (h : ps[i]? = some l) : (ps.take (i + 1)).flatten = (ps.take i).flatten ++ l := by
  rw [List.take_succ, h]
  simp
end
end Gd

set_option Elab.async false
set_option linter.all false
set_option maxRecDepth 100000
set_option maxHeartbeats 4000000
/-! Of our own: a dict of the top whose keys are ints; keyword-only parameters. -/
namespace Gd
open PySem PySem.Spec PyProof.Rows L2 Evl
/-- the pairs of a dict with int keys, where it is one -/
def ikeys : List DictEntry → Option (List (Int × Value))
  | [] => some []
  | e :: r => match e.key with
    | .int k _ => if e.hash == hashInt k then (ikeys r).map fun l => (k, e.val) :: l else none
    | _ => none
theorem ikeys_all : ∀ {es : List DictEntry} {tb : List (Int × Value)}, ikeys es = some tb → ∀ e ∈ es, ∃ k, Value.isInt k e.key = true ∧ e.hash = hashInt k
  | [], _, _, e, m => nomatch m
  | d :: r, tb, h, e, m => by
    unfold ikeys at h
    split at h
    · rename_i k t hk
      split at h
      · rename_i hh
        cases g : ikeys r with
        | none => rw [g] at h; cases h
        | some l =>
          rcases List.mem_cons.mp m with rfl | m
          · exact ⟨k, by rw [hk]; simp [Value.isInt], by simpa using hh⟩
          · exact ikeys_all g e m
      · cases h
    · cases h
theorem ikeys_find : ∀ {es : List DictEntry} {tb : List (Int × Value)}, ikeys es = some tb → ∀ i, (es.find? fun e => Value.isInt i e.key).map (·.val) = tb.lookup i
  | [], tb, h, i => by
    unfold ikeys at h
    cases h
    rfl
  | d :: r, tb, h, i => by
    unfold ikeys at h
    split at h
    · rename_i k t hk
      split at h
      · cases g : ikeys r with
        | none => rw [g] at h; cases h
        | some l =>
          rw [g] at h
          cases h
          rw [List.find?_cons, hk, List.lookup_cons]
          have ih := ikeys_find g i
          by_cases e : i = k
          · subst e
            simp [Value.isInt]
          · have e1 : Value.isInt i (.int k t) = false := by
              simp [Value.isInt]
              intro z
              exact e z.symm
            have e2 : (i == k) = false := by simpa using e
            rw [e1, e2]
            exact ih
      · cases h
    · cases h
/-- at d: a dict of the top with int keys -/
structure ITab (K : PySem.W.Frag) (d : Addr) (tb : List (Int × Value)) : Prop where
  ex : ∃ es n, K.lookup d = some ⟨.type "dict", none, .dict es n, #[]⟩ ∧ ikeys es.toList = some tb
  low : (d == sysModules) = false
section
variable {X : Cx} {d : Addr} {tb : List (Int × Value)}
theorem itab_map {pins : List (Addr × Obj)} {σ : L2.St} {H : Hp} {s : Shared} (D : ITab X.K d tb) (I : Inv X pins σ H s) : s.heap.MapOf (intKind X.prog X.w) d (fun k => tb.lookup k) := by
  obtain ⟨es, n, hl, hk⟩ := D.ex
  refine ⟨_, es, n, I.kIn _ _ hl, ⟨rfl, rfl, rfl⟩, rfl, fun e he => ?_, fun k => ?_⟩
  · obtain ⟨k, h1, h2⟩ := ikeys_all hk e (Array.mem_toList_iff.mpr he)
    exact ⟨k, h1, h2⟩
  · have := ikeys_find hk k
    obtain ⟨l⟩ := es
    show findBy Value.isInt _ k = tb.lookup k
    unfold findBy
    rw [List.find?_toArray]
    exact this
theorem op_in_it (D : ITab X.K d tb) : OpR X (compareOp .In) (fun x y H Q => ∃ i : Int, x = .int i ∧ y = .ref d ∧ Q (.bl (tb.lookup i).isSome) H) := by
  intro pins s σ H x y v u Q I rx ry h
  obtain ⟨i, rfl, rfl, q⟩ := h
  obtain ⟨t, rfl⟩ := rx
  cases ry
  refine wpAny_in_of (knd := intKind X.prog X.w) (k := i) (by simp [intKind, Value.isInt]) D.low (itab_map D I) ?_
  exact ⟨.bl (tb.lookup i).isSome, H, I.tok _, rfl, q⟩
theorem ix_it (D : ITab X.K d tb) : IxR X (fun x y H Q => ∃ (i : Int) (u : Value) (v : V), x = .ref d ∧ y = .int i ∧ tb.lookup i = some u ∧ RelV v u ∧ Q v H) := by
  intro value slice pins s σ H x y v u Q I rx ry h hs
  obtain ⟨i, u0, r, rfl, rfl, e, ru, q⟩ := h
  obtain rfl : v = Value.ref d := rx
  obtain ⟨t, rfl⟩ := ry
  have hm := itab_map D I
  exact tail_any hm.typeIs slot_dict_getitem.lookup (wpAny_getItem_of (knd := intKind X.prog X.w) (k := i) (by simp [intKind, Value.isInt]) hm e ⟨r, H, I.tok _, ru, q⟩) hs
end
section
variable {H : Hp} {d : Addr} {tb : List (Int × Value)} {c : Int}
theorem rv_it {u : Value} (h : tb.lookup c = some u) : RV (fun x y H Q => ∃ i : Int, x = .int i ∧ y = .ref d ∧ Q (.bl (tb.lookup i).isSome) H) (.int c) (.ref d) H (.bl true) := fun H1 _ _ q => ⟨c, rfl, rfl, by rw [h]; exact q H1 (Ex.refl H1)⟩
theorem rv_it0 (h : tb.lookup c = none) : RV (fun x y H Q => ∃ i : Int, x = .int i ∧ y = .ref d ∧ Q (.bl (tb.lookup i).isSome) H) (.int c) (.ref d) H (.bl false) := fun H1 _ _ q => ⟨c, rfl, rfl, by rw [h]; exact q H1 (Ex.refl H1)⟩
theorem rv_ix_it {a : Addr} (h : tb.lookup c = some (.ref a)) : RV (fun x y H Q => ∃ (i : Int) (u : Value) (v : V), x = .ref d ∧ y = .int i ∧ tb.lookup i = some u ∧ RelV v u ∧ Q v H) (.ref d) (.int c) H (.ref a) := fun H1 _ _ q => ⟨c, .ref a, .ref a, rfl, rfl, h, rfl, q H1 (Ex.refl H1)⟩
end
section
variable {K : PySem.W.Frag} {H : Hp} {σ : L2.St} {ta tv : TE} {D : Ends} {tz : TS} {a C dx : Addr} {fs : List (Str × V)} {f : Str}
/-- o.f = e, where e changes the heap -/
theorem s_fldP {P : V → Hp → Prop} (hv : EvP tv σ H P) (k : ∀ v H1, P v H1 → ∃ C dx fs, H1 a = some (.ins C dx fs) ∧ (∀ H2, Ex H1 H2 → Ev ta σ H2 (.ref a)) ∧ Cls K C ∧ NoAttr K C f ∧ fs.length < 1000 ∧ ∀ H2, Ex H1 H2 → D.nx σ (upd H2 a (.ins C dx (putF f v fs)))) : sFld K ta tv f D σ H :=
  hv _ fun v H1 h1 => by
    obtain ⟨C, dx, fs, ho, ha, hc, hn, hz, q⟩ := k v H1 h1
    exact ha H1 (Ex.refl H1) H1 (Ex.refl H1) _ fun H2 e2 => ⟨a, C, dx, fs, rfl, e2 _ _ ho, hc, hn, hz, q H2 e2⟩
theorem q_fldP {P : V → Hp → Prop} (hv : EvP tv σ H P) (k : ∀ v H1, P v H1 → ∃ C dx fs, H1 a = some (.ins C dx fs) ∧ (∀ H2, Ex H1 H2 → Ev ta σ H2 (.ref a)) ∧ Cls K C ∧ NoAttr K C f ∧ fs.length < 1000 ∧ ∀ H2, Ex H1 H2 → tz D σ (upd H2 a (.ins C dx (putF f v fs)))) : tSeq (sFld K ta tv f) tz D σ H :=
  s_fldP (D := { D with nx := tz D }) hv k
end
section
variable {H : Hp} {σ : L2.St} {td ty tv : TE} {D : Ends} {tz : TS} {a : Addr}
/-- d[k] = e, where e changes the heap -/
theorem s_dputP {P : V → Hp → Prop} {k : Key} (hv : EvP tv σ H P) (q : ∀ v H1, P v H1 → ∃ kvs, H1 a = some (.dK kvs) ∧ (∀ H2, Ex H1 H2 → Ev td σ H2 (.ref a)) ∧ (∀ H2, Ex H1 H2 → Ev ty σ H2 (kV k)) ∧ kvs.length < 1000 ∧ ∀ H2, Ex H1 H2 → D.nx σ (upd H2 a (.dK (putK kvs k v)))) : sDPut td ty tv D σ H :=
  hv _ fun v H1 h1 => by
    obtain ⟨kvs, hd, ha, hk, hz, g⟩ := q v H1 h1
    exact ha H1 (Ex.refl H1) H1 (Ex.refl H1) _ fun H2 e2 => hk H2 e2 H2 (Ex.refl H2) _ fun H3 e3 => ⟨a, _, rfl, DPut.k (e3 _ _ (e2 _ _ hd)) (Nat.lt_of_lt_of_le hz (by decide)), g H3 (e2.trans e3)⟩
theorem q_dputP {P : V → Hp → Prop} {k : Key} (hv : EvP tv σ H P) (q : ∀ v H1, P v H1 → ∃ kvs, H1 a = some (.dK kvs) ∧ (∀ H2, Ex H1 H2 → Ev td σ H2 (.ref a)) ∧ (∀ H2, Ex H1 H2 → Ev ty σ H2 (kV k)) ∧ kvs.length < 1000 ∧ ∀ H2, Ex H1 H2 → tz D σ (upd H2 a (.dK (putK kvs k v)))) : tSeq (sDPut td ty tv) tz D σ H :=
  s_dputP (D := { D with nx := tz D }) hv q
end
section
variable {K : PySem.W.Frag} {H : Hp} {σ : L2.St} {tl : TE} {tu tz : TS} {D : Ends} {a1 b1 a2 b2 : TE} {x1 y1 x2 y2 : V}
theorem q_forLP {P : V → Hp → Prop} {j : Nat} (h : EvP tl σ H P) (k : ∀ v H1, P v H1 → ∃ a xs, v = .ref a ∧ SqL K H1 a xs ∧ ∃ Pv : Nat → L2.St → Hp → Prop, Pv 0 σ H1 ∧ (∀ i σ' H', i ≤ xs.length → Pv i σ' H' → SqL K H' a xs) ∧
    (∀ i x σ' H', xs[i]? = some x → Pv i σ' H' → tu { D with nx := Pv (i + 1), ct := Pv (i + 1), bk := tz D } (σ'.set j (some x)) H') ∧ (∀ σ' H', Pv xs.length σ' H' → tz D σ' H')) : tSeq (tFor (iList K tl) (gName j) tu) tz D σ H :=
  h _ fun v H1 hv => by
    obtain ⟨a, xs, rfl, hx, Pv, h0, hl, hs, hd⟩ := k v H1 hv
    exact ⟨a, rfl, ⟨xs, hx⟩, for_list (g := gName j) (D := { D with nx := tz D }) Pv h0 hl hs hd⟩
theorem ep_two (h1 : EvL (tLst (tCons a1 (tCons b1 tNil))) σ H [x1, y1]) (h2 : EvL (tLst (tCons a2 (tCons b2 tNil))) σ H [x2, y2]) :
    EvP (tLst (tCons (tLst (tCons a1 (tCons b1 tNil))) (tCons (tLst (tCons a2 (tCons b2 tNil))) tNil))) σ H (fun v H' => ∃ p p1 p2, v = .ref p ∧ Ex H H' ∧ H' p = some (.lst [.ref p1, .ref p2]) ∧ H' p1 = some (.lst [x1, y1]) ∧ H' p2 = some (.lst [x2, y2])) := fun Q q => by
  show tLst (tCons a1 (tCons b1 tNil)) σ H fun x H1 => tLst (tCons a2 (tCons b2 tNil)) σ H1 fun y H2 => [x, y].length ≤ sizeLine ∧ ∀ p, H2 p = none → Q (.ref p) (upd H2 p (.lst [x, y]))
  exact h1 H (Ex.refl H) _ fun p1 H1 hp1 e1 d1 => h2 H1 e1 _ fun p2 H2 hp2 e2 d2 => ⟨sz_of (n := 2) (by decide), fun p hp => q _ _ ⟨p, p1, p2, rfl, (e1.trans e2).trans (Ex.new hp), upd_same, by rw [upd_ne (ne_of_none (e2 _ _ d1) hp)]; exact e2 _ _ d1, by rw [upd_ne (ne_of_none d2 hp)]; exact d2⟩⟩
end
theorem el_callN {sp : Sp} {gV : List V → List V → List V} {E : XK} {H : Hp} {σ : L2.St} {n m : Nat} {t tk : TA} {vs zs xs : List V} (h1 : EvA t σ H vs) (h2 : EvA tk σ H zs) (l1 : vs.length = n) (l2 : zs.length = m) (hs : SpL sp (gV vs zs) H xs) : EvL (tCallN n m sp gV E t tk) σ H xs := fun H0 e Q q =>
  h1 H0 e _ fun H1 e1 => h2 H1 (e.trans e1) _ fun H2 e2 => ⟨l1, l2, hs H2 ((e.trans e1).trans e2) Q (fun p H3 hp e3 h3 => q p H3 (fresh_back (e1.trans e2) hp) ((e1.trans e2).trans e3) h3) E⟩
theorem rv_isNon {H : Hp} {v : V} : RV (fun x y H Q => y = .non ∧ Q (.bl (decide (x = .non))) H) v .non H (.bl (decide (v = .non))) := fun H1 _ _ q => ⟨rfl, q H1 (Ex.refl H1)⟩
/-! ### keyword-only parameters -/
theorem fund_mk {K : PySem.W.Frag} {x qual : Str} {st : Stmt} {f kD : Addr} {kws : List (Str × V)} {oc : Value} {od an : Option Addr} {osl : Array (Option Value)} {doc pm cdv ct : Value}
    (l : K.lookup f = some ⟨oc, od, .func (PySem.W.fnOf x qual (defArgs st) (defBody st) (defScope st) .none (.ref kD) doc pm an cdv ct), osl⟩)
    (c : PySem.W.codeIn K cdv qual = true) (k : PySem.W.keepIn K (.ref f) = true) (hq : ∀ q ∈ kws, ∃ u, PySem.W.nsIn K kD q.1 = some (some u) ∧ RelV q.2 u) :
    FunD K x qual (defArgs st) (defBody st) (defScope st) [] kws f (PySem.W.fnOf x qual (defArgs st) (defBody st) (defScope st) .none (.ref kD) doc pm an cdv ct) :=
  ⟨⟨oc, od, .none, .ref kD, doc, pm, an, cdv, ct, osl, rfl, l, c, .inl ⟨rfl, rfl⟩, .inr ⟨kD, rfl, hq⟩⟩, k⟩
theorem hq2 {K : PySem.W.Frag} {D : Addr} {x y : Str} {i j : Int} {t u : Tok} (h1 : PySem.W.nsIn K D x = some (some (.int i t))) (h2 : PySem.W.nsIn K D y = some (some (.int j u))) : ∀ q ∈ [(x, V.int i), (y, V.int j)], ∃ u, PySem.W.nsIn K D q.1 = some (some u) ∧ RelV q.2 u := by
  intro q m
  rcases List.mem_cons.mp m with rfl | m
  · exact ⟨_, h1, t, rfl⟩
  · rw [List.mem_singleton.mp m]
    exact ⟨_, h2, u, rfl⟩
end Gd

set_option Elab.async false
set_option linter.all false
set_option maxRecDepth 100000
set_option maxHeartbeats 4000000
/-! Of our own: decimals. -/
namespace Gd
open PySem PySem.Spec PyProof.Rows L2 Evl
open PySem.NumText (AllDigits digitsVal)
def decL (n : Nat) : List Nat := (Nat.toDigits 10 n).map Char.toNat
def intL (i : Int) : List Nat := if i < 0 then 45 :: decL i.natAbs else decL i.natAbs
def decZ (n : Nat) : List Nat := if n = 0 then [] else decL n
theorem show_nat (n : Nat) : (PySem.Str.ofString (toString ((n : Nat) : Int))).cps.toList = decL n := PySem.W.KIN.signs_num n
theorem ofS_list (s : String) : (PySem.Str.ofString s).cps.toList = s.toList.map Char.toNat := by
  rw [PySem.Str.ofString_eq_toList]
theorem show_int (i : Int) : (PySem.Str.ofString (toString i)).cps.toList = intL i := by
  unfold intL
  by_cases h : i < 0
  · rw [if_pos h, PyProof.Rows.toString_neg h, ofS_list, String.toList_append, List.map_append, ← ofS_list]
    have e : (0 - i) = ((i.natAbs : Nat) : Int) := by omega
    rw [e, ← ofS_list, show_nat]
    rfl
  · rw [if_neg h]
    have e : i = ((i.natAbs : Nat) : Int) := by omega
    rw [← show_nat, ← e]
theorem dec_small {n : Nat} (h : n < 10) : decL n = [48 + n] := by
  unfold decL
  rw [Nat.toDigits_of_lt_base h]
  have : ∀ n < 10, [Nat.digitChar n].map Char.toNat = [48 + n] := by decide
  exact this n h
theorem dec_step {n : Nat} (h : 10 ≤ n) : decL n = decL (n / 10) ++ [48 + n % 10] := by
  have hm : n % 10 < 10 := Nat.mod_lt n (by decide)
  have t : Nat.toDigits 10 (n / 10) ++ Nat.toDigits 10 (n % 10) = Nat.toDigits 10 (10 * (n / 10) + n % 10) := Nat.toDigits_append_toDigits (by decide) (by omega) hm
  rw [Nat.div_add_mod] at t
  have s := dec_small hm
  unfold decL at *
  rw [← t, List.map_append, s]
theorem decZ_step {n : Nat} (h : n ≠ 0) : decZ n = decZ (n / 10) ++ [48 + n % 10] := by
  unfold decZ
  rw [if_neg h]
  by_cases g : n < 10
  · rw [if_pos (by omega), dec_small g, List.nil_append, Nat.mod_eq_of_lt g]
  · rw [if_neg (by omega), dec_step (by omega)]
theorem dec_head (n : Nat) (h : n ≠ 0) : ∃ c r, decL n = c :: r ∧ 49 ≤ c ∧ c ≤ 57 := by
  induction n using Nat.strongRecOn with
  | _ n ih =>
    by_cases g : n < 10
    · exact ⟨48 + n, [], dec_small g, by omega, by omega⟩
    · obtain ⟨c, r, e, h1, h2⟩ := ih (n / 10) (by omega) (by omega)
      exact ⟨c, r ++ [48 + n % 10], by rw [dec_step (by omega), e]; rfl, h1, h2⟩
theorem dec_all (n : Nat) : ∀ c ∈ decL n, 48 ≤ c ∧ c ≤ 57 := by
  induction n using Nat.strongRecOn with
  | _ n ih =>
    by_cases g : n < 10
    · rw [dec_small g]
      intro c m
      rw [List.mem_singleton.mp m]
      omega
    · rw [dec_step (by omega)]
      intro c m
      rcases List.mem_append.mp m with m | m
      · exact ih (n / 10) (by omega) c m
      · rw [List.mem_singleton.mp m]
        have := Nat.mod_lt n (show 0 < 10 by decide)
        omega
theorem dec_ne (n : Nat) : decL n ≠ [] := by
  by_cases h : n = 0
  · subst h
    rw [dec_small (by decide)]
    exact List.cons_ne_nil _ _
  · obtain ⟨c, r, e, _⟩ := dec_head n h
    rw [e]
    exact List.cons_ne_nil _ _
theorem dec_len_le : ∀ (k : Nat) {n : Nat}, n < 10 ^ (k + 1) → (decL n).length ≤ k + 1
  | 0, n, h => by rw [dec_small (by simpa using h)]; exact Nat.le_refl _
  | k + 1, n, h => by
    by_cases g : n < 10
    · rw [dec_small g]; simp
    · rw [dec_step (by omega), List.length_append]
      have := dec_len_le k (n := n / 10) (by rw [Nat.pow_succ] at h; omega)
      simp
      omega
theorem dec_len_gt : ∀ (k : Nat) {n : Nat}, 10 ^ k ≤ n → k < (decL n).length
  | 0, n, h => List.length_pos_iff.mpr (dec_ne n)
  | k + 1, n, h => by
    have hp : 0 < 10 ^ k := Nat.pow_pos (by decide)
    rw [Nat.pow_succ] at h
    rw [dec_step (by omega), List.length_append]
    have := dec_len_gt k (n := n / 10) (by omega)
    simp
    omega
theorem dec_val (n : Nat) : digitsVal (decL n) = n := PySem.W.KIN.val_back n
theorem int_text {x : Str} {i : Int} (h : x.cps.toList = intL i) (hl : x.length ≤ 4300) : PySem.intText? x = some i := by
  unfold intL at h
  by_cases g : i < 0
  · rw [if_pos g] at h
    rw [PySem.intText_neg h (dec_all _) (dec_ne _) hl, dec_val]
    congr 1
    omega
  · rw [if_neg g] at h
    rw [PySem.intText_digits (by rw [h]; exact dec_all _) (by rw [h]; exact dec_ne _) hl, h, dec_val]
    congr 1
    omega
theorem log_ok {n : Nat} (h : n < 10 ^ 500) : n.log2 < 1920 := by
  by_cases h0 : n = 0
  · subst h0; decide
  · exact (Nat.log2_lt h0).mpr (Nat.lt_trans h (by decide +kernel))
theorem op_rep_str {X : Cx} : OpR X (binaryOp .Mult) (fun x y H Q => ∃ z n, x = .str z ∧ y = .int n ∧ MulOk z n ∧ Q (.str (Txt.mul z n)) H) := by
  intro pins s σ H x y v u Q I rx ry h
  obtain ⟨z, n, rfl, rfl, hz, q⟩ := h
  obtain ⟨t, rfl⟩ := rx
  obtain ⟨t', rfl⟩ := ry
  exact PySem.SB.mul hz (fun t' k => ⟨.str (Txt.mul z n), H, I.tok _, ⟨_, rfl⟩, q⟩)
section
variable {K : PySem.W.Frag} {H : Hp} {σ : L2.St} {ta tb te to : TE}
theorem rv_repS {z : Str} {n : Int} (h : MulOk z n) : RV (fun x y H Q => ∃ z n, x = .str z ∧ y = .int n ∧ MulOk z n ∧ Q (.str (Txt.mul z n)) H) (.str z) (.int n) H (.str (Txt.mul z n)) := fun H1 _ _ q => ⟨z, n, rfl, rfl, h, q H1 (Ex.refl H1)⟩
theorem rv_notNon {v : V} : RV (fun x y H Q => y = .non ∧ Q (.bl (!decide (x = .non))) H) v .non H (.bl (!decide (v = .non))) := fun H1 _ _ q => ⟨rfl, q H1 (Ex.refl H1)⟩
theorem rc_abs {i : Int} : RC (fun xs H Q => ∃ i, xs = [.int i] ∧ Q (.int (if i < 0 then -i else i)) H) [.int i] H (.int (if i < 0 then -i else i)) := fun H1 _ _ q => ⟨i, rfl, q H1 (Ex.refl H1)⟩
theorem rc_strI {i : Int} (h : i.natAbs < 10 ^ 500) : RC (fun xs H Q => ∃ i, xs = [.int i] ∧ i.natAbs.log2 < 1920 ∧ Q (.str (toString i)) H) [.int i] H (.str (toString i)) := fun H1 _ _ q => ⟨i, rfl, log_ok h, q H1 (Ex.refl H1)⟩
theorem ev_starts {a b : Str} (ho : Ev to σ H (.str a)) (h : Ev te σ H (.str b)) : Ev (tM1 (fun x xs H Q => ∃ a b, x = .str a ∧ xs = [.str b] ∧ Q (.bl (Txt.startswith a b)) H) to te) σ H (.bl (Txt.startswith a b)) := fun H0 e Q q =>
  ho H0 e _ fun H1 e1 => ⟨⟨a, rfl⟩, h H1 (e.trans e1) _ fun H2 e2 => ⟨a, b, rfl, rfl, q H2 (e1.trans e2)⟩⟩
theorem rv_inSign {c : Nat} {z : Str} : RV (fun x y H Q => ∃ (c : Nat) (z : Str), x = .str ⟨#[c]⟩ ∧ y = .str z ∧ Q (.bl (decide (c ∈ z.cps.toList))) H) (.str ⟨#[c]⟩) (.str z) H (.bl (decide (c ∈ z.cps.toList))) := fun H1 _ _ q => ⟨c, z, rfl, rfl, q H1 (Ex.refl H1)⟩
theorem rc_all {p : Addr} {bs : List Bool} (h : SqL K H p (bs.map V.bl)) : RC (rAll K) [.ref p] H (.bl (bs.all id)) := fun H1 e _ q => ⟨p, bs, rfl, ex_l e h, q H1 (Ex.refl H1)⟩
theorem ev_cbL {r : List V → Hp → VK → Prop} {xs : List V} {z : V} (h : EvL te σ H xs) (hr : ∀ p H1, H1 p = some (.lst xs) → RC r [.ref p] H1 z) : Ev (tCB r (tCons te tNil)) σ H z := fun H0 e Q q =>
  h H0 e _ fun p H1 _ e1 hp => hr p H1 hp H1 (Ex.refl H1) Q fun H2 e2 => q H2 (e1.trans e2)
theorem starts_one {x : Str} {c : Nat} : Txt.startswith x ⟨#[c]⟩ = decide (x.cps.toList.head? = some c) := by
  unfold Txt.startswith
  rw [PySem.StrLaws.subAt_eq]
  have hl : x.length = x.cps.toList.length := rfl
  rw [hl]
  cases h : x.cps.toList with
  | nil => rfl
  | cons a r =>
    show (decide (0 + 1 ≤ r.length + 1) && ([a] == [c])) = decide (some a = some c)
    by_cases e : a = c
    · subst e; simp
    · simp [e]
theorem cut_one {x : Str} : (cutS x (some 1) none).cps.toList = x.cps.toList.drop 1 := by
  unfold cutS
  show (x.cps.toList.drop (HT.sIx x.length 0 (some ((1 : Nat) : Int)))).take (x.length - HT.sIx x.length 0 (some ((1 : Nat) : Int))) = _
  rw [HT.sIx_nat]
  have hl : x.length = x.cps.toList.length := rfl
  rw [hl]
  cases h : x.cps.toList with
  | nil => rfl
  | cons a r =>
    have e : min 1 (a :: r).length = 1 := by simp
    rw [e]
    show (r.take (r.length + 1 - 1)) = r
    simp
end
end Gd

set_option Elab.async false
set_option linter.all false
set_option maxRecDepth 100000
set_option maxHeartbeats 4000000
/-! Of our own: rules that hold within a comprehension (their relations name the top's part, not the context). -/
namespace Gd
open PySem PySem.Spec PyProof.Rows L2 Evl
section
variable {X : Cx} {K : PySem.W.Frag}
def rTupOf (K : PySem.W.Frag) : List V → Hp → VK → Prop := fun xs H Q => ∃ p ys, xs = [.ref p] ∧ ((SqL K H p ys ∧ ∀ l, H l = none → Q (.ref l) (upd H l (.tup ys))) ∨ (SqT K H p ys ∧ Q (.ref p) H))
def rLstOf (K : PySem.W.Frag) : List V → Hp → VK → Prop := fun xs H Q => ∃ p ys, xs = [.ref p] ∧ (SqL K H p ys ∨ SqT K H p ys) ∧ ∀ l, H l = none → Q (.ref l) (upd H l (.lst ys))
theorem sl_listK (e : X.K = K) : SlR X (rSlL K) := by subst e; exact sl_list
theorem sl_tupK (e : X.K = K) : SlR X (rSlT K) := by subst e; exact sl_tup
theorem ix_listK (e : X.K = K) : IxR X (rIxL K) := by subst e; exact ix_list
theorem ix_tupK (e : X.K = K) : IxR X (rIxT K) := by subst e; exact ix_tup
theorem call_tuple_ofK (e : X.K = K) : CallR X (.type "tuple") (rTupOf K) := by subst e; exact call_tuple_of
theorem call_list_ofK (e : X.K = K) : CallR X (.type "list") (rLstOf K) := by subst e; exact call_list_of
theorem call_len_seqK (e : X.K = K) : CallR X (.builtin "len") (rLenS K) := by subst e; exact call_len_seq
theorem pe_fldK {o : Expr} {pos : Pos} {n : Str} {te : TE} (e : X.K = K) (h : PE X o te) (hb : attributeBase o n X.env (eval o X.env) = eval o X.env) : PE X (.Attribute o n pos) (tFld K te n) := by subst e; exact pe_fld h hb
theorem pg_tupK {es : List Expr} {k : Nat} {pos : Pos} {t : TGs} {n : Nat} (e : X.K = K) (hc : X.calm = true) (h : PGs X es t)
    (hn : (assignEach es X.env).length = n := by rfl) (hst : (assignEach es X.env).findIdx? (·.1) = none := by rfl) : PG X (.Tuple es k pos) (gTup K n t) := by subst e; exact pg_tup hc h hn hst
end
end Gd

set_option Elab.async false
set_option linter.all false
set_option maxRecDepth 100000
set_option maxHeartbeats 4000000
/-! Of our own: values as data (Dp), dicts of ints, arguments that change the heap. -/
namespace Gd
open PySem PySem.Spec PyProof.Rows L2 Evl
/-! ### data under a heap that grows -/
section
variable {K : PySem.W.Frag} {H H' : Hp}
mutual
theorem dp_ex (e : Ex H H') : ∀ (d : PyData) (v : V), Dp K H v d → Dp K H' v d
  | .none, _, h => by cases h; exact .non
  | .bool _, _, h => by cases h; exact .bl _
  | .int _, _, h => by cases h; exact .int _
  | .str _, _, h => by cases h; exact .str _
  | .list ds, _, h => by cases h with | lst h1 h2 => exact .lst (ex_l e h1) (dpAll_ex e ds _ h2)
  | .tuple ds, _, h => by cases h with | tup h1 h2 => exact .tup (ex_t e h1) (dpAll_ex e ds _ h2)
  | .dict _, _, h => by cases h
theorem dpAll_ex (e : Ex H H') : ∀ (ds : List PyData) (vs : List V), DpAll K H vs ds → DpAll K H' vs ds
  | [], _, h => by cases h; exact .nil
  | d :: ds, _, h => by cases h with | cons a b => exact .cons (dp_ex e d _ a) (dpAll_ex e ds _ b)
end
theorem _root_.L2.Dp.ex {v : V} {d : PyData} (h : Dp K H v d) (e : Ex H H') : Dp K H' v d := dp_ex e d v h
theorem _root_.L2.DpAll.ex {vs : List V} {ds : List PyData} (h : DpAll K H vs ds) (e : Ex H H') : DpAll K H' vs ds := dpAll_ex e ds vs h
/-! data of tuples alone -/
mutual
def tupO : PyData → Bool
  | .none | .bool _ | .int _ | .str _ => true
  | .tuple ds => tupOs ds
  | .list _ | .dict _ => false
def tupOs : List PyData → Bool
  | [] => true
  | d :: r => tupO d && tupOs r
end
/-- no tuple, nor one that is locked -/
def NoTup (o : HO) : Prop := (∀ xs, o ≠ .tup xs) ∧ ∀ b xs, o ≠ .frz b (.tup xs)
theorem nt_lst {xs : List V} : NoTup (.lst xs) := ⟨fun _ h => (by cases h), fun _ _ h => (by cases h)⟩
theorem nt_dK {xs : List (Key × V)} : NoTup (.dK xs) := ⟨fun _ h => (by cases h), fun _ _ h => (by cases h)⟩
theorem nt_ins {C dx : Addr} {fs : List (Str × V)} : NoTup (.ins C dx fs) := ⟨fun _ h => (by cases h), fun _ _ h => (by cases h)⟩
theorem sqT_bu {L : List Addr} {a : Addr} {xs : List V} (b : Bu L H H') (n : ∀ c ∈ L, ∃ o, H c = some o ∧ NoTup o) (h : SqT K H a xs) : SqT K H' a xs := by
  have hn : ∀ o, H a = some o → ¬ NoTup o → H' a = some o := fun o ho hx => b a o (fun m => by
    obtain ⟨o2, h1, h2⟩ := n a m
    rw [ho] at h1
    cases h1
    exact hx h2) ho
  rcases h with (h | ⟨o, h⟩) | h
  · exact .inl (.inl (hn _ h fun z => z.1 _ rfl))
  · exact .inl (.inr ⟨o, hn _ h fun z => z.2 _ _ rfl⟩)
  · exact .inr h
mutual
theorem dp_bu {L : List Addr} (b : Bu L H H') (n : ∀ c ∈ L, ∃ o, H c = some o ∧ NoTup o) : ∀ (d : PyData) (v : V), tupO d = true → Dp K H v d → Dp K H' v d
  | .none, _, _, h => by cases h; exact .non
  | .bool _, _, _, h => by cases h; exact .bl _
  | .int _, _, _, h => by cases h; exact .int _
  | .str _, _, _, h => by cases h; exact .str _
  | .tuple ds, _, t, h => by cases h with | tup h1 h2 => exact .tup (sqT_bu b n h1) (dpAll_bu b n ds _ (by rw [tupO] at t; exact t) h2)
  | .list _, _, t, _ => by rw [tupO] at t; cases t
  | .dict _, _, t, _ => by rw [tupO] at t; cases t
theorem dpAll_bu {L : List Addr} (b : Bu L H H') (n : ∀ c ∈ L, ∃ o, H c = some o ∧ NoTup o) : ∀ (ds : List PyData) (vs : List V), tupOs ds = true → DpAll K H vs ds → DpAll K H' vs ds
  | [], _, _, h => by cases h; exact .nil
  | d :: ds, _, t, h => by
    rw [tupOs, Bool.and_eq_true] at t
    cases h with | cons x y => exact .cons (dp_bu b n d _ t.1 x) (dpAll_bu b n ds _ t.2 y)
end
/-- one object that is no tuple changes -/
theorem _root_.L2.Dp.upd {v : V} {d : PyData} {p : Addr} {o o' : HO} (h : Dp K H v d) (t : tupO d = true) (hp : H p = some o) (n : NoTup o) : Dp K (upd H p o') v d :=
  dp_bu (L := [p]) (fun a u m e => by rw [upd_ne (by simpa using m)]; exact e) (fun c m => by rw [List.mem_singleton.mp m]; exact ⟨o, hp, n⟩) d v t h
theorem _root_.L2.DpAll.upd {vs : List V} {ds : List PyData} {p : Addr} {o o' : HO} (h : DpAll K H vs ds) (t : tupOs ds = true) (hp : H p = some o) (n : NoTup o) : DpAll K (upd H p o') vs ds :=
  dpAll_bu (L := [p]) (fun a u m e => by rw [upd_ne (by simpa using m)]; exact e) (fun c m => by rw [List.mem_singleton.mp m]; exact ⟨o, hp, n⟩) ds vs t h
/-! ### what data stands for -/
theorem dpAll_ints_inv : ∀ {ns : List Int} {vs : List V}, DpAll K H vs (ns.map PyData.int) → vs = ns.map V.int
  | [], _, h => by cases h; rfl
  | n :: r, _, h => by cases h with | cons a b => cases a; rw [dpAll_ints_inv b]; rfl
theorem dp_ints_inv {v : V} {ns : List Int} (h : Dp K H v (.list (ns.map PyData.int))) : ∃ a, v = .ref a ∧ SqL K H a (ns.map V.int) := by
  cases h with | lst h1 h2 => rw [dpAll_ints_inv h2] at h1; exact ⟨_, rfl, h1⟩
theorem dp_intsT_inv {v : V} {ns : List Int} (h : Dp K H v (.tuple (ns.map PyData.int))) : ∃ a, v = .ref a ∧ SqT K H a (ns.map V.int) := by
  cases h with | tup h1 h2 => rw [dpAll_ints_inv h2] at h1; exact ⟨_, rfl, h1⟩
theorem dp_intsT {a : Addr} {ns : List Int} (h : SqT K H a (ns.map V.int)) : Dp K H (.ref a) (.tuple (ns.map PyData.int)) := .tup h (dpAll_ints ns)
theorem dp_tup_inv {v : V} {ds : List PyData} (h : Dp K H v (.tuple ds)) : ∃ a xs, v = .ref a ∧ SqT K H a xs ∧ DpAll K H xs ds := by
  cases h with | tup h1 h2 => exact ⟨_, _, rfl, h1, h2⟩
theorem dp_lst_inv {v : V} {ds : List PyData} (h : Dp K H v (.list ds)) : ∃ a xs, v = .ref a ∧ SqL K H a xs ∧ DpAll K H xs ds := by
  cases h with | lst h1 h2 => exact ⟨_, _, rfl, h1, h2⟩
theorem dp_int_inv {v : V} {i : Int} (h : Dp K H v (.int i)) : v = .int i := by cases h; rfl
theorem dpAll_len : ∀ {ds : List PyData} {vs : List V}, DpAll K H vs ds → vs.length = ds.length
  | [], _, h => by cases h; rfl
  | d :: r, _, h => by cases h with | cons a b => rw [List.length_cons, List.length_cons, dpAll_len b]
theorem dpAll_at : ∀ {ds : List PyData} {vs : List V} {i : Nat} {d : PyData}, DpAll K H vs ds → ds[i]? = some d → ∃ v, vs[i]? = some v ∧ Dp K H v d
  | [], _, _, _, _, e => by simp at e
  | d :: r, _, 0, _, h, e => by cases h with | cons a b => simp at e; subst e; exact ⟨_, rfl, a⟩
  | d :: r, _, i + 1, d', h, e => by
    cases h with
    | cons a b =>
      obtain ⟨w, h1, h2⟩ := dpAll_at (i := i) (d := d') b (by simpa using e)
      exact ⟨w, by simpa using h1, h2⟩
theorem _root_.L2.DpAll.app : ∀ {ds es : List PyData} {vs ws : List V}, DpAll K H vs ds → DpAll K H ws es → DpAll K H (vs ++ ws) (ds ++ es)
  | [], _, _, _, h, g => by cases h; exact g
  | d :: r, _, _, _, h, g => by cases h with | cons a b => exact .cons a (L2.DpAll.app b g)
theorem _root_.L2.DpAll.drop : ∀ {ds : List PyData} {vs : List V} (k : Nat), DpAll K H vs ds → DpAll K H (vs.drop k) (ds.drop k)
  | ds, vs, 0, h => h
  | [], _, k + 1, h => by cases h; exact .nil
  | d :: r, _, k + 1, h => by cases h with | cons a b => exact L2.DpAll.drop k b
theorem _root_.L2.DpAll.take : ∀ {ds : List PyData} {vs : List V} (k : Nat), DpAll K H vs ds → DpAll K H (vs.take k) (ds.take k)
  | ds, vs, 0, h => .nil
  | [], _, k + 1, h => by cases h; exact .nil
  | d :: r, _, k + 1, h => by cases h with | cons a b => exact .cons a (L2.DpAll.take k b)
def cutD (xs : List PyData) (lo hi : Option Int) : List PyData := (xs.drop (HT.sIx xs.length 0 lo)).take (HT.sIx xs.length xs.length hi - HT.sIx xs.length 0 lo)
theorem _root_.L2.DpAll.cut {ds : List PyData} {vs : List V} (h : DpAll K H vs ds) (lo hi : Option Int) : DpAll K H (cutV vs lo hi) (cutD ds lo hi) := by
  unfold cutV cutD
  rw [dpAll_len h]
  exact (h.drop _).take _
end
/-! ### what evaluates to data -/
def EvD (K : PySem.W.Frag) (te : TE) (σ : L2.St) (H : Hp) (d : PyData) : Prop := ∀ H1, Ex H H1 → ∀ Q : VK, (∀ v H2, Ex H1 H2 → Dp K H2 v d → Q v H2) → te σ H1 Q
def EvDA (K : PySem.W.Frag) (ta : TA) (σ : L2.St) (H : Hp) (ds : List PyData) : Prop := ∀ H1, Ex H H1 → ∀ Q : List V → Hp → Prop, (∀ vs H2, Ex H1 H2 → DpAll K H2 vs ds → Q vs H2) → ta σ H1 Q
/-- what a def that hands back data must be given -/
def RetD (K : PySem.W.Frag) (d : PyData) (H : Hp) (Q : VK) : Prop := ∀ v H2, Ex H H2 → Dp K H2 v d → Q v H2
section
variable {K : PySem.W.Frag} {H H1 H' : Hp} {σ : L2.St} {ta tb te : TE} {tt : TT} {t tr : TA} {D : Ends} {tz : TS} {d e : PyData} {v : V}
theorem EvD.mono (x : Ex H H') (h : EvD K te σ H d) : EvD K te σ H' d := fun H1 a Q q => h H1 (x.trans a) Q q
theorem ed_ev (h : Ev te σ H v) (hd : Dp K H v d) : EvD K te σ H d := fun H1 e Q q => h H1 e Q fun H2 e2 => q v H2 e2 (hd.ex (e.trans e2))
theorem ed_int {i : Int} (h : Ev te σ H (.int i)) : EvD K te σ H (.int i) := ed_ev h (.int i)
theorem ed_bl {b : Bool} (h : Ev te σ H (.bl b)) : EvD K te σ H (.bool b) := ed_ev h (.bl b)
theorem ed_non (h : Ev te σ H .non) : EvD K te σ H .none := ed_ev h .non
theorem ev_di {i : Int} (h : EvD K te σ H (.int i)) : Ev te σ H (.int i) := fun H1 e Q q => h H1 e Q fun v H2 e2 hd => by cases hd; exact q H2 e2
theorem ev_db {b : Bool} (h : EvD K te σ H (.bool b)) : Ev te σ H (.bl b) := fun H1 e Q q => h H1 e Q fun v H2 e2 hd => by cases hd; exact q H2 e2
theorem ed_L {xs : List V} {ds : List PyData} (h : EvL te σ H xs) (hd : DpAll K H xs ds) : EvD K te σ H (.list ds) := fun H1 e Q q => h H1 e Q fun p H2 _ e2 hp => q _ H2 e2 (.lst (sq_of hp) (hd.ex (e.trans e2)))
theorem ed_U {xs : List V} {ds : List PyData} (h : EvU te σ H xs) (hd : DpAll K H xs ds) : EvD K te σ H (.tuple ds) := fun H1 e Q q => h H1 e Q fun p H2 _ e2 hp => q _ H2 e2 (.tup (st_of hp) (hd.ex (e.trans e2)))
theorem eda_nil : EvDA K tNil σ H [] := fun H1 _ _ q => q [] H1 (Ex.refl H1) .nil
theorem eda_cons {ds : List PyData} (h : EvD K te σ H d) (hr : EvDA K tr σ H ds) : EvDA K (tCons te tr) σ H (d :: ds) := fun H1 e _ q =>
  h H1 e _ fun v H2 e2 hd => hr H2 (e.trans e2) _ fun vs H3 e3 hds => q _ H3 (e2.trans e3) (.cons (hd.ex e3) hds)
theorem ed_tup {ds : List PyData} (h : EvDA K t σ H ds) (hl : ds.length ≤ 100000) : EvD K (tTup t) σ H (.tuple ds) := fun H1 e _ q =>
  h H1 e _ fun vs H2 e2 hds => ⟨by rw [dpAll_len hds]; exact sz_of hl, fun p hp => q _ _ (e2.trans (Ex.new hp)) (.tup (st_of upd_same) (hds.ex (Ex.new hp)))⟩
theorem ed_lst {ds : List PyData} (h : EvDA K t σ H ds) (hl : ds.length ≤ 100000) : EvD K (tLst t) σ H (.list ds) := fun H1 e _ q =>
  h H1 e _ fun vs H2 e2 hds => ⟨by rw [dpAll_len hds]; exact sz_of hl, fun p hp => q _ _ (e2.trans (Ex.new hp)) (.lst (sq_of upd_same) (hds.ex (Ex.new hp)))⟩
theorem q_asgD {i : Nat} (h : EvD K te σ H d) (k : ∀ v H1, Ex H H1 → Dp K H1 v d → tz D (σ.set i (some v)) H1) : tSeq (tAsg te (gName i)) tz D σ H := h H (Ex.refl H) _ k
theorem s_asgD {i : Nat} (h : EvD K te σ H d) (k : ∀ v H1, Ex H H1 → Dp K H1 v d → D.nx (σ.set i (some v)) H1) : tAsg te (gName i) D σ H := h H (Ex.refl H) _ k
theorem s_retD (h : EvD K te σ H d) (k : RetD K d H D.rt) : tRet te D σ H := h H (Ex.refl H) _ k
theorem ed_call {sp : Sp} {dvs vs : List V} {E : XK} (h : EvA t σ H vs) (hs : ∀ H1, Ex H H1 → ∀ Q : VK, RetD K d H1 Q → sp (vs ++ dvs) H1 Q E) : EvD K (tCall sp dvs E t) σ H d := fun H1 e Q q =>
  h H1 e _ fun H2 e2 => hs H2 (e.trans e2) Q fun v H3 e3 hd => q v H3 (e2.trans e3) hd
theorem ed_callD {sp : Sp} {dvs : List V} {ds : List PyData} {E : XK} (h : EvDA K t σ H ds) (hs : ∀ vs H1, Ex H H1 → DpAll K H1 vs ds → ∀ Q : VK, RetD K d H1 Q → sp (vs ++ dvs) H1 Q E) : EvD K (tCall sp dvs E t) σ H d := fun H1 e Q q =>
  h H1 e _ fun vs H2 e2 hds => hs vs H2 (e.trans e2) hds Q fun v H3 e3 hd => q v H3 (e2.trans e3) hd
theorem ed_ixT {ds : List PyData} {i : Nat} (h : EvD K ta σ H (.tuple ds)) (hb : Ev tb σ H (.int (i : Int))) (hi : ds[i]? = some d) : EvD K (tOp (rIxT K) ta tb) σ H d := fun H1 e Q q =>
  h H1 e _ fun v H2 e2 hd => hb H2 (e.trans e2) _ fun H3 e3 => by
    obtain ⟨a, xs, rfl, h1, h2⟩ := dp_tup_inv hd
    obtain ⟨w, hw, hdw⟩ := dpAll_at h2 hi
    exact ⟨a, xs, (i : Int), w, rfl, rfl, ex_t e3 h1, atI_nat hw, q w H3 (e2.trans e3) (hdw.ex e3)⟩
theorem ed_ixL {ds : List PyData} {i : Nat} (h : EvD K ta σ H (.list ds)) (hb : Ev tb σ H (.int (i : Int))) (hi : ds[i]? = some d) : EvD K (tOp (rIxL K) ta tb) σ H d := fun H1 e Q q =>
  h H1 e _ fun v H2 e2 hd => hb H2 (e.trans e2) _ fun H3 e3 => by
    obtain ⟨a, xs, rfl, h1, h2⟩ := dp_lst_inv hd
    obtain ⟨w, hw, hdw⟩ := dpAll_at h2 hi
    exact ⟨a, xs, (i : Int), w, rfl, rfl, ex_l e3 h1, atI_nat hw, q w H3 (e2.trans e3) (hdw.ex e3)⟩
theorem atI_last {xs : List V} {w : V} (h : xs[xs.length - 1]? = some w) : atI xs (-1) = some w := by
  have hl : xs.length - 1 < xs.length := (List.getElem?_eq_some_iff.mp h).1
  show (ixN xs.length (-1)).bind (xs[·]?) = some w
  have e : ixN xs.length (-1) = some (xs.length - 1) := by
    unfold ixN
    split
    · omega
    · split
      · congr 1; omega
      · omega
  rw [e]
  exact h
theorem ed_lastL {ds : List PyData} (h : EvD K ta σ H (.list ds)) (hb : Ev tb σ H (.int (-1))) (hi : ds[ds.length - 1]? = some d) : EvD K (tOp (rIxL K) ta tb) σ H d := fun H1 e Q q =>
  h H1 e _ fun v H2 e2 hd => hb H2 (e.trans e2) _ fun H3 e3 => by
    obtain ⟨a, xs, rfl, h1, h2⟩ := dp_lst_inv hd
    obtain ⟨w, hw, hdw⟩ := dpAll_at h2 hi
    exact ⟨a, xs, -1, w, rfl, rfl, ex_l e3 h1, atI_last (by rw [dpAll_len h2]; exact hw), q w H3 (e2.trans e3) (hdw.ex e3)⟩
theorem ev_lenT {ds : List PyData} (h : EvD K ta σ H (.tuple ds)) : Ev (tCB (rLenS K) (tCons ta tNil)) σ H (.int (ds.length : Int)) := fun H1 e Q q =>
  h H1 e _ fun v H2 e2 hd => by
    obtain ⟨a, xs, rfl, h1, h2⟩ := dp_tup_inv hd
    refine ⟨a, xs, rfl, .inr h1, ?_⟩
    rw [dpAll_len h2]
    exact q H2 e2
theorem ev_lenLD {ds : List PyData} (h : EvD K ta σ H (.list ds)) : Ev (tCB (rLenS K) (tCons ta tNil)) σ H (.int (ds.length : Int)) := fun H1 e Q q =>
  h H1 e _ fun v H2 e2 hd => by
    obtain ⟨a, xs, rfl, h1, h2⟩ := dp_lst_inv hd
    refine ⟨a, xs, rfl, .inl h1, ?_⟩
    rw [dpAll_len h2]
    exact q H2 e2
theorem ed_slT {tl th : TO} {ds : List PyData} {lo hi : Option Int} (hn : ¬(HT.sIx ds.length 0 lo = 0 ∧ HT.sIx ds.length ds.length hi = ds.length)) (h : EvD K te σ H (.tuple ds)) (h1 : EvO tl σ H lo) (h2 : EvO th σ H hi) : EvD K (tSl (rSlT K) te tl th) σ H (.tuple (cutD ds lo hi)) := fun H1 e _ q =>
  h H1 e _ fun v H2 e2 hd => h1 H2 (e.trans e2) _ fun H3 e3 => h2 H3 ((e.trans e2).trans e3) _ fun H4 e4 => by
    obtain ⟨a, xs, rfl, g1, g2⟩ := dp_tup_inv hd
    exact ⟨a, xs, rfl, ex_t (e3.trans e4) g1, by rw [dpAll_len g2]; exact hn, fun p hp => q _ _ (((e2.trans e3).trans e4).trans (Ex.new hp)) (.tup (st_of upd_same) ((g2.ex (e3.trans e4)).cut lo hi |>.ex (Ex.new hp)))⟩
theorem ed_slL {tl th : TO} {ds : List PyData} {lo hi : Option Int} (h : EvD K te σ H (.list ds)) (h1 : EvO tl σ H lo) (h2 : EvO th σ H hi) : EvD K (tSl (rSlL K) te tl th) σ H (.list (cutD ds lo hi)) := fun H1 e _ q =>
  h H1 e _ fun v H2 e2 hd => h1 H2 (e.trans e2) _ fun H3 e3 => h2 H3 ((e.trans e2).trans e3) _ fun H4 e4 => by
    obtain ⟨a, xs, rfl, g1, g2⟩ := dp_lst_inv hd
    exact ⟨a, xs, rfl, ex_l (e3.trans e4) g1, fun p hp => q _ _ (((e2.trans e3).trans e4).trans (Ex.new hp)) (.lst (sq_of upd_same) ((g2.ex (e3.trans e4)).cut lo hi |>.ex (Ex.new hp)))⟩
/-- tuple(..) -/
theorem ed_tupOfT (h : EvD K te σ H (.tuple ds)) : EvD K (tCB (rTupOf K) (tCons te tNil)) σ H (.tuple ds) := fun H1 e _ q =>
  h H1 e _ fun v H2 e2 hd => by
    obtain ⟨a, xs, rfl, g1, g2⟩ := dp_tup_inv hd
    exact ⟨a, xs, rfl, .inr ⟨g1, q _ H2 e2 (.tup g1 g2)⟩⟩
theorem ed_tupOfL {ds : List PyData} (h : EvD K te σ H (.list ds)) : EvD K (tCB (rTupOf K) (tCons te tNil)) σ H (.tuple ds) := fun H1 e _ q =>
  h H1 e _ fun v H2 e2 hd => by
    obtain ⟨a, xs, rfl, g1, g2⟩ := dp_lst_inv hd
    exact ⟨a, xs, rfl, .inl ⟨g1, fun l hl => q _ _ (e2.trans (Ex.new hl)) (.tup (st_of upd_same) (g2.ex (Ex.new hl)))⟩⟩
theorem ed_lstOfT {ds : List PyData} (h : EvD K te σ H (.tuple ds)) : EvD K (tCB (rLstOf K) (tCons te tNil)) σ H (.list ds) := fun H1 e _ q =>
  h H1 e _ fun v H2 e2 hd => by
    obtain ⟨a, xs, rfl, g1, g2⟩ := dp_tup_inv hd
    exact ⟨a, xs, rfl, .inr g1, fun l hl => q _ _ (e2.trans (Ex.new hl)) (.lst (sq_of upd_same) (g2.ex (Ex.new hl)))⟩
/-- a new list of a tuple of ints -/
theorem el_lstOfT {ns : List Int} (h : EvD K te σ H (.tuple (ns.map PyData.int))) : EvL (tCB (rLstOf K) (tCons te tNil)) σ H (ns.map V.int) := fun H1 e _ q =>
  h H1 e _ fun v H2 e2 hd => by
    obtain ⟨a, rfl, g1⟩ := dp_intsT_inv hd
    exact ⟨a, _, rfl, .inr g1, fun l hl => q l _ (fresh_back e2 hl) (e2.trans (Ex.new hl)) upd_same⟩
/-! ### equality and repr of data -/
theorem eqv_refl_ints (ns ms : List Int) : PyData.eqv (.list (ns.map PyData.int)) (.list (ms.map PyData.int)) = decide (ns = ms) := by rw [PyData.eqv, eqv_ints]
theorem ev_eqD {d e : PyData} (ha : EvD K ta σ H d) (hb : EvD K tb σ H e) (hd : SeqAt.shaped d = true) (he : SeqAt.shaped e = true) : Ev (tOp (rEqD K) ta tb) σ H (.bl (PyData.eqv d e)) := fun H1 x Q q =>
  ha H1 x _ fun v H2 e2 h1 => hb H2 (x.trans e2) _ fun w H3 e3 h2 => ⟨d, e, h1.ex e3, h2, hd, he, q H3 (e2.trans e3)⟩
theorem ev_neD {d e : PyData} (ha : EvD K ta σ H d) (hb : EvD K tb σ H e) (hd : SeqAt.shaped d = true) (he : SeqAt.shaped e = true) : Ev (tOp (rNeD K) ta tb) σ H (.bl (!PyData.eqv d e)) := fun H1 x Q q =>
  ha H1 x _ fun v H2 e2 h1 => hb H2 (x.trans e2) _ fun w H3 e3 h2 => ⟨d, e, h1.ex e3, h2, hd, he, q H3 (e2.trans e3)⟩
/-- what repr may be asked of -/
structure Nice (d : PyData) : Prop where
  sh : d.showable = true
  nd : d.hasDict = false
  dp : d.depth ≤ 40
  ln : d.shown.length ≤ sizeLine
theorem ev_reprD {d : PyData} (h : EvD K te σ H d) (n : Nice d) : Ev (tCB (rRepr K) (tCons te tNil)) σ H (.str d.shown) := fun H1 e Q q =>
  h H1 e _ fun v H2 e2 hd => ⟨v, d, rfl, hd, n.sh, n.nd, n.dp, n.ln, q H2 e2⟩
end
/-! small data: ints below 10 ^ 100, no texts, no dicts -/
mutual
def smD : PyData → Bool
  | .none | .bool _ => true
  | .int i => decide (i.natAbs < 10 ^ 100)
  | .list ds | .tuple ds => smDs ds
  | .str _ | .dict _ => false
def smDs : List PyData → Bool
  | [] => true
  | d :: r => smD d && smDs r
end
theorem int_short {n : Int} (h : n.natAbs < 10 ^ 100) : (PyData.int n).leavesShort 101 = true := by
  rw [PyData.leavesShort]
  refine decide_eq_true ?_
  unfold PyData.shown
  have h := int_text_length_le10 (k := 100) (by decide) h
  have e : (Str.ofString (toString n)).length = (toString n).length := PySem.ofString_length _
  show (Str.ofString (toString n)).length ≤ 101
  rw [e]
  exact h
mutual
theorem sm_short : ∀ d : PyData, smD d = true → d.leavesShort 101 = true
  | .none, _ => by simp [PyData.leavesShort]
  | .bool _, _ => by simp [PyData.leavesShort]
  | .int i, h => int_short (by rw [smD] at h; exact of_decide_eq_true h)
  | .str _, h => by rw [smD] at h; cases h
  | .list ds, h => by rw [PyData.leavesShort]; exact sm_shorts ds (by rw [smD] at h; exact h)
  | .tuple ds, h => by rw [PyData.leavesShort]; exact sm_shorts ds (by rw [smD] at h; exact h)
  | .dict _, h => by rw [smD] at h; cases h
theorem sm_shorts : ∀ ds : List PyData, smDs ds = true → PyData.leavesShortAll 101 ds = true
  | [], _ => by simp [PyData.leavesShortAll]
  | d :: r, h => by
    rw [smDs, Bool.and_eq_true] at h
    rw [PyData.leavesShortAll, sm_short d h.1, sm_shorts r h.2]
    rfl
end
mutual
theorem sm_show : ∀ d : PyData, smD d = true → d.showable = true
  | .none, _ => by simp [PyData.showable]
  | .bool _, _ => by simp [PyData.showable]
  | .int i, h => by rw [PyData.showable]; exact decide_eq_true (log_lt (by rw [smD] at h; exact of_decide_eq_true h))
  | .str _, h => by rw [smD] at h; cases h
  | .list ds, h => by rw [PyData.showable]; exact sm_shows ds (by rw [smD] at h; exact h)
  | .tuple ds, h => by rw [PyData.showable]; exact sm_shows ds (by rw [smD] at h; exact h)
  | .dict _, h => by rw [smD] at h; cases h
theorem sm_shows : ∀ ds : List PyData, smDs ds = true → PyData.showableAll ds = true
  | [], _ => by simp [PyData.showableAll]
  | d :: r, h => by
    rw [smDs, Bool.and_eq_true] at h
    rw [PyData.showableAll, sm_show d h.1, sm_shows r h.2]
    rfl
end
mutual
theorem sm_dict : ∀ d : PyData, smD d = true → d.hasDict = false
  | .none, _ => by simp [PyData.hasDict]
  | .bool _, _ => by simp [PyData.hasDict]
  | .int i, h => by simp [PyData.hasDict]
  | .str _, h => by rw [smD] at h; cases h
  | .list ds, h => by rw [PyData.hasDict]; exact sm_dicts ds (by rw [smD] at h; exact h)
  | .tuple ds, h => by rw [PyData.hasDict]; exact sm_dicts ds (by rw [smD] at h; exact h)
  | .dict _, h => by rw [smD] at h; cases h
theorem sm_dicts : ∀ ds : List PyData, smDs ds = true → PyData.hasDictAll ds = false
  | [], _ => by simp [PyData.hasDictAll]
  | d :: r, h => by
    rw [smDs, Bool.and_eq_true] at h
    rw [PyData.hasDictAll, sm_dict d h.1, sm_dicts r h.2]
    rfl
end
theorem nice_sm {d : PyData} (h : smD d = true) (hd : d.depth ≤ 40) (hb : d.bulk ≤ 100000) : Nice d := by
  refine ⟨sm_show d h, sm_dict d h, hd, ?_⟩
  have hk := PyData.shown_le_bulk 101 (by decide) _ (sm_short d h)
  rw [sizeLine_eq]
  omega
theorem smDs_ints {ns : List Int} (h : ∀ n ∈ ns, n.natAbs < 10 ^ 100) : smDs (ns.map PyData.int) = true := by
  induction ns with
  | nil => simp [smDs]
  | cons n r ih =>
    rw [List.map_cons, smDs, smD, decide_eq_true (h n List.mem_cons_self), ih fun m hm => h m (List.mem_cons_of_mem _ hm)]
    rfl
theorem bulk_ints (ns : List Int) : PyData.bulkAll (ns.map PyData.int) = ns.length := by
  induction ns with
  | nil => simp [PyData.bulkAll]
  | cons n r ih => rw [List.map_cons, PyData.bulkAll, PyData.bulk, ih, List.length_cons]; omega
/-! ### dicts from ints to ints -/
def kvI (sd : List (Int × Int)) : List (Key × V) := sd.map fun p => (Sum.inl p.1, V.int p.2)
def getI : List (Int × Int) → Int → Option Int
  | [], _ => none
  | p :: r, k => if p.1 = k then some p.2 else getI r k
def putI (sd : List (Int × Int)) (k v : Int) : List (Int × Int) := if (sd.any fun p => decide (p.1 = k)) = true then sd.map (fun p => if p.1 = k then (p.1, v) else p) else sd ++ [(k, v)]
theorem kvI_get (sd : List (Int × Int)) (k : Int) : valV (kvI sd) (Sum.inl k) = (getI sd k).map V.int := by
  induction sd with
  | nil => rfl
  | cons p r ih =>
    unfold getI
    by_cases h : p.1 = k
    · rw [if_pos h]
      exact valV_pos (p := (Sum.inl p.1, V.int p.2)) (by rw [h])
    · rw [if_neg h, ← ih]
      exact valV_neg (p := (Sum.inl p.1, V.int p.2)) (fun z => h (Sum.inl.inj z))
theorem kvI_put (sd : List (Int × Int)) (k v : Int) : putK (kvI sd) (Sum.inl k) (V.int v) = kvI (putI sd k v) := by
  have ha : ((kvI sd).any fun kv => decide (kv.1 = Sum.inl k)) = sd.any fun p => decide (p.1 = k) := by
    unfold kvI
    rw [List.any_map]
    congr 1
    funext p
    show decide ((Sum.inl p.1 : Key) = Sum.inl k) = decide (p.1 = k)
    by_cases h : p.1 = k
    · rw [h]; simp
    · rw [decide_eq_false h, decide_eq_false (fun z => h (Sum.inl.inj z))]
  unfold putK putI
  rw [ha]
  by_cases a : (sd.any fun p => decide (p.1 = k)) = true
  · rw [if_pos a, if_pos a]
    unfold kvI
    rw [List.map_map, List.map_map]
    congr 1
    funext p
    show (if (Sum.inl p.1 : Key) = Sum.inl k then (Sum.inl p.1, V.int v) else (Sum.inl p.1, V.int p.2)) = (fun p : Int × Int => ((Sum.inl p.1 : Key), V.int p.2)) (if p.1 = k then (p.1, v) else p)
    by_cases h : p.1 = k
    · rw [if_pos (by rw [h]), if_pos h]
    · rw [if_neg (fun z => h (Sum.inl.inj z)), if_neg h]
  · rw [if_neg a, if_neg a]
    unfold kvI
    rw [List.map_append]
    rfl
theorem getI_put (sd : List (Int × Int)) (k j v : Int) : getI (putI sd k v) j = if j = k then some v else getI sd j := by
  have h := valV_put (kvI sd) (Sum.inl k) (Sum.inl j) (V.int v)
  rw [kvI_put, kvI_get, kvI_get] at h
  by_cases e : j = k
  · rw [if_pos e]
    rw [if_pos (by rw [e])] at h
    cases q : getI (putI sd k v) j with
    | none => rw [q] at h; cases h
    | some w => rw [q] at h; cases h; rfl
  · rw [if_neg e]
    rw [if_neg (fun z => e (Sum.inl.inj z))] at h
    cases q : getI (putI sd k v) j with
    | none => rw [q] at h; cases r : getI sd j with
      | none => rfl
      | some w => rw [r] at h; cases h
    | some w => rw [q] at h; cases r : getI sd j with
      | none => rw [r] at h; cases h
      | some u => rw [r] at h; cases h; rfl
theorem putI_len (sd : List (Int × Int)) (k v : Int) : (putI sd k v).length ≤ sd.length + 1 := by
  unfold putI
  split
  · rw [List.length_map]; omega
  · rw [List.length_append]; exact Nat.le_refl _
theorem kvI_len (sd : List (Int × Int)) : (kvI sd).length = sd.length := by unfold kvI; rw [List.length_map]
theorem kvI_keys (sd : List (Int × Int)) : (kvI sd).map (·.1) = (sd.map (·.1)).map Sum.inl := by unfold kvI; rw [List.map_map, List.map_map]; rfl
section
variable {K : PySem.W.Frag} {H H1 H' : Hp} {σ : L2.St} {ta tb te td ty tx tv : TE} {tt : TT} {t tr : TA} {D : Ends} {tz : TS} {a : Addr}
/-- d.get(k, x) -/
theorem ev_dget2 {kvs : List (Key × V)} {k : Key} {z : V} (h : Ev td σ H (.ref a)) (hd : H a = some (.dK kvs)) (hk : Ev ty σ H (kV k)) (hx : Ev tx σ H z) : Ev (tDGet2 td ty tx) σ H ((valV kvs k).getD z) := fun H1 e Q q =>
  h H1 e _ fun H2 e2 => ⟨a, rfl, .inl ⟨kvs, .inl (e2 _ _ (e _ _ hd))⟩, hk H2 (e.trans e2) _ fun H3 e3 => hx H3 ((e.trans e2).trans e3) _ fun H4 e4 => ⟨_, DGet.k (e4 _ _ (e3 _ _ (e2 _ _ (e _ _ hd)))), q H4 ((e2.trans e3).trans e4)⟩⟩
theorem ev_dget1 {kvs : List (Key × V)} {k : Key} (h : Ev td σ H (.ref a)) (hd : H a = some (.dK kvs)) (hk : Ev ty σ H (kV k)) : Ev (tDGet1 td ty) σ H ((valV kvs k).getD .non) := fun H1 e Q q =>
  h H1 e _ fun H2 e2 => ⟨a, rfl, .inl ⟨kvs, .inl (e2 _ _ (e _ _ hd))⟩, hk H2 (e.trans e2) _ fun H3 e3 => ⟨_, DGet.k (e3 _ _ (e2 _ _ (e _ _ hd))), q H3 (e2.trans e3)⟩⟩
theorem ev_getI {sd : List (Int × Int)} {k : Int} (h : Ev td σ H (.ref a)) (hd : H a = some (.dK (kvI sd))) (hk : Ev ty σ H (.int k)) (hx : Ev tx σ H (.int 0)) : Ev (tDGet2 td ty tx) σ H (.int ((getI sd k).getD 0)) := by
  have e := ev_dget2 (k := Sum.inl k) h hd hk hx
  rw [kvI_get] at e
  cases q : getI sd k with
  | none => rw [q] at e; exact e
  | some v => rw [q] at e; exact e
theorem ev_ixI {sd : List (Int × Int)} {k v : Int} (h : Ev td σ H (.ref a)) (hk : Ev ty σ H (.int k)) (hd : H a = some (.dK (kvI sd))) (hv : getI sd k = some v) : Ev (tDGet td ty) σ H (.int v) :=
  ev_dget (k := Sum.inl k) h hk hd (by rw [kvI_get, hv]; rfl)
theorem ev_inI {kvs : List (Key × V)} {k : Int} (hk : Ev ty σ H (.int k)) (h : Ev td σ H (.ref a)) (hd : H a = some (.dK kvs)) : Ev (tDIn ty td) σ H (.bl (valV kvs (Sum.inl k)).isSome) := fun H1 e Q q =>
  hk H1 e _ fun H2 e2 => h H2 (e.trans e2) _ fun H3 e3 => ⟨a, _, rfl, DGet.k (k := Sum.inl k) (e3 _ _ (e2 _ _ (e _ _ hd))), q H3 (e2.trans e3)⟩
theorem ev_niI {kvs : List (Key × V)} {k : Int} (hk : Ev ty σ H (.int k)) (h : Ev td σ H (.ref a)) (hd : H a = some (.dK kvs)) : Ev (tDNotIn ty td) σ H (.bl (!(valV kvs (Sum.inl k)).isSome)) := fun H1 e Q q =>
  hk H1 e _ fun H2 e2 => h H2 (e.trans e2) _ fun H3 e3 => ⟨a, _, rfl, DGet.k (k := Sum.inl k) (e3 _ _ (e2 _ _ (e _ _ hd))), q H3 (e2.trans e3)⟩
/-- d[k] = v, ints, within 100000 pairs; the value may change the heap -/
theorem s_dputI {P : V → Hp → Prop} {k : Int} (hv : EvP tv σ H P) (q : ∀ v H1, P v H1 → ∃ kvs, H1 a = some (.dK kvs) ∧ (∀ H2, Ex H1 H2 → Ev td σ H2 (.ref a)) ∧ (∀ H2, Ex H1 H2 → Ev ty σ H2 (.int k)) ∧ kvs.length < 100000 ∧ ∀ H2, Ex H1 H2 → D.nx σ (upd H2 a (.dK (putK kvs (Sum.inl k) v)))) : sDPut td ty tv D σ H :=
  hv _ fun v H1 h1 => by
    obtain ⟨kvs, hd, ha, hk, hz, g⟩ := q v H1 h1
    exact ha H1 (Ex.refl H1) H1 (Ex.refl H1) _ fun H2 e2 => hk H2 e2 H2 (Ex.refl H2) _ fun H3 e3 => ⟨a, _, rfl, DPut.k (k := Sum.inl k) (e3 _ _ (e2 _ _ hd)) (sz_lt hz), g H3 (e2.trans e3)⟩
theorem q_dputI {P : V → Hp → Prop} {k : Int} (hv : EvP tv σ H P) (q : ∀ v H1, P v H1 → ∃ kvs, H1 a = some (.dK kvs) ∧ (∀ H2, Ex H1 H2 → Ev td σ H2 (.ref a)) ∧ (∀ H2, Ex H1 H2 → Ev ty σ H2 (.int k)) ∧ kvs.length < 100000 ∧ ∀ H2, Ex H1 H2 → tz D σ (upd H2 a (.dK (putK kvs (Sum.inl k) v)))) : tSeq (sDPut td ty tv) tz D σ H :=
  s_dputI (D := { D with nx := tz D }) hv q
/-! ### arguments that change the heap -/
def EvAP (ta : TA) (σ : L2.St) (H : Hp) (PA : List V → Hp → Prop) : Prop := ∀ Q : List V → Hp → Prop, (∀ vs H', PA vs H' → Q vs H') → ta σ H Q
theorem eap_one {P : V → Hp → Prop} (h : EvP te σ H P) : EvAP (tCons te tNil) σ H (fun vs H' => ∃ v, vs = [v] ∧ P v H') := fun Q q => h _ fun v H1 h1 => q [v] H1 ⟨v, rfl, h1⟩
theorem ep_methP {sp : Sp} {E : XK} {PA : List V → Hp → Prop} {P : V → Hp → Prop} {C dx : Addr} {fs : List (Str × V)} {m : Str} (ha : Ev ta σ H (.ref a)) (ho : H a = some (.ins C dx fs)) (hl : fs.lookup m = none) (ht : ∀ H1, Ex H H1 → EvAP t σ H1 PA)
    (hs : ∀ vs H1, PA vs H1 → ∀ Q : VK, (∀ v H', P v H' → Q v H') → sp (.ref a :: (vs ++ [])) H1 Q E) : EvP (tMeth C m sp [] E ta t) σ H P := fun Q q =>
  ha H (Ex.refl H) _ fun H1 e1 => ⟨a, dx, fs, rfl, e1 _ _ ho, hl, ht H1 e1 _ fun vs H2 h2 => hs vs H2 h2 Q q⟩
/-- xs.append(e), e may change the heap -/
theorem s_appR {P : V → Hp → Prop} {xs : List V} (ha : Ev ta σ H (.ref a)) (hl : H a = some (.lst xs)) (h : ∀ H1, Ex H H1 → EvP te σ H1 P) (k : ∀ v H1, P v H1 → ∃ ys, H1 a = some (.lst ys) ∧ ys.length < 100000 ∧ D.nx σ (upd H1 a (.lst (ys ++ [v])))) :
    tDrop (tBM K "list" rAppend ta (tCons te tNil)) D σ H := ha H (Ex.refl H) _ fun H1 e1 =>
  ⟨.inl ⟨rfl, xs, sq_of (e1 a _ hl)⟩, h H1 e1 _ fun v H2 hv => by
    obtain ⟨ys, h1, h2, h3⟩ := k v H2 hv
    exact ⟨a, ys, v, rfl, rfl, h1, sz_lt h2, h3⟩⟩
theorem q_appR {P : V → Hp → Prop} {xs : List V} (ha : Ev ta σ H (.ref a)) (hl : H a = some (.lst xs)) (h : ∀ H1, Ex H H1 → EvP te σ H1 P) (k : ∀ v H1, P v H1 → ∃ ys, H1 a = some (.lst ys) ∧ ys.length < 100000 ∧ tz D σ (upd H1 a (.lst (ys ++ [v])))) :
    tSeq (tDrop (tBM K "list" rAppend ta (tCons te tNil))) tz D σ H := s_appR (D := { D with nx := tz D }) ha hl h k
theorem ep_opR {r : R2} {y : V} {P1 P : V → Hp → Prop} (ha : EvP ta σ H P1) (hb : ∀ v H1, P1 v H1 → Ev tb σ H1 y) (hr : ∀ v H1, P1 v H1 → ∀ H2, Ex H1 H2 → ∀ Q : VK, (∀ z H', P z H' → Q z H') → r v y H2 Q) : EvP (tOp r ta tb) σ H P := fun Q q =>
  ha _ fun v H1 h1 => hb v H1 h1 H1 (Ex.refl H1) _ fun H2 e2 => hr v H1 h1 H2 e2 Q q
theorem etp_val {P : V → Hp → Prop} {P2 : Bool → Hp → Prop} (h : EvP te σ H P) (k : ∀ v H1, P v H1 → ∃ b, v = .bl b ∧ P2 b H1) : EtP (tTest te) σ H P2 := fun Q q => h _ fun v H1 h1 => by
  obtain ⟨b, rfl, h2⟩ := k v H1 h1
  exact ⟨b, rfl, q b H1 h2⟩
end
section
variable {K : PySem.W.Frag} {H : Hp} {σ : L2.St} {te : TE} {tt : TT} {ta : TA} {d : PyData} {v : V} {Q : VK}
theorem go_ev (h : Ev te σ H v) (k : ∀ H1, Ex H H1 → Q v H1) : te σ H Q := h H (Ex.refl H) Q k
theorem go_ed (h : EvD K te σ H d) (k : ∀ v H1, Ex H H1 → Dp K H1 v d → Q v H1) : te σ H Q := h H (Ex.refl H) Q k
theorem go_et {b : Bool} {Q : Bool → Hp → Prop} (h : EvT tt σ H b) (k : ∀ H1, Ex H H1 → Q b H1) : tt σ H Q := h H (Ex.refl H) Q k
theorem go_ea {vs : List V} {Q : List V → Hp → Prop} (h : EvA ta σ H vs) (k : ∀ H1, Ex H H1 → Q vs H1) : ta σ H Q := h H (Ex.refl H) Q k
end
/-! ### sorted ints -/
def srt (ks : List Int) : List Int := ks.mergeSort (fun a b => decide (a ≤ b))
theorem srt_perm (ks : List Int) : (srt ks).Perm ks := List.mergeSort_perm ks _
theorem srt_sorted (ks : List Int) : (srt ks).Pairwise (· ≤ ·) := by
  have h := List.pairwise_mergeSort (le := fun a b : Int => decide (a ≤ b)) (fun a b c h1 h2 => by simp at *; omega) (fun a b => by simp; omega) ks
  exact h.imp fun h => by simpa using h
theorem srt_uniq {ks ns : List Int} (h : ns.Perm ks) (s : ns.Pairwise (· ≤ ·)) : ns = srt ks := PySem.W.ksm_same (h.trans (srt_perm ks).symm) s (srt_sorted ks)
end Gd

set_option Elab.async false
set_option linter.all false
set_option maxRecDepth 100000
set_option maxHeartbeats 4000000
/-! Of our own: comprehensions that give data; dict comprehensions; ranges by fours; tuples taken apart. -/
namespace Gd
open PySem PySem.Spec PyProof.Rows L2 Evl
/-- a new list of data -/
def EvLD (K : PySem.W.Frag) (te : TE) (σ : L2.St) (H : Hp) (ds : List PyData) : Prop := ∀ H1, Ex H H1 → ∀ Q : VK, (∀ p xs H2, H1 p = none → Ex H1 H2 → H2 p = some (.lst xs) → DpAll K H2 xs ds → Q (.ref p) H2) → te σ H1 Q
def givD (n : Nat) (b : Nat → Bool) (g : Nat → PyData) : List PyData := ((List.range n).filter b).map g
theorem givD_yes {n : Nat} {f : Nat → Bool} {v : Nat → PyData} (h : f n = true) : givD (n + 1) f v = givD n f v ++ [v n] := by
  unfold givD
  rw [List.range_succ, List.filter_append, List.map_append, List.filter_cons, if_pos h] <;> rfl
theorem givD_no {n : Nat} {f : Nat → Bool} {v : Nat → PyData} (h : f n = false) : givD (n + 1) f v = givD n f v := by
  unfold givD
  rw [List.range_succ, List.filter_append, List.map_append, List.filter_cons, if_neg (by rw [h]; decide)]
  show _ ++ [] = _
  rw [List.append_nil]
theorem givD_len (n : Nat) (f : Nat → Bool) (v : Nat → PyData) : (givD n f v).length ≤ n := by
  unfold givD
  rw [List.length_map]
  have h := List.length_filter_le f (List.range n)
  rw [List.length_range] at h
  exact h
theorem tupOs_at : ∀ {ds : List PyData}, (∀ d ∈ ds, tupO d = true) → tupOs ds = true
  | [], _ => by simp [tupOs]
  | d :: r, h => by rw [tupOs, h d List.mem_cons_self, tupOs_at fun e m => h e (List.mem_cons_of_mem _ m)]; rfl
theorem givD_tup {n : Nat} {b : Nat → Bool} {g : Nat → PyData} (h : ∀ i, i < n → tupO (g i) = true) : tupOs (givD n b g) = true := tupOs_at fun d m => by
  unfold givD at m
  obtain ⟨i, hi, rfl⟩ := List.mem_map.mp m
  exact h i (by have := (List.mem_filter.mp hi).1; simpa using this)
/-- what xs.map with a test gives, by places -/
theorem filter_range_map {α : Type} (l : List α) (p : α → Bool) (g : α → PyData) (z : α) : givD l.length (fun i => p (l.getD i z)) (fun i => g (l.getD i z)) = (l.filter p).map g := by
  have key : ∀ k, k ≤ l.length → givD k (fun i => p (l.getD i z)) (fun i => g (l.getD i z)) = ((l.take k).filter p).map g := by
    intro k
    induction k with
    | zero => intro _; rfl
    | succ k ih =>
      intro hk
      have hlt : k < l.length := by omega
      have hg : l[k]? = some l[k] := List.getElem?_eq_getElem hlt
      have hd : l.getD k z = l[k] := by rw [List.getD_eq_getElem?_getD, hg]; rfl
      rw [take_snoc hg, List.filter_append, List.map_append]
      cases hp : p l[k] with
      | true =>
        rw [givD_yes (by rw [hd]; exact hp), ih (by omega), hd]
        simp [hp]
      | false =>
        rw [givD_no (by rw [hd]; exact hp), ih (by omega)]
        simp [hp]
  have := key l.length (Nat.le_refl _)
  rw [List.take_length] at this
  exact this
section
variable {K : PySem.W.Frag} {σ : L2.St} {H H1 H' : Hp} {ta tb te tl tk tv : TE} {tt t u : TT} {D : Ends} {tz tu : TS} {vs : List Nat} {j : Nat}
theorem ed_LD {ds : List PyData} (h : EvLD K te σ H ds) : EvD K te σ H (.list ds) := fun H1 e Q q => h H1 e Q fun p xs H2 _ e2 hp hd => q _ H2 e2 (.lst (sq_of hp) hd)
theorem et_yes : EvT tYes σ H true := fun H1 _ _ q => q H1 (Ex.refl H1)
theorem q_asgLD {i : Nat} {ds : List PyData} (h : EvLD K te σ H ds) (k : ∀ p xs H1, H p = none → Ex H H1 → H1 p = some (.lst xs) → DpAll K H1 xs ds → tz D (σ.set i (some (.ref p))) H1) : tSeq (tAsg te (gName i)) tz D σ H := h H (Ex.refl H) _ k
theorem s_retLD {ds : List PyData} (h : EvLD K te σ H ds) (k : ∀ p xs H1, H p = none → Ex H H1 → H1 p = some (.lst xs) → DpAll K H1 xs ds → D.rt (.ref p) H1) : tRet te D σ H := h H (Ex.refl H) _ k
theorem eld_L {xs : List V} {ds : List PyData} (h : EvL te σ H xs) (hd : DpAll K H xs ds) : EvLD K te σ H ds := fun H1 e Q q => h H1 e Q fun p H2 hp e2 h2 => q p xs H2 hp e2 h2 (hd.ex (e.trans e2))
/-- EvLD of ints is EvL -/
theorem el_ints {ns : List Int} (h : EvLD K te σ H (ns.map PyData.int)) : EvL te σ H (ns.map V.int) := fun H1 e Q q => h H1 e Q fun p xs H2 hp e2 h2 hd => q p H2 hp e2 (by rw [← dpAll_ints_inv hd]; exact h2)
theorem lc_data {J : It} {n : Nat} {G : Hp → Prop} {Y : Nat → Hp → V → Hp → Prop} {b : Nat → Bool} {g : Nat → PyData} {Dl : Addr} {Qd : Hp → Prop} (w : Walk J n G Y) (xi : Nat → V) (hY : ∀ i H x H', i < n → Y i H x H' → H' = H ∧ x = xi i) (hz : n ≤ 90000)
    (hw : ∀ x, wipe ((wipe σ vs).set j (some x)) vs = wipe σ vs) (hG : ∀ H', Ex H1 H' → G H') (ht : ∀ i, i < n → tupO (g i) = true)
    (hb : ∀ i, i < n → ∀ H', Ex H1 H' → EvT tt ((wipe σ vs).set j (some (xi i))) H' (b i)) (he : ∀ i, i < n → b i = true → ∀ H', Ex H1 H' → EvD K te ((wipe σ vs).set j (some (xi i))) H' (g i)) (hD : H1 Dl = none)
    (k : ∀ xs H', Ex H1 H' → H' Dl = some (.lst xs) → DpAll K H' xs (givD n b g) → Qd H') :
    ∃ W : Nat → Nat → Hp → Prop, (∃ m, W 0 m (upd H1 Dl (.lst []))) ∧ ∀ i m H, W i m H →
      (J.stop i H ∧ Qd H) ∨ (J.go i H ∧ ∃ Nx : Hp → Prop, (∀ H', Nx H' → ∃ m', m' < m ∧ W (i + 1) m' H') ∧ ∀ x H', J.yld i H x H' → gName j x (wipe σ vs) H' fun σ2 H2 => wipe σ2 vs = wipe σ vs ∧ tt σ2 H2 fun b H3 =>
        if b = true then te σ2 H3 fun y H4 => ∃ acc, H4 Dl = some (.lst acc) ∧ acc.length < sizeLine ∧ Nx (upd H4 Dl (.lst (acc ++ [y]))) else Nx H3) := by
  refine lc_it w (fun i H' => Ex H1 H' ∧ ∃ xs, H' Dl = some (.lst xs) ∧ DpAll K H' xs (givD i b g)) ⟨Ex.new hD, [], upd_same, .nil⟩ (fun i H' _ p => hG H' p.1) ?_ (fun H' p => let ⟨xs, h1, h2⟩ := p.2; k xs H' p.1 h1 h2)
  intro i x H2 H3 hi p y
  obtain ⟨e, hx⟩ := hY i H2 x H3 hi y
  subst e hx
  obtain ⟨p1, xs, p2, p3⟩ := p
  refine ⟨hw _, hb i hi H3 p1 H3 (Ex.refl H3) _ fun H4 e4 => ?_⟩
  cases hbi : b i with
  | true =>
    rw [if_pos rfl]
    refine he i hi hbi H4 (p1.trans e4) H4 (Ex.refl H4) _ fun v H5 e5 hd => ⟨xs, e5 _ _ (e4 _ _ p2), sz_lt (by rw [dpAll_len p3]; have := givD_len i b g; omega), Ex.mut (p1.trans (e4.trans e5)) hD, _, upd_same, ?_⟩
    rw [givD_yes hbi]
    refine DpAll.app ((p3.ex (e4.trans e5)).upd (givD_tup fun m hm => ht m (by omega)) (e5 _ _ (e4 _ _ p2)) nt_lst) ?_
    exact .cons (hd.upd (ht i hi) (e5 _ _ (e4 _ _ p2)) nt_lst) .nil
  | false =>
    rw [if_neg Bool.false_ne_true]
    exact ⟨p1.trans e4, xs, e4 _ _ p2, by rw [givD_no hbi]; exact p3.ex e4⟩
/-- [e for x in range(i, j, c) if t] -/
theorem eld_lcC {tr : TA} {i0 j0 c0 : Int} {n : Nat} {b : Nat → Bool} {g : Nat → PyData} (h : EvA tr σ H [.int i0, .int j0, .int c0]) (hr : RgC i0 j0 c0 n) (hz : n ≤ 90000) (hw : ∀ x, wipe ((wipe σ vs).set j (some x)) vs = wipe σ vs) (ht : ∀ i, i < n → tupO (g i) = true)
    (hb : ∀ i, i < n → ∀ H', Ex H H' → EvT tt ((wipe σ vs).set j (some (.int (i0 + (i : Nat) * c0)))) H' (b i)) (he : ∀ i, i < n → b i = true → ∀ H', Ex H H' → EvD K te ((wipe σ vs).set j (some (.int (i0 + (i : Nat) * c0)))) H' (g i)) :
    EvLD K (tLc (iRng3 tr) (gName j) tt te vs) σ H (givD n b g) := fun H0 e Q q => h H0 e _ fun H1 e1 => ⟨i0, j0, c0, n, rfl, hr, fun Dl hD =>
  lc_data walk_rangeC (fun i => .int (i0 + (i : Nat) * c0)) (fun _ _ _ _ _ y => y) hz hw (fun _ _ => trivial) ht (fun i hi H' e' => hb i hi H' ((e.trans e1).trans e')) (fun i hi hbi H' e' => he i hi hbi H' ((e.trans e1).trans e')) hD
    (fun xs H' e' h1 h2 => q Dl xs H' (fresh_back e1 hD) (e1.trans e') h1 h2)⟩
/-- [e for x in range(n) if t] -/
theorem eld_lcR1 {tr : TA} {n : Nat} {b : Nat → Bool} {g : Nat → PyData} (h : EvA tr σ H [.int (n : Int)]) (hz : n ≤ 90000) (hw : ∀ x, wipe ((wipe σ vs).set j (some x)) vs = wipe σ vs) (ht : ∀ i, i < n → tupO (g i) = true)
    (hb : ∀ i, i < n → ∀ H', Ex H H' → EvT tt ((wipe σ vs).set j (some (.int (i : Int)))) H' (b i)) (he : ∀ i, i < n → b i = true → ∀ H', Ex H H' → EvD K te ((wipe σ vs).set j (some (.int (i : Int)))) H' (g i)) :
    EvLD K (tLc (iRng1 tr) (gName j) tt te vs) σ H (givD n b g) := fun H0 e Q q => h H0 e _ fun H1 e1 => ⟨(n : Int), rfl, by omega, by omega, fun Dl hD => by
  have z : ∀ i : Nat, (0 : Int) + (i : Int) = (i : Int) := fun i => Int.zero_add _
  exact lc_data (walk_range (lo := 0) (n := n)) (fun i => .int (i : Int)) (fun i H x H' _ y => by obtain ⟨y1, y2⟩ := y; exact ⟨y1, by rw [y2]; show V.int ((0 : Int) + (i : Int)) = _; rw [z]⟩) hz hw (fun _ _ => trivial) ht (fun i hi H' e' => hb i hi H' ((e.trans e1).trans e')) (fun i hi hbi H' e' => he i hi hbi H' ((e.trans e1).trans e')) hD
    (fun xs H' e' h1 h2 => q Dl xs H' (fresh_back e1 hD) (e1.trans e') h1 h2)⟩
/-- [e for x in l if t], l a list that stays -/
theorem eld_lcL {a : Addr} {xs : List V} {b : Nat → Bool} {g : Nat → PyData} (h : Ev tl σ H (.ref a)) (hx : SqL K H a xs) (hz : xs.length ≤ 90000) (hw : ∀ x, wipe ((wipe σ vs).set j (some x)) vs = wipe σ vs) (ht : ∀ i, i < xs.length → tupO (g i) = true)
    (hb : ∀ i x, xs[i]? = some x → ∀ H', Ex H H' → EvT tt ((wipe σ vs).set j (some x)) H' (b i)) (he : ∀ i x, xs[i]? = some x → b i = true → ∀ H', Ex H H' → EvD K te ((wipe σ vs).set j (some x)) H' (g i)) :
    EvLD K (tLc (iList K tl) (gName j) tt te vs) σ H (givD xs.length b g) := fun H0 e Q q => h H0 e _ fun H1 e1 => ⟨a, rfl, ⟨xs, ex_l (e.trans e1) hx⟩, fun Dl hD =>
  have g0 : ∀ i, i < xs.length → xs[i]? = some (xs.getD i .non) := fun i hi => by rw [List.getD_eq_getElem?_getD, List.getElem?_eq_getElem hi]; rfl
  lc_data walk_list (fun i => xs.getD i .non) (fun i H x H' hi y => ⟨y.1, Option.some.inj (y.2.symm.trans (g0 i hi))⟩) hz hw (fun H' e' => ex_l ((e.trans e1).trans e') hx) ht (fun i hi H' e' => hb i _ (g0 i hi) H' ((e.trans e1).trans e')) (fun i hi hbi H' e' => he i _ (g0 i hi) hbi H' ((e.trans e1).trans e')) hD
    (fun xs H' e' h1 h2 => q Dl xs H' (fresh_back e1 hD) (e1.trans e') h1 h2)⟩
/-- .. l a list made on the way -/
theorem eld_lcNL {xs : List V} {b : Nat → Bool} {g : Nat → PyData} (h : EvL tl σ H xs) (hz : xs.length ≤ 90000) (hw : ∀ x, wipe ((wipe σ vs).set j (some x)) vs = wipe σ vs) (ht : ∀ i, i < xs.length → tupO (g i) = true)
    (hb : ∀ i x, xs[i]? = some x → ∀ H', Ex H H' → EvT tt ((wipe σ vs).set j (some x)) H' (b i)) (he : ∀ i x, xs[i]? = some x → b i = true → ∀ H', Ex H H' → EvD K te ((wipe σ vs).set j (some x)) H' (g i)) :
    EvLD K (tLc (iList K tl) (gName j) tt te vs) σ H (givD xs.length b g) := fun H0 e Q q => h H0 e _ fun a H1 ha e1 h1 => ⟨a, rfl, ⟨xs, sq_of h1⟩, fun Dl hD =>
  have g0 : ∀ i, i < xs.length → xs[i]? = some (xs.getD i .non) := fun i hi => by rw [List.getD_eq_getElem?_getD, List.getElem?_eq_getElem hi]; rfl
  lc_data walk_list (fun i => xs.getD i .non) (fun i H x H' hi y => ⟨y.1, Option.some.inj (y.2.symm.trans (g0 i hi))⟩) hz hw (fun H' e' => sq_of (e' _ _ h1)) ht (fun i hi H' e' => hb i _ (g0 i hi) H' ((e.trans e1).trans e')) (fun i hi hbi H' e' => he i _ (g0 i hi) hbi H' ((e.trans e1).trans e')) hD
    (fun xs H' e' h1 h2 => q Dl xs H' (fresh_back e1 hD) (e1.trans e') h1 h2)⟩
/-- {k: v for x in ..}, by a word of the turn and the heap -/
theorem dc_it {J : It} {n : Nat} {G : Hp → Prop} {Y : Nat → Hp → V → Hp → Prop} (w : Walk J n G Y) {g : TG} {Dl : Addr} {Qd : Hp → Prop} (Pv : Nat → Hp → Prop) (h0 : Pv 0 (upd H1 Dl (.dK []))) (hG : ∀ i H, i ≤ n → Pv i H → G H)
    (hs : ∀ i x H H', i < n → Pv i H → Y i H x H' → g x (wipe σ vs) H' fun σ2 H2 => wipe σ2 vs = wipe σ vs ∧ tt σ2 H2 fun b H3 =>
      if b = true then tk σ2 H3 fun y H4 => tv σ2 H4 fun z H5 => ∃ kvs k, y = kV k ∧ H5 Dl = some (.dK kvs) ∧ kvs.length < sizeLine ∧ Pv (i + 1) (upd H5 Dl (.dK (putK kvs k z))) else Pv (i + 1) H3) (hd : ∀ H, Pv n H → Qd H) :
    ∃ W : Nat → Nat → Hp → Prop, (∃ m, W 0 m (upd H1 Dl (.dK []))) ∧ ∀ i m H, W i m H →
      (J.stop i H ∧ Qd H) ∨ (J.go i H ∧ ∃ Nx : Hp → Prop, (∀ H', Nx H' → ∃ m', m' < m ∧ W (i + 1) m' H') ∧ ∀ x H', J.yld i H x H' → g x (wipe σ vs) H' fun σ2 H2 => wipe σ2 vs = wipe σ vs ∧ tt σ2 H2 fun b H3 =>
        if b = true then tk σ2 H3 fun y H4 => tv σ2 H4 fun z H5 => ∃ kvs k, y = kV k ∧ H5 Dl = some (.dK kvs) ∧ kvs.length < sizeLine ∧ Nx (upd H5 Dl (.dK (putK kvs k z))) else Nx H3) := by
  refine ⟨fun i m H => m = n - i ∧ i ≤ n ∧ Pv i H, ⟨n, by simp, Nat.zero_le _, h0⟩, ?_⟩
  rintro i m H ⟨rfl, hi, p⟩
  have q := hG i H hi p
  by_cases hlt : i < n
  · exact .inr ⟨w.goes i H hlt q, Pv (i + 1), fun H' p' => ⟨n - (i + 1), by omega, rfl, hlt, p'⟩, fun x H' y => hs i x H H' hlt p (w.yields i H x H' hlt q y)⟩
  · have e : i = n := by omega
    subst e
    exact .inl ⟨w.stops H q, hd H p⟩
end
section
variable {K : PySem.W.Frag} {σ : L2.St} {H : Hp} {ta tv : TE} {D : Ends} {tz : TS} {a C dx : Addr} {fs : List (Str × V)} {f : Str}
theorem s_fldLD {ds : List PyData} (hv : EvLD K tv σ H ds) (ha : Ev ta σ H (.ref a)) (ho : H a = some (.ins C dx fs)) (hc : Cls K C) (hn : NoAttr K C f) (hz : fs.length < 1000) (k : ∀ p xs H1, H p = none → Ex H H1 → H1 p = some (.lst xs) → DpAll K H1 xs ds → D.nx σ (upd H1 a (.ins C dx (putF f (.ref p) fs)))) : sFld K ta tv f D σ H :=
  hv H (Ex.refl H) _ fun p xs H1 hp e1 h1 hd => ha H1 e1 _ fun H2 e2 => ⟨a, C, dx, fs, rfl, e2 _ _ (e1 _ _ ho), hc, hn, hz, k p xs H2 hp (e1.trans e2) (e2 _ _ h1) (hd.ex e2)⟩
theorem q_fldLD {ds : List PyData} (hv : EvLD K tv σ H ds) (ha : Ev ta σ H (.ref a)) (ho : H a = some (.ins C dx fs)) (hc : Cls K C) (hn : NoAttr K C f) (hz : fs.length < 1000) (k : ∀ p xs H1, H p = none → Ex H H1 → H1 p = some (.lst xs) → DpAll K H1 xs ds → tz D σ (upd H1 a (.ins C dx (putF f (.ref p) fs)))) : tSeq (sFld K ta tv f) tz D σ H :=
  s_fldLD (D := { D with nx := tz D }) hv ha ho hc hn hz k
end
section
variable {K : PySem.W.Frag} {σ : L2.St} {H : Hp} {tl tk tv : TE} {tt : TT} {g : TG} {vs : List Nat} {P : V → Hp → Prop} {a : Addr} {xs : List V}
/-- what one turn of a dict comprehension is asked -/
def DcTurn (g : TG) (tt : TT) (tk tv : TE) (vs : List Nat) (σ : L2.St) (Dt : Addr) (N : Hp → Prop) (x : V) (H : Hp) : Prop := g x (wipe σ vs) H fun σ2 H2 => wipe σ2 vs = wipe σ vs ∧ tt σ2 H2 fun b H3 =>
      if b = true then tk σ2 H3 fun y H4 => tv σ2 H4 fun z H5 => ∃ kvs k, y = kV k ∧ H5 Dt = some (.dK kvs) ∧ kvs.length < sizeLine ∧ N (upd H5 Dt (.dK (putK kvs k z))) else N H3
theorem ep_dcL (h : Ev tl σ H (.ref a)) (hx : SqL K H a xs) (k : ∀ H4, Ex H H4 → ∀ Dt, H4 Dt = none → ∃ Pv : Nat → Hp → Prop, Pv 0 (upd H4 Dt (.dK [])) ∧ (∀ i H', i ≤ xs.length → Pv i H' → SqL K H' a xs) ∧
    (∀ i x H', xs[i]? = some x → Pv i H' → DcTurn g tt tk tv vs σ Dt (Pv (i + 1)) x H') ∧ ∀ H', Pv xs.length H' → P (.ref Dt) H') : EvP (tDc (iList K tl) g tt tk tv vs) σ H P := fun Q q =>
  h H (Ex.refl H) _ fun H4 e4 => ⟨a, rfl, ⟨xs, ex_l e4 hx⟩, fun Dt nDt => by
    obtain ⟨Pv, h0, hG, hs, hd⟩ := k H4 e4 Dt nDt
    exact dc_it (walk_list (xs := xs)) Pv h0 hG (fun i x H5 H6 hi p y => by
      obtain ⟨e, hv⟩ := y
      subst e
      exact hs i x _ hv p) (fun H' p => q _ H' (hd H' p))⟩
theorem ep_dcT (h : Ev tl σ H (.ref a)) (hx : SqT K H a xs) (k : ∀ H4, Ex H H4 → ∀ Dt, H4 Dt = none → ∃ Pv : Nat → Hp → Prop, Pv 0 (upd H4 Dt (.dK [])) ∧ (∀ i H', i ≤ xs.length → Pv i H' → SqT K H' a xs) ∧
    (∀ i x H', xs[i]? = some x → Pv i H' → DcTurn g tt tk tv vs σ Dt (Pv (i + 1)) x H') ∧ ∀ H', Pv xs.length H' → P (.ref Dt) H') : EvP (tDc (iTup K tl) g tt tk tv vs) σ H P := fun Q q =>
  h H (Ex.refl H) _ fun H4 e4 => ⟨a, rfl, ⟨xs, ex_t e4 hx⟩, fun Dt nDt => by
    obtain ⟨Pv, h0, hG, hs, hd⟩ := k H4 e4 Dt nDt
    exact dc_it (walk_tup (xs := xs)) Pv h0 hG (fun i x H5 H6 hi p y => by
      obtain ⟨e, hv⟩ := y
      subst e
      exact hs i x _ hv p) (fun H' p => q _ H' (hd H' p))⟩
end
theorem filter_all {α : Type} (l : List α) : l.filter (fun _ => true) = l := by induction l with
  | nil => rfl
  | cons a r ih => rw [List.filter_cons, if_pos rfl, ih]
/-! ### range(0, len - 3, 4) -/
theorem rgC4 (L : Nat) (h : L ≤ 100000) : RgC 0 ((L : Int) - 3) 4 (L / 4) := by
  have hs : Builtin.Range.rangeSize 0 ((L : Int) - 3) 4 = ((L / 4 : Nat) : Int) := by
    unfold Builtin.Range.rangeSize
    simp only [show (4 : Int) > 0 by decide, if_true]
    split
    · omega
    · omega
  refine ⟨by decide, by decide, ?_, hs⟩
  unfold Builtin.Range.small
  rw [hs]
  simp only [Builtin.Range.rangeFitsLong, Bool.and_eq_true, Bool.or_eq_true, decide_eq_true_eq, beq_iff_eq, show (4 : Int) > 0 by decide, if_true]
  omega
/-! ### a tuple of two ints taken apart -/
theorem g_tup2 {K : PySem.W.Frag} {σ : L2.St} {H : Hp} {a : Addr} {x y : V} {i j : Nat} {Q : L2.St → Hp → Prop} (h : SqT K H a [x, y]) (q : Q ((σ.set i (some x)).set j (some y)) H) : gTup K 2 (gCons (gName i) (gCons (gName j) gNil)) (.ref a) σ H Q :=
  ⟨a, [x, y], rfl, h, rfl, x, [y], rfl, y, [], rfl, rfl, q⟩
end Gd

set_option Elab.async false
set_option linter.all false
set_option maxRecDepth 100000
set_option maxHeartbeats 4000000
/-! Of our own: the machine, mirrored; what holds of its objects. -/
namespace Gd
open PySem PySem.Spec PyProof.Rows L2 Evl
/-! ### nodes of an image -/
abbrev Nd := Int × Int × Int
def rowsOf : List Int → List (Int × Nd)
  | a :: b :: c :: d :: r => (a, b, c, d) :: rowsOf r
  | _ => []
def pickR (k : Int) (acc : Option Nd) (r : Int × Nd) : Option Nd := if r.1 = k then some r.2 else acc
def nodeIn (rows : List (Int × Nd)) (k : Int) : Option Nd := rows.foldl (pickR k) none
def nodeAt (im : List Int) (k : Int) : Option Nd := nodeIn (rowsOf im) k
def rowL (r : Int × Nd) : List Int := [r.1, r.2.1, r.2.2.1, r.2.2.2]
def ndL (n : Nd) : List Int := [n.1, n.2.1, n.2.2]
def rowD (r : Int × Nd) : PyData := .tuple ((rowL r).map PyData.int)
theorem rows_len : ∀ im : List Int, (rowsOf im).length = im.length / 4
  | [] => rfl
  | [_] => by simp [rowsOf]
  | [_, _] => by simp [rowsOf]
  | [_, _, _] => by simp [rowsOf]
  | a :: b :: c :: d :: r => by
    rw [rowsOf, List.length_cons, rows_len r]
    simp only [List.length_cons]
    omega
theorem rows_at : ∀ (im : List Int) (i : Nat) (r : Int × Nd), (rowsOf im)[i]? = some r → (im.drop (4 * i)).take 4 = rowL r
  | [], _, _, h => by simp [rowsOf] at h
  | [_], _, _, h => by simp [rowsOf] at h
  | [_, _], _, _, h => by simp [rowsOf] at h
  | [_, _, _], _, _, h => by simp [rowsOf] at h
  | a :: b :: c :: d :: t, 0, r, h => by
    rw [rowsOf] at h
    simp at h
    subst h
    rfl
  | a :: b :: c :: d :: t, i + 1, r, h => by
    rw [rowsOf, List.getElem?_cons_succ] at h
    have e : 4 * (i + 1) = 4 * i + 1 + 1 + 1 + 1 := by omega
    rw [e]
    exact rows_at t i r h
/-- a dict that holds nodes by their numbers: tuples or lists of three -/
def TabT (K : PySem.W.Frag) (H : Hp) (kvs : List (Key × V)) (f : Int → Option Nd) : Prop := ∀ k, match f k with
  | none => valV kvs (Sum.inl k) = none
  | some n => ∃ p, valV kvs (Sum.inl k) = some (.ref p) ∧ SqT K H p ((ndL n).map V.int)
def TabL (K : PySem.W.Frag) (H : Hp) (kvs : List (Key × V)) (f : Int → Option Nd) : Prop := ∀ k, match f k with
  | none => valV kvs (Sum.inl k) = none
  | some n => ∃ p, valV kvs (Sum.inl k) = some (.ref p) ∧ H p = some (.lst ((ndL n).map V.int))
theorem TabT.ex {K : PySem.W.Frag} {H H' : Hp} {kvs : List (Key × V)} {f : Int → Option Nd} (h : TabT K H kvs f) (e : Ex H H') : TabT K H' kvs f := fun k => by
  have := h k
  cases q : f k with
  | none => rw [q] at this; exact this
  | some n => rw [q] at this; obtain ⟨p, h1, h2⟩ := this; exact ⟨p, h1, ex_t e h2⟩
theorem TabL.ex {K : PySem.W.Frag} {H H' : Hp} {kvs : List (Key × V)} {f : Int → Option Nd} (h : TabL K H kvs f) (e : ∀ a xs, H a = some (.lst xs) → H' a = some (.lst xs)) : TabL K H' kvs f := fun k => by
  have := h k
  cases q : f k with
  | none => rw [q] at this; exact this
  | some n => rw [q] at this; obtain ⟨p, h1, h2⟩ := this; exact ⟨p, h1, e _ _ h2⟩
/-- one of the image's cells, or 0 -/
def cellAt (im : List Int) (i : Int) : Int := (atI im i).getD 0
/-! ### the machine -/
structure MS where
  a : Int
  st : List Int
  sd : List (Int × Int)
  bk : List Int
  p : Int
  ou : List Int
  n : Int
def ms0 : MS := ⟨0, [], [], [], 0, [], 0⟩
def topM (s : MS) : Int := s.st.getLast?.getD 0
def popM (s : MS) : MS := { s with st := s.st.dropLast }
def pushM (s : MS) (v : Int) : MS := { s with st := s.st ++ [v] }
def lookM (s : MS) (k : Int) : Int := (getI s.sd k).getD 0
def putM (s : MS) (k v : Int) : MS := { s with sd := putI s.sd k v }
def callM (s : MS) (k : Int) : MS := { s with bk := s.bk ++ [s.a], a := k }
def combI (op x y : Int) : Int := if op = 43 then x + y else if op = 45 then x - y else if op = 42 then 10 * x + y else if op = 60 then (if x < y then 1 else 0) else (if x = y then 1 else 0)
abbrev ActF := List Int → List Int → Nd → MS → MS
def aPush : ActF := fun _ _ n s => pushM s n.2.1
def aComb : ActF := fun _ _ n s => pushM (popM (popM s)) (combI n.1 (topM (popM s)) (topM s))
def aGet : ActF := fun _ _ _ s => pushM (popM s) (lookM s (topM s))
def aPut : ActF := fun _ _ _ s => putM (popM (popM s)) (topM s) (topM (popM s))
def aSet : ActF := fun _ _ n s => putM (popM s) n.2.1 (topM s)
def aTake : ActF := fun _ nums _ s => if s.p < nums.length then { (pushM s ((atI nums s.p).getD 0)) with p := s.p + 1 } else pushM s (-1)
def aRew : ActF := fun _ _ _ s => { s with p := 0 }
def aWrite : ActF := fun _ _ _ s => { (popM s) with ou := s.ou ++ [topM s] }
def aCell : ActF := fun im _ _ s => pushM (popM s) (cellAt im (topM s))
def aDrop : ActF := fun _ _ _ s => popM s
def aDouble : ActF := fun _ _ _ s => pushM (pushM (popM s) (topM s)) (topM s)
def aExch : ActF := fun _ _ _ s => pushM (pushM (popM (popM s)) (topM s)) (topM (popM s))
def aBranch : ActF := fun _ _ n s => if topM s = 0 then { (popM s) with a := n.2.1 } else popM s
def aCallP : ActF := fun _ _ _ s => callM (popM s) (topM s)
def canC (im : List Int) (k : Int) : Bool := (decide (1 ≤ k) && decide (k ≤ 199)) && (nodeAt im k).isSome
def aCallD : ActF := fun im _ _ s => if canC im (topM s) = true then callM (popM s) (topM s) else pushM (popM s) (topM s)
def aRet : ActF := fun _ _ _ s => match s.bk.getLast? with
  | none => s
  | some b => { s with bk := s.bk.dropLast, a := b }
def isSm (c : Int) : Bool := decide (97 ≤ c) && decide (c ≤ 122)
def isCp (c : Int) : Bool := decide (65 ≤ c) && decide (c ≤ 90)
def ACTS : List (Int × ActF) := [(35, aPush), (43, aComb), (45, aComb), (42, aComb), (60, aComb), (126, aComb), (64, aGet), (33, aPut), (61, aSet), (44, aTake), (94, aRew), (46, aWrite), (38, aCell), (95, aDrop), (34, aDouble), (92, aExch), (63, aBranch), (40, aCallP), (36, aCallD), (41, aRet)]
def perfM : ActF := fun im nums n s => match ACTS.lookup n.1 with
  | some f => f im nums n s
  | none => if isSm n.1 = true then pushM s (lookM s n.1) else if isCp n.1 = true then callM s n.1 else s
def goM (s : MS) (n : Nd) : MS := { s with a := n.2.2, n := s.n + 1 }
def stepM (im nums : List Int) (s : MS) : Option MS := (nodeAt im s.a).map fun n => perfM im nums n (goM s n)
/-! ### plain forms -/
structure PS where
  a : Int
  st : List Int
  pr : List (Int × Int)
  bk : List Int
  p : Int
  ou : List Int
def pairsOf (sd : List (Int × Int)) : List (Int × Int) := ((srt (sd.map (·.1))).filter fun k => (getI sd k).getD 0 ≠ 0).map fun k => (k, (getI sd k).getD 0)
def plainM (s : MS) : PS := ⟨s.a, s.st, pairsOf s.sd, s.bk, s.p, s.ou⟩
def ofPlain (t : PS) : MS := ⟨t.a, t.st, t.pr.foldl (fun sd q => putI sd q.1 q.2) [], t.bk, t.p, t.ou, 0⟩
def pairD (q : Int × Int) : PyData := .tuple ([q.1, q.2].map PyData.int)
def plainD (t : PS) : PyData := .tuple [.int t.a, .tuple (t.st.map PyData.int), .tuple (t.pr.map pairD), .tuple (t.bk.map PyData.int), .int t.p, .tuple (t.ou.map PyData.int)]
def optD (o : Option PS) : PyData := match o with
  | none => .none
  | some t => plainD t
def lstepM (im nums : List Int) (t : PS) : Option PS := (stepM im nums (ofPlain t)).map plainM
/-! ### sizes -/
structure Sz (B : Nat) (s : MS) : Prop where
  st : s.st.length ≤ B
  sd : s.sd.length ≤ B
  bk : s.bk.length ≤ B
  ou : s.ou.length ≤ B
theorem Sz.mono {B B' : Nat} {s : MS} (h : Sz B s) (hb : B ≤ B') : Sz B' s := ⟨by have := h.st; omega, by have := h.sd; omega, by have := h.bk; omega, by have := h.ou; omega⟩
theorem Sz.pop {B : Nat} {s : MS} (h : Sz B s) : Sz B (popM s) := ⟨by have := h.st; show s.st.dropLast.length ≤ B; rw [List.length_dropLast]; omega, h.sd, h.bk, h.ou⟩
theorem Sz.push {B : Nat} {s : MS} {v : Int} (h : Sz B s) : Sz (B + 1) (pushM s v) := ⟨by have := h.st; show (s.st ++ [v]).length ≤ B + 1; rw [List.length_append]; simp; omega, by have := h.sd; show s.sd.length ≤ _; omega, by have := h.bk; show s.bk.length ≤ _; omega, by have := h.ou; show s.ou.length ≤ _; omega⟩
theorem Sz.put {B : Nat} {s : MS} {k v : Int} (h : Sz B s) : Sz (B + 1) (putM s k v) := ⟨by have := h.st; show s.st.length ≤ _; omega, by have := h.sd; have := putI_len s.sd k v; show (putI s.sd k v).length ≤ _; omega, by have := h.bk; show s.bk.length ≤ _; omega, by have := h.ou; show s.ou.length ≤ _; omega⟩
theorem Sz.call {B : Nat} {s : MS} {k : Int} (h : Sz B s) : Sz (B + 1) (callM s k) := ⟨by have := h.st; show s.st.length ≤ _; omega, by have := h.sd; show s.sd.length ≤ _; omega, by have := h.bk; show (s.bk ++ [s.a]).length ≤ _; rw [List.length_append]; simp; omega, by have := h.ou; show s.ou.length ≤ _; omega⟩
theorem Sz.go {B : Nat} {s : MS} {n : Nd} (h : Sz B s) : Sz B (goM s n) := ⟨h.st, h.sd, h.bk, h.ou⟩
theorem pop_len (s : MS) : (popM s).st.length = s.st.length - 1 := List.length_dropLast

theorem act_cases {P : ActF → Prop} {c : Int} {f : ActF} (h : ACTS.lookup c = some f) (hP : ∀ e ∈ ACTS, P e.2) : P f := by
  have : (c, f) ∈ ACTS := by
    revert h
    generalize ACTS = L
    induction L with
    | nil => intro h; cases h
    | cons e r ih =>
      obtain ⟨k, g⟩ := e
      intro h
      rw [List.lookup_cons] at h
      by_cases q : c = k
      · subst q
        rw [beq_self_eq_true] at h
        cases h
        exact List.mem_cons_self
      · rw [show (c == k) = false by simpa using q] at h
        exact List.mem_cons_of_mem _ (ih h)
  exact hP _ this
theorem Sz.act {B : Nat} {s : MS} {c : Int} {f : ActF} {im nums : List Int} {n : Nd} (h : Sz B s) (hf : ACTS.lookup c = some f) : Sz (B + 2) (f im nums n s) := by
  have h1 := h.mono (Nat.le_succ B)
  have h2 := h1.mono (Nat.le_succ (B + 1))
  have hp := h.pop
  have hpp := hp.pop
  refine act_cases (P := fun f => Sz (B + 2) (f im nums n s)) hf ?_
  unfold ACTS
  simp only [List.mem_cons, List.not_mem_nil, or_false, forall_eq_or_imp, forall_eq]
  refine ⟨?_, ?_, ?_, ?_, ?_, ?_, ?_, ?_, ?_, ?_, ?_, ?_, ?_, ?_, ?_, ?_, ?_, ?_, ?_, ?_⟩
  · exact h.push.mono (by omega)
  iterate 5 exact hpp.push.mono (by omega)
  · exact hp.push.mono (by omega)
  · exact hpp.put.mono (by omega)
  · exact hp.put.mono (by omega)
  · unfold aTake
    split
    · exact ⟨(h.push (v := _)).mono (Nat.le_succ (B + 1)) |>.st, h2.sd, h2.bk, h2.ou⟩
    · exact h.push.mono (by omega)
  · exact ⟨h2.st, h2.sd, h2.bk, h2.ou⟩
  · refine ⟨(hp.mono (by omega : B ≤ B + 2)).st, h2.sd, h2.bk, ?_⟩
    have := h.ou
    show (s.ou ++ [topM s]).length ≤ _
    rw [List.length_append]
    simp
    omega
  · exact hp.push.mono (by omega)
  · exact hp.mono (by omega)
  · exact hp.push.push.mono (by omega)
  · exact hpp.push.push.mono (by omega)
  · unfold aBranch
    split
    · exact ⟨(hp.mono (by omega : B ≤ B + 2)).st, h2.sd, h2.bk, h2.ou⟩
    · exact hp.mono (by omega)
  · exact hp.call.mono (by omega)
  · unfold aCallD
    split
    · exact hp.call.mono (by omega)
    · exact hp.push.mono (by omega)
  · unfold aRet
    split
    · exact h2
    · refine ⟨h2.st, h2.sd, ?_, h2.ou⟩
      have := h.bk
      show s.bk.dropLast.length ≤ _
      rw [List.length_dropLast]
      omega
theorem Sz.perf {B : Nat} {s : MS} {im nums : List Int} {n : Nd} (h : Sz B s) : Sz (B + 2) (perfM im nums n s) := by
  unfold perfM
  split
  · rename_i f hf
    exact h.act hf
  · split
    · exact h.push.mono (by omega)
    · split
      · exact h.call.mono (by omega)
      · exact h.mono (by omega)
theorem Sz.step {B : Nat} {s s' : MS} {im nums : List Int} (h : Sz B s) (e : stepM im nums s = some s') : Sz (B + 2) s' := by
  unfold stepM at e
  cases q : nodeAt im s.a with
  | none => rw [q] at e; cases e
  | some n => rw [q] at e; cases e; exact h.go.perf
/-! ### the objects of a state -/
structure AM where
  x : Addr
  dx : Addr
  n : Addr
  qn : Addr
  qs : Addr
  qd : Addr
  qb : Addr
  qo : Addr
def AM.L (A : AM) : List Addr := [A.x, A.qs, A.qd, A.qb, A.qo]
def FM (s : MS) (A : AM) : List (Str × V) := [("nodes", .ref A.n), ("numbers", .ref A.qn), ("at", .int s.a), ("stack", .ref A.qs), ("store", .ref A.qd), ("back", .ref A.qb), ("place", .int s.p), ("output", .ref A.qo), ("steps", .int s.n)]
structure NodesAt (K : PySem.W.Frag) (CN : Addr) (F : Hp) (n : Addr) (im : List Int) : Prop where
  ex : ∃ (dn qc qr qt : Addr) (kvs : List (Key × V)), F n = some (.ins CN dn [("_cells", .ref qc), ("_rows", .ref qr), ("_table", .ref qt)]) ∧ SqL K F qc (im.map V.int) ∧ Dp K F (.ref qr) (.list ((rowsOf im).map rowD)) ∧ F qt = some (.dK kvs) ∧ TabT K F kvs (nodeAt im)
  len : im.length ≤ 60000
theorem NodesAt.mono {K : PySem.W.Frag} {CN : Addr} {F H : Hp} {n : Addr} {im : List Int} (h : NodesAt K CN F n im) (e : Ex F H) : NodesAt K CN H n im := by
  obtain ⟨dn, qc, qr, qt, kvs, h1, h2, h3, h4, h5⟩ := h.ex
  exact ⟨⟨dn, qc, qr, qt, kvs, e _ _ h1, ex_l e h2, h3.ex e, e _ _ h4, h5.ex e⟩, h.len⟩
structure RM (K : PySem.W.Frag) (C CN : Addr) (F H : Hp) (A : AM) (im nums : List Int) (s : MS) : Prop where
  fr : Ex F H
  fx : F A.x = none
  fs : F A.qs = none
  fd : F A.qd = none
  fb : F A.qb = none
  fo : F A.qo = none
  ox : H A.x = some (.ins C A.dx (FM s A))
  os : H A.qs = some (.lst (s.st.map V.int))
  od : H A.qd = some (.dK (kvI s.sd))
  ob : H A.qb = some (.lst (s.bk.map V.int))
  oo : H A.qo = some (.lst (s.ou.map V.int))
  n1 : A.qs ≠ A.qb
  n2 : A.qs ≠ A.qo
  n3 : A.qb ≠ A.qo
  nd : NodesAt K CN F A.n im
  nu : SqL K F A.qn (nums.map V.int)
  pp : 0 ≤ s.p
section
variable {K : PySem.W.Frag} {C CN : Addr} {F H H' : Hp} {A : AM} {im nums : List Int} {s : MS}
theorem RM.ex (h : RM K C CN F H A im nums s) (e : Ex H H') : RM K C CN F H' A im nums s :=
  { h with fr := h.fr.trans e, ox := e _ _ h.ox, os := e _ _ h.os, od := e _ _ h.od, ob := e _ _ h.ob, oo := e _ _ h.oo }
theorem RM.ndH (h : RM K C CN F H A im nums s) : NodesAt K CN H A.n im := h.nd.mono h.fr
theorem RM.nuH (h : RM K C CN F H A im nums s) : SqL K H A.qn (nums.map V.int) := ex_l h.fr h.nu
theorem ne_of2 {H : Hp} {a b : Addr} {o u : HO} (h : H a = some o) (g : H b = some u) (n : o ≠ u) : a ≠ b := fun e => by
  subst e
  rw [h] at g
  exact n (Option.some.inj g)
theorem RM.stk (h : RM K C CN F H A im nums s) (l : List Int) : RM K C CN F (upd H A.qs (.lst (l.map V.int))) A im nums { s with st := l } :=
  { h with
    fr := h.fr.mut h.fs
    ox := by rw [upd_ne (ne_of2 h.ox h.os (by intro z; cases z))]; exact h.ox
    os := upd_same
    od := by rw [upd_ne (ne_of2 h.od h.os (by intro z; cases z))]; exact h.od
    ob := by rw [upd_ne h.n1.symm]; exact h.ob
    oo := by rw [upd_ne h.n2.symm]; exact h.oo }
theorem RM.bck (h : RM K C CN F H A im nums s) (l : List Int) : RM K C CN F (upd H A.qb (.lst (l.map V.int))) A im nums { s with bk := l } :=
  { h with
    fr := h.fr.mut h.fb
    ox := by rw [upd_ne (ne_of2 h.ox h.ob (by intro z; cases z))]; exact h.ox
    os := by rw [upd_ne h.n1]; exact h.os
    od := by rw [upd_ne (ne_of2 h.od h.ob (by intro z; cases z))]; exact h.od
    ob := upd_same
    oo := by rw [upd_ne h.n3.symm]; exact h.oo }
theorem RM.out (h : RM K C CN F H A im nums s) (l : List Int) : RM K C CN F (upd H A.qo (.lst (l.map V.int))) A im nums { s with ou := l } :=
  { h with
    fr := h.fr.mut h.fo
    ox := by rw [upd_ne (ne_of2 h.ox h.oo (by intro z; cases z))]; exact h.ox
    os := by rw [upd_ne h.n2]; exact h.os
    od := by rw [upd_ne (ne_of2 h.od h.oo (by intro z; cases z))]; exact h.od
    ob := by rw [upd_ne h.n3]; exact h.ob
    oo := upd_same }
theorem RM.sto (h : RM K C CN F H A im nums s) (l : List (Int × Int)) : RM K C CN F (upd H A.qd (.dK (kvI l))) A im nums { s with sd := l } :=
  { h with
    fr := h.fr.mut h.fd
    ox := by rw [upd_ne (ne_of2 h.ox h.od (by intro z; cases z))]; exact h.ox
    os := by rw [upd_ne (ne_of2 h.os h.od (by intro z; cases z))]; exact h.os
    od := upd_same
    ob := by rw [upd_ne (ne_of2 h.ob h.od (by intro z; cases z))]; exact h.ob
    oo := by rw [upd_ne (ne_of2 h.oo h.od (by intro z; cases z))]; exact h.oo }
theorem RM.fld (h : RM K C CN F H A im nums s) (s' : MS) (hp : 0 ≤ s'.p) (e1 : s'.st = s.st) (e2 : s'.sd = s.sd) (e3 : s'.bk = s.bk) (e4 : s'.ou = s.ou) : RM K C CN F (upd H A.x (.ins C A.dx (FM s' A))) A im nums s' :=
  { h with
    fr := h.fr.mut h.fx
    ox := upd_same
    os := by rw [upd_ne (ne_of2 h.os h.ox (by intro z; cases z)), e1]; exact h.os
    od := by rw [upd_ne (ne_of2 h.od h.ox (by intro z; cases z)), e2]; exact h.od
    ob := by rw [upd_ne (ne_of2 h.ob h.ox (by intro z; cases z)), e3]; exact h.ob
    oo := by rw [upd_ne (ne_of2 h.oo h.ox (by intro z; cases z)), e4]; exact h.oo
    pp := hp }
theorem RM.noT (h : RM K C CN F H A im nums s) : ∀ c ∈ A.L, ∃ o, H c = some o ∧ NoTup o := by
  intro c m
  simp only [AM.L, List.mem_cons, List.not_mem_nil, or_false] at m
  rcases m with rfl | rfl | rfl | rfl | rfl
  · exact ⟨_, h.ox, nt_ins⟩
  · exact ⟨_, h.os, nt_lst⟩
  · exact ⟨_, h.od, nt_dK⟩
  · exact ⟨_, h.ob, nt_lst⟩
  · exact ⟨_, h.oo, nt_lst⟩
theorem bm_x {o : HO} (b : Bu A.L H H') : Bu A.L H (upd H' A.x o) := b.upd (.inl (by simp [AM.L]))
theorem bm_s {o : HO} (b : Bu A.L H H') : Bu A.L H (upd H' A.qs o) := b.upd (.inl (by simp [AM.L]))
theorem bm_d {o : HO} (b : Bu A.L H H') : Bu A.L H (upd H' A.qd o) := b.upd (.inl (by simp [AM.L]))
theorem bm_b {o : HO} (b : Bu A.L H H') : Bu A.L H (upd H' A.qb o) := b.upd (.inl (by simp [AM.L]))
theorem bm_o {o : HO} (b : Bu A.L H H') : Bu A.L H (upd H' A.qo o) := b.upd (.inl (by simp [AM.L]))
theorem fm_at {s : MS} {v : Int} : putF "at" (.int v) (FM s A) = FM { s with a := v } A := rfl
theorem fm_place {s : MS} {v : Int} : putF "place" (.int v) (FM s A) = FM { s with p := v } A := rfl
theorem fm_steps {s : MS} {v : Int} : putF "steps" (.int v) (FM s A) = FM { s with n := v } A := rfl
theorem fm_len {s : MS} : (FM s A).length < 1000 := by show 9 < 1000; decide
end
/-! ### the promises' shape -/
/-- a method, or an action, of a state: s becomes f s, r s comes back -/
def spM (K : PySem.W.Frag) (C CN : Addr) (B : Nat) {α : Type} (arg : α → List V) (pre : List Int → List Int → Hp → α → Prop) (f : List Int → List Int → α → MS → MS) (r : List Int → List Int → α → MS → V) : Sp := fun vs H Q _ =>
  ∃ (F : Hp) (A : AM) (im nums : List Int) (s : MS) (a : α), vs = .ref A.x :: arg a ∧ RM K C CN F H A im nums s ∧ Sz B s ∧ pre im nums H a ∧ ∀ H', RM K C CN F H' A im nums (f im nums a s) → Bu A.L H H' → Q (r im nums a s) H'
/-- what it leaves -/
def LM (K : PySem.W.Frag) (C CN : Addr) (F H : Hp) (A : AM) (im nums : List Int) (s' : MS) (v : V) : V → Hp → Prop := fun v' H' => v' = v ∧ RM K C CN F H' A im nums s' ∧ Bu A.L H H'
section
variable {K : PySem.W.Frag} {C CN : Addr} {F H H' : Hp} {A : AM} {im nums : List Int} {s : MS} {σ : L2.St} {to te : TE} {t : TA} {B : Nat} {α : Type} {arg : α → List V} {pre : List Int → List Int → Hp → α → Prop} {f : List Int → List Int → α → MS → MS} {r : List Int → List Int → α → MS → V} {m : Str} {E : XK} {dvs : List V}
theorem ep_M (a : α) (ho : Ev to σ H (.ref A.x)) (hR : RM K C CN F H A im nums s) (hm : (FM s A).lookup m = none) (hz : Sz B s) (ht : EvA t σ H (arg a)) (hp : ∀ H1, Ex H H1 → pre im nums H1 a) :
    EvP (tMeth C m (spM K C CN B arg pre f r) [] E to t) σ H (LM K C CN F H A im nums (f im nums a s) (r im nums a s)) :=
  ep_meth ho hR.ox hm ht fun H1 e1 Q k => ⟨F, A, im, nums, s, a, by rw [List.append_nil], hR.ex e1, hz, hp H1 e1, fun H' h b => k _ H' ⟨rfl, h, (ex_bu e1).trans b⟩⟩
/-- one argument, an int that a method of the same state hands back -/
theorem ep_M1 {s1 : MS} {i : Int} (arg : Int → List V) (harg : arg i = [.int i]) {pre : List Int → List Int → Hp → Int → Prop} {f : List Int → List Int → Int → MS → MS} {r : List Int → List Int → Int → MS → V} (ho : Ev to σ H (.ref A.x)) (hR : RM K C CN F H A im nums s) (hm : (FM s A).lookup m = none)
    (ht : ∀ H1, Ex H H1 → EvP te σ H1 (LM K C CN F H1 A im nums s1 (.int i))) (hz : Sz B s1) (hp : ∀ H1, pre im nums H1 i) :
    EvP (tMeth C m (spM K C CN B arg pre f r) [] E to (tCons te tNil)) σ H (LM K C CN F H A im nums (f im nums i s1) (r im nums i s1)) :=
  ep_methP (PA := fun vs H1 => vs = [.int i] ∧ RM K C CN F H1 A im nums s1 ∧ Bu A.L H H1) ho hR.ox hm (fun H1 e1 Q q => eap_one (ht H1 e1) Q fun vs H2 h2 => by
    obtain ⟨v, rfl, rfl, h3, h4⟩ := h2
    exact q _ H2 ⟨rfl, h3, (ex_bu e1).trans h4⟩) fun vs H1 h1 Q k => by
      obtain ⟨rfl, h3, h4⟩ := h1
      exact ⟨F, A, im, nums, s1, i, by rw [harg]; rfl, h3, hz, hp H1, fun H' h b => k _ H' ⟨rfl, h, h4.trans b⟩⟩
theorem lm_bk {v v0 : V} {s' : MS} {H1 : Hp} (h : LM K C CN F H1 A im nums s' v v0 H') (b : Bu A.L H H1) : LM K C CN F H A im nums s' v v0 H' := ⟨h.1, h.2.1, b.trans h.2.2⟩
end

/-- xs.pop() of a list of ints that is not empty -/
theorem ep_pop {K : PySem.W.Frag} {σ : L2.St} {H : Hp} {ta : TE} {l : Addr} {ns : List Int} (ha : Ev ta σ H (.ref l)) (hl : H l = some (.lst (ns.map V.int))) (hn : ns ≠ []) :
    EvP (tBM0 K "list" rPop ta) σ H (fun v H' => v = .int (ns.getLast?.getD 0) ∧ ∃ H1, Ex H H1 ∧ H' = upd H1 l (.lst (ns.dropLast.map V.int))) := fun Q q =>
  ha H (Ex.refl H) _ fun H1 e1 => by
    have h2 := e1 _ _ hl
    have hd : ns = ns.dropLast ++ [ns.getLast?.getD 0] := by
      rw [List.getLast?_eq_some_getLast hn]
      exact (List.dropLast_concat_getLast hn).symm
    have hm := congrArg (List.map V.int) hd
    rw [List.map_append] at hm
    refine ⟨.inl ⟨rfl, _, sq_of h2⟩, l, ns.map V.int, .int (ns.getLast?.getD 0), rfl, rfl, h2, ?_, q _ _ ⟨rfl, H1, e1, ?_⟩⟩
    · rw [hm, List.length_append]
      simp
    · congr 2
      rw [hm, List.map_cons, List.map_nil, List.dropLast_concat]
end Gd

set_option Elab.async false
set_option linter.all false
set_option maxRecDepth 100000
set_option maxHeartbeats 4000000
/-! Of our own: the machine's objects made and remade. -/
namespace Gd
open PySem PySem.Spec PyProof.Rows L2 Evl
/-- a heap without one object -/
def rmH (x : Addr) (H : Hp) : Hp := fun a => if a = x then none else H a
theorem rm_at {x a : Addr} {H : Hp} (n : a ≠ x) : rmH x H a = H a := if_neg n
theorem rm_x {x : Addr} {H : Hp} : rmH x H x = none := if_pos rfl
theorem rm_ex {x : Addr} {H : Hp} : Ex (rmH x H) H := fun a o h => by
  unfold rmH at h
  split at h
  · cases h
  · exact h
theorem ex_rm {x : Addr} {G H : Hp} (e : Ex G H) (n : G x = none) : Ex G (rmH x H) := fun a o h => by
  rw [rm_at (ne_of_none h n)]
  exact e a o h
section
variable {K : PySem.W.Frag} {H : Hp} {x C dx : Addr} {fs : List (Str × V)}
theorem sqL_rm (hx : H x = some (.ins C dx fs)) {a : Addr} {xs : List V} (h : SqL K H a xs) : SqL K (rmH x H) a xs := by
  rcases h with (h | ⟨o, h⟩) | h
  · exact .inl (.inl (by rw [rm_at (ne_of2 h hx (by intro z; cases z))]; exact h))
  · exact .inl (.inr ⟨o, by rw [rm_at (ne_of2 h hx (by intro z; cases z))]; exact h⟩)
  · exact .inr h
theorem sqT_rm (hx : H x = some (.ins C dx fs)) {a : Addr} {xs : List V} (h : SqT K H a xs) : SqT K (rmH x H) a xs := by
  rcases h with (h | ⟨o, h⟩) | h
  · exact .inl (.inl (by rw [rm_at (ne_of2 h hx (by intro z; cases z))]; exact h))
  · exact .inl (.inr ⟨o, by rw [rm_at (ne_of2 h hx (by intro z; cases z))]; exact h⟩)
  · exact .inr h
mutual
theorem dp_rm (hx : H x = some (.ins C dx fs)) : ∀ (d : PyData) (v : V), Dp K H v d → Dp K (rmH x H) v d
  | .none, _, h => by cases h; exact .non
  | .bool _, _, h => by cases h; exact .bl _
  | .int _, _, h => by cases h; exact .int _
  | .str _, _, h => by cases h; exact .str _
  | .list ds, _, h => by cases h with | lst h1 h2 => exact .lst (sqL_rm hx h1) (dpAll_rm hx ds _ h2)
  | .tuple ds, _, h => by cases h with | tup h1 h2 => exact .tup (sqT_rm hx h1) (dpAll_rm hx ds _ h2)
  | .dict _, _, h => by cases h
theorem dpAll_rm (hx : H x = some (.ins C dx fs)) : ∀ (ds : List PyData) (vs : List V), DpAll K H vs ds → DpAll K (rmH x H) vs ds
  | [], _, h => by cases h; exact .nil
  | d :: ds, _, h => by cases h with | cons a b => exact .cons (dp_rm hx d _ a) (dpAll_rm hx ds _ b)
end
theorem NodesAt.rm {CN n : Addr} {im : List Int} (h : NodesAt K CN H n im) (hx : H x = some (.ins C dx fs)) (hn : n ≠ x) : NodesAt K CN (rmH x H) n im := by
  obtain ⟨dn, qc, qr, qt, kvs, h1, h2, h3, h4, h5⟩ := h.ex
  refine ⟨⟨dn, qc, qr, qt, kvs, by rw [rm_at hn]; exact h1, sqL_rm hx h2, dp_rm hx _ _ h3, by rw [rm_at (ne_of2 h4 hx (by intro z; cases z))]; exact h4, fun k => ?_⟩, h.len⟩
  have := h5 k
  cases q : nodeAt im k with
  | none => rw [q] at this; exact this
  | some n => rw [q] at this; obtain ⟨p, g1, g2⟩ := this; exact ⟨p, g1, sqT_rm hx g2⟩
end
section
variable {K : PySem.W.Frag} {C CN : Addr} {F H H1 : Hp} {A : AM} {im nums : List Int} {s : MS} {q : Addr}
theorem RM.newS (h : RM K C CN F H A im nums s) (hq : H q = none) (e : Ex H H1) (l : List Int) (h1 : H1 q = some (.lst (l.map V.int))) : RM K C CN F (upd H1 A.x (.ins C A.dx (FM { s with st := l } { A with qs := q }))) { A with qs := q } im nums { s with st := l } :=
  have nx : q ≠ A.x := fun z => by rw [z, h.ox] at hq; cases hq
  { fr := (h.fr.trans e).mut h.fx
    fx := h.fx
    fs := by cases z : F q with
      | none => rfl
      | some o => rw [h.fr _ _ z] at hq; cases hq
    fd := h.fd
    fb := h.fb
    fo := h.fo
    ox := upd_same
    os := by show upd H1 A.x _ q = _; rw [upd_ne nx]; exact h1
    od := by show upd H1 A.x _ A.qd = _; rw [upd_ne (ne_of2 h.od h.ox (by intro z; cases z))]; exact e _ _ h.od
    ob := by show upd H1 A.x _ A.qb = _; rw [upd_ne (ne_of2 h.ob h.ox (by intro z; cases z))]; exact e _ _ h.ob
    oo := by show upd H1 A.x _ A.qo = _; rw [upd_ne (ne_of2 h.oo h.ox (by intro z; cases z))]; exact e _ _ h.oo
    n1 := fun z => by have z : q = A.qb := z; rw [z, h.ob] at hq; cases hq
    n2 := fun z => by have z : q = A.qo := z; rw [z, h.oo] at hq; cases hq
    n3 := h.n3
    nd := h.nd
    nu := h.nu
    pp := h.pp }
theorem RM.newB (h : RM K C CN F H A im nums s) (hq : H q = none) (e : Ex H H1) (l : List Int) (h1 : H1 q = some (.lst (l.map V.int))) : RM K C CN F (upd H1 A.x (.ins C A.dx (FM { s with bk := l } { A with qb := q }))) { A with qb := q } im nums { s with bk := l } :=
  have nx : q ≠ A.x := fun z => by rw [z, h.ox] at hq; cases hq
  { fr := (h.fr.trans e).mut h.fx
    fx := h.fx
    fb := by cases z : F q with
      | none => rfl
      | some o => rw [h.fr _ _ z] at hq; cases hq
    fd := h.fd
    fs := h.fs
    fo := h.fo
    ox := upd_same
    ob := by show upd H1 A.x _ q = _; rw [upd_ne nx]; exact h1
    od := by show upd H1 A.x _ A.qd = _; rw [upd_ne (ne_of2 h.od h.ox (by intro z; cases z))]; exact e _ _ h.od
    os := by show upd H1 A.x _ A.qs = _; rw [upd_ne (ne_of2 h.os h.ox (by intro z; cases z))]; exact e _ _ h.os
    oo := by show upd H1 A.x _ A.qo = _; rw [upd_ne (ne_of2 h.oo h.ox (by intro z; cases z))]; exact e _ _ h.oo
    n1 := fun z => by have z : A.qs = q := z; rw [← z, h.os] at hq; cases hq
    n3 := fun z => by have z : q = A.qo := z; rw [z, h.oo] at hq; cases hq
    n2 := h.n2
    nd := h.nd
    nu := h.nu
    pp := h.pp }
theorem RM.newO (h : RM K C CN F H A im nums s) (hq : H q = none) (e : Ex H H1) (l : List Int) (h1 : H1 q = some (.lst (l.map V.int))) : RM K C CN F (upd H1 A.x (.ins C A.dx (FM { s with ou := l } { A with qo := q }))) { A with qo := q } im nums { s with ou := l } :=
  have nx : q ≠ A.x := fun z => by rw [z, h.ox] at hq; cases hq
  { fr := (h.fr.trans e).mut h.fx
    fx := h.fx
    fo := by cases z : F q with
      | none => rfl
      | some o => rw [h.fr _ _ z] at hq; cases hq
    fd := h.fd
    fs := h.fs
    fb := h.fb
    ox := upd_same
    oo := by show upd H1 A.x _ q = _; rw [upd_ne nx]; exact h1
    od := by show upd H1 A.x _ A.qd = _; rw [upd_ne (ne_of2 h.od h.ox (by intro z; cases z))]; exact e _ _ h.od
    os := by show upd H1 A.x _ A.qs = _; rw [upd_ne (ne_of2 h.os h.ox (by intro z; cases z))]; exact e _ _ h.os
    ob := by show upd H1 A.x _ A.qb = _; rw [upd_ne (ne_of2 h.ob h.ox (by intro z; cases z))]; exact e _ _ h.ob
    n2 := fun z => by have z : A.qs = q := z; rw [← z, h.os] at hq; cases hq
    n3 := fun z => by have z : A.qb = q := z; rw [← z, h.ob] at hq; cases hq
    n1 := h.n1
    nd := h.nd
    nu := h.nu
    pp := h.pp }
theorem RM.newD (h : RM K C CN F H A im nums s) (hq : H q = none) (e : Ex H H1) (l : List (Int × Int)) (h1 : H1 q = some (.dK (kvI l))) : RM K C CN F (upd H1 A.x (.ins C A.dx (FM { s with sd := l } { A with qd := q }))) { A with qd := q } im nums { s with sd := l } :=
  have nx : q ≠ A.x := fun z => by rw [z, h.ox] at hq; cases hq
  { fr := (h.fr.trans e).mut h.fx
    fx := h.fx
    fd := by cases z : F q with
      | none => rfl
      | some o => rw [h.fr _ _ z] at hq; cases hq
    fo := h.fo
    fs := h.fs
    fb := h.fb
    ox := upd_same
    od := by show upd H1 A.x _ q = _; rw [upd_ne nx]; exact h1
    oo := by show upd H1 A.x _ A.qo = _; rw [upd_ne (ne_of2 h.oo h.ox (by intro z; cases z))]; exact e _ _ h.oo
    os := by show upd H1 A.x _ A.qs = _; rw [upd_ne (ne_of2 h.os h.ox (by intro z; cases z))]; exact e _ _ h.os
    ob := by show upd H1 A.x _ A.qb = _; rw [upd_ne (ne_of2 h.ob h.ox (by intro z; cases z))]; exact e _ _ h.ob
    n2 := h.n2
    n3 := h.n3
    n1 := h.n1
    nd := h.nd
    nu := h.nu
    pp := h.pp }
end
/-! ### a table by codes -/
theorem lookup_map {α β : Type} (L : List (Int × α)) (g : α → β) (c : Int) : (L.map fun e => (e.1, g e.2)).lookup c = (L.lookup c).map g := by
  induction L with
  | nil => rfl
  | cons e r ih =>
    rw [List.map_cons, List.lookup_cons, List.lookup_cons, ih]
    cases (c == e.1) <;> rfl
theorem mem_lookup {κ β : Type} [BEq κ] [LawfulBEq κ] {L : List (κ × β)} {c : κ} {b : β} (h : L.lookup c = some b) : (c, b) ∈ L := by
  induction L with
  | nil => cases h
  | cons e r ih =>
    obtain ⟨k, g⟩ := e
    rw [List.lookup_cons] at h
    by_cases q : c = k
    · subst q
      rw [beq_self_eq_true] at h
      cases h
      exact List.mem_cons_self
    · rw [show (c == k) = false by simpa using q] at h
      exact List.mem_cons_of_mem _ (ih h)
theorem lookup_mem {κ β : Type} [BEq κ] [LawfulBEq κ] {L : List (κ × β)} {c : κ} {b : β} (h : (c, b) ∈ L) (nd : (L.map (·.1)).Nodup) : L.lookup c = some b := by
  induction L with
  | nil => cases h
  | cons e r ih =>
    obtain ⟨k, g⟩ := e
    rw [List.map_cons, List.nodup_cons] at nd
    rw [List.lookup_cons]
    rcases List.mem_cons.mp h with q | q
    · cases q
      rw [beq_self_eq_true]
    · have : c ≠ k := fun z => nd.1 (by rw [← z]; exact List.mem_map.mpr ⟨_, q, rfl⟩)
      rw [show (c == k) = false by simpa using this]
      exact ih q nd.2
end Gd
namespace Gd
open PySem PySem.Spec PyProof.Rows L2 Evl
/-! ### plain forms, made and read -/
theorem getI_mem : ∀ {sd : List (Int × Int)} {k : Int}, k ∈ sd.map (·.1) → ∃ v, getI sd k = some v
  | [], _, h => by cases h
  | p :: r, k, h => by
    unfold getI
    by_cases q : p.1 = k
    · rw [if_pos q]; exact ⟨_, rfl⟩
    · rw [if_neg q]
      rw [List.map_cons] at h
      rcases List.mem_cons.mp h with h | h
      · exact absurd h.symm q
      · exact getI_mem h
def rSrtDI : List V → Hp → VK → Prop := fun xs H Q => ∃ (a : Addr) (kvs : List (Key × V)) (ks : List Int), xs = [.ref a] ∧ Rd H a (.dK kvs) ∧ kvs.map (·.1) = ks.map Sum.inl ∧ ks.length < 64 ∧ ∀ (ys : List Int) (p : Addr), ys.Perm ks → ys.Pairwise (· ≤ ·) → H p = none → Q (.ref p) (upd H p (.lst (ys.map V.int)))
theorem el_sortedDI {te : TE} {σ : L2.St} {H : Hp} {a : Addr} {sd : List (Int × Int)} (h : Ev te σ H (.ref a)) (hd : H a = some (.dK (kvI sd))) (hl : sd.length < 64) : EvL (tCB rSrtDI (tCons te tNil)) σ H ((srt (sd.map (·.1))).map V.int) := fun H1 e Q q =>
  h H1 e _ fun H2 e2 => ⟨a, kvI sd, sd.map (·.1), rfl, .inl (e2 _ _ (e _ _ hd)), kvI_keys sd, by rw [List.length_map]; exact hl, fun ys p hp hs hn => by
    rw [srt_uniq hp hs]
    exact q p _ (fresh_back e2 hn) (e2.trans (Ex.new hn)) upd_same⟩
theorem srt_len (ks : List Int) : (srt ks).length = ks.length := (srt_perm ks).length_eq
theorem pairD_tup (q : Int × Int) : tupO (pairD q) = true := by simp [pairD, tupO, tupOs]
theorem plain_inv {K : PySem.W.Frag} {H : Hp} {v : V} {t : PS} (h : Dp K H v (plainD t)) : ∃ (r p1 p2 p3 p5 : Addr) (ps : List V), v = .ref r ∧ SqT K H r [.int t.a, .ref p1, .ref p2, .ref p3, .int t.p, .ref p5] ∧ SqT K H p1 (t.st.map V.int) ∧ SqT K H p2 ps ∧ DpAll K H ps (t.pr.map pairD) ∧ SqT K H p3 (t.bk.map V.int) ∧ SqT K H p5 (t.ou.map V.int) := by
  obtain ⟨r, xs, rfl, h1, h2⟩ := dp_tup_inv h
  cases h2 with | cons a1 h2 => cases h2 with | cons a2 h2 => cases h2 with | cons a3 h2 => cases h2 with | cons a4 h2 => cases h2 with | cons a5 h2 => cases h2 with | cons a6 h2 =>
    cases h2
    cases a1
    cases a5
    obtain ⟨p1, rfl, g1⟩ := dp_intsT_inv a2
    obtain ⟨p2, ps, rfl, g2, g2'⟩ := dp_tup_inv a3
    obtain ⟨p3, rfl, g3⟩ := dp_intsT_inv a4
    obtain ⟨p5, rfl, g5⟩ := dp_intsT_inv a6
    exact ⟨r, p1, p2, p3, p5, ps, rfl, h1, g1, g2, g2', g3, g5⟩
theorem plainD_tup (t : PS) : tupO (plainD t) = true := by
  have hi : ∀ l : List Int, tupOs (l.map PyData.int) = true := fun l => tupOs_at fun d m => by
    obtain ⟨z, _, rfl⟩ := List.mem_map.mp m
    simp [tupO]
  have hp : tupOs (t.pr.map pairD) = true := tupOs_at fun d m => by
    obtain ⟨z, _, rfl⟩ := List.mem_map.mp m
    exact pairD_tup z
  simp [plainD, tupO, tupOs, hi, hp]
theorem optD_tup (o : Option PS) : tupO (optD o) = true := by
  cases o with
  | none => simp [optD, tupO]
  | some t => exact plainD_tup t
def stoF (pr : List (Int × Int)) : List (Int × Int) := pr.foldl (fun sd q => putI sd q.1 q.2) []
theorem stoF_len (pr : List (Int × Int)) : (stoF pr).length ≤ pr.length := by
  have key : ∀ (l : List (Int × Int)) (sd : List (Int × Int)), (l.foldl (fun sd q => putI sd q.1 q.2) sd).length ≤ sd.length + l.length := by
    intro l
    induction l with
    | nil => intro sd; exact Nat.le_refl _
    | cons q r ih =>
      intro sd
      have h1 := ih (putI sd q.1 q.2)
      have h2 := putI_len sd q.1 q.2
      rw [List.foldl_cons, List.length_cons]
      omega
  have := key pr []
  unfold stoF
  simpa using this
theorem sd_act {s : MS} {c : Int} {f : ActF} {im nums : List Int} {n : Nd} (hf : ACTS.lookup c = some f) : (f im nums n s).sd.length ≤ s.sd.length + 1 := by
  refine act_cases (P := fun f => (f im nums n s).sd.length ≤ s.sd.length + 1) hf ?_
  unfold ACTS
  simp only [List.mem_cons, List.not_mem_nil, or_false, forall_eq_or_imp, forall_eq]
  have h0 : s.sd.length ≤ s.sd.length + 1 := Nat.le_succ _
  refine ⟨h0, h0, h0, h0, h0, h0, h0, putI_len _ _ _, putI_len _ _ _, ?_, h0, h0, h0, h0, h0, h0, ?_, h0, ?_, ?_⟩
  · unfold aTake; split <;> exact h0
  · unfold aBranch; split <;> exact h0
  · unfold aCallD; split <;> exact h0
  · unfold aRet; split <;> exact h0
theorem sd_step {s s' : MS} {im nums : List Int} (e : stepM im nums s = some s') : s'.sd.length ≤ s.sd.length + 1 := by
  unfold stepM at e
  cases q : nodeAt im s.a with
  | none => rw [q] at e; cases e
  | some n =>
    rw [q] at e
    cases e
    show (perfM im nums n (goM s n)).sd.length ≤ _
    unfold perfM
    split
    · rename_i f hf
      exact sd_act hf
    · split
      · exact Nat.le_succ _
      · split <;> exact Nat.le_succ _
end Gd

set_option Elab.async false
set_option linter.all false
set_option maxRecDepth 100000
set_option maxHeartbeats 4000000
/-! Of our own: a step as the laws compute it. -/
namespace Gd
open PySem PySem.Spec PyProof.Rows L2 Evl
def tp (l : List Int) : Int := l.getLast?.getD 0
def inStk (op : Int) : Bool := decide (op = 43 ∨ op = 45 ∨ op = 42 ∨ op = 60 ∨ op = 126 ∨ op = 95 ∨ op = 34 ∨ op = 92)
def lsS (op arg : Int) (st : List Int) : List Int :=
  if op = 35 then st ++ [arg]
  else if inStk op = true then
    if op = 95 then st.dropLast
    else if op = 34 then st.dropLast ++ [tp st] ++ [tp st]
    else if op = 92 then st.dropLast.dropLast ++ [tp st] ++ [tp st.dropLast]
    else st.dropLast.dropLast ++ [combI op (tp st.dropLast) (tp st)]
  else st
def lsT (op arg : Int) (st : List Int) (sd : List (Int × Int)) : List Int × List (Int × Int) :=
  if op = 64 then (st.dropLast ++ [(getI sd (tp st)).getD 0], sd)
  else if op = 33 then (st.dropLast.dropLast, putI sd (tp st) (tp st.dropLast))
  else if op = 61 then (st.dropLast, putI sd arg (tp st))
  else if (decide (97 ≤ op) && decide (op ≤ 122)) = true then (st ++ [(getI sd op).getD 0], sd)
  else (st, sd)
def lsP (im nums : List Int) (op : Int) (st : List Int) (p : Int) (ou : List Int) : List Int × Int × List Int :=
  if op = 44 then (if p < nums.length then (st ++ [(atI nums p).getD 0], p + 1, ou) else (st ++ [-1], p, ou))
  else if op = 94 then (st, 0, ou)
  else if op = 46 then (st.dropLast, p, ou ++ [tp st])
  else if op = 38 then (st.dropLast ++ [cellAt im (tp st)], p, ou)
  else (st, p, ou)
def lsC (im : List Int) (op arg su : Int) (st bk : List Int) : List Int × List Int × Int :=
  if op = 63 then (st.dropLast, bk, if tp st = 0 then arg else su)
  else if (decide (65 ≤ op) && decide (op ≤ 90)) = true then (st, bk ++ [su], op)
  else if op = 40 then (st.dropLast, bk ++ [su], tp st)
  else if op = 36 then (if canC im (tp st) = true then (st.dropLast, bk ++ [su], tp st) else (st.dropLast ++ [tp st], bk, su))
  else if op = 41 then (match bk.getLast? with
    | none => (st, bk, su)
    | some b => (st, bk.dropLast, b))
  else (st, bk, su)
def lawM (im nums : List Int) (n : Nd) (s : MS) : MS :=
  let st1 := lsS n.1 n.2.1 s.st
  let t2 := lsT n.1 n.2.1 st1 s.sd
  let t3 := lsP im nums n.1 t2.1 s.p s.ou
  let t4 := lsC im n.1 n.2.1 n.2.2 t3.1 s.bk
  { a := t4.2.2, st := t4.1, sd := t2.2, bk := t4.2.1, p := t3.2.1, ou := t3.2.2, n := s.n }
theorem law_perf (im nums : List Int) (n : Nd) (s : MS) (ha : s.a = n.2.2) : perfM im nums n s = lawM im nums n s := by
  obtain ⟨op, arg, su⟩ := n
  obtain ⟨a, st, sd, bk, p, ou, k⟩ := s
  have ha : a = su := ha
  subst ha
  by_cases h35 : op = 35
  · subst h35
    rfl
  by_cases h43 : op = 43
  · subst h43
    rfl
  by_cases h45 : op = 45
  · subst h45
    rfl
  by_cases h42 : op = 42
  · subst h42
    rfl
  by_cases h60 : op = 60
  · subst h60
    rfl
  by_cases h126 : op = 126
  · subst h126
    rfl
  by_cases h64 : op = 64
  · subst h64
    rfl
  by_cases h33 : op = 33
  · subst h33
    rfl
  by_cases h61 : op = 61
  · subst h61
    rfl
  by_cases h44 : op = 44
  · subst h44
    show aTake im nums (44, arg, a) ⟨a, st, sd, bk, p, ou, k⟩ = _
    unfold aTake lawM lsS lsT lsP lsC
    simp only [inStk]
    by_cases h : p < (nums.length : Int)
    · simp [h, pushM]
    · simp [h, pushM]
  by_cases h94 : op = 94
  · subst h94
    rfl
  by_cases h46 : op = 46
  · subst h46
    rfl
  by_cases h38 : op = 38
  · subst h38
    rfl
  by_cases h95 : op = 95
  · subst h95
    rfl
  by_cases h34 : op = 34
  · subst h34
    rfl
  by_cases h92 : op = 92
  · subst h92
    rfl
  by_cases h63 : op = 63
  · subst h63
    show aBranch im nums (63, arg, a) ⟨a, st, sd, bk, p, ou, k⟩ = _
    unfold aBranch lawM lsS lsT lsP lsC
    simp only [inStk]
    have : topM ⟨a, st, sd, bk, p, ou, k⟩ = tp st := rfl
    rw [this]
    by_cases h : tp st = 0
    · simp [h, popM]
    · simp [h, popM]
  by_cases h40 : op = 40
  · subst h40
    rfl
  by_cases h36 : op = 36
  · subst h36
    show aCallD im nums (36, arg, a) ⟨a, st, sd, bk, p, ou, k⟩ = _
    unfold aCallD lawM lsS lsT lsP lsC
    simp only [inStk]
    have : topM ⟨a, st, sd, bk, p, ou, k⟩ = tp st := rfl
    rw [this]
    by_cases h : canC im (tp st) = true
    · simp [h, popM, callM]
    · simp [h, popM, pushM]
  by_cases h41 : op = 41
  · subst h41
    show aRet im nums (41, arg, a) ⟨a, st, sd, bk, p, ou, k⟩ = _
    unfold aRet lawM lsS lsT lsP lsC
    simp only [inStk]
    cases h : bk.getLast? with
    | none => simp [h]
    | some b => simp [h]
  have hl : ACTS.lookup op = none := by
    unfold ACTS
    have b : ∀ {i j : Int}, ¬ i = j → (i == j) = false := fun h => by simpa using h
    simp only [List.lookup_cons, b h35, b h43, b h45, b h42, b h60, b h126, b h64, b h33, b h61, b h44, b h94, b h46, b h38, b h95, b h34, b h92, b h63, b h40, b h36, b h41, List.lookup_nil]
  unfold perfM lawM lsS lsT lsP lsC
  simp only [inStk, hl, h35, h43, h45, h42, h60, h126, h64, h33, h61, h44, h94, h46, h38, h95, h34, h92, h63, h40, h36, h41, if_false, or_self, decide_false]
  have e1 : isSm op = (decide (97 ≤ op) && decide (op ≤ 122)) := rfl
  have e2 : isCp op = (decide (65 ≤ op) && decide (op ≤ 90)) := rfl
  rw [e1, e2]
  by_cases hs : (decide (97 ≤ op) && decide (op ≤ 122)) = true
  · have hc : ¬ (decide (65 ≤ op) && decide (op ≤ 90)) = true := by simp at hs ⊢; omega
    simp [hs, hc, pushM, lookM]
  · by_cases hc : (decide (65 ≤ op) && decide (op ≤ 90)) = true
    · simp [hs, hc, callM]
    · simp [hs, hc]
/-! ### the laws' draws of numbers -/
def numL : List Int := [0, 1, 2, 3, 4, 5, 65, 70, 90, 97, 199, 200, -1, -2, 64, 91]
def smallL : List Int := [0, 1, -1, 2, 3, 5, 7, 65, 97, 122, 199, 200, -2, -3, 4, 12]
def pick16 (l : List Int) (v : Int) : Int := l.getD (v.fmod 16).toNat 0
theorem pick_at {l : List Int} (hl : l.length = 16) (v : Int) : atI l (v.fmod 16) = some (pick16 l v) := by
  have h := fmod_in v (show (0 : Int) < 16 by decide)
  have e : v.fmod 16 = (((v.fmod 16).toNat : Nat) : Int) := by omega
  have hlt : (v.fmod 16).toNat < l.length := by omega
  rw [e]
  refine atI_nat ?_
  unfold pick16
  rw [List.getD_eq_getElem?_getD, List.getElem?_eq_getElem hlt]
  rfl
theorem pick_in {l : List Int} (hl : l.length = 16) (v : Int) : pick16 l v ∈ l := by
  have h := fmod_in v (show (0 : Int) < 16 by decide)
  have hlt : (v.fmod 16).toNat < l.length := by omega
  unfold pick16
  rw [List.getD_eq_getElem?_getD, List.getElem?_eq_getElem hlt]
  exact List.getElem_mem _
theorem numL_le (v : Int) : (pick16 numL v).natAbs ≤ 200 := by
  have h : ∀ x ∈ numL, x.natAbs ≤ 200 := by decide
  exact h _ (pick_in rfl v)
theorem smallL_le (v : Int) : (pick16 smallL v).natAbs ≤ 200 := by
  have h : ∀ x ∈ smallL, x.natAbs ≤ 200 := by decide
  exact h _ (pick_in rfl v)
def smallBig (v : Int) : Int := if (v.fdiv 16).fmod 5 = 0 then pick16 smallL v * 10 ^ 9 + v else pick16 smallL v
/-! ### bounds of a step's ints -/
structure Bd (B : Nat) (s : MS) : Prop where
  st : ∀ x ∈ s.st, x.natAbs ≤ B
  sd : ∀ q ∈ s.sd, q.1.natAbs ≤ B ∧ q.2.natAbs ≤ B
  bk : ∀ x ∈ s.bk, x.natAbs ≤ B
  ou : ∀ x ∈ s.ou, x.natAbs ≤ B
  a : s.a.natAbs ≤ B
  p : s.p.natAbs ≤ B
theorem smallBig_le {v : Int} (h : 0 ≤ v ∧ v < 997) : (smallBig v).natAbs ≤ 10 ^ 12 := by
  have := smallL_le v
  unfold smallBig
  split <;> omega
structure PBd (B : Nat) (t : PS) : Prop where
  st : ∀ x ∈ t.st, x.natAbs ≤ B
  pr : ∀ q ∈ t.pr, q.1.natAbs ≤ B ∧ q.2.natAbs ≤ B
  bk : ∀ x ∈ t.bk, x.natAbs ≤ B
  ou : ∀ x ∈ t.ou, x.natAbs ≤ B
  a : t.a.natAbs ≤ B
  p : t.p.natAbs ≤ B
/-- a slice of ints -/
def cutZ (xs : List Int) (lo hi : Option Int) : List Int := (xs.drop (HT.sIx xs.length 0 lo)).take (HT.sIx xs.length xs.length hi - HT.sIx xs.length 0 lo)
theorem cutZ_map (xs : List Int) (lo hi : Option Int) : cutV (xs.map V.int) lo hi = (cutZ xs lo hi).map V.int := by
  unfold cutV cutZ
  rw [List.length_map, ← List.map_drop, ← List.map_take]
theorem cutZ_mem {xs : List Int} {lo hi : Option Int} {x : Int} (h : x ∈ cutZ xs lo hi) : x ∈ xs := List.mem_of_mem_drop (List.mem_of_mem_take h)
theorem cutZ_len (xs : List Int) (lo hi : Option Int) : (cutZ xs lo hi).length ≤ xs.length := by
  unfold cutZ
  rw [List.length_take, List.length_drop]
  omega
section
variable {K : PySem.W.Frag} {H : Hp} {σ : L2.St} {te tv : TE} {lo hi : TO} {vs : List Nat} {j : Nat}
theorem el_slI {a : Addr} {l : List Int} {i k : Option Int} (h : Ev te σ H (.ref a)) (hS : SqL K H a (l.map V.int)) (h1 : EvO lo σ H i) (h2 : EvO hi σ H k) : EvL (tSl (rSlL K) te lo hi) σ H ((cutZ l i k).map V.int) := by
  rw [← cutZ_map]
  exact el_sl h h1 h2 hS
/-- [f(v) for v in a new list of ints] -/
theorem el_mapI {l : List Int} (g : Int → Int) (h : EvL te σ H (l.map V.int)) (hz : l.length ≤ 90000) (hw : ∀ x, wipe ((wipe σ vs).set j (some x)) vs = wipe σ vs) (he : ∀ c ∈ l, ∀ H1, Ex H H1 → Ev tv ((wipe σ vs).set j (some (.int c))) H1 (.int (g c))) : EvL (tLc (iList K te) (gName j) tYes tv vs) σ H ((l.map g).map V.int) := by
  let f : V → V := fun v => match v with | .int c => .int (g c) | _ => .non
  have e : (l.map V.int).map f = (l.map g).map V.int := by rw [List.map_map, List.map_map]; rfl
  rw [← e]
  exact el_mapNL f h (by rw [List.length_map]; exact hz) hw fun x hx H1 e1 => by
    obtain ⟨c, hc, rfl⟩ := List.mem_map.mp hx
    exact he c hc H1 e1
/-- .. over a list that stays -/
theorem el_mapIL {a : Addr} {l : List Int} (g : Int → Int) (h : Ev te σ H (.ref a)) (hS : SqL K H a (l.map V.int)) (hz : l.length ≤ 90000) (hw : ∀ x, wipe ((wipe σ vs).set j (some x)) vs = wipe σ vs) (he : ∀ c ∈ l, ∀ H1, Ex H H1 → Ev tv ((wipe σ vs).set j (some (.int c))) H1 (.int (g c))) : EvL (tLc (iList K te) (gName j) tYes tv vs) σ H ((l.map g).map V.int) := by
  let f : V → V := fun v => match v with | .int c => .int (g c) | _ => .non
  have e : (l.map V.int).map f = (l.map g).map V.int := by rw [List.map_map, List.map_map]; rfl
  rw [← e]
  exact el_mapL f h hS (by rw [List.length_map]; exact hz) hw fun x hx H1 e1 => by
    obtain ⟨c, hc, rfl⟩ := List.mem_map.mp hx
    exact he c hc H1 e1
end
theorem putI_bd {sd : List (Int × Int)} {k v : Int} {B : Nat} (h : ∀ q ∈ sd, q.1.natAbs ≤ B ∧ q.2.natAbs ≤ B) (hk : k.natAbs ≤ B) (hv : v.natAbs ≤ B) : ∀ q ∈ putI sd k v, q.1.natAbs ≤ B ∧ q.2.natAbs ≤ B := by
  unfold putI
  split
  · intro q hq
    obtain ⟨r, hr, rfl⟩ := List.mem_map.mp hq
    split
    · exact ⟨(h r hr).1, hv⟩
    · exact h r hr
  · intro q hq
    rcases List.mem_append.mp hq with hq | hq
    · exact h q hq
    · rw [List.mem_singleton.mp hq]
      exact ⟨hk, hv⟩
theorem getI_bd {sd : List (Int × Int)} {k : Int} {B : Nat} (h : ∀ q ∈ sd, q.1.natAbs ≤ B ∧ q.2.natAbs ≤ B) : ((getI sd k).getD 0).natAbs ≤ B := by
  induction sd with
  | nil => exact Nat.zero_le _
  | cons p r ih =>
    unfold getI
    split
    · exact (h p List.mem_cons_self).2
    · exact ih fun q hq => h q (List.mem_cons_of_mem _ hq)
theorem pairsOf_bd {sd : List (Int × Int)} {B : Nat} (h : ∀ q ∈ sd, q.1.natAbs ≤ B ∧ q.2.natAbs ≤ B) : ∀ q ∈ Gd.pairsOf sd, q.1.natAbs ≤ B ∧ q.2.natAbs ≤ B := by
  intro q hq
  unfold Gd.pairsOf at hq
  obtain ⟨k, hk, rfl⟩ := List.mem_map.mp hq
  have hk := (srt_perm _).mem_iff.mp (List.mem_filter.mp hk).1
  obtain ⟨r, hr, rfl⟩ := List.mem_map.mp hk
  exact ⟨(h r hr).1, getI_bd h⟩
theorem pairsOf_len (sd : List (Int × Int)) : (Gd.pairsOf sd).length ≤ sd.length := by
  unfold Gd.pairsOf
  rw [List.length_map]
  refine Nat.le_trans (List.length_filter_le _ _) ?_
  rw [srt_len, List.length_map]
  exact Nat.le_refl _
theorem due_get (op x y : Int) : (valV (mergeK [] [((Sum.inl 43 : Key), V.int (x + y)), (Sum.inl 45, .int (x - y)), (Sum.inl 42, .int (10 * x + y)), (Sum.inl 60, .int (if decide (x < y) = true then 1 else 0))]) (Sum.inl op)).getD (.int (if x = y then 1 else 0)) = .int (combI op x y) := by
  unfold mergeK combI
  simp only [List.foldl_cons, List.foldl_nil, valV_put]
  have si : ∀ i j : Int, ((Sum.inl i : Key) = Sum.inl j) = (i = j) := fun i j => propext ⟨Sum.inl.inj, fun h => by rw [h]⟩
  simp only [si]
  have vn : valV ([] : List (Key × V)) (Sum.inl op) = none := rfl
  rw [vn]
  by_cases c1 : op = 60
  · subst c1; simp
  by_cases c2 : op = 42
  · subst c2; simp
  by_cases c3 : op = 45
  · subst c3; simp
  by_cases c4 : op = 43
  · subst c4; simp
  simp [c1, c2, c3, c4]
end Gd

set_option Elab.async false
set_option linter.all false
set_option maxRecDepth 100000
set_option maxHeartbeats 4000000
/-! Of our own: how great the ints of a step become, and that plain forms may be shown. -/
namespace Gd
open PySem PySem.Spec PyProof.Rows L2 Evl
theorem rows_mem : ∀ {im : List Int} {r : Int × Nd}, r ∈ rowsOf im → ∀ x ∈ rowL r, x ∈ im
  | [], _, h => by simp [rowsOf] at h
  | [_], _, h => by simp [rowsOf] at h
  | [_, _], _, h => by simp [rowsOf] at h
  | [_, _, _], _, h => by simp [rowsOf] at h
  | a :: b :: c :: d :: t, r, h => by
    rw [rowsOf] at h
    intro x hx
    rcases List.mem_cons.mp h with rfl | h
    · simp only [rowL, List.mem_cons, List.not_mem_nil, or_false] at hx ⊢
      rcases hx with h | h | h | h
      · exact .inl h
      · exact .inr (.inl h)
      · exact .inr (.inr (.inl h))
      · exact .inr (.inr (.inr (.inl h)))
    · exact List.mem_cons_of_mem _ (List.mem_cons_of_mem _ (List.mem_cons_of_mem _ (List.mem_cons_of_mem _ (rows_mem h x hx))))
theorem nodeIn_mem {k : Int} {n : Nd} : ∀ (rows : List (Int × Nd)) (acc : Option Nd), rows.foldl (pickR k) acc = some n → acc = some n ∨ ∃ r ∈ rows, r.2 = n
  | [], acc, h => .inl h
  | r :: t, acc, h => by
    rw [List.foldl_cons] at h
    rcases nodeIn_mem t _ h with h | ⟨q, hq, e⟩
    · unfold pickR at h
      split at h
      · exact .inr ⟨r, List.mem_cons_self, Option.some.inj h⟩
      · exact .inl h
    · exact .inr ⟨q, List.mem_cons_of_mem _ hq, e⟩
theorem node_bd {im : List Int} {B : Nat} (h : ∀ x ∈ im, x.natAbs ≤ B) {k : Int} {n : Nd} (e : nodeAt im k = some n) : n.1.natAbs ≤ B ∧ n.2.1.natAbs ≤ B ∧ n.2.2.natAbs ≤ B := by
  rcases nodeIn_mem (rowsOf im) none e with z | ⟨r, hr, rfl⟩
  · cases z
  · have m := rows_mem hr
    exact ⟨h _ (m _ (by simp [rowL])), h _ (m _ (by simp [rowL])), h _ (m _ (by simp [rowL]))⟩
theorem tp_bd {l : List Int} {B : Nat} (h : ∀ x ∈ l, x.natAbs ≤ B) : (tp l).natAbs ≤ B := by
  unfold tp
  cases e : l.getLast? with
  | none => exact Nat.zero_le _
  | some v => exact h v (List.mem_of_getLast? e)
theorem drop_bd {l : List Int} {B : Nat} (h : ∀ x ∈ l, x.natAbs ≤ B) : ∀ x ∈ l.dropLast, x.natAbs ≤ B := fun x hx => h x (List.dropLast_subset l hx)
theorem app_bd {l : List Int} {v : Int} {B : Nat} (h : ∀ x ∈ l, x.natAbs ≤ B) (hv : v.natAbs ≤ B) : ∀ x ∈ l ++ [v], x.natAbs ≤ B := fun x hx => by
  rcases List.mem_append.mp hx with hx | hx
  · exact h x hx
  · rw [List.mem_singleton.mp hx]
    exact hv
theorem up_bd {l : List Int} {B C : Nat} (h : ∀ x ∈ l, x.natAbs ≤ B) (c : B ≤ C) : ∀ x ∈ l, x.natAbs ≤ C := fun x hx => Nat.le_trans (h x hx) c
theorem comb_bd {op x y : Int} {B : Nat} (hx : x.natAbs ≤ B) (hy : y.natAbs ≤ B) : (combI op x y).natAbs ≤ 11 * B + 1 := by
  unfold combI
  repeat' split
  all_goals omega
theorem at_bd {l : List Int} {i : Int} {B : Nat} (h : ∀ x ∈ l, x.natAbs ≤ B) : ((atI l i).getD 0).natAbs ≤ B := by
  cases e : atI l i with
  | none => exact Nat.zero_le _
  | some v =>
    unfold atI at e
    cases q : ixN l.length i with
    | none => rw [q] at e; cases e
    | some j => rw [q] at e; exact h v (List.mem_of_getElem? e)
theorem lsS_bd {op arg : Int} {st : List Int} {B : Nat} (h : ∀ x ∈ st, x.natAbs ≤ B) (ha : arg.natAbs ≤ B) : ∀ x ∈ lsS op arg st, x.natAbs ≤ 11 * B + 1 := by
  have d1 := drop_bd h
  have d2 := drop_bd d1
  have t1 := tp_bd h
  have t2 := tp_bd d1
  have u : B ≤ 11 * B + 1 := by omega
  unfold lsS
  repeat' split
  · exact app_bd (up_bd h u) (by omega)
  · exact up_bd d1 u
  · exact up_bd (app_bd (app_bd d1 t1) t1) u
  · exact up_bd (app_bd (app_bd d2 t1) t2) u
  · exact app_bd (up_bd d2 u) (comb_bd t2 t1)
  · exact up_bd h u
theorem lsT_bd {op arg : Int} {st : List Int} {sd : List (Int × Int)} {B : Nat} (h : ∀ x ∈ st, x.natAbs ≤ B) (hs : ∀ q ∈ sd, q.1.natAbs ≤ B ∧ q.2.natAbs ≤ B) (ha : arg.natAbs ≤ B) :
    (∀ x ∈ (lsT op arg st sd).1, x.natAbs ≤ B) ∧ ∀ q ∈ (lsT op arg st sd).2, q.1.natAbs ≤ B ∧ q.2.natAbs ≤ B := by
  have d1 := drop_bd h
  have d2 := drop_bd d1
  have t1 := tp_bd h
  have t2 := tp_bd d1
  unfold lsT
  repeat' split
  · exact ⟨app_bd d1 (getI_bd hs), hs⟩
  · exact ⟨d2, putI_bd hs t1 t2⟩
  · exact ⟨d1, putI_bd hs ha t1⟩
  · exact ⟨app_bd h (getI_bd hs), hs⟩
  · exact ⟨h, hs⟩
theorem lsP_bd {im nums : List Int} {op p : Int} {st ou : List Int} {B : Nat} (h1 : 1 ≤ B) (hi : ∀ x ∈ im, x.natAbs ≤ B) (hn : ∀ x ∈ nums, x.natAbs ≤ B) (h : ∀ x ∈ st, x.natAbs ≤ B) (ho : ∀ x ∈ ou, x.natAbs ≤ B) (hp : (p + 1).natAbs ≤ B ∧ p.natAbs ≤ B) :
    (∀ x ∈ (lsP im nums op st p ou).1, x.natAbs ≤ B) ∧ (lsP im nums op st p ou).2.1.natAbs ≤ B ∧ ∀ x ∈ (lsP im nums op st p ou).2.2, x.natAbs ≤ B := by
  have d1 := drop_bd h
  have t1 := tp_bd h
  unfold lsP
  repeat' split
  · exact ⟨app_bd h (at_bd hn), hp.1, ho⟩
  · exact ⟨app_bd h (by simpa using h1), hp.2, ho⟩
  · exact ⟨h, Nat.zero_le _, ho⟩
  · exact ⟨d1, hp.2, app_bd ho t1⟩
  · exact ⟨app_bd d1 (at_bd hi), hp.2, ho⟩
  · exact ⟨h, hp.2, ho⟩
theorem lsC_bd {im : List Int} {op arg su : Int} {st bk : List Int} {B : Nat} (h : ∀ x ∈ st, x.natAbs ≤ B) (hb : ∀ x ∈ bk, x.natAbs ≤ B) (ho : op.natAbs ≤ B) (ha : arg.natAbs ≤ B) (hs : su.natAbs ≤ B) :
    (∀ x ∈ (lsC im op arg su st bk).1, x.natAbs ≤ B) ∧ (∀ x ∈ (lsC im op arg su st bk).2.1, x.natAbs ≤ B) ∧ (lsC im op arg su st bk).2.2.natAbs ≤ B := by
  have d1 := drop_bd h
  have t1 := tp_bd h
  unfold lsC
  split
  · refine ⟨d1, hb, ?_⟩
    show (if tp st = 0 then arg else su).natAbs ≤ B
    split
    · exact ha
    · exact hs
  split
  · exact ⟨h, app_bd hb hs, ho⟩
  split
  · exact ⟨d1, app_bd hb hs, t1⟩
  split
  · split
    · exact ⟨d1, app_bd hb hs, t1⟩
    · exact ⟨app_bd d1 t1, hb, hs⟩
  split
  · cases e : bk.getLast? with
    | none => exact ⟨h, hb, hs⟩
    | some b => exact ⟨h, drop_bd hb, hb b (List.mem_of_getLast? e)⟩
  · exact ⟨h, hb, hs⟩
theorem lawM_bd {im nums : List Int} {n : Nd} {s : MS} {B : Nat} (h1 : 1 ≤ B) (hi : ∀ x ∈ im, x.natAbs ≤ B) (hq : ∀ x ∈ nums, x.natAbs ≤ B) (hn : n.1.natAbs ≤ B ∧ n.2.1.natAbs ≤ B ∧ n.2.2.natAbs ≤ B) (hs : Bd B s) : Bd (11 * B + 1) (lawM im nums n s) := by
  have u : B ≤ 11 * B + 1 := by omega
  have a1 := lsS_bd (op := n.1) hs.st hn.2.1
  have hsd : ∀ q ∈ s.sd, q.1.natAbs ≤ 11 * B + 1 ∧ q.2.natAbs ≤ 11 * B + 1 := fun q m => ⟨Nat.le_trans (hs.sd q m).1 u, Nat.le_trans (hs.sd q m).2 u⟩
  have a2 := lsT_bd (op := n.1) (arg := n.2.1) a1 hsd (by omega)
  have hp := hs.p
  have a3 := lsP_bd (op := n.1) (p := s.p) (im := im) (nums := nums) (by omega) (up_bd hi u) (up_bd hq u) a2.1 (up_bd hs.ou u) (by constructor <;> omega)
  have a4 := lsC_bd (im := im) (op := n.1) (arg := n.2.1) (su := n.2.2) a3.1 (up_bd hs.bk u) (by omega) (by omega) (by omega)
  exact ⟨a4.1, a2.2, a4.2.1, a3.2.2, a4.2.2, a3.2.1⟩
theorem stepM_bd {im nums : List Int} {s s' : MS} {B : Nat} (h1 : 1 ≤ B) (hi : ∀ x ∈ im, x.natAbs ≤ B) (hq : ∀ x ∈ nums, x.natAbs ≤ B) (hs : Bd B s) (e : stepM im nums s = some s') : Bd (11 * B + 1) s' := by
  unfold stepM at e
  cases q : nodeAt im s.a with
  | none => rw [q] at e; cases e
  | some n =>
    rw [q] at e
    have e : perfM im nums n (goM s n) = s' := Option.some.inj e
    rw [law_perf im nums n (goM s n) rfl] at e
    rw [← e]
    have hn := node_bd hi q
    exact lawM_bd h1 hi hq hn ⟨hs.st, hs.sd, hs.bk, hs.ou, hn.2.2, hs.p⟩
theorem stoF_bd {pr : List (Int × Int)} {B : Nat} (h : ∀ q ∈ pr, q.1.natAbs ≤ B ∧ q.2.natAbs ≤ B) : ∀ q ∈ stoF pr, q.1.natAbs ≤ B ∧ q.2.natAbs ≤ B := by
  unfold stoF
  have g : ∀ (pr sd : List (Int × Int)), (∀ q ∈ pr, q.1.natAbs ≤ B ∧ q.2.natAbs ≤ B) → (∀ q ∈ sd, q.1.natAbs ≤ B ∧ q.2.natAbs ≤ B) → ∀ q ∈ pr.foldl (fun sd q => putI sd q.1 q.2) sd, q.1.natAbs ≤ B ∧ q.2.natAbs ≤ B := by
    intro pr
    induction pr with
    | nil => intro sd _ h; exact h
    | cons p r ih =>
      intro sd h1 h2
      have hp := h1 p List.mem_cons_self
      exact ih _ (fun q m => h1 q (List.mem_cons_of_mem _ m)) (putI_bd h2 hp.1 hp.2)
  exact g pr [] h fun q m => nomatch m
theorem PBd.of {t : PS} {B : Nat} (h : PBd B t) : Bd B (ofPlain t) := ⟨h.st, stoF_bd h.pr, h.bk, h.ou, h.a, h.p⟩
theorem Bd.plain {s : MS} {B : Nat} (h : Bd B s) : PBd B (plainM s) := ⟨h.st, pairsOf_bd h.sd, h.bk, h.ou, h.a, h.p⟩
/-! ### shown -/
theorem smD_pairs {pr : List (Int × Int)} (h : ∀ q ∈ pr, q.1.natAbs < 10 ^ 100 ∧ q.2.natAbs < 10 ^ 100) : smDs (pr.map pairD) = true := by
  induction pr with
  | nil => simp [smDs]
  | cons p r ih =>
    have hp := h p List.mem_cons_self
    rw [List.map_cons, smDs, ih fun q m => h q (List.mem_cons_of_mem _ m), Bool.and_true]
    unfold pairD
    rw [smD]
    exact smDs_ints fun n hn => by
      simp only [List.mem_cons, List.not_mem_nil, or_false] at hn
      rcases hn with rfl | rfl
      · exact hp.1
      · exact hp.2
theorem depth_ints (ns : List Int) : PyData.depthAll (ns.map PyData.int) = 0 := by
  induction ns with
  | nil => simp [PyData.depthAll]
  | cons n r ih => rw [List.map_cons, PyData.depthAll, ih, PyData.depth]; rfl
theorem depth_pairs (pr : List (Int × Int)) : PyData.depthAll (pr.map pairD) ≤ 1 := by
  induction pr with
  | nil => simp [PyData.depthAll]
  | cons p r ih =>
    rw [List.map_cons, PyData.depthAll]
    have : (pairD p).depth = 1 := by unfold pairD; rw [PyData.depth, depth_ints]
    omega
theorem bulk_pairs (pr : List (Int × Int)) : PyData.bulkAll (pr.map pairD) = 3 * pr.length := by
  induction pr with
  | nil => simp [PyData.bulkAll]
  | cons p r ih =>
    rw [List.map_cons, PyData.bulkAll, ih, List.length_cons]
    have : (pairD p).bulk = 2 := by unfold pairD; rw [PyData.bulk, bulk_ints]; rfl
    omega
theorem depth_plain (t : PS) : (plainD t).depth ≤ 3 := by
  have := depth_pairs t.pr
  unfold plainD
  simp only [PyData.depth, PyData.depthAll, depth_ints]
  omega
theorem bulk_plain (t : PS) : (plainD t).bulk = t.st.length + 3 * t.pr.length + t.bk.length + t.ou.length + 6 := by
  unfold plainD
  simp only [PyData.bulk, PyData.bulkAll, bulk_ints, bulk_pairs]
  omega
theorem sm_plain {t : PS} {B : Nat} (h : PBd B t) (hB : B < 10 ^ 100) : smD (plainD t) = true := by
  have f : ∀ l : List Int, (∀ x ∈ l, x.natAbs ≤ B) → smDs (l.map PyData.int) = true := fun l hl => smDs_ints fun n hn => Nat.lt_of_le_of_lt (hl n hn) hB
  have hp : smDs (t.pr.map pairD) = true := smD_pairs fun q m => ⟨Nat.lt_of_le_of_lt (h.pr q m).1 hB, Nat.lt_of_le_of_lt (h.pr q m).2 hB⟩
  have ha := Nat.lt_of_le_of_lt h.a hB
  have hpp := Nat.lt_of_le_of_lt h.p hB
  unfold plainD
  rw [smD, smDs, smD, decide_eq_true ha, smDs, smD, f _ h.st, smDs, smD, hp, smDs, smD, f _ h.bk, smDs, smD, decide_eq_true hpp, smDs, smD, f _ h.ou, smDs]
  rfl
theorem nice_plain {t : PS} {B : Nat} (h : PBd B t) (hB : B < 10 ^ 100) (hz : t.st.length + 3 * t.pr.length + t.bk.length + t.ou.length + 6 ≤ 100000) : Nice (plainD t) :=
  nice_sm (sm_plain h hB) (by have := depth_plain t; omega) (by rw [bulk_plain]; exact hz)
theorem nice_none : Nice PyData.none := nice_sm rfl (by decide) (by decide)
/-- sizes of what a step leaves -/
theorem stepM_sz {im nums : List Int} {s s' : MS} {B : Nat} (hz : Sz B s) (e : stepM im nums s = some s') : Sz (B + 3) s' := by
  unfold stepM at e
  cases q : nodeAt im s.a with
  | none => rw [q] at e; cases e
  | some n =>
    rw [q] at e
    have e : perfM im nums n (goM s n) = s' := Option.some.inj e
    rw [← e]
    exact (Sz.perf hz.go).mono (by omega)
end Gd

set_option Elab.async false
set_option linter.all false
set_option maxRecDepth 100000
set_option maxHeartbeats 4000000
/-! Of our own: tuples of ints of the top, a dict of the top that holds them. -/
namespace Gd
open PySem PySem.Spec PyProof.Rows L2 Evl
def intsV : List Value → Option (List Int)
  | [] => some []
  | .int i _ :: r => (intsV r).map (i :: ·)
  | _ => none
theorem intsV_vals : ∀ {us : List Value} {ns : List Int}, intsV us = some ns → Vals (ns.map V.int) us
  | [], ns, h => by cases h; exact .nil
  | u :: r, ns, h => by
    cases u with
    | int i t =>
      rw [intsV] at h
      cases q : intsV r with
      | none => rw [q] at h; cases h
      | some l => rw [q] at h; cases h; exact .cons ⟨t, rfl⟩ (intsV_vals q)
    | _ => cases h
/-- at a: a tuple of ints of the top -/
def TupK (K : PySem.W.Frag) (a : Addr) (xs : List V) : Prop := ∃ (o : Obj) (its : Array Value) (n : Nat), K.lookup a = some o ∧ o.cls = .type "tuple" ∧ o.data = .seq its n ∧ its.size ≤ sizeLine ∧ Vals xs its.toList
theorem tupK_of {K : PySem.W.Frag} {a : Addr} {od : Option Addr} {its : Array Value} {n : Nat} {sl : Array (Option Value)} {ns : List Int} (h : K.lookup a = some ⟨.type "tuple", od, .seq its n, sl⟩) (hi : intsV its.toList = some ns) (hz : ns.length ≤ 1000) : TupK K a (ns.map V.int) := by
  have v := intsV_vals hi
  refine ⟨_, its, n, h, rfl, rfl, ?_, v⟩
  have l : ∀ {xs : List V} {us : List Value}, Vals xs us → xs.length = us.length := fun h => by
    induction h with
    | nil => rfl
    | cons _ _ ih => rw [List.length_cons, List.length_cons, ih]
  have l2 := l v
  rw [List.length_map] at l2
  have l3 : its.toList.length = its.size := Array.length_toList
  exact Nat.le_trans (by omega) (Nat.le_trans hz (by decide))
theorem TupK.sq {K : PySem.W.Frag} {a : Addr} {xs : List V} (h : TupK K a xs) (H : Hp) : SqT K H a xs := .inr h
/-- at d: a dict of the top from ints to tuples of ints -/
inductive TRows (K : PySem.W.Frag) : List (Int × Value) → List (Int × List Int) → Prop
  | nil : TRows K [] []
  | cons {k : Int} {a : Addr} {ns : List Int} {tb : List (Int × Value)} {ts : List (Int × List Int)} (h : TupK K a (ns.map V.int)) (r : TRows K tb ts) : TRows K ((k, .ref a) :: tb) ((k, ns) :: ts)
def TTab (K : PySem.W.Frag) (d : Addr) (ts : List (Int × List Int)) : Prop := ∃ tb, ITab K d tb ∧ TRows K tb ts
theorem trows_at {K : PySem.W.Frag} {tb : List (Int × Value)} {ts : List (Int × List Int)} (h : TRows K tb ts) (c : Int) : match ts.lookup c with
    | none => tb.lookup c = none
    | some ns => ∃ a, tb.lookup c = some (.ref a) ∧ TupK K a (ns.map V.int) := by
  induction h with
  | nil => rfl
  | @cons k a ns tb ts h r ih =>
    rw [List.lookup_cons, List.lookup_cons]
    by_cases e : c = k
    · subst e
      rw [beq_self_eq_true]
      exact ⟨a, rfl, h⟩
    · have : (c == k) = false := by simpa using e
      rw [this]
      exact ih
/-- d.get(i, x), d the top's -/
def tItGet2 (K : PySem.W.Frag) (d : Addr) (ts : List (Int × List Int)) (td ty tx : TE) : TE := fun σ H Q => td σ H fun x H1 => x = .ref d ∧ ty σ H1 fun y H2 => tx σ H2 fun z H3 => ∃ i : Int, y = .int i ∧
  (ts.lookup i = none → Q z H3) ∧ ∀ ns, ts.lookup i = some ns → ∀ p, SqT K H3 p (ns.map V.int) → Q (.ref p) H3
section
variable {X : Cx} {o e f : Expr} {apos cpos : Pos} {td ty tx : TE} {d : Addr} {ts : List (Int × List Int)}
theorem pe_itget2 (D : TTab X.K d ts) (ho : PE X o td) (he : PE X e ty) (hf : PE X f tx) (m : M2 X o "get" apos e f cpos) : PE X (.Call (.Attribute o "get" apos) [e, f] [] cpos) (tItGet2 X.K d ts td ty tx) := by
  obtain ⟨tb, D, hr⟩ := D
  refine ⟨fun pins s σ H Q I h => ?_⟩
  refine wpAny_Call_method m.base m.few m.line PySem.F.plainAttrs_dict PySem.F.slot_dict_get PySem.F.type_dict_get (thn (ho.run pins s σ H _ I h) fun u s1 ⟨x, H1, I1, rx, ex, q1⟩ => ?_)
  subst ex
  obtain rfl : u = Value.ref d := rx
  have hm := itab_map D I1
  refine ⟨hm.typeIs, fun b q => ?_, ?_⟩
  · cases q
    obtain ⟨es, n, hl, _⟩ := D.ex
    exact ⟨_, I1.kIn _ _ hl, rfl⟩
  rw [m.trees]
  refine Calls.callWith_builtin rfl (Calls.evalArgs_plain (Calls.spliced_cons (thn (he.run pins s1 σ H1 _ I1 q1) fun iv s2 ⟨y, H2, I2, ry, q2⟩ =>
    Calls.spliced_cons (thn (hf.run pins s2 σ H2 _ I2 q2) fun fv s3 ⟨z, H3, I3, rz, i, ei, g1, g2⟩ => Calls.spliced_nil ?_))))
  subst ei
  obtain ⟨t, rfl⟩ := ry
  have hm3 := itab_map D I3
  refine call_meetsIn PySem.F.slot_dict_get hm3.typeIs PySem.F.entry_dict_get (PySem.F.args_dict_get_3 _ _ _) (meets_dict_get_default (intKind X.prog X.w) d (k := i) (by simp [intKind, Value.isInt]) D.low fv) ⟨_, hm3, ?_⟩
  have hx := trows_at hr i
  cases q : ts.lookup i with
  | none =>
    rw [q] at hx
    rw [hx]
    exact ⟨z, H3, I3.tok _, rz, g1 q⟩
  | some ns =>
    rw [q] at hx
    obtain ⟨a, h1, h2⟩ := hx
    rw [h1]
    exact ⟨.ref a, H3, I3.tok _, rfl, g2 ns q a (h2.sq _)⟩
end
section
variable {K : PySem.W.Frag} {H : Hp} {σ : L2.St} {td ty tx : TE} {d : Addr} {ts : List (Int × List Int)} {i : Int}
theorem ed_itget2 {ms : List Int} (h : Ev td σ H (.ref d)) (hk : Ev ty σ H (.int i)) (hx : EvD K tx σ H (.tuple (ms.map PyData.int))) : EvD K (tItGet2 K d ts td ty tx) σ H (.tuple (((ts.lookup i).getD ms).map PyData.int)) := fun H1 e Q q =>
  h H1 e _ fun H2 e2 => ⟨rfl, hk H2 (e.trans e2) _ fun H3 e3 => hx H3 ((e.trans e2).trans e3) _ fun v H4 e4 hv => ⟨i, rfl, fun hn => q v H4 ((e2.trans e3).trans e4) (by rw [hn]; exact hv), fun ns hn p hp => q _ H4 ((e2.trans e3).trans e4) (by rw [hn]; exact dp_intsT hp)⟩⟩
end
end Gd

set_option Elab.async false
set_option linter.all false
set_option maxRecDepth 100000
set_option maxHeartbeats 4000000
/-! Of our own: footprints. -/
namespace Gd
open PySem PySem.Spec PyProof.Rows L2 Evl
def CNTS : List (Int × List Int) := [(35, [0, 1]), (43, [2, 1]), (45, [2, 1]), (42, [2, 1]), (60, [2, 1]), (126, [2, 1]), (64, [1, 1]), (33, [2, 0]), (61, [1, 0]), (44, [0, 1]), (46, [1, 0]), (38, [1, 1]), (95, [1, 0]), (34, [1, 2]), (92, [2, 2]), (63, [1, 0]), (40, [1, 0]), (36, [1, 1])]
def cntM (im : List Int) (op top : Int) : List Int := if isSm op = true then [0, 1] else if (decide (op = 36) && canC im top) = true then [1, 0] else (CNTS.lookup op).getD [0, 0]
def rdM (op top : Int) : Option Int := if op = 64 then some top else if isSm op = true then some op else none
def wrM (op arg top : Int) : Option Int := if op = 33 then some top else if op = 61 then some arg else none
structure FP where
  po : Int
  pu : Int
  rd : Option Int
  wr : Option Int
  tk : Bool
  ce : Option Int
def oiD : Option Int → PyData
  | none => .none
  | some i => .int i
def fpD (f : FP) : PyData := .tuple [.int f.po, .int f.pu, oiD f.rd, oiD f.wr, .bool f.tk, oiD f.ce]
def fpN (im nums : List Int) (n : Nd) (top p : Int) : FP := ⟨(cntM im n.1 top).getD 0 0, (cntM im n.1 top).getD 1 0, rdM n.1 top, wrM n.1 n.2.1 top, decide (n.1 = 44) && decide (p < nums.length), if n.1 = 38 then some top else none⟩
def fpM (im nums : List Int) (t : PS) : Option FP := (nodeAt im t.a).map fun n => fpN im nums n (tp t.st) t.p
def foD : Option FP → PyData
  | none => .none
  | some f => fpD f
/-- the law's own counts -/
def inP2 (op : Int) : Bool := decide (op ∈ ([43, 45, 42, 60, 126, 33, 92] : List Int))
def inP1 (op : Int) : Bool := decide (op ∈ ([64, 61, 46, 38, 95, 34, 63, 40, 36] : List Int))
def inU1 (op : Int) : Bool := decide (op ∈ ([35, 43, 45, 42, 60, 126, 64, 44, 38] : List Int))
def popL (op : Int) : Int := if inP2 op = true then 2 else if inP1 op = true then 1 else 0
def pushL (im : List Int) (op top : Int) : Int := if (inU1 op || isSm op) = true then 1 else if (decide (op = 34) || decide (op = 92)) = true then 2 else if (decide (op = 36) && !canC im top) = true then 1 else 0
theorem cnt_law (im : List Int) (op top : Int) : cntM im op top = [popL op, pushL im op top] := by
  by_cases h35 : op = 35
  · subst h35; rfl
  by_cases h43 : op = 43
  · subst h43; rfl
  by_cases h45 : op = 45
  · subst h45; rfl
  by_cases h42 : op = 42
  · subst h42; rfl
  by_cases h60 : op = 60
  · subst h60; rfl
  by_cases h126 : op = 126
  · subst h126; rfl
  by_cases h64 : op = 64
  · subst h64; rfl
  by_cases h33 : op = 33
  · subst h33; rfl
  by_cases h61 : op = 61
  · subst h61; rfl
  by_cases h44 : op = 44
  · subst h44; rfl
  by_cases h46 : op = 46
  · subst h46; rfl
  by_cases h38 : op = 38
  · subst h38; rfl
  by_cases h95 : op = 95
  · subst h95; rfl
  by_cases h34 : op = 34
  · subst h34; rfl
  by_cases h92 : op = 92
  · subst h92; rfl
  by_cases h63 : op = 63
  · subst h63; rfl
  by_cases h40 : op = 40
  · subst h40; rfl
  by_cases h36 : op = 36
  · subst h36
    unfold cntM pushL
    cases h : canC im top with
    | true => rfl
    | false => rfl
  have hl : CNTS.lookup op = none := by
    unfold CNTS
    have b : ∀ {i j : Int}, ¬ i = j → (i == j) = false := fun h => by simpa using h
    simp only [List.lookup_cons, b h35, b h43, b h45, b h42, b h60, b h126, b h64, b h33, b h61, b h44, b h46, b h38, b h95, b h34, b h92, b h63, b h40, b h36, List.lookup_nil]
  unfold cntM popL pushL inP2 inP1 inU1
  simp only [hl, List.mem_cons, List.not_mem_nil, h35, h43, h45, h42, h60, h126, h64, h33, h61, h44, h46, h38, h95, h34, h92, h63, h40, h36, or_self, decide_false, Bool.false_and, Bool.false_or, Bool.or_self]
  cases h : isSm op with
  | true => rfl
  | false => rfl
theorem inV_ints (c : Int) (ns : List Int) : inV (.int c) (ns.map V.int) = decide (c ∈ ns) := by
  induction ns with
  | nil => rfl
  | cons n r ih =>
    show ((n == c) || inV (.int c) (r.map V.int)) = _
    rw [ih]
    by_cases e : n = c
    · subst e; simp
    · have : (n == c) = false := by simpa using e
      rw [this, Bool.false_or]
      have : (c ∈ n :: r) ↔ (c ∈ r) := by
        rw [List.mem_cons]
        exact ⟨fun h => h.resolve_left fun z => e z.symm, .inr⟩
      exact decide_eq_decide.mpr this.symm
section
variable {K : PySem.W.Frag} {H : Hp} {σ : L2.St} {te ta tb tu : TE} {tt : TT}
/-- a if t else b -/
theorem ev_ifE {b : Bool} {v : V} (ht : EvT tt σ H b) (ha : b = true → ∀ H1, Ex H H1 → Ev ta σ H1 v) (hb : b = false → ∀ H1, Ex H H1 → Ev tb σ H1 v) : Ev (tIf tt ta tb) σ H v := fun H1 e Q q =>
  ht H1 e _ fun H2 e2 => by
    cases b with
    | true => rw [if_pos rfl]; exact ha rfl H2 (e.trans e2) H2 (Ex.refl H2) Q fun H3 e3 => q H3 (e2.trans e3)
    | false => rw [if_neg Bool.false_ne_true]; exact hb rfl H2 (e.trans e2) H2 (Ex.refl H2) Q fun H3 e3 => q H3 (e2.trans e3)
theorem ev_andB {a b : Bool} (ha : Ev ta σ H (.bl a)) (hb : a = true → Ev tb σ H (.bl b)) : Ev (tAndV ta tb) σ H (.bl (a && b)) := fun H1 e Q q =>
  ha H1 e _ fun H2 e2 => ⟨a, rfl, by
    cases a with
    | true => rw [if_pos rfl]; exact hb rfl H2 (e.trans e2) Q fun H3 e3 => q H3 (e2.trans e3)
    | false => rw [if_neg Bool.false_ne_true]; exact q H2 e2⟩
theorem q_unpD2 {D : Ends} {tz : TS} {ns : List Int} {i j : Nat} (h : EvD K te σ H (.tuple (ns.map PyData.int))) (hn : ns.length = 2) (k : ∀ H1, Ex H H1 → tz D ((σ.set i (some (.int (ns.getD 0 0)))).set j (some (.int (ns.getD 1 0)))) H1) : tSeq (tAsg te (gTup K 2 (gCons (gName i) (gCons (gName j) gNil)))) tz D σ H :=
  h H (Ex.refl H) _ fun v H1 e1 hv => by
    obtain ⟨a, rfl, ha⟩ := dp_intsT_inv hv
    match ns, hn with
    | [x, y], _ => exact g_tup2 ha (k H1 e1)
theorem et_truT {a : Addr} {xs : List V} (h : Ev te σ H (.ref a)) (hx : SqT K H a xs) : EvT (fun σ H Q => te σ H fun x H' => ∃ k, TruV K x H' k ∧ Q k H') σ H (!xs.isEmpty) := fun H1 e Q q =>
  h H1 e _ fun H2 e2 => ⟨!xs.isEmpty, .inr (.inl ⟨xs, ex_t (e.trans e2) hx, rfl⟩), q H2 e2⟩
theorem last_tp {st : List Int} (h : st ≠ []) : atI st (-1) = some (tp st) := by
  have e : ixN st.length (-1) = some (st.length - 1) := by
    have : st.length ≠ 0 := fun z => h (List.length_eq_zero_iff.mp z)
    unfold ixN
    split
    · omega
    · split
      · congr 1; omega
      · omega
  show (ixN st.length (-1)).bind (st[·]?) = _
  rw [e]
  show st[st.length - 1]? = _
  unfold tp
  rw [← List.getLast?_eq_getElem?, List.getLast?_eq_some_getLast h]
  rfl
theorem ed_opt {o : Option Int} (h : Ev te σ H (optV o)) : EvD K te σ H (oiD o) := ed_ev h (by cases o with
  | none => exact .non
  | some i => exact .int i)
/-- the truth of x in (..), ints -/
theorem et_inI {t : TA} {c : Int} {ns : List Int} (h : Ev te σ H (.int c)) (ht : EvA t σ H (ns.map V.int)) (hz : ns.length ≤ 1000) : EvT (tTest (tOp (rIn K false) te (tTup t))) σ H (decide (c ∈ ns)) := by
  rw [← inV_ints]
  refine et_test (ev_opU h (eu_tup ht (by rw [List.length_map]; omega)) fun p H1 h1 _ H2 e2 Q q => ?_)
  exact ⟨p, _, rfl, .inr (ex_t e2 (st_of h1)), rfl, by rw [List.all_eq_true]; intro x hx; obtain ⟨i, _, rfl⟩ := List.mem_map.mp hx; rfl, q H2 (Ex.refl H2)⟩
end
theorem sm_fp {f : FP} (h1 : f.po.natAbs ≤ 9) (h2 : f.pu.natAbs ≤ 9) (h3 : ∀ i, f.rd = some i → i.natAbs < 10 ^ 100) (h4 : ∀ i, f.wr = some i → i.natAbs < 10 ^ 100) (h6 : ∀ i, f.ce = some i → i.natAbs < 10 ^ 100) : smD (fpD f) = true := by
  have o : ∀ o : Option Int, (∀ i, o = some i → i.natAbs < 10 ^ 100) → smD (oiD o) = true := fun o h => by
    cases o with
    | none => rfl
    | some i => unfold oiD; rw [smD, decide_eq_true (h i rfl)]
  have a1 : f.po.natAbs < 10 ^ 100 := Nat.lt_of_le_of_lt h1 (by decide)
  have a2 : f.pu.natAbs < 10 ^ 100 := Nat.lt_of_le_of_lt h2 (by decide)
  unfold fpD
  rw [smD, smDs, smD, decide_eq_true a1, smDs, smD, decide_eq_true a2, smDs, o _ h3, smDs, o _ h4, smDs, smD, smDs, o _ h6, smDs]
  rfl
theorem depth_oi (o : Option Int) : (oiD o).depth = 0 := by cases o <;> simp [oiD, PyData.depth]
theorem bulk_oi (o : Option Int) : (oiD o).bulk = 0 := by cases o <;> simp [oiD, PyData.bulk]
theorem nice_fp {f : FP} (h : smD (fpD f) = true) : Nice (fpD f) := nice_sm h (by unfold fpD; simp only [PyData.depth, PyData.depthAll, depth_oi]; decide) (by unfold fpD; simp only [PyData.bulk, PyData.bulkAll, bulk_oi]; decide)
theorem cnt_le (im : List Int) (op top : Int) : ((cntM im op top).getD 0 0).natAbs ≤ 9 ∧ ((cntM im op top).getD 1 0).natAbs ≤ 9 := by
  rw [cnt_law]
  show (popL op).natAbs ≤ 9 ∧ (pushL im op top).natAbs ≤ 9
  unfold popL pushL
  constructor <;> (repeat' split) <;> decide
theorem fp_sm {im nums : List Int} {n : Nd} {top p : Int} (h1 : n.1.natAbs < 10 ^ 100) (h2 : n.2.1.natAbs < 10 ^ 100) (h3 : top.natAbs < 10 ^ 100) : smD (fpD (fpN im nums n top p)) = true := by
  refine sm_fp (cnt_le im n.1 top).1 (cnt_le im n.1 top).2 (fun i h => ?_) (fun i h => ?_) (fun i h => ?_)
  · have h : rdM n.1 top = some i := h
    unfold rdM at h
    repeat' split at h
    · cases h; exact h3
    · cases h; exact h1
    · cases h
  · have h : wrM n.1 n.2.1 top = some i := h
    unfold wrM at h
    repeat' split at h
    · cases h; exact h3
    · cases h; exact h2
    · cases h
  · have h : (if n.1 = 38 then some top else none) = some i := h
    split at h
    · cases h; exact h3
    · cases h
end Gd

set_option Elab.async false
set_option linter.all false
set_option maxRecDepth 100000
set_option maxHeartbeats 4000000
/-! Of our own: keyword-only parameters that must be written; methods called with them; while loops. -/
namespace Gd
open PySem PySem.Spec PyProof.Rows L2 Evl
theorem fun_kbn {K : PySem.W.Frag} {x qual : Str} {st : Stmt} {f : Addr} {fd : FuncData} (F : Fun K x qual st f fd) {n : Nat} {ks ps : List Str}
    (h : ∀ (kV doc pm : Value) (an : Option Addr) (cdv ct : Value) (us ws : List Value), us.length = n → ws.length = ks.length → bindArgs (PySem.W.fnOf x qual (defArgs st) (defBody st) (defScope st) .none kV doc pm an cdv ct) ⟨us, ks.zip ws⟩ = pure (ps.zip (us ++ ws))) : KBn K fd ps n ks (fun us ws => us ++ ws) (fun vs zs => vs ++ zs) := by
  obtain ⟨oc, od, kV, doc, pm, an, cdv, ct, osl, rfl, lk, hcd⟩ := F.ex
  exact ⟨fun s us ws X h1 h2 => .of_eq (h kV doc pm an cdv ct us ws h1 h2), fun r1 r2 => r1.append r2⟩
/-- o.m(k = v, ..) -/
def tMethN0 (C : Addr) (m : Str) (n : Nat) (sp : Sp) (gV : List V → List V → List V) (E : XK) (ta : TE) (tk : TA) : TE := fun σ H Q => ta σ H fun x H1 => ∃ a dx fs, x = .ref a ∧ H1 a = some (.ins C dx fs) ∧ fs.lookup m = none ∧
  tk σ H1 fun zs H2 => zs.length = n ∧ sp (gV [.ref a] zs) H2 Q E
section
variable {X : Cx} {CX : CXT} {k : Nat} {f C : Addr} {fd : FuncData} {ps ks : List Str} {sp : Sp} {E : XK} {x m : Str} {p pos apos : Pos} {o : Expr} {kws : List Keyword} {ta : TE} {tk : TA} {g : List Value → List Value → List Value} {gV : List V → List V → List V}
theorem pe_methN0 {pl : Sem Bool} (he : PE X o ta) (c : Cls X.K C) (hm : Meth X.K C m f) (F : FnOk X.prog X.w X.K X.mg X.base CX k f fd ps sp) (hr : Room k X.A) (hb : KBn X.K fd ps 1 ks g gV) (hx : Passes CX X E) (hkw : PK X kws tk)
    (hall : (backToKw pos (keywordEach kws X.env)).all (·.1.isSome) = true := by rfl) (hks : (backToKw pos (keywordEach kws X.env)).filterMap (·.1) = ks := by rfl)
    (hpl : ((backTo pos (starEach [] X.env)).any (·.1) || (backToKw pos (keywordEach kws X.env)).any (·.1.isNone)) = false := by rfl)
    (ht : eval (.Call (.Attribute o m apos) [] kws pos) X.env = (do
      let ov ← eval o X.env
      standAt apos.atName
      let (f, first) ← holding [ov] (getMethod ov m pl)
      callWith pos f first (backTo pos (starEach [] X.env)) (backToKw pos (keywordEach kws X.env))) := by rfl) :
    PE X (.Call (.Attribute o m apos) [] kws pos) (tMethN0 C m ks.length sp gV E ta tk) := by
  refine ⟨fun pins s σ H Q I h => ?_⟩
  refine PySem.W.methodCall_KW (pl := pl) (thn (he.run pins s σ H _ I h) fun u s1 ⟨x, H1, I1, rx, a, dx, fs, ex, ea, l, q⟩ => ?_) ht
  subst ex
  obtain rfl : u = Value.ref a := rx
  refine getmeth_ok I1 ea c hm l ?_
  refine PySem.W.callWith_KW0 (first := [.ref a]) (h₀ := X.base) I.ok.mod.kin hm.kp hall ?_ hpl
  refine thn (hkw.run pos pins s1 σ H1 _ I1 q) fun ws s2 ⟨zs, H2, I2, rz, l2, q2⟩ => ⟨I2.kIn, ?_⟩
  rw [hks]
  exact run_fnN (us := [.ref a]) (vs := [.ref a]) F hr hb hx I2 (.cons rfl .nil) rz rfl l2 q2
end
section
variable {K : PySem.W.Frag} {H : Hp} {σ : L2.St} {ta : TE} {t tk : TA} {sp : Sp} {gV : List V → List V → List V} {E : XK} {P : V → Hp → Prop} {n m : Nat}
theorem ep_methN0 {C a dx : Addr} {fs : List (Str × V)} {mm : Str} {zs : List V} (ha : Ev ta σ H (.ref a)) (ho : H a = some (.ins C dx fs)) (hl : fs.lookup mm = none) (hk : EvA tk σ H zs) (lz : zs.length = n) (hs : ∀ H1, Ex H H1 → ∀ Q : VK, (∀ v H', P v H' → Q v H') → sp (gV [.ref a] zs) H1 Q E) : EvP (tMethN0 C mm n sp gV E ta tk) σ H P := fun Q q =>
  ha H (Ex.refl H) _ fun H1 e1 => ⟨a, dx, fs, rfl, e1 _ _ ho, hl, hk H1 e1 _ fun H2 e2 => ⟨lz, hs H2 (e1.trans e2) Q q⟩⟩
theorem ep_callN {vs zs : List V} (h1 : EvA t σ H vs) (h2 : EvA tk σ H zs) (l1 : vs.length = n) (l2 : zs.length = m) (hs : ∀ H1, Ex H H1 → ∀ Q : VK, (∀ v H', P v H' → Q v H') → sp (gV vs zs) H1 Q E) : EvP (tCallN n m sp gV E t tk) σ H P := fun Q q =>
  h1 H (Ex.refl H) _ fun H1 e1 => h2 H1 e1 _ fun H2 e2 => ⟨l1, l2, hs H2 (e1.trans e2) Q q⟩
theorem ed_callN {d : PyData} {vs zs : List V} (h1 : EvA t σ H vs) (h2 : EvA tk σ H zs) (l1 : vs.length = n) (l2 : zs.length = m) (hs : ∀ H1, Ex H H1 → ∀ Q : VK, RetD K d H1 Q → sp (gV vs zs) H1 Q E) : EvD K (tCallN n m sp gV E t tk) σ H d := fun H0 e Q q =>
  h1 H0 e _ fun H1 e1 => h2 H1 (e.trans e1) _ fun H2 e2 => ⟨l1, l2, hs H2 ((e.trans e1).trans e2) Q fun v H3 e3 hv => q v H3 ((e1.trans e2).trans e3) hv⟩
theorem eld_lst1 {d : PyData} {te : TE} (h : EvD K te σ H d) : EvLD K (tLst (tCons te tNil)) σ H [d] := fun H1 e Q q => h H1 e _ fun v H2 e2 hv => ⟨sz_of (n := 1) (by decide), fun p hp => q p [v] _ (fresh_back e2 hp) (e2.trans (Ex.new hp)) upd_same (.cons (hv.ex (Ex.new hp)) .nil)⟩
theorem ep_ofD {d : PyData} {te : TE} (h : EvD K te σ H d) : EvP te σ H (fun v H' => Ex H H' ∧ Dp K H' v d) := fun Q q => h H (Ex.refl H) Q fun v H2 e2 hv => q v H2 ⟨e2, hv⟩
theorem RM.outP {C CN : Addr} {F : Hp} {A : AM} {im nums : List Int} {s : MS} {p : Addr} {o : HO} (h : RM K C CN F H A im nums s) (hF : F p = none) (hp : p ∉ A.L) : RM K C CN F (upd H p o) A im nums s := by
  have hne : ∀ c ∈ A.L, c ≠ p := fun c m z => hp (by rw [← z]; exact m)
  have u : ∀ c ∈ A.L, (upd H p o) c = H c := fun c m => upd_ne (hne c m)
  exact { h with fr := h.fr.mut hF, ox := by rw [u _ (by simp [AM.L])]; exact h.ox, os := by rw [u _ (by simp [AM.L])]; exact h.os, od := by rw [u _ (by simp [AM.L])]; exact h.od, ob := by rw [u _ (by simp [AM.L])]; exact h.ob, oo := by rw [u _ (by simp [AM.L])]; exact h.oo }
theorem RM.notL {C CN : Addr} {F : Hp} {A : AM} {im nums : List Int} {s : MS} {p : Addr} (h : RM K C CN F H A im nums s) (hp : H p = none) : p ∉ A.L := fun m => by
  obtain ⟨o, ho, _⟩ := h.noT p m
  rw [hp] at ho
  cases ho
theorem q_whileP {c : TT} {tu tz : TS} {D : Ends} (W : Nat → L2.St → Hp → Prop) (m0 : Nat) (h0 : W m0 σ H) (turn : ∀ m σ H, W m σ H → c σ H fun b H1 => if b = true then ∃ N : L2.St → Hp → Prop, (∀ σ' H', N σ' H' → ∃ m', m' < m ∧ W m' σ' H') ∧ tu { D with nx := N, ct := N, bk := tz D } σ H1 else tz D σ H1) : tSeq (tWhile c tu) tz D σ H := ⟨W, ⟨m0, h0⟩, turn⟩
end
end Gd

set_option Elab.async false
set_option linter.all false
set_option maxRecDepth 100000
set_option maxHeartbeats 4000000
/-! Of our own: whole runs; a state and its plain form step alike. -/
namespace Gd
open PySem PySem.Spec PyProof.Rows L2 Evl
def lk (sd : List (Int × Int)) (k : Int) : Int := (getI sd k).getD 0
def KN (sd : List (Int × Int)) : Prop := (sd.map (·.1)).Nodup
theorem getI_none : ∀ {sd : List (Int × Int)} {k : Int}, k ∉ sd.map (·.1) → getI sd k = none
  | [], _, _ => rfl
  | p :: r, k, h => by
    rw [List.map_cons, List.mem_cons, not_or] at h
    unfold getI
    rw [if_neg (fun z => h.1 z.symm)]
    exact getI_none h.2
theorem lk_mem {sd : List (Int × Int)} {k : Int} (h : lk sd k ≠ 0) : k ∈ sd.map (·.1) := by
  by_cases m : k ∈ sd.map (·.1)
  · exact m
  · unfold lk at h
    rw [getI_none m] at h
    exact absurd rfl h
theorem lk_put (sd : List (Int × Int)) (k j v : Int) : lk (putI sd k v) j = if j = k then v else lk sd j := by
  unfold lk
  rw [getI_put]
  split <;> rfl
theorem put_keys (sd : List (Int × Int)) (k v : Int) : (putI sd k v).map (·.1) = if k ∈ sd.map (·.1) then sd.map (·.1) else sd.map (·.1) ++ [k] := by
  have ha : (sd.any fun p => decide (p.1 = k)) = decide (k ∈ sd.map (·.1)) := by
    induction sd with
    | nil => rfl
    | cons p r ih =>
      rw [List.any_cons, ih]
      by_cases e : p.1 = k
      · subst e; simp
      · rw [decide_eq_false e, Bool.false_or]
        refine decide_eq_decide.mpr ?_
        rw [List.map_cons, List.mem_cons]
        exact ⟨.inr, fun h => h.resolve_left fun z => e z.symm⟩
  unfold putI
  rw [ha]
  by_cases m : k ∈ sd.map (·.1)
  · rw [if_pos (decide_eq_true m), if_pos m, List.map_map]
    congr 1
    funext p
    show (if p.1 = k then (p.1, v) else p).1 = p.1
    split <;> rfl
  · rw [if_neg (by simpa using m), if_neg m, List.map_append]
    rfl
theorem KN.put {sd : List (Int × Int)} (h : KN sd) (k v : Int) : KN (putI sd k v) := by
  unfold KN
  rw [put_keys]
  split
  · exact h
  · rename_i m
    exact List.nodup_append.mpr ⟨h, (by simp), fun a ha b hb e => m (by rw [← List.mem_singleton.mp hb, ← e]; exact ha)⟩
theorem KN.nil : KN [] := List.nodup_nil
theorem KN.fold {pr : List (Int × Int)} : ∀ {sd : List (Int × Int)}, KN sd → KN (pr.foldl (fun sd q => putI sd q.1 q.2) sd) := by
  induction pr with
  | nil => intro sd h; exact h
  | cons q r ih => intro sd h; exact ih (h.put q.1 q.2)
/-- the addresses that are not 0, in order -/
def nz (sd : List (Int × Int)) : List Int := (srt (sd.map (·.1))).filter fun k => decide (lk sd k ≠ 0)
theorem pairs_nz (sd : List (Int × Int)) : Gd.pairsOf sd = (nz sd).map fun k => (k, lk sd k) := rfl
theorem mem_nz {sd : List (Int × Int)} {k : Int} : k ∈ nz sd ↔ lk sd k ≠ 0 := by
  unfold nz
  rw [List.mem_filter]
  constructor
  · intro h
    exact of_decide_eq_true h.2
  · intro h
    exact ⟨(srt_perm _).mem_iff.mpr (lk_mem h), decide_eq_true h⟩
theorem nz_eq {sd sd' : List (Int × Int)} (h : KN sd) (h' : KN sd') (e : ∀ k, lk sd k = lk sd' k) : nz sd = nz sd' := by
  have n1 : (nz sd).Nodup := ((srt_perm _).nodup_iff.mpr h).filter _
  have n2 : (nz sd').Nodup := ((srt_perm _).nodup_iff.mpr h').filter _
  have p : (nz sd).Perm (nz sd') := (List.perm_ext_iff_of_nodup n1 n2).mpr fun k => by rw [mem_nz, mem_nz, e]
  exact PySem.W.ksm_same p ((srt_sorted _).filter _) ((srt_sorted _).filter _)
theorem pairs_eq {sd sd' : List (Int × Int)} (h : KN sd) (h' : KN sd') (e : ∀ k, lk sd k = lk sd' k) : Gd.pairsOf sd = Gd.pairsOf sd' := by
  rw [pairs_nz, pairs_nz, nz_eq h h' e]
  congr 1
  funext k
  rw [e]
theorem get_fold (L : List Int) (f : Int → Int) (j : Int) : ∀ sd : List (Int × Int), getI ((L.map fun k => (k, f k)).foldl (fun sd q => putI sd q.1 q.2) sd) j = if j ∈ L then some (f j) else getI sd j := by
  induction L with
  | nil => intro sd; rfl
  | cons x r ih =>
    intro sd
    rw [List.map_cons, List.foldl_cons, ih, getI_put]
    by_cases m : j ∈ r
    · rw [if_pos m, if_pos (List.mem_cons_of_mem _ m)]
    · rw [if_neg m]
      by_cases e : j = x
      · subst e
        rw [if_pos rfl, if_pos List.mem_cons_self]
      · rw [if_neg e, if_neg (fun z => (List.mem_cons.mp z).elim e m)]
theorem lk_back (sd : List (Int × Int)) (j : Int) : lk (stoF (Gd.pairsOf sd)) j = lk sd j := by
  have h := get_fold (nz sd) (fun k => lk sd k) j []
  unfold lk at h ⊢
  unfold stoF
  rw [pairs_nz]
  show (getI (List.foldl _ [] ((nz sd).map fun k => (k, (getI sd k).getD 0))) j).getD 0 = _
  rw [h]
  by_cases m : j ∈ nz sd
  · rw [if_pos m]; rfl
  · rw [if_neg m]
    have := fun z => m (mem_nz.mpr z)
    unfold lk at this
    show 0 = _
    by_cases z : (getI sd j).getD 0 = 0
    · exact z.symm
    · exact absurd z this
/-- alike: the same but for the order and the zeros of the store -/
structure Al (s t : MS) : Prop where
  a : s.a = t.a
  st : s.st = t.st
  bk : s.bk = t.bk
  p : s.p = t.p
  ou : s.ou = t.ou
  lk : ∀ k, lk s.sd k = lk t.sd k
theorem lsT_al {op arg : Int} {st : List Int} {sd sd' : List (Int × Int)} (h : ∀ k, lk sd k = lk sd' k) : (lsT op arg st sd).1 = (lsT op arg st sd').1 ∧ ∀ k, lk (lsT op arg st sd).2 k = lk (lsT op arg st sd').2 k := by
  have h' : ∀ k, (getI sd k).getD 0 = (getI sd' k).getD 0 := h
  unfold lsT
  repeat' split
  · exact ⟨by rw [h'], h⟩
  · exact ⟨rfl, fun k => by show lk (putI _ _ _) k = lk (putI _ _ _) k; rw [lk_put, lk_put, h]⟩
  · exact ⟨rfl, fun k => by show lk (putI _ _ _) k = lk (putI _ _ _) k; rw [lk_put, lk_put, h]⟩
  · exact ⟨by rw [h'], h⟩
  · exact ⟨rfl, h⟩
theorem lawM_al {im nums : List Int} {n : Nd} {s t : MS} (h : Al s t) : Al (lawM im nums n s) (lawM im nums n t) := by
  obtain ⟨h1, h2, h3, h4, h5, h6⟩ := h
  have g := lsT_al (op := n.1) (arg := n.2.1) (st := lsS n.1 n.2.1 t.st) h6
  unfold lawM
  rw [h2, h3, h4, h5]
  dsimp only
  rw [g.1]
  exact ⟨rfl, rfl, rfl, rfl, rfl, g.2⟩
theorem lsT_kn {op arg : Int} {st : List Int} {sd : List (Int × Int)} (h : KN sd) : KN (lsT op arg st sd).2 := by
  unfold lsT
  repeat' split
  · exact h
  · exact h.put _ _
  · exact h.put _ _
  · exact h
  · exact h
theorem stepM_law {im nums : List Int} {s : MS} : stepM im nums s = (nodeAt im s.a).map fun n => lawM im nums n (goM s n) := by
  unfold stepM
  congr 1
  funext n
  exact law_perf im nums n (goM s n) rfl
theorem step_kn {im nums : List Int} {s s' : MS} (h : KN s.sd) (e : stepM im nums s = some s') : KN s'.sd := by
  rw [stepM_law] at e
  cases q : nodeAt im s.a with
  | none => rw [q] at e; cases e
  | some n =>
    rw [q] at e
    have e : lawM im nums n (goM s n) = s' := Option.some.inj e
    rw [← e]
    exact lsT_kn h
theorem step_p {im nums : List Int} {s s' : MS} (h : 0 ≤ s.p) (e : stepM im nums s = some s') : 0 ≤ s'.p := by
  rw [stepM_law] at e
  cases q : nodeAt im s.a with
  | none => rw [q] at e; cases e
  | some n =>
    rw [q] at e
    have e : lawM im nums n (goM s n) = s' := Option.some.inj e
    rw [← e]
    show 0 ≤ (lsP im nums n.1 _ s.p s.ou).2.1
    unfold lsP
    repeat' split
    all_goals first | exact h | (show 0 ≤ s.p + 1; omega) | exact Int.le_refl 0
theorem step_n {im nums : List Int} {s s' : MS} (e : stepM im nums s = some s') : s'.n = s.n + 1 := by
  rw [stepM_law] at e
  cases q : nodeAt im s.a with
  | none => rw [q] at e; cases e
  | some n =>
    rw [q] at e
    have e : lawM im nums n (goM s n) = s' := Option.some.inj e
    rw [← e]
    rfl
theorem Al.step {im nums : List Int} {s t : MS} (h : Al s t) (ks : KN s.sd) (kt : KN t.sd) : (stepM im nums s).map plainM = (stepM im nums t).map plainM := by
  rw [stepM_law, stepM_law, h.a]
  cases q : nodeAt im t.a with
  | none => rfl
  | some n =>
    have g := lawM_al (im := im) (nums := nums) (n := n) (s := goM s n) (t := goM t n) ⟨rfl, h.st, h.bk, h.p, h.ou, h.lk⟩
    show some (plainM _) = some (plainM _)
    unfold plainM
    rw [g.a, g.st, g.bk, g.p, g.ou]
    have e := pairs_eq (sd := (lawM im nums n (goM s n)).sd) (sd' := (lawM im nums n (goM t n)).sd) (lsT_kn ks) (lsT_kn kt) g.lk
    rw [e]
theorem lstep_plain {im nums : List Int} {s : MS} (h : KN s.sd) : lstepM im nums (plainM s) = (stepM im nums s).map plainM := by
  unfold lstepM
  exact Al.step ⟨rfl, rfl, rfl, rfl, rfl, fun k => lk_back s.sd k⟩ (KN.fold KN.nil) h
/-! ### whole runs -/
def advM (im nums : List Int) (s : MS) : Nat → MS × Nat
  | 0 => (s, 0)
  | n + 1 => if (advM im nums s n).2 = n then (match stepM im nums (advM im nums s n).1 with
      | none => advM im nums s n
      | some t => (t, n + 1)) else advM im nums s n
section
variable {im nums : List Int} {s : MS}
theorem adv_step {i : Nat} {t t' : MS} (h : advM im nums s i = (t, i)) (e : stepM im nums t = some t') : advM im nums s (i + 1) = (t', i + 1) := by
  rw [advM, h]
  dsimp only
  rw [if_pos rfl, e]
theorem adv_stop {i : Nat} {t : MS} (h : advM im nums s i = (t, i)) (e : stepM im nums t = none) : ∀ j, advM im nums s (i + j) = (t, i)
  | 0 => h
  | j + 1 => by
    have ih := adv_stop h e j
    show advM im nums s (i + j + 1) = _
    rw [advM, ih]
    dsimp only
    split
    · rw [e]
    · rfl
theorem adv_inv : ∀ n : Nat, (advM im nums s n).2 ≤ n ∧ advM im nums s (advM im nums s n).2 = advM im nums s n ∧ ((advM im nums s n).2 < n → stepM im nums (advM im nums s n).1 = none)
  | 0 => ⟨Nat.le_refl _, rfl, fun h => absurd h (Nat.not_lt_zero _)⟩
  | n + 1 => by
    obtain ⟨h1, h2, h3⟩ := adv_inv n
    by_cases e : (advM im nums s n).2 = n
    · cases q : stepM im nums (advM im nums s n).1 with
      | none =>
        have : advM im nums s (n + 1) = advM im nums s n := by rw [advM, if_pos e, q]
        rw [this]
        exact ⟨by omega, h2, fun _ => q⟩
      | some t =>
        have : advM im nums s (n + 1) = (t, n + 1) := by rw [advM, if_pos e, q]
        rw [this]
        exact ⟨Nat.le_refl _, this, fun h => absurd h (Nat.lt_irrefl _)⟩
    · have : advM im nums s (n + 1) = advM im nums s n := by rw [advM, if_neg e]
      rw [this]
      exact ⟨by omega, h2, fun _ => h3 (by omega)⟩
theorem adv_end {n : Nat} (e : stepM im nums (advM im nums s n).1 = none) (j : Nat) : advM im nums s (n + j) = advM im nums s n := by
  obtain ⟨h1, h2, _⟩ := adv_inv (im := im) (nums := nums) (s := s) n
  have := adv_stop (i := (advM im nums s n).2) (t := (advM im nums s n).1) h2 e (n - (advM im nums s n).2 + j)
  rw [show (advM im nums s n).2 + (n - (advM im nums s n).2 + j) = n + j by omega] at this
  exact this
theorem adv_full {n i : Nat} (h : i ≤ (advM im nums s n).2) : (advM im nums s i).2 = i := by
  obtain ⟨h1, h2, h3⟩ := adv_inv (im := im) (nums := nums) (s := s) i
  by_cases e : (advM im nums s i).2 = i
  · exact e
  · have hz := h3 (by omega)
    obtain ⟨g1, _, _⟩ := adv_inv (im := im) (nums := nums) (s := s) n
    have := adv_end hz (n - i)
    rw [show i + (n - i) = n by omega] at this
    rw [this] at h
    omega
theorem adv_le {n i : Nat} (h : i ≤ n) : advM im nums s i = advM im nums s (min i (advM im nums s n).2) := by
  obtain ⟨h1, h2, h3⟩ := adv_inv (im := im) (nums := nums) (s := s) n
  by_cases c : i ≤ (advM im nums s n).2
  · rw [Nat.min_eq_left c]
  · rw [Nat.min_eq_right (by omega)]
    have hz := h3 (by omega)
    rw [← h2] at hz
    have := adv_end hz (i - (advM im nums s n).2)
    rw [show (advM im nums s n).2 + (i - (advM im nums s n).2) = i by omega] at this
    exact this
/-- an invariant of the steps -/
theorem adv_keep {P : Nat → MS → Prop} (h0 : P 0 s) (hs : ∀ i t t', P i t → stepM im nums t = some t' → P (i + 1) t') : ∀ n : Nat, P (advM im nums s n).2 (advM im nums s n).1
  | 0 => h0
  | n + 1 => by
    have ih := adv_keep h0 hs n
    by_cases e : (advM im nums s n).2 = n
    · cases q : stepM im nums (advM im nums s n).1 with
      | none =>
        have : advM im nums s (n + 1) = advM im nums s n := by rw [advM, if_pos e, q]
        rw [this]
        exact ih
      | some t =>
        have : advM im nums s (n + 1) = (t, n + 1) := by rw [advM, if_pos e, q]
        rw [this]
        rw [e] at ih
        exact hs n _ t ih q
    · have : advM im nums s (n + 1) = advM im nums s n := by rw [advM, if_neg e]
      rw [this]
      exact ih
end
theorem adv_n {im nums : List Int} {s : MS} (n : Nat) : (advM im nums s n).1.n = s.n + ((advM im nums s n).2 : Int) :=
  adv_keep (P := fun i t => t.n = s.n + (i : Int)) (by simp) (fun i t t' h e => by rw [step_n e, h]; omega) n
theorem adv_kn {im nums : List Int} {s : MS} (h : KN s.sd) (n : Nat) : KN (advM im nums s n).1.sd := adv_keep (P := fun _ t => KN t.sd) h (fun _ _ _ h e => step_kn h e) n
theorem adv_p {im nums : List Int} {s : MS} (h : 0 ≤ s.p) (n : Nat) : 0 ≤ (advM im nums s n).1.p := adv_keep (P := fun _ t => 0 ≤ t.p) h (fun _ _ _ h e => step_p h e) n
theorem adv_sz {im nums : List Int} {s : MS} {B : Nat} (h : Sz B s) (n : Nat) : Sz (B + 3 * (advM im nums s n).2) (advM im nums s n).1 := adv_keep (P := fun i t => Sz (B + 3 * i) t) (by simpa using h) (fun i t t' h e => (stepM_sz h e).mono (by omega)) n
theorem adv_sd {im nums : List Int} {s : MS} (n : Nat) : (advM im nums s n).1.sd.length ≤ s.sd.length + (advM im nums s n).2 := adv_keep (P := fun i t => t.sd.length ≤ s.sd.length + i) (by simp) (fun i t t' h e => by have := sd_step e; omega) n
theorem adv_bd {im nums : List Int} {s : MS} {B : Nat} (h1 : 1 ≤ B) (hi : ∀ x ∈ im, x.natAbs ≤ B) (hq : ∀ x ∈ nums, x.natAbs ≤ B) (h : Bd B s) (n : Nat) : Bd (B * 12 ^ (advM im nums s n).2) (advM im nums s n).1 :=
  adv_keep (P := fun i t => Bd (B * 12 ^ i) t) (by simpa using h) (fun i t t' h e => by
    have hp : 1 ≤ 12 ^ i := Nat.one_le_pow _ _ (by decide)
    have hb : B ≤ B * 12 ^ i := Nat.le_mul_of_pos_right B hp
    have hb1 : 1 ≤ B * 12 ^ i := Nat.le_trans h1 hb
    have := stepM_bd (B := B * 12 ^ i) hb1 (up_bd hi hb) (up_bd hq hb) h e
    have e2 : 11 * (B * 12 ^ i) + 1 ≤ B * 12 ^ (i + 1) := by
      have e3 : B * 12 ^ (i + 1) = B * 12 ^ i * 12 := by rw [Nat.pow_succ, Nat.mul_assoc]
      rw [e3]
      generalize B * 12 ^ i = z at *
      omega
    exact ⟨up_bd this.st e2, fun q m => ⟨Nat.le_trans (this.sd q m).1 e2, Nat.le_trans (this.sd q m).2 e2⟩, up_bd this.bk e2, up_bd this.ou e2, Nat.le_trans this.a e2, Nat.le_trans this.p e2⟩) n
/-- the states of a run, in plain form -/
def stD (im nums : List Int) (s : MS) (i : Nat) : PyData := plainD (plainM (advM im nums s i).1)
def stL (im nums : List Int) (s : MS) (k : Nat) : List PyData := (List.range (k + 1)).map (stD im nums s)
theorem stL_succ (im nums : List Int) (s : MS) (k : Nat) : stL im nums s (k + 1) = stL im nums s k ++ [stD im nums s (k + 1)] := by
  unfold stL
  rw [List.range_succ, List.map_append]
  rfl
theorem stL_len (im nums : List Int) (s : MS) (k : Nat) : (stL im nums s k).length = k + 1 := by unfold stL; rw [List.length_map, List.length_range]
theorem stL_at {im nums : List Int} {s : MS} {k i : Nat} (h : i ≤ k) : (stL im nums s k)[i]? = some (stD im nums s i) := by
  unfold stL
  rw [List.getElem?_map, List.getElem?_range (by omega)]
  rfl
theorem stL_tup (im nums : List Int) (s : MS) (k : Nat) : tupOs (stL im nums s k) = true := tupOs_at fun d m => by
  obtain ⟨i, _, rfl⟩ := List.mem_map.mp m
  exact plainD_tup _
end Gd

set_option Elab.async false
set_option linter.all false
set_option maxRecDepth 100000
set_option maxHeartbeats 4000000
/-! Of our own: runs and their states may be shown. -/
namespace Gd
open PySem PySem.Spec PyProof.Rows L2 Evl
theorem bulkAll_le {M : Nat} : ∀ {ds : List PyData}, (∀ d ∈ ds, d.bulk ≤ M) → PyData.bulkAll ds ≤ ds.length * (M + 1)
  | [], _ => by simp [PyData.bulkAll]
  | d :: r, h => by
    have ih := bulkAll_le (M := M) (ds := r) fun x m => h x (List.mem_cons_of_mem _ m)
    have h1 := h d List.mem_cons_self
    rw [PyData.bulkAll, List.length_cons, Nat.add_mul]
    omega
theorem depthAll_le {M : Nat} : ∀ {ds : List PyData}, (∀ d ∈ ds, d.depth ≤ M) → PyData.depthAll ds ≤ M
  | [], _ => by simp [PyData.depthAll]
  | d :: r, h => by
    have ih := depthAll_le (M := M) (ds := r) fun x m => h x (List.mem_cons_of_mem _ m)
    have h1 := h d List.mem_cons_self
    rw [PyData.depthAll]
    omega
theorem smDs_all : ∀ {ds : List PyData}, (∀ d ∈ ds, smD d = true) → smDs ds = true
  | [], _ => by simp [smDs]
  | d :: r, h => by rw [smDs, h d List.mem_cons_self, smDs_all fun x m => h x (List.mem_cons_of_mem _ m)]; rfl
theorem pow12 {i : Nat} (h : i ≤ 62) : 1000 * 12 ^ i < 10 ^ 100 := Nat.lt_of_le_of_lt (Nat.mul_le_mul_left 1000 (Nat.pow_le_pow_right (by decide) h)) (by decide)
section
variable {im nums : List Int} {i : Nat}
theorem bd0 : Bd 1000 ms0 := ⟨(fun x m => nomatch m), (fun x m => nomatch m), (fun x m => nomatch m), (fun x m => nomatch m), Nat.zero_le _, Nat.zero_le _⟩
theorem adv_small (hi : ∀ x ∈ im, x.natAbs ≤ 1000) (hq : ∀ x ∈ nums, x.natAbs ≤ 1000) (h : i ≤ 62) : ∃ B, B < 10 ^ 100 ∧ Bd B (advM im nums ms0 i).1 := by
  have h1 := (adv_inv (im := im) (nums := nums) (s := ms0) i).1
  exact ⟨_, pow12 (i := (advM im nums ms0 i).2) (by omega), adv_bd (by decide) hi hq bd0 i⟩
theorem adv_sizes (h : i ≤ 62) : (advM im nums ms0 i).1.st.length ≤ 186 ∧ (advM im nums ms0 i).1.sd.length ≤ 62 ∧ (advM im nums ms0 i).1.bk.length ≤ 186 ∧ (advM im nums ms0 i).1.ou.length ≤ 186 := by
  have h1 := (adv_inv (im := im) (nums := nums) (s := ms0) i).1
  have hz := adv_sz (im := im) (nums := nums) (s := ms0) (B := 0) ⟨Nat.zero_le _, Nat.zero_le _, Nat.zero_le _, Nat.zero_le _⟩ i
  have g1 := hz.st
  have g3 := hz.bk
  have g4 := hz.ou
  have h2 := adv_sd (im := im) (nums := nums) (s := ms0) i
  have : ms0.sd.length = 0 := rfl
  exact ⟨by omega, by omega, by omega, by omega⟩
theorem st_sm (hi : ∀ x ∈ im, x.natAbs ≤ 1000) (hq : ∀ x ∈ nums, x.natAbs ≤ 1000) (h : i ≤ 62) : smD (stD im nums ms0 i) = true := by
  obtain ⟨B, hB, hb⟩ := adv_small hi hq h
  exact sm_plain hb.plain hB
theorem st_bulk (h : i ≤ 62) : (stD im nums ms0 i).bulk ≤ 750 := by
  have hs := adv_sizes (im := im) (nums := nums) h
  have hp := pairsOf_len (advM im nums ms0 i).1.sd
  have e := bulk_plain (plainM (advM im nums ms0 i).1)
  unfold stD
  rw [e]
  show (advM im nums ms0 i).1.st.length + 3 * (Gd.pairsOf (advM im nums ms0 i).1.sd).length + (advM im nums ms0 i).1.bk.length + (advM im nums ms0 i).1.ou.length + 6 ≤ 750
  omega
theorem nice_st (hi : ∀ x ∈ im, x.natAbs ≤ 1000) (hq : ∀ x ∈ nums, x.natAbs ≤ 1000) (h : i ≤ 62) : Nice (stD im nums ms0 i) :=
  nice_sm (st_sm hi hq h) (Nat.le_trans (depth_plain _) (by decide)) (Nat.le_trans (st_bulk h) (by decide))
theorem nice_stL (hi : ∀ x ∈ im, x.natAbs ≤ 1000) (hq : ∀ x ∈ nums, x.natAbs ≤ 1000) (h : i ≤ 62) : Nice (.list (stL im nums ms0 i)) := by
  have hm : ∀ d ∈ stL im nums ms0 i, ∃ j, j ≤ 62 ∧ d = stD im nums ms0 j := fun d m => by
    obtain ⟨j, hj, rfl⟩ := List.mem_map.mp m
    have := List.mem_range.mp hj
    exact ⟨j, by omega, rfl⟩
  refine nice_sm ?_ ?_ ?_
  · rw [smD]
    exact smDs_all fun d m => by
      obtain ⟨j, hj, rfl⟩ := hm d m
      exact st_sm hi hq hj
  · rw [PyData.depth]
    have := depthAll_le (M := 3) (ds := stL im nums ms0 i) fun d m => by
      obtain ⟨j, hj, rfl⟩ := hm d m
      exact depth_plain _
    omega
  · rw [PyData.bulk]
    have := bulkAll_le (M := 750) (ds := stL im nums ms0 i) fun d m => by
      obtain ⟨j, hj, rfl⟩ := hm d m
      exact st_bulk hj
    rw [stL_len] at this
    have h2 : (i + 1) * (750 + 1) ≤ 63 * 751 := Nat.mul_le_mul_right _ (by omega)
    omega
theorem nice_list {ns : List Int} (h : ∀ x ∈ ns, x.natAbs < 10 ^ 100) (hl : ns.length ≤ 90000) : Nice (.list (ns.map PyData.int)) :=
  nice_sm (by rw [smD]; exact smDs_ints h) (by rw [PyData.depth, depth_ints]; decide) (by rw [PyData.bulk, bulk_ints]; omega)
end
section
variable {K : PySem.W.Frag} {H : Hp} {σ : L2.St} {te ta tb : TE} {o : Option PS}
/-- .. is None -/
theorem ev_isNoneD (h : EvD K te σ H (optD o)) : Ev (tOp (fun x y H Q => y = .non ∧ Q (.bl (decide (x = .non))) H) te (tC .non)) σ H (.bl o.isNone) := fun H1 e Q q =>
  h H1 e _ fun v H2 e2 hv => by
    refine ⟨rfl, ?_⟩
    have : decide (v = .non) = o.isNone := by
      cases o with
      | none =>
        have hv : Dp K H2 v .none := hv
        cases hv
        rfl
      | some t =>
        have hv : Dp K H2 v (plainD t) := hv
        obtain ⟨r, zs, rfl, _⟩ := dp_tup_inv hv
        rfl
    rw [this]
    exact q H2 e2
end
theorem step_none {im nums : List Int} {s : MS} : (stepM im nums s).isNone = (nodeAt im s.a).isNone := by
  unfold stepM
  cases nodeAt im s.a <;> rfl
end Gd

set_option Elab.async false
set_option linter.all false
set_option maxRecDepth 100000
set_option maxHeartbeats 4000000
/-! Of our own: calls with keywords that may raise. -/
namespace Gd
open PySem PySem.Spec PyProof.Rows L2 Evl
def tCallNS (n m : Nat) (sp : Sp) (gV : List V → List V → List V) (E : L2.St → XK) (t tk : TA) : TE := fun σ H Q => t σ H fun vs H1 => tk σ H1 fun zs H2 => vs.length = n ∧ zs.length = m ∧ sp (gV vs zs) H2 Q (E σ)
def tMethN0S (C : Addr) (m : Str) (n : Nat) (sp : Sp) (gV : List V → List V → List V) (E : L2.St → XK) (ta : TE) (tk : TA) : TE := fun σ H Q => ta σ H fun x H1 => ∃ a dx fs, x = .ref a ∧ H1 a = some (.ins C dx fs) ∧ fs.lookup m = none ∧
  tk σ H1 fun zs H2 => zs.length = n ∧ sp (gV [.ref a] zs) H2 Q (E σ)
section
variable {X : Cx} {CX : CXT} {k n : Nat} {f C : Addr} {fd : FuncData} {ps ks : List Str} {sp : Sp} {E : L2.St → XK} {x m : Str} {p pos apos : Pos} {o e : Expr} {es : List Expr} {kws : List Keyword} {ta : TE} {t tk : TA} {g : List Value → List Value → List Value} {gV : List V → List V → List V}
theorem run_fnNS {pins : List (Addr × Obj)} {σ : L2.St} {H : Hp} {s : Shared} {Q : VK} {us ws : List Value} {vs zs : List V} (F : FnOk X.prog X.w X.K X.mg X.base CX k f fd ps sp) (hr : Room k X.A) (hb : KBn X.K fd ps n ks g gV) (hx : PassesAt CX X σ (E σ))
    (I : Inv X pins σ H s) (r : Vals vs us) (rz : Vals zs ws) (l1 : vs.length = n) (l2 : zs.length = ks.length) (h : sp (gV vs zs) H Q (E σ)) : wpAny (model X.prog X.w) X.A (call (.ref f) us (ks.zip ws)) (EP X pins σ Q) X.xe s := by
  have r2 := hb.rel r rz
  refine wpAny_call (codeAny_mono (F.run X.A X.stack s H ⟨us, ks.zip ws⟩ (g us ws) (gV vs zs) Q (E σ) hr I.env0 (hb.to s us ws I.kIn (r.length.symm.trans l1) (rz.length.symm.trans l2)) r2 h) fun r s' hq => ?_)
  cases r with
  | error e => exact hx pins H s e s' I hq
  | ok fl =>
    cases fl with
    | ret u => exact I.after hq
    | next => exact False.elim hq
    | brk => exact False.elim hq
    | cont => exact False.elim hq
theorem pe_callNS (F : FnOk X.prog X.w X.K X.mg X.base CX k f fd ps sp) (hr : Room k X.A) (hg : Gl X x) (hm : X.mg x = some (.ref f)) (hk : PySem.W.keepIn X.K (.ref f) = true) (hb : KBn X.K fd ps n ks g gV) (hx : ∀ σ, PassesAt CX X σ (E σ))
    (ha : PA X (e :: es) t) (hkw : PK X kws tk) (hall : (backToKw pos (keywordEach kws X.env)).all (·.1.isSome) = true := by rfl) (hks : (backToKw pos (keywordEach kws X.env)).filterMap (·.1) = ks := by rfl)
    (hdb : (x == ("__debug__" : Str)) = false := by decide) (he : starEach (e :: es) X.env = (false, eval e X.env) :: starEach es X.env := by rfl)
    (hpl : ((backTo pos (starEach (e :: es) X.env)).any (·.1) || (backToKw pos (keywordEach kws X.env)).any (·.1.isNone)) = false := by rfl) :
    PE X (.Call (.Name x p) (e :: es) kws pos) (tCallNS n ks.length sp gV E t tk) := by
  refine ⟨fun pins s σ H Q I h => ?_⟩
  refine wpAny_Call_Name_kw (ld_glob I hg hm ?_ hdb)
  refine PySem.W.callWith_KW (h₀ := X.base) I.ok.mod.kin hk hall (thn (ha.run pos pins s σ H _ I h) fun us s1 ⟨vs, H1, I1, r, q⟩ => ?_) hpl he
  refine thn (hkw.run pos pins s1 σ H1 _ I1 q) fun ws s2 ⟨zs, H2, I2, rz, l1, l2, q2⟩ => ⟨I2.kIn, ?_⟩
  rw [hks]
  exact run_fnNS F hr hb (hx σ) I2 r rz l1 l2 q2
theorem pe_methN0S {pl : Sem Bool} (he : PE X o ta) (c : Cls X.K C) (hm : Meth X.K C m f) (F : FnOk X.prog X.w X.K X.mg X.base CX k f fd ps sp) (hr : Room k X.A) (hb : KBn X.K fd ps 1 ks g gV) (hx : ∀ σ, PassesAt CX X σ (E σ)) (hkw : PK X kws tk)
    (hall : (backToKw pos (keywordEach kws X.env)).all (·.1.isSome) = true := by rfl) (hks : (backToKw pos (keywordEach kws X.env)).filterMap (·.1) = ks := by rfl)
    (hpl : ((backTo pos (starEach [] X.env)).any (·.1) || (backToKw pos (keywordEach kws X.env)).any (·.1.isNone)) = false := by rfl)
    (ht : eval (.Call (.Attribute o m apos) [] kws pos) X.env = (do
      let ov ← eval o X.env
      standAt apos.atName
      let (f, first) ← holding [ov] (getMethod ov m pl)
      callWith pos f first (backTo pos (starEach [] X.env)) (backToKw pos (keywordEach kws X.env))) := by rfl) :
    PE X (.Call (.Attribute o m apos) [] kws pos) (tMethN0S C m ks.length sp gV E ta tk) := by
  refine ⟨fun pins s σ H Q I h => ?_⟩
  refine PySem.W.methodCall_KW (pl := pl) (thn (he.run pins s σ H _ I h) fun u s1 ⟨x, H1, I1, rx, a, dx, fs, ex, ea, l, q⟩ => ?_) ht
  subst ex
  obtain rfl : u = Value.ref a := rx
  refine getmeth_ok I1 ea c hm l ?_
  refine PySem.W.callWith_KW0 (first := [.ref a]) (h₀ := X.base) I.ok.mod.kin hm.kp hall ?_ hpl
  refine thn (hkw.run pos pins s1 σ H1 _ I1 q) fun ws s2 ⟨zs, H2, I2, rz, l2, q2⟩ => ⟨I2.kIn, ?_⟩
  rw [hks]
  exact run_fnNS (us := [.ref a]) (vs := [.ref a]) F hr hb (hx σ) I2 (.cons rfl .nil) rz rfl l2 q2
end
section
variable {K : PySem.W.Frag} {H : Hp} {σ : L2.St} {ta : TE} {t tk : TA} {sp : Sp} {gV : List V → List V → List V} {E : L2.St → XK} {P : V → Hp → Prop} {n m : Nat}
theorem ep_callS {vs : List V} (h : EvA t σ H vs) (hs : ∀ H1, Ex H H1 → ∀ Q : VK, (∀ v H', P v H' → Q v H') → sp vs H1 Q (E σ)) : EvP (tCallS sp E t) σ H P := fun Q q => h H (Ex.refl H) _ fun H1 e1 => hs H1 e1 Q q
theorem ep_callNS {vs zs : List V} (h1 : EvA t σ H vs) (h2 : EvA tk σ H zs) (l1 : vs.length = n) (l2 : zs.length = m) (hs : ∀ H1, Ex H H1 → ∀ Q : VK, (∀ v H', P v H' → Q v H') → sp (gV vs zs) H1 Q (E σ)) : EvP (tCallNS n m sp gV E t tk) σ H P := fun Q q =>
  h1 H (Ex.refl H) _ fun H1 e1 => h2 H1 e1 _ fun H2 e2 => ⟨l1, l2, hs H2 (e1.trans e2) Q q⟩
theorem ep_methN0S {C a dx : Addr} {fs : List (Str × V)} {mm : Str} {zs : List V} (ha : Ev ta σ H (.ref a)) (ho : H a = some (.ins C dx fs)) (hl : fs.lookup mm = none) (hk : EvA tk σ H zs) (lz : zs.length = n) (hs : ∀ H1, Ex H H1 → ∀ Q : VK, (∀ v H', P v H' → Q v H') → sp (gV [.ref a] zs) H1 Q (E σ)) : EvP (tMethN0S C mm n sp gV E ta tk) σ H P := fun Q q =>
  ha H (Ex.refl H) _ fun H1 e1 => ⟨a, dx, fs, rfl, e1 _ _ ho, hl, hk H1 e1 _ fun H2 e2 => ⟨lz, hs H2 (e1.trans e2) Q q⟩⟩
end
end Gd

set_option Elab.async false
set_option linter.all false
set_option maxRecDepth 100000
set_option maxHeartbeats 4000000
/-! Of our own: what a step changes, by its footprint. -/
namespace Gd
open PySem PySem.Spec PyProof.Rows L2 Evl
theorem tk0 (l : List Int) : l = l.take (l.length - 0) := by rw [Nat.sub_zero, List.take_length]
theorem tk1 (l : List Int) : l.dropLast = l.take (l.length - 1) := List.dropLast_eq_take
theorem tk2 (l : List Int) : l.dropLast.dropLast = l.take (l.length - 2) := by
  rw [List.dropLast_eq_take, List.length_dropLast, tk1, List.take_take]
  congr 1
  omega
/-- the stack behind a step: what is left, and what was pushed -/
def ysL (im nums : List Int) (n : Nd) (s : MS) : List Int :=
  if n.1 = 35 then [n.2.1]
  else if n.1 = 43 ∨ n.1 = 45 ∨ n.1 = 42 ∨ n.1 = 60 ∨ n.1 = 126 then [combI n.1 (tp s.st.dropLast) (tp s.st)]
  else if n.1 = 34 then [tp s.st, tp s.st]
  else if n.1 = 92 then [tp s.st, tp s.st.dropLast]
  else if n.1 = 64 then [lk s.sd (tp s.st)]
  else if n.1 = 44 then [if s.p < nums.length then (atI nums s.p).getD 0 else -1]
  else if n.1 = 38 then [cellAt im (tp s.st)]
  else if n.1 = 36 then (if canC im (tp s.st) = true then [] else [tp s.st])
  else if isSm n.1 = true then [lk s.sd n.1]
  else []
theorem law_st (im nums : List Int) (n : Nd) (s : MS) : (lawM im nums n s).st = s.st.take (s.st.length - (popL n.1).toNat) ++ ysL im nums n s ∧ ((ysL im nums n s).length : Int) = pushL im n.1 (tp s.st) := by
  obtain ⟨op, arg, su⟩ := n
  obtain ⟨a, st, sd, bk, p, ou, k⟩ := s
  have n0 : ∀ ys : List Int, ys = [] → ∀ l : List Int, l = l.take (l.length - 0) ++ ys := fun ys h l => by rw [h, List.append_nil]; exact tk0 l
  by_cases h35 : op = 35
  · subst h35; exact ⟨congrArg (· ++ [arg]) (tk0 st), rfl⟩
  by_cases h43 : op = 43
  · subst h43; exact ⟨congrArg (· ++ [combI 43 (tp st.dropLast) (tp st)]) (tk2 st), rfl⟩
  by_cases h45 : op = 45
  · subst h45; exact ⟨congrArg (· ++ [combI 45 (tp st.dropLast) (tp st)]) (tk2 st), rfl⟩
  by_cases h42 : op = 42
  · subst h42; exact ⟨congrArg (· ++ [combI 42 (tp st.dropLast) (tp st)]) (tk2 st), rfl⟩
  by_cases h60 : op = 60
  · subst h60; exact ⟨congrArg (· ++ [combI 60 (tp st.dropLast) (tp st)]) (tk2 st), rfl⟩
  by_cases h126 : op = 126
  · subst h126; exact ⟨congrArg (· ++ [combI 126 (tp st.dropLast) (tp st)]) (tk2 st), rfl⟩
  by_cases h64 : op = 64
  · subst h64; exact ⟨congrArg (· ++ [lk sd (tp st)]) (tk1 st), rfl⟩
  by_cases h33 : op = 33
  · subst h33; exact ⟨by show st.dropLast.dropLast = st.take (st.length - 2) ++ []; rw [List.append_nil]; exact tk2 st, rfl⟩
  by_cases h61 : op = 61
  · subst h61; exact ⟨by show st.dropLast = st.take (st.length - 1) ++ []; rw [List.append_nil]; exact tk1 st, rfl⟩
  by_cases h44 : op = 44
  · subst h44
    refine ⟨?_, rfl⟩
    show (lsP im nums 44 st p ou).1 = st.take (st.length - 0) ++ [if p < nums.length then (atI nums p).getD 0 else -1]
    unfold lsP
    rw [if_pos rfl]
    by_cases h : p < (nums.length : Int)
    · rw [if_pos h, if_pos h]; exact congrArg (· ++ [(atI nums p).getD 0]) (tk0 st)
    · rw [if_neg h, if_neg h]; exact congrArg (· ++ [-1]) (tk0 st)
  by_cases h94 : op = 94
  · subst h94; exact ⟨n0 _ rfl st, rfl⟩
  by_cases h46 : op = 46
  · subst h46; exact ⟨by show st.dropLast = st.take (st.length - 1) ++ []; rw [List.append_nil]; exact tk1 st, rfl⟩
  by_cases h38 : op = 38
  · subst h38; exact ⟨congrArg (· ++ [cellAt im (tp st)]) (tk1 st), rfl⟩
  by_cases h95 : op = 95
  · subst h95; exact ⟨by show st.dropLast = st.take (st.length - 1) ++ []; rw [List.append_nil]; exact tk1 st, rfl⟩
  by_cases h34 : op = 34
  · subst h34; exact ⟨by show st.dropLast ++ [tp st] ++ [tp st] = st.take (st.length - 1) ++ [tp st, tp st]; rw [← tk1, List.append_assoc]; rfl, rfl⟩
  by_cases h92 : op = 92
  · subst h92; exact ⟨by show st.dropLast.dropLast ++ [tp st] ++ [tp st.dropLast] = st.take (st.length - 2) ++ [tp st, tp st.dropLast]; rw [← tk2, List.append_assoc]; rfl, rfl⟩
  by_cases h63 : op = 63
  · subst h63; exact ⟨by show st.dropLast = st.take (st.length - 1) ++ []; rw [List.append_nil]; exact tk1 st, rfl⟩
  by_cases h40 : op = 40
  · subst h40; exact ⟨by show st.dropLast = st.take (st.length - 1) ++ []; rw [List.append_nil]; exact tk1 st, rfl⟩
  by_cases h36 : op = 36
  · subst h36
    refine ⟨?_, ?_⟩
    · show (lsC im 36 arg su st bk).1 = st.take (st.length - 1) ++ (if canC im (tp st) = true then [] else [tp st])
      unfold lsC
      rw [if_neg (by decide), if_neg (by decide), if_neg (by decide), if_pos rfl]
      by_cases h : canC im (tp st) = true
      · rw [if_pos h, if_pos h, List.append_nil]; exact tk1 st
      · rw [if_neg h, if_neg h]; exact congrArg (· ++ [tp st]) (tk1 st)
    · show ((if canC im (tp st) = true then ([] : List Int) else [tp st]).length : Int) = pushL im 36 (tp st)
      unfold pushL
      cases h : canC im (tp st) with
      | true => rfl
      | false => rfl
  by_cases h41 : op = 41
  · subst h41
    refine ⟨?_, rfl⟩
    show (lsC im 41 arg su st bk).1 = st.take (st.length - 0) ++ []
    unfold lsC
    rw [if_neg (by decide), if_neg (by decide), if_neg (by decide), if_neg (by decide), if_pos rfl]
    cases bk.getLast? <;> exact n0 _ rfl st
  have p2 : inP2 op = false := by unfold inP2; simp [h43, h45, h42, h60, h126, h33, h92]
  have p1 : inP1 op = false := by unfold inP1; simp [h64, h61, h46, h38, h95, h34, h63, h40, h36]
  have u1 : inU1 op = false := by unfold inU1; simp [h35, h43, h45, h42, h60, h126, h64, h44, h38]
  have ep : (popL op).toNat = 0 := by unfold popL; rw [p2, p1]; rfl
  have es : lsS op arg st = st := by
    unfold lsS inStk
    simp only [h35, h43, h45, h42, h60, h126, h95, h34, h92, or_self, decide_false, if_false]
    rfl
  have e1 : isSm op = (decide (97 ≤ op) && decide (op ≤ 122)) := rfl
  by_cases hs : isSm op = true
  · have hc : ¬ (decide (65 ≤ op) && decide (op ≤ 90)) = true := by rw [e1] at hs; simp at hs ⊢; omega
    have et : lsT op arg st sd = (st ++ [lk sd op], sd) := by
      unfold lsT
      rw [e1] at hs
      rw [if_neg h64, if_neg h33, if_neg h61, if_pos hs]
      rfl
    have epp : (lsP im nums op (st ++ [lk sd op]) p ou).1 = st ++ [lk sd op] := by
      unfold lsP
      rw [if_neg h44, if_neg h94, if_neg h46, if_neg h38]
    have ecc : (lsC im op arg su (st ++ [lk sd op]) bk).1 = st ++ [lk sd op] := by
      unfold lsC
      rw [if_neg h63, if_neg hc, if_neg h40, if_neg h36, if_neg h41]
    have ey : ysL im nums (op, arg, su) ⟨a, st, sd, bk, p, ou, k⟩ = [lk sd op] := by
      unfold ysL
      simp only [h35, h43, h45, h42, h60, h126, h34, h92, h64, h44, h38, h36, or_self, if_false, hs, if_true]
    rw [ey]
    refine ⟨?_, ?_⟩
    · show (lsC im op arg su (lsP im nums op (lsT op arg (lsS op arg st) sd).1 p ou).1 bk).1 = st.take (st.length - (popL op).toNat) ++ [lk sd op]
      rw [es, et, epp, ecc, ep]
      exact congrArg (· ++ [lk sd op]) (tk0 st)
    · show (1 : Int) = pushL im op (tp st)
      unfold pushL
      rw [u1, hs]
      rfl
  · have hs' : isSm op = false := by simpa using hs
    have et : lsT op arg st sd = (st, sd) := by
      unfold lsT
      rw [e1] at hs
      rw [if_neg h64, if_neg h33, if_neg h61, if_neg hs]
    have epp : (lsP im nums op st p ou).1 = st := by
      unfold lsP
      rw [if_neg h44, if_neg h94, if_neg h46, if_neg h38]
    have ecc : (lsC im op arg su st bk).1 = st := by
      unfold lsC
      rw [if_neg h63]
      by_cases hc : (decide (65 ≤ op) && decide (op ≤ 90)) = true
      · rw [if_pos hc]
      · rw [if_neg hc, if_neg h40, if_neg h36, if_neg h41]
    have ey : ysL im nums (op, arg, su) ⟨a, st, sd, bk, p, ou, k⟩ = [] := by
      unfold ysL
      simp only [h35, h43, h45, h42, h60, h126, h34, h92, h64, h44, h38, h36, or_self, if_false, hs']
      rfl
    rw [ey]
    refine ⟨?_, ?_⟩
    · show (lsC im op arg su (lsP im nums op (lsT op arg (lsS op arg st) sd).1 p ou).1 bk).1 = st.take (st.length - (popL op).toNat) ++ []
      rw [es, et, epp, ecc, ep]
      exact n0 _ rfl st
    · show (0 : Int) = pushL im op (tp st)
      unfold pushL
      rw [u1, hs', decide_eq_false h34, decide_eq_false h92, decide_eq_false h36]
      rfl
theorem law_sd (im nums : List Int) (n : Nd) (s : MS) (k : Int) (h : lk (lawM im nums n s).sd k ≠ lk s.sd k) : wrM n.1 n.2.1 (tp s.st) = some k := by
  obtain ⟨op, arg, su⟩ := n
  have h : lk (lsT op arg (lsS op arg s.st) s.sd).2 k ≠ lk s.sd k := h
  unfold wrM
  unfold lsT at h
  by_cases h64 : op = 64
  · rw [if_pos h64] at h
    exact absurd rfl h
  rw [if_neg h64] at h
  by_cases h33 : op = 33
  · subst h33
    rw [if_pos rfl] at h
    have h : lk (putI s.sd (tp s.st) _) k ≠ lk s.sd k := h
    rw [lk_put] at h
    show some (tp s.st) = some k
    by_cases e : k = tp s.st
    · rw [e]
    · rw [if_neg e] at h
      exact absurd rfl h
  rw [if_neg h33] at h
  show (if op = 33 then some (tp s.st) else if op = 61 then some arg else none) = some k
  rw [if_neg h33]
  by_cases h61 : op = 61
  · subst h61
    rw [if_pos rfl] at h
    have h : lk (putI s.sd arg _) k ≠ lk s.sd k := h
    rw [lk_put] at h
    rw [if_pos rfl]
    by_cases e : k = arg
    · rw [e]
    · rw [if_neg e] at h
      exact absurd rfl h
  rw [if_neg h61] at h
  split at h <;> exact absurd rfl h
theorem law_p (im nums : List Int) (n : Nd) (s : MS) : (lawM im nums n s).p = if (decide (n.1 = 44) && decide (s.p < nums.length)) = true then s.p + 1 else if n.1 = 94 then 0 else s.p := by
  obtain ⟨op, arg, su⟩ := n
  show (lsP im nums op _ s.p s.ou).2.1 = if (decide (op = 44) && decide (s.p < nums.length)) = true then s.p + 1 else if op = 94 then 0 else s.p
  unfold lsP
  by_cases h44 : op = 44
  · subst h44
    rw [if_pos rfl]
    by_cases h : s.p < (nums.length : Int)
    · rw [if_pos h, if_pos (by simpa using h)]
    · rw [if_neg h, if_neg (by simpa using h), if_neg (by decide)]
  · have hn : ¬ (decide (op = 44) && decide (s.p < nums.length)) = true := by rw [decide_eq_false h44]; exact Bool.false_ne_true
    rw [if_neg h44, if_neg hn]
    by_cases h94 : op = 94
    · rw [if_pos h94, if_pos h94]
    · rw [if_neg h94, if_neg h94]
      by_cases h46 : op = 46
      · rw [if_pos h46]
      · rw [if_neg h46]
        by_cases h38 : op = 38
        · rw [if_pos h38]
        · rw [if_neg h38]
theorem law_ou (im nums : List Int) (n : Nd) (s : MS) : (lawM im nums n s).ou = s.ou ∨ ∃ x, (lawM im nums n s).ou = s.ou ++ [x] := by
  obtain ⟨op, arg, su⟩ := n
  show (lsP im nums op _ s.p s.ou).2.2 = s.ou ∨ ∃ x, (lsP im nums op _ s.p s.ou).2.2 = s.ou ++ [x]
  unfold lsP
  repeat' split
  all_goals first | exact .inl rfl | exact .inr ⟨_, rfl⟩
theorem law_bk (im nums : List Int) (n : Nd) (s : MS) : (lawM im nums n s).bk = s.bk ∨ (∃ x, (lawM im nums n s).bk = s.bk ++ [x]) ∨ (s.bk ≠ [] ∧ (lawM im nums n s).bk = s.bk.dropLast) := by
  obtain ⟨op, arg, su⟩ := n
  show (lsC im op arg su _ s.bk).2.1 = s.bk ∨ (∃ x, (lsC im op arg su _ s.bk).2.1 = s.bk ++ [x]) ∨ (s.bk ≠ [] ∧ (lsC im op arg su _ s.bk).2.1 = s.bk.dropLast)
  unfold lsC
  split
  · exact .inl rfl
  split
  · exact .inr (.inl ⟨_, rfl⟩)
  split
  · exact .inr (.inl ⟨_, rfl⟩)
  split
  · split
    · exact .inr (.inl ⟨_, rfl⟩)
    · exact .inl rfl
  split
  · cases e : s.bk.getLast? with
    | none => exact .inl rfl
    | some b =>
      refine .inr (.inr ⟨?_, rfl⟩)
      rintro z
      rw [z] at e
      cases e
  · exact .inl rfl
/-! ### slices of tuples, the whole of them too -/
section
variable {K : PySem.W.Frag} {H : Hp} {σ : L2.St} {te ta tb : TE}
theorem ed_slA {tl th : TO} {ds : List PyData} {lo hi : Option Int} (h : EvD K te σ H (.tuple ds)) (h1 : EvO tl σ H lo) (h2 : EvO th σ H hi) : EvD K (tSl (rSlA K) te tl th) σ H (.tuple (cutD ds lo hi)) := fun H1 e _ q =>
  h H1 e _ fun v H2 e2 hd => h1 H2 (e.trans e2) _ fun H3 e3 => h2 H3 ((e.trans e2).trans e3) _ fun H4 e4 => by
    obtain ⟨a, xs, rfl, g1, g2⟩ := dp_tup_inv hd
    refine ⟨a, xs, rfl, ex_t (e3.trans e4) g1, fun hw => ?_, fun hn p hp => q _ _ (((e2.trans e3).trans e4).trans (Ex.new hp)) (.tup (st_of upd_same) ((g2.ex (e3.trans e4)).cut lo hi |>.ex (Ex.new hp)))⟩
    have e5 : cutD ds lo hi = ds := by
      unfold cutD
      rw [dpAll_len g2] at hw
      rw [hw.1, hw.2, List.drop_zero, Nat.sub_zero, List.take_length]
    exact q _ _ ((e2.trans e3).trans e4) (by rw [e5]; exact hd.ex (e3.trans e4))
theorem shaped_intsT (ns : List Int) : SeqAt.shaped (.tuple (ns.map PyData.int)) = true := by
  unfold SeqAt.shaped
  rw [PyData.canLay0, can_ints, PyData.depth, depth_ints]
  rfl
theorem eqv_intsT (ns ms : List Int) : PyData.eqv (.tuple (ns.map PyData.int)) (.tuple (ms.map PyData.int)) = decide (ns = ms) := by rw [PyData.eqv, eqv_ints]
/-- two tuples of ints differ -/
theorem ev_neT {ns ms : List Int} (ha : EvD K ta σ H (.tuple (ns.map PyData.int))) (hb : EvD K tb σ H (.tuple (ms.map PyData.int))) : Ev (tOp (rNeD K) ta tb) σ H (.bl (!decide (ns = ms))) := by
  rw [← eqv_intsT]
  exact ev_neD ha hb (shaped_intsT ns) (shaped_intsT ms)
theorem cutD_take (ns : List Int) (k : Nat) (h : k ≤ ns.length) : cutD (ns.map PyData.int) none (some (k : Int)) = (ns.take k).map PyData.int := by
  unfold cutD
  rw [List.length_map]
  have e1 : HT.sIx ns.length 0 none = 0 := rfl
  have e2 : HT.sIx ns.length ns.length (some (k : Int)) = k := by
    rw [HT.sIx_nat]
    omega
  rw [e1, e2, List.drop_zero, Nat.sub_zero, List.map_take]
end
end Gd

set_option Elab.async false
set_option linter.all false
set_option maxRecDepth 100000
set_option maxHeartbeats 4000000
/-! Of our own: how many addresses a run can write. -/
namespace Gd
open PySem PySem.Spec PyProof.Rows L2 Evl
def nzs (l : List Int) : Nat := (l.filter fun x => decide (x ≠ 0)).length
def oth (args : List Int) (sd : List (Int × Int)) : Nat := ((sd.map (·.1)).filter fun k => decide (k ∉ (0 :: args))).length
theorem nzs_app (l m : List Int) : nzs (l ++ m) = nzs l + nzs m := by unfold nzs; rw [List.filter_append, List.length_append]
theorem nzs_one (x : Int) : nzs [x] = if x = 0 then 0 else 1 := by
  unfold nzs
  by_cases h : x = 0
  · rw [if_pos h, List.filter_cons_of_neg (by simpa using h)]; rfl
  · rw [if_neg h, List.filter_cons_of_pos (by simpa using h)]; rfl
theorem nzs_take (l : List Int) (k : Nat) : nzs (l.take k) ≤ nzs l := by
  have := nzs_app (l.take k) (l.drop k)
  rw [List.take_append_drop] at this
  omega
theorem nzs_drop (l : List Int) : nzs l.dropLast + (if tp l = 0 then 0 else 1) = nzs l := by
  by_cases h : l = []
  · subst h; rfl
  · have e := List.dropLast_concat_getLast h
    have ht : tp l = l.getLast h := by unfold tp; rw [List.getLast?_eq_some_getLast h]; rfl
    rw [ht, ← nzs_one, ← nzs_app, e]
theorem nzs_len (l : List Int) : nzs l ≤ l.length := List.length_filter_le _ _
theorem nodup_sub : ∀ {l m : List Int}, l.Nodup → (∀ x ∈ l, x ∈ m) → l.length ≤ m.length
  | [], _, _, _ => Nat.zero_le _
  | a :: r, m, h, hs => by
    have hm := hs a List.mem_cons_self
    have hn := List.nodup_cons.mp h
    have ih := nodup_sub (l := r) (m := m.erase a) hn.2 fun x hx => by
      have hx' := hs x (List.mem_cons_of_mem _ hx)
      have : x ≠ a := fun z => hn.1 (by rw [← z]; exact hx)
      exact (List.mem_erase_of_ne this).mpr hx'
    rw [List.length_erase_of_mem hm] at ih
    have : 0 < m.length := List.length_pos_of_mem hm
    rw [List.length_cons]
    omega
theorem oth_put (args : List Int) (sd : List (Int × Int)) (k v : Int) : oth args (putI sd k v) ≤ oth args sd + (if k ∈ (0 :: args) then 0 else 1) := by
  unfold oth
  rw [put_keys]
  split
  · omega
  · rw [List.filter_append, List.length_append]
    have : (([k] : List Int).filter fun k => decide (k ∉ (0 :: args))).length ≤ (if k ∈ (0 :: args) then 0 else 1) := by
      by_cases m : k ∈ (0 :: args)
      · rw [if_pos m, List.filter_cons_of_neg (by rw [decide_eq_false (not_not_intro m)]; exact Bool.false_ne_true)]; exact Nat.le_refl _
      · rw [if_neg m, List.filter_cons_of_pos (by exact decide_eq_true m)]; exact Nat.le_refl _
    omega
def argsOf (im : List Int) : List Int := (rowsOf im).map fun r => r.2.2.1
theorem node_arg {im : List Int} {k : Int} {n : Nd} (e : nodeAt im k = some n) : n.2.1 ∈ argsOf im := by
  rcases nodeIn_mem (rowsOf im) none e with z | ⟨r, hr, rfl⟩
  · cases z
  · exact List.mem_map.mpr ⟨r, hr, rfl⟩
theorem lawM_sd (im nums : List Int) (n : Nd) (s : MS) : (lawM im nums n s).sd = if n.1 = 33 then putI s.sd (tp s.st) (tp s.st.dropLast) else if n.1 = 61 then putI s.sd n.2.1 (tp s.st) else s.sd := by
  obtain ⟨op, arg, su⟩ := n
  show (lsT op arg (lsS op arg s.st) s.sd).2 = if op = 33 then putI s.sd (tp s.st) (tp s.st.dropLast) else if op = 61 then putI s.sd arg (tp s.st) else s.sd
  unfold lsT
  by_cases h64 : op = 64
  · subst h64; rfl
  rw [if_neg h64]
  by_cases h33 : op = 33
  · subst h33; rfl
  rw [if_neg h33, if_neg h33]
  by_cases h61 : op = 61
  · subst h61; rfl
  rw [if_neg h61, if_neg h61]
  split <;> rfl
/-- the measure of a state -/
def phi (im : List Int) (s : MS) : Nat := 2 * oth (argsOf im) s.sd + nzs s.st
theorem ys_le (im nums : List Int) (n : Nd) (s : MS) (h33 : n.1 ≠ 33) : nzs (s.st.take (s.st.length - (popL n.1).toNat)) + nzs (ysL im nums n s) ≤ nzs s.st + 1 := by
  obtain ⟨op, arg, su⟩ := n
  have one : ∀ (x : Int) (k : Nat), nzs (s.st.take k) + nzs [x] ≤ nzs s.st + 1 := fun x k => by
    have h1 := nzs_take s.st k
    have h2 : nzs [x] ≤ 1 := nzs_len [x]
    omega
  have zero : ∀ k : Nat, nzs (s.st.take k) + nzs [] ≤ nzs s.st + 1 := fun k => by
    have h1 := nzs_take s.st k
    have h2 : nzs [] = 0 := rfl
    omega
  unfold ysL
  dsimp only
  by_cases h35 : op = 35
  · rw [if_pos h35]; exact one _ _
  rw [if_neg h35]
  split
  · exact one _ _
  by_cases h34 : op = 34
  · rw [if_pos h34]
    subst h34
    show nzs (s.st.take (s.st.length - 1)) + nzs [tp s.st, tp s.st] ≤ _
    have h1 := nzs_drop s.st
    have h2 : nzs [tp s.st, tp s.st] = nzs [tp s.st] + nzs [tp s.st] := nzs_app [tp s.st] [tp s.st]
    rw [← tk1, h2, nzs_one]
    split at h1 <;> simp_all <;> omega
  rw [if_neg h34]
  by_cases h92 : op = 92
  · rw [if_pos h92]
    subst h92
    show nzs (s.st.take (s.st.length - 2)) + nzs [tp s.st, tp s.st.dropLast] ≤ _
    have h1 := nzs_drop s.st
    have h3 := nzs_drop s.st.dropLast
    have h2 : nzs [tp s.st, tp s.st.dropLast] = nzs [tp s.st] + nzs [tp s.st.dropLast] := nzs_app [tp s.st] [tp s.st.dropLast]
    rw [← tk2, h2, nzs_one, nzs_one]
    omega
  rw [if_neg h92]
  repeat' split
  all_goals first | exact one _ _ | exact zero _
theorem phi_step {im nums : List Int} {s s' : MS} (e : stepM im nums s = some s') : phi im s' ≤ phi im s + 1 := by
  rw [stepM_law] at e
  cases q : nodeAt im s.a with
  | none => rw [q] at e; cases e
  | some n =>
    rw [q] at e
    have e : lawM im nums n (goM s n) = s' := Option.some.inj e
    have hst := (law_st im nums n (goM s n)).1
    have hsd := lawM_sd im nums n (goM s n)
    have ha := node_arg q
    rw [e] at hst hsd
    have hst : s'.st = s.st.take (s.st.length - (popL n.1).toNat) ++ ysL im nums n (goM s n) := hst
    have hsd : s'.sd = if n.1 = 33 then putI s.sd (tp s.st) (tp s.st.dropLast) else if n.1 = 61 then putI s.sd n.2.1 (tp s.st) else s.sd := hsd
    unfold phi
    rw [hst, nzs_app]
    by_cases h33 : n.1 = 33
    · rw [if_pos h33] at hsd
      have hp : popL n.1 = 2 := by rw [h33]; rfl
      have hy : ysL im nums n (goM s n) = [] := by
        obtain ⟨op, arg, su⟩ := n
        have h33 : op = 33 := h33
        subst h33
        rfl
      rw [hp, hy, hsd]
      have h1 := oth_put (argsOf im) s.sd (tp s.st) (tp s.st.dropLast)
      have h2 := nzs_drop s.st
      have h3 := nzs_take s.st.dropLast (s.st.dropLast.length - 1)
      rw [← tk1, tk2] at h3
      have h4 : nzs [] = 0 := rfl
      show 2 * oth (argsOf im) (putI s.sd (tp s.st) (tp s.st.dropLast)) + (nzs (s.st.take (s.st.length - 2)) + nzs []) ≤ _
      by_cases h0 : tp s.st = 0
      · rw [if_pos (by rw [h0]; exact List.mem_cons_self)] at h1
        omega
      · rw [if_neg h0] at h2
        have : (if tp s.st ∈ (0 :: argsOf im) then 0 else 1) ≤ 1 := by split <;> omega
        omega
    · rw [if_neg h33] at hsd
      have h5 := ys_le im nums n (goM s n) h33
      have h5 : nzs (s.st.take (s.st.length - (popL n.1).toNat)) + nzs (ysL im nums n (goM s n)) ≤ nzs s.st + 1 := h5
      have h6 : oth (argsOf im) s'.sd ≤ oth (argsOf im) s.sd := by
        rw [hsd]
        split
        · have := oth_put (argsOf im) s.sd n.2.1 (tp s.st)
          rw [if_pos (List.mem_cons_of_mem _ ha)] at this
          omega
        · exact Nat.le_refl _
      omega
theorem adv_phi {im nums : List Int} (n : Nat) : phi im (advM im nums ms0 n).1 ≤ (advM im nums ms0 n).2 :=
  adv_keep (P := fun i t => phi im t ≤ i) (by show phi im ms0 ≤ 0; exact Nat.le_refl 0) (fun i t t' h e => by have := phi_step e; omega) n
theorem sd_few {im nums : List Int} {n : Nat} (hl : im.length ≤ 63) (hn : n ≤ 80) : (advM im nums ms0 n).1.sd.length ≤ 56 := by
  have h1 := adv_phi (im := im) (nums := nums) n
  have h2 := (adv_inv (im := im) (nums := nums) (s := ms0) n).1
  have hk := adv_kn (im := im) (nums := nums) (s := ms0) KN.nil n
  generalize (advM im nums ms0 n).1 = s at *
  unfold phi at h1
  have ha : (argsOf im).length ≤ 15 := by
    unfold argsOf
    rw [List.length_map, rows_len]
    omega
  have hin : ((s.sd.map (·.1)).filter fun k => decide (k ∈ (0 :: argsOf im))).length ≤ (0 :: argsOf im).length := nodup_sub (hk.filter _) fun x hx => of_decide_eq_true (List.mem_filter.mp hx).2
  have hsplit : ((s.sd.map (·.1)).filter fun k => decide (k ∈ (0 :: argsOf im))).length + oth (argsOf im) s.sd = (s.sd.map (·.1)).length := by
    unfold oth
    induction s.sd.map (·.1) with
    | nil => rfl
    | cons k r ih =>
      by_cases m : k ∈ (0 :: argsOf im)
      · rw [List.filter_cons_of_pos (by exact decide_eq_true m), List.filter_cons_of_neg (by rw [decide_eq_false (not_not_intro m)]; exact Bool.false_ne_true), List.length_cons, List.length_cons]
        omega
      · rw [List.filter_cons_of_neg (by rw [decide_eq_false m]; exact Bool.false_ne_true), List.filter_cons_of_pos (by exact decide_eq_true m), List.length_cons, List.length_cons]
        omega
  rw [List.length_map] at hsplit
  rw [List.length_cons] at hin
  omega
end Gd

set_option Elab.async false
set_option linter.all false
set_option maxRecDepth 100000
set_option maxHeartbeats 4000000
/-! Of our own: runs that go on. -/
namespace Gd
open PySem PySem.Spec PyProof.Rows L2 Evl
section
variable {im nums : List Int} {s : MS}
theorem adv_succN {n : Nat} (h : stepM im nums (advM im nums s n).1 = none) : advM im nums s (n + 1) = advM im nums s n := adv_end h 1
theorem adv_succS {n : Nat} {t : MS} (h : stepM im nums (advM im nums s n).1 = some t) : advM im nums s (n + 1) = (t, (advM im nums s n).2 + 1) := by
  obtain ⟨h1, h2, h3⟩ := adv_inv (im := im) (nums := nums) (s := s) n
  have e : (advM im nums s n).2 = n := by
    by_cases c : (advM im nums s n).2 < n
    · rw [h3 c] at h; cases h
    · omega
  have := adv_step (i := n) (t := (advM im nums s n).1) (by rw [← Prod.eta (advM im nums s n), e]) h
  rw [this, e]
theorem adv_add (n : Nat) : ∀ m : Nat, advM im nums s (n + m) = ((advM im nums (advM im nums s n).1 m).1, (advM im nums s n).2 + (advM im nums (advM im nums s n).1 m).2)
  | 0 => rfl
  | m + 1 => by
    have ih := adv_add n m
    cases q : stepM im nums (advM im nums (advM im nums s n).1 m).1 with
    | none =>
      rw [adv_succN q]
      have q2 : stepM im nums (advM im nums s (n + m)).1 = none := by rw [ih]; exact q
      have := adv_succN q2
      rw [show n + (m + 1) = n + m + 1 by omega, this, ih]
    | some t =>
      rw [adv_succS q]
      have q2 : stepM im nums (advM im nums s (n + m)).1 = some t := by rw [ih]; exact q
      have := adv_succS q2
      rw [show n + (m + 1) = n + m + 1 by omega, this, ih]
      rfl
theorem adv_ou (m : Nat) : (advM im nums s m).1.ou.take s.ou.length = s.ou ∧ s.ou.length ≤ (advM im nums s m).1.ou.length :=
  adv_keep (P := fun _ t => t.ou.take s.ou.length = s.ou ∧ s.ou.length ≤ t.ou.length) ⟨List.take_length, Nat.le_refl _⟩ (fun i t t' h e => by
    rw [stepM_law] at e
    cases q : nodeAt im t.a with
    | none => rw [q] at e; cases e
    | some n =>
      rw [q] at e
      have e : lawM im nums n (goM t n) = t' := Option.some.inj e
      have ho := law_ou im nums n (goM t n)
      rw [e] at ho
      rcases ho with h1 | ⟨x, h1⟩
      · have h1 : t'.ou = t.ou := h1
        rw [h1]
        exact h
      · have h1 : t'.ou = t.ou ++ [x] := h1
        rw [h1, List.length_append]
        refine ⟨?_, by omega⟩
        rw [List.take_append_of_le_length h.2]
        exact h.1) m
theorem pow12b {i : Nat} (h : i ≤ 80) : 1000 * 12 ^ i < 10 ^ 100 := Nat.lt_of_le_of_lt (Nat.mul_le_mul_left 1000 (Nat.pow_le_pow_right (by decide) h)) (by decide)
theorem adv_small2 {i : Nat} (hi : ∀ x ∈ im, x.natAbs ≤ 1000) (hq : ∀ x ∈ nums, x.natAbs ≤ 1000) (h : i ≤ 80) : ∃ B, B < 10 ^ 100 ∧ Bd B (advM im nums ms0 i).1 := by
  have h1 := (adv_inv (im := im) (nums := nums) (s := ms0) i).1
  exact ⟨_, pow12b (i := (advM im nums ms0 i).2) (by omega), adv_bd (by decide) hi hq bd0 i⟩
theorem adv_sizes2 {i : Nat} (h : i ≤ 80) : (advM im nums ms0 i).1.st.length ≤ 240 ∧ (advM im nums ms0 i).1.sd.length ≤ 80 ∧ (advM im nums ms0 i).1.bk.length ≤ 240 ∧ (advM im nums ms0 i).1.ou.length ≤ 240 := by
  have h1 := (adv_inv (im := im) (nums := nums) (s := ms0) i).1
  have hz := adv_sz (im := im) (nums := nums) (s := ms0) (B := 0) ⟨Nat.zero_le _, Nat.zero_le _, Nat.zero_le _, Nat.zero_le _⟩ i
  have g1 := hz.st
  have g3 := hz.bk
  have g4 := hz.ou
  have h2 := adv_sd (im := im) (nums := nums) (s := ms0) i
  have : ms0.sd.length = 0 := rfl
  exact ⟨by omega, by omega, by omega, by omega⟩
theorem nice_st2 {i : Nat} (hi : ∀ x ∈ im, x.natAbs ≤ 1000) (hq : ∀ x ∈ nums, x.natAbs ≤ 1000) (h : i ≤ 80) : Nice (stD im nums ms0 i) := by
  obtain ⟨B, hB, hb⟩ := adv_small2 hi hq h
  have hs := adv_sizes2 (im := im) (nums := nums) h
  have hp := pairsOf_len (advM im nums ms0 i).1.sd
  exact nice_plain (t := plainM (advM im nums ms0 i).1) hb.plain hB (by
    show (advM im nums ms0 i).1.st.length + 3 * (Gd.pairsOf (advM im nums ms0 i).1.sd).length + (advM im nums ms0 i).1.bk.length + (advM im nums ms0 i).1.ou.length + 6 ≤ 100000
    omega)
def runD (im nums : List Int) (n : Nat) : PyData := .tuple [.bool (nodeAt im (advM im nums ms0 n).1.a).isNone, .list ((advM im nums ms0 n).1.ou.map PyData.int), .int ((advM im nums ms0 n).2 : Int)]
theorem nice_run {i : Nat} (hi : ∀ x ∈ im, x.natAbs ≤ 1000) (hq : ∀ x ∈ nums, x.natAbs ≤ 1000) (h : i ≤ 80) : Nice (runD im nums i) := by
  obtain ⟨B, hB, hb⟩ := adv_small2 hi hq h
  have hs := adv_sizes2 (im := im) (nums := nums) h
  have hk := (adv_inv (im := im) (nums := nums) (s := ms0) i).1
  have hk2 : ((advM im nums ms0 i).2 : Int).natAbs < 10 ^ 100 := Nat.lt_of_le_of_lt (show ((advM im nums ms0 i).2 : Int).natAbs ≤ 100 by omega) (by decide)
  refine nice_sm ?_ ?_ ?_
  · unfold runD
    rw [smD, smDs, smD, smDs, smD, smDs_ints fun x hx => Nat.lt_of_le_of_lt (hb.ou x hx) hB, smDs, smD, decide_eq_true hk2, smDs]
    rfl
  · unfold runD
    simp only [PyData.depth, PyData.depthAll, depth_ints]
    decide
  · unfold runD
    simp only [PyData.bulk, PyData.bulkAll, bulk_ints]
    omega
theorem nice_ou {i : Nat} (hi : ∀ x ∈ im, x.natAbs ≤ 1000) (hq : ∀ x ∈ nums, x.natAbs ≤ 1000) (h : i ≤ 80) : Nice (.list ((advM im nums ms0 i).1.ou.map PyData.int)) := by
  obtain ⟨B, hB, hb⟩ := adv_small2 hi hq h
  have hs := adv_sizes2 (im := im) (nums := nums) h
  exact nice_list (fun x hx => Nat.lt_of_le_of_lt (hb.ou x hx) hB) (by omega)
/-- a run that has ended stays; one that has not has used all its fuel -/
theorem ended_stop {n : Nat} (h : (nodeAt im (advM im nums ms0 n).1.a).isNone = true) (m : Nat) : advM im nums ms0 (n + m) = advM im nums ms0 n := by
  rw [← step_none (nums := nums)] at h
  refine adv_end ?_ m
  cases q : stepM im nums (advM im nums ms0 n).1 with
  | none => rfl
  | some t => rw [q] at h; cases h
theorem not_ended {n : Nat} (h : (nodeAt im (advM im nums ms0 n).1.a).isNone = false) : (advM im nums ms0 n).2 = n := by
  obtain ⟨h1, h2, h3⟩ := adv_inv (im := im) (nums := nums) (s := ms0) n
  by_cases c : (advM im nums ms0 n).2 < n
  · rw [← step_none (nums := nums), h3 c] at h
    cases h
  · omega
end
section
variable {K : PySem.W.Frag} {H : Hp} {σ : L2.St} {ta tb te : TE} {t tk : TA} {sp : Sp} {gV : List V → List V → List V} {E : L2.St → XK} {D : Ends} {tz : TS} {n m : Nat}
theorem ep_opRR {r : R2} {x : V} {P1 P : V → Hp → Prop} (ha : Ev ta σ H x) (hb : ∀ H1, Ex H H1 → EvP tb σ H1 P1) (hr : ∀ v H1, P1 v H1 → ∀ Q : VK, (∀ z H', P z H' → Q z H') → r x v H1 Q) : EvP (tOp r ta tb) σ H P := fun Q q =>
  ha H (Ex.refl H) _ fun H1 e1 => hb H1 e1 _ fun v H2 h2 => hr v H2 h2 Q q
theorem s_dropNS {vs zs : List V} (h1 : EvA t σ H vs) (h2 : EvA tk σ H zs) (l1 : vs.length = n) (l2 : zs.length = m) (k : ∀ H1, Ex H H1 → sp (gV vs zs) H1 (fun _ H' => D.nx σ H') (E σ)) : tDrop (tCallNS n m sp gV E t tk) D σ H :=
  h1 H (Ex.refl H) _ fun H1 e1 => h2 H1 e1 _ fun H2 e2 => ⟨l1, l2, k H2 (e1.trans e2)⟩
theorem s_dropS {vs : List V} (h1 : EvA t σ H vs) (k : ∀ H1, Ex H H1 → sp vs H1 (fun _ H' => D.nx σ H') (E σ)) : tDrop (tCallS sp E t) D σ H :=
  h1 H (Ex.refl H) _ fun H1 e1 => k H1 e1
theorem q_dropS {vs : List V} (h1 : EvA t σ H vs) (k : ∀ H1, Ex H H1 → sp vs H1 (fun _ H' => tz D σ H') (E σ)) : tSeq (tDrop (tCallS sp E t)) tz D σ H :=
  h1 H (Ex.refl H) _ fun H1 e1 => k H1 e1
theorem q_asgMS {C a dx : Addr} {fs : List (Str × V)} {mm : Str} {zs : List V} {i : Nat} (ha : Ev ta σ H (.ref a)) (ho : H a = some (.ins C dx fs)) (hl : fs.lookup mm = none) (hk : EvA tk σ H zs) (lz : zs.length = n) (k : ∀ H1, Ex H H1 → sp (gV [.ref a] zs) H1 (fun v H' => tz D (σ.set i (some v)) H') (E σ)) : tSeq (tAsg (tMethN0S C mm n sp gV E ta tk) (gName i)) tz D σ H :=
  ha H (Ex.refl H) _ fun H1 e1 => ⟨a, dx, fs, rfl, e1 _ _ ho, hl, hk H1 e1 _ fun H2 e2 => ⟨lz, k H2 (e1.trans e2)⟩⟩
theorem q_dropMS {C a dx : Addr} {fs : List (Str × V)} {mm : Str} {zs : List V} (ha : Ev ta σ H (.ref a)) (ho : H a = some (.ins C dx fs)) (hl : fs.lookup mm = none) (hk : EvA tk σ H zs) (lz : zs.length = n) (k : ∀ H1, Ex H H1 → sp (gV [.ref a] zs) H1 (fun v H' => tz D σ H') (E σ)) : tSeq (tDrop (tMethN0S C mm n sp gV E ta tk)) tz D σ H :=
  ha H (Ex.refl H) _ fun H1 e1 => ⟨a, dx, fs, rfl, e1 _ _ ho, hl, hk H1 e1 _ fun H2 e2 => ⟨lz, k H2 (e1.trans e2)⟩⟩
/-- a new object's method, called for its own sake -/
theorem s_dropMSP {P1 : V → Hp → Prop} {C : Addr} {mm : Str} {zs : List V} (ha : EvP ta σ H P1) (hp : ∀ v H1, P1 v H1 → ∃ a dx fs, v = .ref a ∧ H1 a = some (.ins C dx fs) ∧ fs.lookup mm = none ∧ EvA tk σ H1 zs ∧ zs.length = n ∧ ∀ H2, Ex H1 H2 → sp (gV [.ref a] zs) H2 (fun v H' => D.nx σ H') (E σ)) : tDrop (tMethN0S C mm n sp gV E ta tk) D σ H :=
  ha _ fun v H1 h1 => by
    obtain ⟨a, dx, fs, rfl, ho, hl, hk, lz, k⟩ := hp v H1 h1
    exact ⟨a, dx, fs, rfl, ho, hl, hk H1 (Ex.refl H1) _ fun H2 e2 => ⟨lz, k H2 e2⟩⟩
end
end Gd

set_option Elab.async false
set_option linter.all false
set_option maxRecDepth 100000
set_option maxHeartbeats 4000000
/-! Of our own: runs of a written image, told by what is visible of the states. -/
namespace Gd
open PySem PySem.Spec PyProof.Rows L2 Evl
inductive Goes (im nums : List Int) : Nat → MS → MS → Prop
  | refl {s : MS} : Goes im nums 0 s s
  | step {k : Nat} {s t u : MS} (h : stepM im nums s = some t) (r : Goes im nums k t u) : Goes im nums (k + 1) s u
theorem Goes.trans {im nums : List Int} {j k : Nat} {s t u : MS} (h : Goes im nums j s t) (g : Goes im nums k t u) : Goes im nums (j + k) s u := by
  induction h with
  | refl => rw [Nat.zero_add]; exact g
  | @step i a b c h1 h2 ih => rw [show i + 1 + k = (i + k) + 1 by omega]; exact .step h1 (ih g)
theorem adv_zero {im nums : List Int} {s : MS} : advM im nums s 0 = (s, 0) := rfl
theorem Goes.adv {im nums : List Int} {k : Nat} {s t : MS} (h : Goes im nums k s t) : advM im nums s k = (t, k) := by
  induction h with
  | refl => rfl
  | @step i a b c h1 h2 ih =>
    have h := adv_step (im := im) (nums := nums) (s := a) (i := 0) (t := a) (t' := b) rfl h1
    have g := adv_add (im := im) (nums := nums) (s := a) 1 i
    rw [show i + 1 = 1 + i by omega, g]
    have h : advM im nums a 1 = (b, 1) := h
    rw [h]
    dsimp only
    rw [ih]
/-- what is visible of a state; the store as a function -/
structure AS where
  a : Int
  st : List Int
  f : Int → Int
  bk : List Int
  p : Nat
  ou : List Int
structure Sees (A : AS) (s : MS) : Prop where
  a : s.a = A.a
  st : s.st = A.st
  f : ∀ k, lk s.sd k = A.f k
  bk : s.bk = A.bk
  p : s.p = (A.p : Int)
  ou : s.ou = A.ou
def GoS (im nums : List Int) (k : Nat) (A B : AS) : Prop := ∀ s, Sees A s → ∃ t, Goes im nums k s t ∧ Sees B t
theorem GoS.refl {im nums : List Int} {A : AS} : GoS im nums 0 A A := fun s h => ⟨s, .refl, h⟩
theorem GoS.trans {im nums : List Int} {j k : Nat} {A B C : AS} (h : GoS im nums j A B) (g : GoS im nums k B C) : GoS im nums (j + k) A C := fun s hs =>
  let ⟨t, h1, h2⟩ := h s hs
  let ⟨u, h3, h4⟩ := g t h2
  ⟨u, h1.trans h3, h4⟩
theorem GoS.cast {im nums : List Int} {j k : Nat} {A B : AS} (h : GoS im nums j A B) (e : j = k) : GoS im nums k A B := e ▸ h
theorem GoS.one {im nums : List Int} {k : Nat} {A B C : AS} (h : ∀ s, Sees A s → ∃ t, stepM im nums s = some t ∧ Sees B t) (g : GoS im nums k B C) : GoS im nums (k + 1) A C := fun s hs =>
  let ⟨t, h1, h2⟩ := h s hs
  let ⟨u, h3, h4⟩ := g t h2
  ⟨u, .step h1 h3, h4⟩
def upF (f : Int → Int) (k v : Int) : Int → Int := fun j => if j = k then v else f j
section
variable {im nums : List Int} {k : Nat} {a op arg su v x y : Int} {st bk ou : List Int} {f : Int → Int} {p : Nat} {C : AS}
theorem top_snoc {l : List Int} {y : Int} {s : MS} (h : s.st = l ++ [y]) : topM s = y := by unfold topM; rw [h, List.getLast?_concat]; rfl
theorem pop_snoc {l : List Int} {y : Int} {s : MS} (h : s.st = l ++ [y]) : popM s = { s with st := l } := by unfold popM; rw [h, List.dropLast_concat]
theorem stepM_at {s : MS} {n : Nd} (h : nodeAt im s.a = some n) : stepM im nums s = some (perfM im nums n (goM s n)) := by unfold stepM; rw [h]; rfl
theorem g_push (h : nodeAt im a = some (35, v, su)) (g : GoS im nums k ⟨su, st ++ [v], f, bk, p, ou⟩ C) : GoS im nums (k + 1) ⟨a, st, f, bk, p, ou⟩ C := GoS.one (fun s hs => ⟨_, stepM_at (by rw [hs.a]; exact h), by
  refine ⟨rfl, ?_, hs.f, hs.bk, hs.p, hs.ou⟩
  show s.st ++ [v] = st ++ [v]
  rw [hs.st]⟩) g
theorem g_small (h : nodeAt im a = some (op, arg, su)) (hl : ACTS.lookup op = none) (hs : isSm op = true) (g : GoS im nums k ⟨su, st ++ [f op], f, bk, p, ou⟩ C) : GoS im nums (k + 1) ⟨a, st, f, bk, p, ou⟩ C := GoS.one (fun s hz => ⟨pushM (goM s (op, arg, su)) (lookM s op), by
  rw [stepM_at (n := (op, arg, su)) (by rw [hz.a]; exact h)]
  unfold perfM
  dsimp only
  rw [hl]
  dsimp only
  rw [if_pos hs]
  rfl, by
  refine ⟨rfl, ?_, hz.f, hz.bk, hz.p, hz.ou⟩
  show s.st ++ [lk s.sd op] = st ++ [f op]
  rw [hz.st, hz.f]⟩) g
theorem g_comb (h : nodeAt im a = some (op, arg, su)) (hl : ACTS.lookup op = some aComb) (g : GoS im nums k ⟨su, st ++ [combI op x y], f, bk, p, ou⟩ C) : GoS im nums (k + 1) ⟨a, st ++ [x] ++ [y], f, bk, p, ou⟩ C := GoS.one (fun s hz => ⟨aComb im nums (op, arg, su) (goM s (op, arg, su)), by
  rw [stepM_at (n := (op, arg, su)) (by rw [hz.a]; exact h)]
  unfold perfM
  dsimp only
  rw [hl], by
  have h1 := hz.st
  have e : aComb im nums (op, arg, su) (goM s (op, arg, su)) = { (goM s (op, arg, su)) with st := st ++ [combI op x y] } := by
    unfold aComb
    have t1 : topM (goM s (op, arg, su)) = y := top_snoc h1
    have p1 : popM (goM s (op, arg, su)) = { (goM s (op, arg, su)) with st := st ++ [x] } := pop_snoc h1
    rw [t1, p1, top_snoc (l := st) (y := x) rfl, pop_snoc (l := st) (y := x) rfl]
    rfl
  rw [e]
  exact ⟨rfl, rfl, hz.f, hz.bk, hz.p, hz.ou⟩⟩) g
theorem g_set (h : nodeAt im a = some (61, arg, su)) (g : GoS im nums k ⟨su, st, upF f arg v, bk, p, ou⟩ C) : GoS im nums (k + 1) ⟨a, st ++ [v], f, bk, p, ou⟩ C := GoS.one (fun s hz => ⟨_, stepM_at (by rw [hz.a]; exact h), by
  have e : perfM im nums (61, arg, su) (goM s (61, arg, su)) = { (goM s (61, arg, su)) with st := st, sd := putI s.sd arg v } := by
    show putM (popM (goM s (61, arg, su))) arg (topM (goM s (61, arg, su))) = _
    rw [top_snoc (s := goM s (61, arg, su)) hz.st, pop_snoc (s := goM s (61, arg, su)) hz.st]
    rfl
  rw [e]
  refine ⟨rfl, rfl, fun j => ?_, hz.bk, hz.p, hz.ou⟩
  show lk (putI s.sd arg v) j = upF f arg v j
  rw [lk_put]
  unfold upF
  rw [hz.f]⟩) g
theorem g_take {c : Int} (h : nodeAt im a = some (44, arg, su)) (hc : nums[p]? = some c) (g : GoS im nums k ⟨su, st ++ [c], f, bk, p + 1, ou⟩ C) : GoS im nums (k + 1) ⟨a, st, f, bk, p, ou⟩ C := GoS.one (fun s hz => ⟨_, stepM_at (by rw [hz.a]; exact h), by
  have hp : p < nums.length := (List.getElem?_eq_some_iff.mp hc).1
  have e : perfM im nums (44, arg, su) (goM s (44, arg, su)) = { (goM s (44, arg, su)) with st := st ++ [c], p := ((p + 1 : Nat) : Int) } := by
    show (if s.p < nums.length then { (pushM (goM s (44, arg, su)) ((atI nums s.p).getD 0)) with p := s.p + 1 } else pushM (goM s (44, arg, su)) (-1)) = _
    have e0 : s.p = (p : Int) := hz.p
    rw [e0, if_pos (by omega), atI_nat hc]
    show MS.mk _ (s.st ++ [c]) _ _ _ _ _ = _
    rw [hz.st]
    rfl
  rw [e]
  exact ⟨rfl, rfl, hz.f, hz.bk, rfl, hz.ou⟩⟩) g
theorem g_eof (h : nodeAt im a = some (44, arg, su)) (hc : nums.length ≤ p) (g : GoS im nums k ⟨su, st ++ [-1], f, bk, p, ou⟩ C) : GoS im nums (k + 1) ⟨a, st, f, bk, p, ou⟩ C := GoS.one (fun s hz => ⟨_, stepM_at (by rw [hz.a]; exact h), by
  have e : perfM im nums (44, arg, su) (goM s (44, arg, su)) = { (goM s (44, arg, su)) with st := st ++ [-1] } := by
    show (if s.p < nums.length then { (pushM (goM s (44, arg, su)) ((atI nums s.p).getD 0)) with p := s.p + 1 } else pushM (goM s (44, arg, su)) (-1)) = _
    have e0 : s.p = (p : Int) := hz.p
    rw [e0, if_neg (by omega)]
    show MS.mk _ (s.st ++ [-1]) _ _ _ _ _ = _
    rw [hz.st]
  rw [e]
  exact ⟨rfl, rfl, hz.f, hz.bk, hz.p, hz.ou⟩⟩) g
theorem g_br0 (h : nodeAt im a = some (63, arg, su)) (hv : v = 0) (g : GoS im nums k ⟨arg, st, f, bk, p, ou⟩ C) : GoS im nums (k + 1) ⟨a, st ++ [v], f, bk, p, ou⟩ C := GoS.one (fun s hz => ⟨_, stepM_at (by rw [hz.a]; exact h), by
  have e : perfM im nums (63, arg, su) (goM s (63, arg, su)) = { (goM s (63, arg, su)) with st := st, a := arg } := by
    show (if topM (goM s (63, arg, su)) = 0 then { (popM (goM s (63, arg, su))) with a := arg } else popM (goM s (63, arg, su))) = _
    rw [top_snoc (s := goM s (63, arg, su)) hz.st, pop_snoc (s := goM s (63, arg, su)) hz.st, if_pos hv]
  rw [e]
  exact ⟨rfl, rfl, hz.f, hz.bk, hz.p, hz.ou⟩⟩) g
theorem g_br1 (h : nodeAt im a = some (63, arg, su)) (hv : v ≠ 0) (g : GoS im nums k ⟨su, st, f, bk, p, ou⟩ C) : GoS im nums (k + 1) ⟨a, st ++ [v], f, bk, p, ou⟩ C := GoS.one (fun s hz => ⟨_, stepM_at (by rw [hz.a]; exact h), by
  have e : perfM im nums (63, arg, su) (goM s (63, arg, su)) = { (goM s (63, arg, su)) with st := st } := by
    show (if topM (goM s (63, arg, su)) = 0 then { (popM (goM s (63, arg, su))) with a := arg } else popM (goM s (63, arg, su))) = _
    rw [top_snoc (s := goM s (63, arg, su)) hz.st, pop_snoc (s := goM s (63, arg, su)) hz.st, if_neg hv]
  rw [e]
  exact ⟨rfl, rfl, hz.f, hz.bk, hz.p, hz.ou⟩⟩) g
theorem g_cap (h : nodeAt im a = some (op, arg, su)) (hl : ACTS.lookup op = none) (hs : isSm op = false) (hc : isCp op = true) (g : GoS im nums k ⟨op, st, f, bk ++ [su], p, ou⟩ C) : GoS im nums (k + 1) ⟨a, st, f, bk, p, ou⟩ C := GoS.one (fun s hz => ⟨callM (goM s (op, arg, su)) op, by
  rw [stepM_at (n := (op, arg, su)) (by rw [hz.a]; exact h)]
  unfold perfM
  dsimp only
  rw [hl]
  dsimp only
  rw [if_neg (by rw [hs]; exact Bool.false_ne_true), if_pos hc], by
  refine ⟨rfl, hz.st, hz.f, ?_, hz.p, hz.ou⟩
  show s.bk ++ [su] = bk ++ [su]
  rw [hz.bk]⟩) g
theorem g_ret (h : nodeAt im a = some (41, arg, su)) (g : GoS im nums k ⟨v, st, f, bk, p, ou⟩ C) : GoS im nums (k + 1) ⟨a, st, f, bk ++ [v], p, ou⟩ C := GoS.one (fun s hz => ⟨_, stepM_at (by rw [hz.a]; exact h), by
  have e : perfM im nums (41, arg, su) (goM s (41, arg, su)) = { (goM s (41, arg, su)) with bk := bk, a := v } := by
    show aRet im nums (41, arg, su) (goM s (41, arg, su)) = _
    unfold aRet
    have hb : (goM s (41, arg, su)).bk = bk ++ [v] := hz.bk
    rw [hb, List.getLast?_concat]
    dsimp only
    rw [List.dropLast_concat]
  rw [e]
  exact ⟨rfl, hz.st, hz.f, rfl, hz.p, hz.ou⟩⟩) g
theorem g_ret0 (h : nodeAt im a = some (41, arg, su)) (g : GoS im nums k ⟨su, st, f, [], p, ou⟩ C) : GoS im nums (k + 1) ⟨a, st, f, [], p, ou⟩ C := GoS.one (fun s hz => ⟨_, stepM_at (by rw [hz.a]; exact h), by
  have e : perfM im nums (41, arg, su) (goM s (41, arg, su)) = goM s (41, arg, su) := by
    show aRet im nums (41, arg, su) (goM s (41, arg, su)) = _
    unfold aRet
    have hb : (goM s (41, arg, su)).bk = [] := hz.bk
    rw [hb]
    rfl
  rw [e]
  exact ⟨rfl, hz.st, hz.f, hz.bk, hz.p, hz.ou⟩⟩) g
theorem g_write (h : nodeAt im a = some (46, arg, su)) (g : GoS im nums k ⟨su, st, f, bk, p, ou ++ [v]⟩ C) : GoS im nums (k + 1) ⟨a, st ++ [v], f, bk, p, ou⟩ C := GoS.one (fun s hz => ⟨_, stepM_at (by rw [hz.a]; exact h), by
  have e : perfM im nums (46, arg, su) (goM s (46, arg, su)) = { (goM s (46, arg, su)) with st := st, ou := s.ou ++ [v] } := by
    show { (popM (goM s (46, arg, su))) with ou := s.ou ++ [topM (goM s (46, arg, su))] } = _
    rw [top_snoc (s := goM s (46, arg, su)) hz.st, pop_snoc (s := goM s (46, arg, su)) hz.st]
  rw [e]
  refine ⟨rfl, rfl, hz.f, hz.bk, hz.p, ?_⟩
  show s.ou ++ [v] = ou ++ [v]
  rw [hz.ou]⟩) g
theorem g_double (h : nodeAt im a = some (34, arg, su)) (g : GoS im nums k ⟨su, st ++ [v] ++ [v], f, bk, p, ou⟩ C) : GoS im nums (k + 1) ⟨a, st ++ [v], f, bk, p, ou⟩ C := GoS.one (fun s hz => ⟨_, stepM_at (by rw [hz.a]; exact h), by
  have e : perfM im nums (34, arg, su) (goM s (34, arg, su)) = { (goM s (34, arg, su)) with st := st ++ [v] ++ [v] } := by
    show pushM (pushM (popM (goM s (34, arg, su))) (topM (goM s (34, arg, su)))) (topM (goM s (34, arg, su))) = _
    rw [top_snoc (s := goM s (34, arg, su)) hz.st, pop_snoc (s := goM s (34, arg, su)) hz.st]
    rfl
  rw [e]
  exact ⟨rfl, rfl, hz.f, hz.bk, hz.p, hz.ou⟩⟩) g
theorem g_nop (h : nodeAt im a = some (op, arg, su)) (hl : ACTS.lookup op = none) (hs : isSm op = false) (hc : isCp op = false) (g : GoS im nums k ⟨su, st, f, bk, p, ou⟩ C) : GoS im nums (k + 1) ⟨a, st, f, bk, p, ou⟩ C := GoS.one (fun s hz => ⟨goM s (op, arg, su), by
  rw [stepM_at (n := (op, arg, su)) (by rw [hz.a]; exact h)]
  unfold perfM
  dsimp only
  rw [hl]
  dsimp only
  rw [if_neg (by rw [hs]; exact Bool.false_ne_true), if_neg (by rw [hc]; exact Bool.false_ne_true)], by exact ⟨rfl, hz.st, hz.f, hz.bk, hz.p, hz.ou⟩⟩) g
theorem g_drop (h : nodeAt im a = some (95, arg, su)) (g : GoS im nums k ⟨su, st, f, bk, p, ou⟩ C) : GoS im nums (k + 1) ⟨a, st ++ [v], f, bk, p, ou⟩ C := GoS.one (fun s hz => ⟨_, stepM_at (by rw [hz.a]; exact h), by
  have e : perfM im nums (95, arg, su) (goM s (95, arg, su)) = { (goM s (95, arg, su)) with st := st } := by
    show popM (goM s (95, arg, su)) = _
    rw [pop_snoc (s := goM s (95, arg, su)) hz.st]
  rw [e]
  exact ⟨rfl, rfl, hz.f, hz.bk, hz.p, hz.ou⟩⟩) g
theorem g_exch (h : nodeAt im a = some (92, arg, su)) (g : GoS im nums k ⟨su, st ++ [y] ++ [x], f, bk, p, ou⟩ C) : GoS im nums (k + 1) ⟨a, st ++ [x] ++ [y], f, bk, p, ou⟩ C := GoS.one (fun s hz => ⟨_, stepM_at (by rw [hz.a]; exact h), by
  have h1 := hz.st
  have e : perfM im nums (92, arg, su) (goM s (92, arg, su)) = { (goM s (92, arg, su)) with st := st ++ [y] ++ [x] } := by
    show pushM (pushM (popM (popM (goM s (92, arg, su)))) (topM (goM s (92, arg, su)))) (topM (popM (goM s (92, arg, su)))) = _
    have t1 : topM (goM s (92, arg, su)) = y := top_snoc h1
    have p1 : popM (goM s (92, arg, su)) = { (goM s (92, arg, su)) with st := st ++ [x] } := pop_snoc h1
    rw [t1, p1, top_snoc (l := st) (y := x) rfl, pop_snoc (l := st) (y := x) rfl]
    rfl
  rw [e]
  exact ⟨rfl, rfl, hz.f, hz.bk, hz.p, hz.ou⟩⟩) g
end
/-- a whole run: it ends there, and is told -/
theorem run_of {im nums : List Int} {k : Nat} {f : Int → Int} {e : Int} {st bk ou : List Int} {p : Nat} (g : GoS im nums k ⟨0, [], fun _ => 0, [], 0, []⟩ ⟨e, st, f, bk, p, ou⟩) (he : nodeAt im e = none) {n : Nat} (hn : k ≤ n) : advM im nums ms0 n = advM im nums ms0 k ∧ (advM im nums ms0 k).2 = k ∧ runD im nums n = .tuple [.bool true, .list (ou.map PyData.int), .int (k : Int)] := by
  obtain ⟨t, h1, h2⟩ := g ms0 ⟨rfl, rfl, fun _ => rfl, rfl, rfl, rfl⟩
  have ha := h1.adv
  have hs : stepM im nums (advM im nums ms0 k).1 = none := by rw [ha]; unfold stepM; rw [h2.a, he]; rfl
  have hN : advM im nums ms0 n = advM im nums ms0 k := by
    have := adv_end (im := im) (nums := nums) (s := ms0) (n := k) hs (n - k)
    rwa [show k + (n - k) = n by omega] at this
  refine ⟨hN, by rw [ha], ?_⟩
  unfold runD
  rw [hN, ha]
  dsimp only
  rw [h2.a, he, h2.ou]
  rfl
def dgI (c : Int) : Int := combI 126 (combI 42 (combI 60 47 c) (combI 60 c 58)) 11
theorem dg_yes {c : Int} (h : isDg c = true) : dgI c ≠ 0 := by
  unfold isDg at h
  simp only [Bool.and_eq_true, decide_eq_true_eq] at h
  have h1 : combI 60 47 c = 1 := by show (if (47 : Int) < c then (1 : Int) else 0) = 1; rw [if_pos (by omega)]
  have h2 : combI 60 c 58 = 1 := by show (if c < (58 : Int) then (1 : Int) else 0) = 1; rw [if_pos (by omega)]
  unfold dgI
  rw [h1, h2]
  decide
theorem dg_no {c : Int} (h : isDg c = false) : dgI c = 0 := by
  unfold isDg at h
  simp only [Bool.and_eq_false_iff, decide_eq_false_iff_not] at h
  unfold dgI
  by_cases a : (47 : Int) < c
  · have h1 : combI 60 47 c = 1 := by show (if (47 : Int) < c then (1 : Int) else 0) = 1; rw [if_pos a]
    have h2 : combI 60 c 58 = 0 := by show (if c < (58 : Int) then (1 : Int) else 0) = 0; rw [if_neg (by omega)]
    rw [h1, h2]
    decide
  · have h1 : combI 60 47 c = 0 := by show (if (47 : Int) < c then (1 : Int) else 0) = 0; rw [if_neg a]
    rw [h1]
    by_cases b : c < (58 : Int)
    · have h2 : combI 60 c 58 = 1 := by show (if c < (58 : Int) then (1 : Int) else 0) = 1; rw [if_pos b]
      rw [h2]
      decide
    · have h2 : combI 60 c 58 = 0 := by show (if c < (58 : Int) then (1 : Int) else 0) = 0; rw [if_neg b]
      rw [h2]
      decide
theorem up_at {f : Int → Int} {k v : Int} : upF f k v k = v := if_pos rfl
theorem drop_cons {nums ls : List Int} {p : Nat} {c : Int} (h : nums.drop p = c :: ls) : nums[p]? = some c ∧ nums.drop (p + 1) = ls := by
  constructor
  · have := List.getElem?_drop (xs := nums) (i := p) (j := 0)
    rw [h] at this
    simpa using this.symm
  · rw [← List.drop_drop, h]
    rfl
theorem drop_nil {nums : List Int} {p : Nat} (h : nums.drop p = []) : nums.length ≤ p := List.drop_eq_nil_iff.mp h
theorem tw_go {c : Int} {ls : List Int} (h : nn c = true) : ((c :: ls).takeWhile nn).length = (ls.takeWhile nn).length + 1 := by rw [List.takeWhile_cons, h]; rfl
theorem dg_nn {c : Int} (h : nn c = false) : isDg c = false := by
  unfold nn at h
  unfold isDg
  have := of_decide_eq_false h
  rw [decide_eq_false (by omega)]
  rfl
theorem run_sz {im nums : List Int} {k : Nat} (hk : (advM im nums ms0 k).2 = k) (he : ∀ n, k ≤ n → advM im nums ms0 n = advM im nums ms0 k) (hl : 3 * k ≤ 90000) (i : Nat) : Sz 90000 (advM im nums ms0 i).1 := by
  have h0 : Sz 0 ms0 := ⟨Nat.le_refl _, Nat.le_refl _, Nat.le_refl _, Nat.le_refl _⟩
  have h1 := adv_sz (im := im) (nums := nums) h0 i
  refine h1.mono ?_
  by_cases h : k ≤ i
  · rw [he i h, hk]; omega
  · have := (adv_inv (im := im) (nums := nums) (s := ms0) i).1
    omega

theorem lt1 {x y : Int} (h : x < y) : combI 60 x y ≠ 0 := by show (if x < y then (1 : Int) else 0) ≠ 0; rw [if_pos h]; decide
theorem lt0 {x y : Int} (h : ¬ x < y) : combI 60 x y = 0 := by show (if x < y then (1 : Int) else 0) = 0; rw [if_neg h]
theorem eq1 {x y : Int} (h : x = y) : combI 126 x y ≠ 0 := by show (if x = y then (1 : Int) else 0) ≠ 0; rw [if_pos h]; decide
theorem eq0 {x y : Int} (h : ¬ x = y) : combI 126 x y = 0 := by show (if x = y then (1 : Int) else 0) = 0; rw [if_neg h]
end Gd

set_option Elab.async false
set_option linter.all false
set_option maxRecDepth 100000
set_option maxHeartbeats 4000000
/-! Of our own: an image whose numbers are renamed runs alike. -/
namespace Gd
open PySem PySem.Spec PyProof.Rows L2 Evl
def renR (ρ : Int → Int) (r : Int × Nd) : Int × Nd := (ρ r.1, r.2.1, (if r.2.1 = 63 then ρ r.2.2.1 else r.2.2.1), ρ r.2.2.2)
def renN (ρ : Int → Int) (n : Nd) : Nd := (n.1, (if n.1 = 63 then ρ n.2.1 else n.2.1), ρ n.2.2)
structure NdS (S : Int → Prop) (n : Nd) : Prop where
  su : S n.2.2
  br : n.1 = 63 → S n.2.1
  c : n.1 ≠ 38
  p : n.1 ≠ 40
/-- im2 is im with its numbers renamed; S: the numbers that may come up -/
structure Ren (ρ : Int → Int) (S : Int → Prop) (im im2 : List Int) : Prop where
  inj : ∀ x y, S x → S y → ρ x = ρ y → x = y
  fix : ∀ x, 0 ≤ x → x ≤ 199 → S x ∧ ρ x = x
  ok : ∀ r ∈ rowsOf im, S r.1 ∧ NdS S r.2
  m : rowsOf im2 = (rowsOf im).map (renR ρ)
def renS (ρ : Int → Int) (s : MS) : MS := { s with a := ρ s.a, bk := s.bk.map ρ }
structure InS (S : Int → Prop) (s : MS) : Prop where
  a : S s.a
  bk : ∀ x ∈ s.bk, S x
section
variable {ρ : Int → Int} {S : Int → Prop} {im im2 nums : List Int} {s t : MS} {n : Nd}
theorem renIn {k : Int} (inj : ∀ x y, S x → S y → ρ x = ρ y → x = y) (hk : S k) : ∀ (rows : List (Int × Nd)) (acc : Option Nd), (∀ r ∈ rows, S r.1) →
    (rows.map (renR ρ)).foldl (pickR (ρ k)) (acc.map fun n => (renR ρ (k, n)).2) = (rows.foldl (pickR k) acc).map fun n => (renR ρ (k, n)).2
  | [], _, _ => rfl
  | r :: rows, acc, h => by
    rw [List.map_cons, List.foldl_cons, List.foldl_cons]
    have h1 : pickR (ρ k) (acc.map fun n => (renR ρ (k, n)).2) (renR ρ r) = (pickR k acc r).map fun n => (renR ρ (k, n)).2 := by
      unfold pickR
      have hr := h r (List.mem_cons_self ..)
      show (if ρ r.1 = ρ k then _ else _) = _
      by_cases e : r.1 = k
      · rw [if_pos (by rw [e]), if_pos e]
        rfl
      · rw [if_neg (fun z => e (inj _ _ hr hk z)), if_neg e]
    rw [h1]
    exact renIn inj hk rows _ fun r hr => h r (List.mem_cons_of_mem _ hr)
theorem Ren.node (h : Ren ρ S im im2) {k : Int} (hk : S k) : nodeAt im2 (ρ k) = (nodeAt im k).map (renN ρ) := by
  have := renIn h.inj hk (rowsOf im) none (fun r hr => (h.ok r hr).1)
  unfold nodeAt nodeIn
  rw [h.m]
  exact this
theorem Ren.nd (h : Ren ρ S im im2) {k : Int} (e : nodeAt im k = some n) : NdS S n := by
  rcases nodeIn_mem _ _ (show (rowsOf im).foldl (pickR k) none = some n from e) with h1 | ⟨r, h1, h2⟩
  · cases h1
  · rw [← h2]
    exact (h.ok r h1).2
theorem Ren.can (h : Ren ρ S im im2) (k : Int) : canC im2 k = canC im k := by
  unfold canC
  by_cases c : 1 ≤ k ∧ k ≤ 199
  · have f := h.fix k (by omega) c.2
    have := h.node f.1
    rw [f.2] at this
    rw [this, Option.isSome_map]
  · have : (decide (1 ≤ k) && decide (k ≤ 199)) = false := by
      simp only [Bool.and_eq_false_iff, decide_eq_false_iff_not]
      omega
    rw [this]
    rfl
theorem lookup_none {op : Int} (h1 : op ≠ 38) (h3 : op ≠ 40) (c0 : op ≠ 36) (c1 : op ≠ 63) (c2 : op ≠ 41) (c3 : op ≠ 44) (c : ¬ (op = 35 ∨ op = 43 ∨ op = 45 ∨ op = 42 ∨ op = 60 ∨ op = 126 ∨ op = 64 ∨ op = 33 ∨ op = 61 ∨ op = 94 ∨ op = 46 ∨ op = 95 ∨ op = 34 ∨ op = 92)) : ACTS.lookup op = none := by
  unfold ACTS
  simp only [List.lookup]
  have ne : ∀ k : Int, op ≠ k → (op == k) = false := fun k hk => by simp [hk]
  rw [ne 35 (by omega), ne 43 (by omega), ne 45 (by omega), ne 42 (by omega), ne 60 (by omega), ne 126 (by omega), ne 64 (by omega), ne 33 (by omega), ne 61 (by omega), ne 44 c3, ne 94 (by omega), ne 46 (by omega), ne 38 h1, ne 95 (by omega), ne 34 (by omega), ne 92 (by omega), ne 63 c1, ne 40 h3, ne 36 c0, ne 41 c2]
theorem ren_perf (R : Ren ρ S im im2) (h : NdS S n) : perfM im2 nums (renN ρ n) (renS ρ s) = renS ρ (perfM im nums n s) := by
  obtain ⟨op, arg, su⟩ := n
  obtain ⟨_, _, h1, h3⟩ := h
  have h1 : op ≠ 38 := h1
  have h3 : op ≠ 40 := h3
  have e63 : op ≠ 63 → renN ρ (op, arg, su) = (op, arg, ρ su) := fun e => by unfold renN; dsimp only; rw [if_neg e]
  by_cases c1 : op = 63
  · subst c1
    have e : renN ρ (63, arg, su) = (63, ρ arg, ρ su) := rfl
    rw [e]
    show (if topM s = 0 then { (popM (renS ρ s)) with a := ρ arg } else popM (renS ρ s)) = renS ρ (if topM s = 0 then { (popM s) with a := arg } else popM s)
    split <;> rfl
  rw [e63 c1]
  by_cases c0 : op = 36
  · subst c0
    show (if canC im2 (topM s) = true then callM (popM (renS ρ s)) (topM s) else pushM (popM (renS ρ s)) (topM s)) = renS ρ (if canC im (topM s) = true then callM (popM s) (topM s) else pushM (popM s) (topM s))
    rw [R.can]
    by_cases c : canC im (topM s) = true
    · rw [if_pos c, if_pos c]
      have hk : 1 ≤ topM s ∧ topM s ≤ 199 := by
        unfold canC at c
        simp only [Bool.and_eq_true, decide_eq_true_eq] at c
        exact c.1
      have f := R.fix (topM s) (by omega) hk.2
      show MS.mk _ _ _ _ _ _ _ = MS.mk _ _ _ _ _ _ _
      congr 1
      · exact f.2.symm
      · show s.bk.map ρ ++ [ρ s.a] = (s.bk ++ [s.a]).map ρ
        rw [List.map_append]; rfl
    · rw [if_neg c, if_neg c]; rfl
  by_cases c2 : op = 41
  · subst c2
    show aRet im2 nums (41, arg, ρ su) (renS ρ s) = renS ρ (aRet im nums (41, arg, su) s)
    unfold aRet
    have : (renS ρ s).bk = s.bk.map ρ := rfl
    rw [this, List.getLast?_map]
    cases hq : s.bk.getLast? with
    | none => rfl
    | some v =>
      show MS.mk _ _ _ _ _ _ _ = MS.mk _ _ _ _ _ _ _
      congr 1
      exact (List.map_dropLast ..).symm
  by_cases c3 : op = 44
  · subst c3
    show (if s.p < nums.length then { (pushM (renS ρ s) ((atI nums s.p).getD 0)) with p := s.p + 1 } else pushM (renS ρ s) (-1)) = renS ρ (if s.p < nums.length then { (pushM s ((atI nums s.p).getD 0)) with p := s.p + 1 } else pushM s (-1))
    split <;> rfl
  by_cases c : op = 35 ∨ op = 43 ∨ op = 45 ∨ op = 42 ∨ op = 60 ∨ op = 126 ∨ op = 64 ∨ op = 33 ∨ op = 61 ∨ op = 94 ∨ op = 46 ∨ op = 95 ∨ op = 34 ∨ op = 92
  · rcases c with rfl | rfl | rfl | rfl | rfl | rfl | rfl | rfl | rfl | rfl | rfl | rfl | rfl | rfl <;> rfl
  unfold perfM
  dsimp only
  rw [lookup_none h1 h3 c0 c1 c2 c3 c]
  dsimp only
  by_cases c4 : isSm op = true
  · rw [if_pos c4, if_pos c4]; rfl
  rw [if_neg c4, if_neg c4]
  by_cases c5 : isCp op = true
  · rw [if_pos c5, if_pos c5]
    have : 65 ≤ op ∧ op ≤ 90 := by
      unfold isCp at c5
      simp only [Bool.and_eq_true, decide_eq_true_eq] at c5
      exact c5
    show MS.mk _ _ _ _ _ _ _ = MS.mk _ _ _ _ _ _ _
    congr 1
    · exact (R.fix op (by omega) (by omega)).2.symm
    · show s.bk.map ρ ++ [ρ s.a] = (s.bk ++ [s.a]).map ρ
      rw [List.map_append]; rfl
  · rw [if_neg c5, if_neg c5]
theorem inS_perf (R : Ren ρ S im im2) (h : NdS S n) (hN : InS S s) : InS S (perfM im nums n s) := by
  obtain ⟨op, arg, su⟩ := n
  obtain ⟨_, hb, h1, h3⟩ := h
  have h1 : op ≠ 38 := h1
  have h3 : op ≠ 40 := h3
  have call : ∀ k : Int, S k → InS S (callM s k) := fun k hk => ⟨hk, fun x hx => by
    rcases List.mem_append.mp (show x ∈ s.bk ++ [s.a] from hx) with h | h
    · exact hN.bk x h
    · rw [List.mem_singleton.mp h]; exact hN.a⟩
  by_cases c1 : op = 63
  · subst c1
    show InS S (if topM s = 0 then { (popM s) with a := arg } else popM s)
    split
    · exact ⟨hb rfl, hN.bk⟩
    · exact ⟨hN.a, hN.bk⟩
  by_cases c0 : op = 36
  · subst c0
    show InS S (if canC im (topM s) = true then callM (popM s) (topM s) else pushM (popM s) (topM s))
    by_cases c : canC im (topM s) = true
    · rw [if_pos c]
      have hk : 1 ≤ topM s ∧ topM s ≤ 199 := by
        unfold canC at c
        simp only [Bool.and_eq_true, decide_eq_true_eq] at c
        exact c.1
      have := call (topM s) (R.fix (topM s) (by omega) hk.2).1
      exact ⟨this.a, this.bk⟩
    · rw [if_neg c]; exact ⟨hN.a, hN.bk⟩
  by_cases c2 : op = 41
  · subst c2
    show InS S (aRet im nums (41, arg, su) s)
    unfold aRet
    cases hq : s.bk.getLast? with
    | none => exact hN
    | some v => exact ⟨hN.bk v (List.mem_of_getLast? hq), fun x hx => hN.bk x (List.dropLast_subset _ hx)⟩
  by_cases c3 : op = 44
  · subst c3
    show InS S (if s.p < nums.length then { (pushM s ((atI nums s.p).getD 0)) with p := s.p + 1 } else pushM s (-1))
    split <;> exact ⟨hN.a, hN.bk⟩
  by_cases c : op = 35 ∨ op = 43 ∨ op = 45 ∨ op = 42 ∨ op = 60 ∨ op = 126 ∨ op = 64 ∨ op = 33 ∨ op = 61 ∨ op = 94 ∨ op = 46 ∨ op = 95 ∨ op = 34 ∨ op = 92
  · rcases c with rfl | rfl | rfl | rfl | rfl | rfl | rfl | rfl | rfl | rfl | rfl | rfl | rfl | rfl <;> exact ⟨hN.a, hN.bk⟩
  unfold perfM
  dsimp only
  rw [lookup_none h1 h3 c0 c1 c2 c3 c]
  dsimp only
  by_cases c4 : isSm op = true
  · rw [if_pos c4]; exact ⟨hN.a, hN.bk⟩
  rw [if_neg c4]
  by_cases c5 : isCp op = true
  · rw [if_pos c5]
    refine call op (R.fix op ?_ ?_).1 <;>
    · unfold isCp at c5
      simp only [Bool.and_eq_true, decide_eq_true_eq] at c5
      omega
  · rw [if_neg c5]; exact hN
theorem ren_step (h : Ren ρ S im im2) (hN : InS S s) : stepM im2 nums (renS ρ s) = (stepM im nums s).map (renS ρ) ∧ ∀ t, stepM im nums s = some t → InS S t := by
  unfold stepM
  have e : nodeAt im2 (renS ρ s).a = (nodeAt im s.a).map (renN ρ) := h.node hN.a
  rw [e]
  cases q : nodeAt im s.a with
  | none => exact ⟨rfl, fun t z => nomatch z⟩
  | some n =>
    have ok := h.nd q
    refine ⟨?_, fun t z => ?_⟩
    · show some (perfM im2 nums (renN ρ n) (goM (renS ρ s) (renN ρ n))) = some (renS ρ (perfM im nums n (goM s n)))
      rw [← ren_perf (nums := nums) h ok]
      rfl
    · cases z
      exact inS_perf h ok ⟨ok.su, hN.bk⟩
theorem ren_adv (h : Ren ρ S im im2) (hN : InS S s) : ∀ n : Nat, advM im2 nums (renS ρ s) n = (renS ρ (advM im nums s n).1, (advM im nums s n).2) ∧ InS S (advM im nums s n).1
  | 0 => ⟨rfl, hN⟩
  | n + 1 => by
    obtain ⟨e, hn⟩ := ren_adv h hN n
    obtain ⟨h1, h2⟩ := ren_step (nums := nums) h hn
    rw [advM, advM, e]
    dsimp only
    rw [h1]
    by_cases c : (advM im nums s n).2 = n
    · rw [if_pos c, if_pos c]
      cases q : stepM im nums (advM im nums s n).1 with
      | none => exact ⟨rfl, hn⟩
      | some t => exact ⟨rfl, h2 t q⟩
    · rw [if_neg c, if_neg c]
      exact ⟨rfl, hn⟩
theorem ren_run (h : Ren ρ S im im2) (n : Nat) : runD im2 nums n = runD im nums n := by
  have f0 := h.fix 0 (by decide) (by decide)
  have e0 : renS ρ ms0 = ms0 := by
    show MS.mk _ _ _ _ _ _ _ = MS.mk _ _ _ _ _ _ _
    congr 1
    exact f0.2
  obtain ⟨e, hn⟩ := ren_adv (nums := nums) (s := ms0) h ⟨f0.1, fun _ z => nomatch z⟩ n
  rw [e0] at e
  unfold runD
  rw [e]
  have e2 : nodeAt im2 (renS ρ (advM im nums ms0 n).1).a = (nodeAt im (advM im nums ms0 n).1.a).map (renN ρ) := h.node hn.a
  dsimp only
  rw [e2, Option.isNone_map]
  rfl
end
end Gd

set_option Elab.async false
set_option linter.all false
set_option maxRecDepth 100000
set_option maxHeartbeats 4000000
/-! Of our own: [y for x in xs for y in x] over tuples of ints; tuples of tuples of the top. -/
namespace Gd
open PySem PySem.Spec PyProof.Rows L2 Evl
def rowT (l : List Int) : PyData := .tuple (l.map PyData.int)
section
variable {K : PySem.W.Frag} {σ : L2.St} {H : Hp}
theorem lc2_rows {J : It} {xs : List V} {G : Hp → Prop} (w : Walk J xs.length G (YAt xs)) {rows : List (List Int)} {H1 : Hp} {Dl : Addr} {Qd : Hp → Prop} {j j1 : Nat} {vs vs1 : List Nat}
    (hG : ∀ H', Ex H1 H' → G H') (hd : DpAll K H1 xs (rows.map rowT)) (hz : rows.flatten.length ≤ 90000)
    (w1 : ∀ x, wipe ((wipe σ vs).set j (some x)) vs = wipe σ vs)
    (w2 : ∀ x y, wipe ((wipe ((wipe σ vs).set j (some x)) vs1).set j1 (some y)) vs1 = wipe ((wipe σ vs).set j (some x)) vs1)
    (v1 : ∀ x, ((wipe σ vs).set j (some x))[j]? = some (some x))
    (v2 : ∀ x y, ((wipe ((wipe σ vs).set j (some x)) vs1).set j1 (some y))[j1]? = some (some y))
    (hD : H1 Dl = none) (k : ∀ H', Ex H1 H' → H' Dl = some (.lst (rows.flatten.map V.int)) → Qd H') :
    ∃ W : Nat → Nat → Hp → Prop, (∃ m, W 0 m (upd H1 Dl (.lst []))) ∧ ∀ i m H, W i m H →
      (J.stop i H ∧ Qd H) ∨ (J.go i H ∧ ∃ Nx : Hp → Prop, (∀ H', Nx H' → ∃ m', m' < m ∧ W (i + 1) m' H') ∧ ∀ x H', J.yld i H x H' → gName j x (wipe σ vs) H' fun σ2 H2 => wipe σ2 vs = wipe σ vs ∧ tYes σ2 H2 fun b H3 =>
        if b = true then iTup K (tVar j) σ2 H3 fun J1 H4 => ∃ W1 : Nat → Nat → Hp → Prop, (∃ m, W1 0 m H4) ∧ ∀ j k H, W1 j k H →
          (J1.stop j H ∧ Nx H) ∨ (J1.go j H ∧ ∃ Nx1 : Hp → Prop, (∀ H', Nx1 H' → ∃ k', k' < k ∧ W1 (j + 1) k' H') ∧ ∀ x H', J1.yld j H x H' → gName j1 x (wipe σ2 vs1) H' fun σ3 H5 => wipe σ3 vs1 = wipe σ2 vs1 ∧ tYes σ3 H5 fun b H6 =>
            if b = true then tVar j1 σ3 H6 fun y H7 => ∃ acc, H7 Dl = some (.lst acc) ∧ acc.length < sizeLine ∧ Nx1 (upd H7 Dl (.lst (acc ++ [y]))) else Nx1 H6)
        else Nx H3) := by
  have hlen : xs.length = rows.length := by rw [dpAll_len hd, List.length_map]
  refine ⟨fun i m H' => m = xs.length - i ∧ i ≤ xs.length ∧ Ex H1 H' ∧ H' Dl = some (.lst ((rows.take i).flatten.map V.int)), ⟨xs.length, by simp, Nat.zero_le _, Ex.new hD, upd_same⟩, ?_⟩
  rintro i m H' ⟨rfl, hi, e, hl⟩
  by_cases hlt : i < xs.length
  · have hr : rows[i]? = some (rows[i]'(by omega)) := List.getElem?_eq_getElem (by omega)
    obtain ⟨v, hv, hdv⟩ := dpAll_at hd (i := i) (d := rowT (rows[i]'(by omega))) (by rw [List.getElem?_map, hr]; rfl)
    generalize (rows[i]'(by omega)) = l at hr hdv
    obtain ⟨t, rfl, ht⟩ := dp_intsT_inv (ns := l) hdv
    refine .inr ⟨w.goes i H' hlt (hG H' e), fun H'' => Ex H1 H'' ∧ H'' Dl = some (.lst ((rows.take (i + 1)).flatten.map V.int)), fun H'' p => ⟨xs.length - (i + 1), by omega, rfl, hlt, p⟩, fun x H2 y => ?_⟩
    obtain ⟨rfl, hx⟩ := w.yields i H' x H2 hlt (hG H' e) y
    rw [hv] at hx
    cases hx
    refine ⟨w1 _, ?_⟩
    dsimp only [tYes]
    rw [if_pos rfl]
    refine ⟨_, v1 _, t, rfl, ⟨_, ex_t e ht⟩, ?_⟩
    have hsn := take_snocF hr
    have hfl := len_take_flat rows (i + 1)
    rw [hsn] at hfl ⊢
    refine ⟨fun q k Hc => k = l.length - q ∧ q ≤ l.length ∧ Ex H1 Hc ∧ Hc Dl = some (.lst (((rows.take i).flatten ++ l.take q).map V.int)), ⟨l.length, by simp, Nat.zero_le _, e, by rw [List.take_zero, List.append_nil]; exact hl⟩, ?_⟩
    rintro q k Hc ⟨rfl, hq, ec, hc⟩
    have htc := ex_t ec ht
    by_cases hql : q < l.length
    · have hql' : q < (l.map V.int).length := by rw [List.length_map]; exact hql
      refine .inr ⟨(walk_tup (K := K) (a := t) (xs := l.map V.int)).goes q Hc hql' htc, fun H'' => Ex H1 H'' ∧ H'' Dl = some (.lst (((rows.take i).flatten ++ l.take (q + 1)).map V.int)), fun H'' p => ⟨l.length - (q + 1), by omega, rfl, hql, p⟩, fun x Hd y => ?_⟩
      obtain ⟨rfl, hx⟩ := (walk_tup (K := K) (a := t) (xs := l.map V.int)).yields q Hc x Hd hql' htc y
      obtain ⟨c, hc1, rfl⟩ := map_at hx
      refine ⟨w2 _ _, ?_⟩
      rw [if_pos rfl]
      refine ⟨_, v2 _ _, _, hc, sz_lt ?_, ec.mut hD, ?_⟩
      · rw [List.length_map, List.length_append, List.length_take]
        rw [List.length_append] at hfl
        omega
      · rw [upd_same, take_snoc hc1, ← List.append_assoc, List.map_append (l₂ := [c])]
        rfl
    · have hq' : q = l.length := by omega
      subst hq'
      refine .inl ⟨?_, ec, by rw [hc, List.take_length]⟩
      have := (walk_tup (K := K) (a := t) (xs := l.map V.int)).stops Hc htc
      rwa [List.length_map] at this
  · have hi' : i = xs.length := by omega
    subst hi'
    refine .inl ⟨w.stops H' (hG H' e), k H' e ?_⟩
    rw [hl, hlen, List.take_length]
/-- [y for x in l for y in x], l a list of tuples of ints -/
theorem el_lc2L {tl : TE} {a : Addr} {xs : List V} {rows : List (List Int)} {j j1 : Nat} {vs vs1 : List Nat} (h : Ev tl σ H (.ref a)) (hx : SqL K H a xs) (hd : DpAll K H xs (rows.map rowT)) (hz : rows.flatten.length ≤ 90000)
    (w1 : ∀ x, wipe ((wipe σ vs).set j (some x)) vs = wipe σ vs)
    (w2 : ∀ x y, wipe ((wipe ((wipe σ vs).set j (some x)) vs1).set j1 (some y)) vs1 = wipe ((wipe σ vs).set j (some x)) vs1)
    (v1 : ∀ x, ((wipe σ vs).set j (some x))[j]? = some (some x))
    (v2 : ∀ x y, ((wipe ((wipe σ vs).set j (some x)) vs1).set j1 (some y))[j1]? = some (some y)) :
    EvL (tLc2 (iList K tl) (gName j) tYes (iTup K (tVar j)) (gName j1) tYes (tVar j1) vs vs1) σ H (rows.flatten.map V.int) := fun H0 e Q q => h H0 e _ fun H1 e1 => ⟨a, rfl, ⟨xs, ex_l (e.trans e1) hx⟩, fun Dl hD =>
  lc2_rows walk_list (fun H' e' => ex_l ((e.trans e1).trans e') hx) (hd.ex (e.trans e1)) hz w1 w2 v1 v2 hD (fun H' e' h' => q Dl H' (fresh_back e1 hD) (e1.trans e') h')⟩
theorem el_lc2T {tl : TE} {a : Addr} {xs : List V} {rows : List (List Int)} {j j1 : Nat} {vs vs1 : List Nat} (h : Ev tl σ H (.ref a)) (hx : SqT K H a xs) (hd : DpAll K H xs (rows.map rowT)) (hz : rows.flatten.length ≤ 90000)
    (w1 : ∀ x, wipe ((wipe σ vs).set j (some x)) vs = wipe σ vs)
    (w2 : ∀ x y, wipe ((wipe ((wipe σ vs).set j (some x)) vs1).set j1 (some y)) vs1 = wipe ((wipe σ vs).set j (some x)) vs1)
    (v1 : ∀ x, ((wipe σ vs).set j (some x))[j]? = some (some x))
    (v2 : ∀ x y, ((wipe ((wipe σ vs).set j (some x)) vs1).set j1 (some y))[j1]? = some (some y)) :
    EvL (tLc2 (iTup K tl) (gName j) tYes (iTup K (tVar j)) (gName j1) tYes (tVar j1) vs vs1) σ H (rows.flatten.map V.int) := fun H0 e Q q => h H0 e _ fun H1 e1 => ⟨a, rfl, ⟨xs, ex_t (e.trans e1) hx⟩, fun Dl hD =>
  lc2_rows walk_tup (fun H' e' => ex_t ((e.trans e1).trans e') hx) (hd.ex (e.trans e1)) hz w1 w2 v1 v2 hD (fun H' e' h' => q Dl H' (fresh_back e1 hD) (e1.trans e') h')⟩
end
theorem rc_isTupS {K : PySem.W.Frag} {H : Hp} {p : Addr} {xs : List V} (h : SqT K H p xs) : RC (rIsi K) [.ref p, .ty "tuple"] H (.bl true) := fun H1 e _ q => by
  suffices ht : TyX K H1 (.ref p) (.type "tuple") from ⟨_, _, _, _, true, rfl, .ty "tuple", ht, kit_ty (by decide +kernel), q H1 (Ex.refl H1)⟩
  rcases ex_t e h with (h | ⟨o, h⟩) | ⟨o, its, n, h1, h2, _⟩
  · exact .base (.tup h)
  · exact .fTuple h
  · exact .kTuple h1 h2
theorem rc_isListS {K : PySem.W.Frag} {H : Hp} {p : Addr} {xs : List V} (h : SqL K H p xs) : RC (rIsi K) [.ref p, .ty "list"] H (.bl true) := fun H1 e _ q => by
  suffices ht : TyX K H1 (.ref p) (.type "list") from ⟨_, _, _, _, true, rfl, .ty "list", ht, kit_ty (by decide +kernel), q H1 (Ex.refl H1)⟩
  rcases ex_l e h with (h | ⟨o, h⟩) | ⟨o, its, n, h1, h2, _⟩
  · exact .base (.lst h)
  · exact .base (.frz h)
  · exact .kList h1 h2
theorem ev_callD {K : PySem.W.Frag} {σ : L2.St} {H : Hp} {sp : Sp} {E : XK} {t : TA} {ds : List PyData} {z : V} (h : EvDA K t σ H ds) (hs : ∀ vs H1, Ex H H1 → DpAll K H1 vs ds → SpV sp vs H1 z) : Ev (tCall sp [] E t) σ H z := fun H1 e Q q =>
  h H1 e _ fun vs H2 e2 hd => by
    have := hs vs H2 (e.trans e2) hd H2 (Ex.refl H2) Q (fun H3 e3 => q H3 (e2.trans e3)) E
    rwa [List.append_nil]
theorem rv_isnotB {H : Hp} {b c : Bool} : RV (fun x y H Q => ∃ a b, x = .bl a ∧ y = .bl b ∧ Q (.bl (!decide (a = b))) H) (.bl b) (.bl c) H (.bl (!decide (b = c))) := fun H1 _ _ q => ⟨b, c, rfl, rfl, q H1 (Ex.refl H1)⟩
theorem pi_tupK {X : Cx} {K : PySem.W.Frag} {tg l : Expr} {tl : TE} (e : X.K = K) (h : PE X l tl) : PI X tg l (iTup K tl) := e ▸ pi_tup h
theorem pi_listK {X : Cx} {K : PySem.W.Frag} {tg l : Expr} {tl : TE} (e : X.K = K) (h : PE X l tl) : PI X tg l (iList K tl) := e ▸ pi_list h
/-- a tuple of the top whose items are tuples of ints -/
def refsV : List Value → Option (List Addr)
  | [] => some []
  | .ref a :: r => (refsV r).map (a :: ·)
  | _ => none
theorem refsV_vals : ∀ {us : List Value} {ps : List Addr}, refsV us = some ps → Vals (ps.map V.ref) us
  | [], ps, h => by cases h; exact .nil
  | u :: r, ps, h => by
    cases u with
    | ref a =>
      rw [refsV] at h
      cases g : refsV r with
      | none => rw [g] at h; cases h
      | some l =>
        rw [g] at h
        cases h
        exact .cons rfl (refsV_vals g)
    | _ => cases h
inductive TupRows (K : PySem.W.Frag) : List Addr → List (List Int) → Prop
  | nil : TupRows K [] []
  | cons {a : Addr} {ns : List Int} {ps : List Addr} {rows : List (List Int)} (h : TupK K a (ns.map V.int)) (r : TupRows K ps rows) : TupRows K (a :: ps) (ns :: rows)
theorem TupRows.dp {K : PySem.W.Frag} {H : Hp} {ps : List Addr} {rows : List (List Int)} (h : TupRows K ps rows) : DpAll K H (ps.map V.ref) (rows.map rowT) := by
  induction h with
  | nil => exact .nil
  | cons h r ih => exact .cons (dp_intsT (h.sq H)) ih
def TupTT (K : PySem.W.Frag) (a : Addr) (rows : List (List Int)) : Prop := ∃ ps : List Addr, TupK K a (ps.map V.ref) ∧ TupRows K ps rows
theorem tupTT_of {K : PySem.W.Frag} {a : Addr} {od : Option Addr} {its : Array Value} {n : Nat} {sl : Array (Option Value)} {ps : List Addr} (h : K.lookup a = some ⟨.type "tuple", od, .seq its n, sl⟩) (hi : refsV its.toList = some ps) (hz : ps.length ≤ 1000) : TupK K a (ps.map V.ref) := by
  have hv := refsV_vals hi
  refine ⟨_, its, n, h, rfl, rfl, ?_, hv⟩
  have l : ∀ {xs : List V} {us : List Value}, Vals xs us → xs.length = us.length := fun h => by
    induction h with
    | nil => rfl
    | cons _ _ ih => rw [List.length_cons, List.length_cons, ih]
  have l2 := l hv
  rw [List.length_map] at l2
  have l3 : its.toList.length = its.size := Array.length_toList
  exact Nat.le_trans (by omega) (Nat.le_trans hz (by decide))
end Gd

set_option Elab.async false
set_option linter.all false
set_option maxRecDepth 100000
set_option maxHeartbeats 4000000
/-! Of our own: comprehensions whose elements are drawn; tuples of three taken apart behind a call that may raise; exceptions of two classes looked at. -/
namespace Gd
open PySem PySem.Spec PyProof.Rows L2 Evl
section
variable {K : PySem.W.Frag} {σ : L2.St} {H : Hp} {te tr : TE} {p : Addr} {C : Int → Prop}
/-- a new list of n drawn ints -/
def DrL (p : Addr) (H : Hp) (n : Nat) (C : Int → Prop) : V → Hp → Prop := fun v H' => ∃ (q : Addr) (cs : List Int), v = .ref q ∧ H q = none ∧ But p H H' ∧ Drw p H' ∧ H' q = some (.lst (cs.map V.int)) ∧ cs.length = n ∧ ∀ c ∈ cs, C c
theorem drw_upd {p q : Addr} {H : Hp} {o : HO} (h : Drw p H) (hq : q ≠ p) : Drw p (upd H q o) := by
  obtain ⟨ds, h1, h2⟩ := h
  exact ⟨ds, by rw [upd_ne (Ne.symm hq)]; exact h1, h2⟩
theorem but_new {p q : Addr} {H H' : Hp} {o : HO} (b : But p H H') (hq : H q = none) : But p H (upd H' q o) := fun c u n e => by
  rw [upd_ne (ne_of_none e hq)]
  exact b _ _ n e
theorem drw_ne {p q : Addr} {H : Hp} (h : Drw p H) (hq : H q = none) : q ≠ p := fun e => by
  obtain ⟨ds, h, _⟩ := h
  rw [e, h] at hq
  cases hq
/-- [e for k in range(n)], e drawn -/
theorem ep_lcDr {ta : TA} {n j : Nat} {vs : List Nat} (h : EvA ta σ H [.int (n : Int)]) (hz : n ≤ 90000) (hD : Drw p H) (hw : ∀ x, wipe ((wipe σ vs).set j (some x)) vs = wipe σ vs)
    (he : ∀ i, i < n → ∀ H', But p H H' → Drw p H' → EvP te ((wipe σ vs).set j (some (.int (i : Int)))) H' (DP p H' C)) : EvP (tLc (iRng1 ta) (gName j) tYes te vs) σ H (DrL p H n C) := fun Q q =>
  h H (Ex.refl H) _ fun H1 e1 => ⟨(n : Int), rfl, by omega, by omega, fun Dl hDl => by
    have z : ∀ i : Nat, (0 : Int) + (i : Int) = (i : Int) := fun i => Int.zero_add _
    have hD1 := hD.ex e1
    have np : Dl ≠ p := drw_ne hD1 hDl
    refine lc_range (lo := 0) (n := n) (fun i H' => But p H H' ∧ Drw p H' ∧ ∃ cs : List Int, H' Dl = some (.lst (cs.map V.int)) ∧ cs.length = i ∧ ∀ c ∈ cs, C c) ⟨but_new (ex_but e1) (fresh_back e1 hDl), drw_upd hD1 np, [], upd_same, rfl, fun c hc => nomatch hc⟩ (fun i H' hi hP => ?_) (fun H' hP => ?_)
    · obtain ⟨b, hD', cs, hl, hc, hC⟩ := hP
      refine ⟨hw _, ?_⟩
      dsimp only [tYes]
      rw [if_pos rfl, z]
      refine he i hi H' b hD' _ fun v H4 hv => ?_
      obtain ⟨d, rfl, hd, hD4, b4⟩ := hv
      have hl4 := b4 _ _ np hl
      refine ⟨_, hl4, sz_lt (by rw [List.length_map]; omega), but_new (b.trans b4) (fresh_back e1 hDl), drw_upd hD4 np, cs ++ [d], ?_, by rw [List.length_append, hc]; rfl, fun c hm => ?_⟩
      · rw [List.map_append (l₂ := [d])]
        exact upd_same
      · rcases List.mem_append.mp hm with m | m
        · exact hC c m
        · rw [List.mem_singleton.mp m]; exact hd
    · obtain ⟨b, hD', cs, hl, hc, hC⟩ := hP
      exact q _ H' ⟨Dl, cs, rfl, fresh_back e1 hDl, b, hD', hl, hc, hC⟩⟩
theorem ep_callP1 {sp : Sp} {E : XK} {P1 P : V → Hp → Prop} (h : EvP te σ H P1) (hs : ∀ v H1, P1 v H1 → ∀ Q : VK, (∀ v H', P v H' → Q v H') → sp [v] H1 Q E) : EvP (tCall sp [] E (tCons te tNil)) σ H P := fun Q q => h _ fun v H1 hv => hs v H1 hv Q q
theorem g_tup3 {a : Addr} {x y z : V} {i j k : Nat} {Q : L2.St → Hp → Prop} (h : SqT K H a [x, y, z]) (q : Q (((σ.set i (some x)).set j (some y)).set k (some z)) H) : gTup K 3 (gCons (gName i) (gCons (gName j) (gCons (gName k) gNil))) (.ref a) σ H Q :=
  ⟨a, [x, y, z], rfl, h, rfl, x, [y, z], rfl, y, [z], rfl, z, [], rfl, rfl, q⟩
/-- a, b, c = f(.., k=..), where f may raise -/
theorem q_unpNS {n m : Nat} {sp : Sp} {gV : List V → List V → List V} {E : L2.St → XK} {t tk : TA} {vs zs : List V} {g : TG} {D : Ends} {tz : TS} (h1 : EvA t σ H vs) (h2 : EvA tk σ H zs) (l1 : vs.length = n) (l2 : zs.length = m) (k : ∀ H1, Ex H H1 → sp (gV vs zs) H1 (fun v H' => g v σ H' (tz D)) (E σ)) : tSeq (tAsg (tCallNS n m sp gV E t tk) g) tz D σ H :=
  h1 H (Ex.refl H) _ fun H1 e1 => h2 H1 e1 _ fun H2 e2 => ⟨l1, l2, k H2 (e1.trans e2)⟩
theorem q_unpD {d : PyData} {g : TG} {D : Ends} {tz : TS} (h : EvD K te σ H d) (k : ∀ v H1, Ex H H1 → Dp K H1 v d → g v σ H1 (tz D)) : tSeq (tAsg te g) tz D σ H := h H (Ex.refl H) _ fun v H1 e1 hv => k v H1 e1 hv
def rMin2 : List V → Hp → VK → Prop := fun xs H Q => ∃ i j, xs = [.int i, .int j] ∧ Q (.int (if j < i then j else i)) H
theorem ev_min2 {ta tb : TE} {i j : Int} (ha : Ev ta σ H (.int i)) (hb : Ev tb σ H (.int j)) : Ev (tCB rMin2 (tCons ta (tCons tb tNil))) σ H (.int (if j < i then j else i)) := fun H1 e Q q =>
  ha H1 e _ fun H2 e2 => hb H2 (e.trans e2) _ fun H3 e3 => ⟨i, j, rfl, q H3 (e2.trans e3)⟩
/-- x if t else y, told by data -/
theorem ed_ifE {ta tb : TE} {tt : TT} {b : Bool} {d : PyData} (ht : EvT tt σ H b) (ha : b = true → EvD K ta σ H d) (hb : b = false → EvD K tb σ H d) : EvD K (tIf tt ta tb) σ H d := fun H1 e Q q =>
  ht H1 e _ fun H2 e2 => by
    cases b with
    | true => rw [if_pos rfl]; exact ha rfl H2 (e.trans e2) Q fun v H3 e3 hv => q v H3 (e2.trans e3) hv
    | false => rw [if_neg Bool.false_ne_true]; exact hb rfl H2 (e.trans e2) Q fun v H3 e3 hv => q v H3 (e2.trans e3) hv
end
theorem hq1 {K : PySem.W.Frag} {D : Addr} {x : Str} {i : Int} {t : Tok} (h1 : PySem.W.nsIn K D x = some (some (.int i t))) : ∀ q ∈ [(x, V.int i)], ∃ u, PySem.W.nsIn K D q.1 = some (some u) ∧ RelV q.2 u := fun q hq => by
  simp only [List.mem_singleton] at hq
  subst hq
  exact ⟨_, h1, ⟨_, rfl⟩⟩
/-- isinstance of an exception that is of one of two classes -/
def rIsX2 (K : PySem.W.Frag) (D1 D2 a : Addr) (cls : Value) (d : Option Addr) : List V → Hp → VK → Prop := fun xs H Q => rIsX K D1 a cls d xs H Q ∨ rIsX K D2 a cls d xs H Q
theorem call_isX2 {X : Cx} {a D1 D2 : Addr} {oe : Obj} {pn : List (Addr × Obj)} {cls : Value} {d : Option Addr} (C1 : ExcC X.K D1) (C2 : ExcC X.K D2) (hz : Zc cls d oe) (hf : ∃ vs, oe.data = .fields vs) : CallR (X.suite a ((a, oe) :: pn)) (.builtin "isinstance") (rIsX2 X.K D1 D2 a cls d) := by
  intro pins s σ H xs us Q I r h
  rcases h with h | h
  · exact call_isX C1 hz hf pins s σ H xs us Q I r h
  · exact call_isX C2 hz hf pins s σ H xs us Q I r h
theorem rc_isX21 {K : PySem.W.Frag} {H : Hp} {D1 D2 a : Addr} {c : V} {cv : Value} {b : Bool} (hc : ∀ u, RelV c u → u = cv) (hk : PySem.W.kitOne K (.ref D1) cv = some b) : RC (rIsX2 K D1 D2 a (.ref D1) none) [.ref a, c] H (.bl b) := fun H1 e Q q => .inl (rc_isX hc hk H1 e Q q)
theorem rc_isX22 {K : PySem.W.Frag} {H : Hp} {D1 D2 a : Addr} {c : V} {cv : Value} {b : Bool} (hc : ∀ u, RelV c u → u = cv) (hk : PySem.W.kitOne K (.ref D2) cv = some b) : RC (rIsX2 K D1 D2 a (.ref D2) none) [.ref a, c] H (.bl b) := fun H1 e Q q => .inr (rc_isX hc hk H1 e Q q)
/-! ### what a run puts out, if it ends -/
def childO (im nums : List Int) (n : Nat) : Option (List Int) := if (nodeAt im (advM im nums ms0 n).1.a).isNone = true then some (advM im nums ms0 n).1.ou else none
def optL : Option (List Int) → PyData
  | none => .none
  | some l => .list (l.map PyData.int)
theorem child_len {im nums : List Int} {n : Nat} {l : List Int} (h : childO im nums n = some l) : l.length ≤ 3 * n := by
  unfold childO at h
  split at h
  · cases h
    have h0 : Sz 0 ms0 := ⟨Nat.le_refl _, Nat.le_refl _, Nat.le_refl _, Nat.le_refl _⟩
    have h1 := (adv_sz (im := im) (nums := nums) h0 n).ou
    have h2 := (adv_inv (im := im) (nums := nums) (s := ms0) n).1
    omega
  · cases h
/-- a run's result: a new list within a tuple -/
def RetR (K : PySem.W.Frag) (im nums : List Int) (n : Nat) (H : Hp) (Q : VK) : Prop := ∀ (r o : Addr) (H2 : Hp), Ex H H2 → SqT K H2 r [.bl (nodeAt im (advM im nums ms0 n).1.a).isNone, .ref o, .int ((advM im nums ms0 n).2 : Int)] → H o = none → H2 o = some (.lst ((advM im nums ms0 n).1.ou.map V.int)) → Q (.ref r) H2
theorem dp_run {K : PySem.W.Frag} {H : Hp} {im nums : List Int} {n : Nat} {r o : Addr} (h : SqT K H r [.bl (nodeAt im (advM im nums ms0 n).1.a).isNone, .ref o, .int ((advM im nums ms0 n).2 : Int)]) (ho : H o = some (.lst ((advM im nums ms0 n).1.ou.map V.int))) : Dp K H (.ref r) (runD im nums n) :=
  .tup h (.cons (.bl _) (.cons (dp_ints (sq_of ho)) (.cons (.int _) .nil)))
theorem s_retT3L {K : PySem.W.Frag} {σ : L2.St} {H : Hp} {t1 t2 t3 : TE} {x z : V} {xs : List V} {D : Ends} (h1 : Ev t1 σ H x) (h2 : EvL t2 σ H xs) (h3 : ∀ H1, Ex H H1 → Ev t3 σ H1 z) (k : ∀ r o H2, Ex H H2 → H2 r = some (.tup [x, .ref o, z]) → H o = none → H2 o = some (.lst xs) → D.rt (.ref r) H2) : tRet (tTup (tCons t1 (tCons t2 (tCons t3 tNil)))) D σ H :=
  h1 H (Ex.refl H) _ fun H1 e1 => h2 H1 e1 _ fun o H2 no e2 ho => h3 H2 (e1.trans e2) H2 (Ex.refl H2) _ fun H3 e3 => ⟨sz_of (n := 3) (by decide), fun r hr => k r o _ (((e1.trans e2).trans e3).trans (Ex.new hr)) upd_same (fresh_back e1 no) (by rw [upd_ne (ne_of_none (e3 _ _ ho) hr)]; exact e3 _ _ ho)⟩
/-- None, or a new list -/
def RetO (o : Option (List Int)) (H : Hp) (Q : VK) : Prop := match o with
  | none => RetV .non H Q
  | some l => RetL (l.map V.int) H Q
def OutV (H : Hp) (o : Option (List Int)) (v : V) (H2 : Hp) : Prop := (o = none ∧ v = .non) ∨ ∃ l a, o = some l ∧ v = .ref a ∧ H a = none ∧ H2 a = some (.lst (l.map V.int))
theorem ret_o {o : Option (List Int)} {H : Hp} {Q : VK} (h : ∀ v H2, Ex H H2 → OutV H o v H2 → Q v H2) : RetO o H Q := by
  cases o with
  | none => exact fun H2 e2 => h _ H2 e2 (.inl ⟨rfl, rfl⟩)
  | some l => exact fun p H2 np e2 hp => h _ H2 e2 (.inr ⟨l, p, rfl, rfl, np, hp⟩)
theorem q_asgO {te : TE} {σ : L2.St} {H : Hp} {i : Nat} {o : Option (List Int)} {D : Ends} {tz : TS} (h : ∀ Q : VK, RetO o H Q → te σ H Q) (k : ∀ v H2, Ex H H2 → OutV H o v H2 → tz D (σ.set i (some v)) H2) : tSeq (tAsg te (gName i)) tz D σ H := h _ (ret_o k)
/-- the first index at which two lists differ -/
def comP : List Int → List Int → Nat
  | x :: r, y :: q => if x = y then comP r q + 1 else 0
  | _, _ => 0
def difI (xs ys : List Int) : Option Nat := if xs = ys then none else some (comP xs ys)
theorem comP_of : ∀ (i : Nat) {xs ys : List Int}, xs.take i = ys.take i → i ≤ xs.length → i ≤ ys.length → xs[i]? ≠ ys[i]? → comP xs ys = i
  | 0, xs, ys, _, _, _, h => by
    cases xs with
    | nil => rfl
    | cons x r =>
      cases ys with
      | nil => rfl
      | cons y q =>
        unfold comP
        rw [if_neg]
        intro e
        exact h (by rw [e]; rfl)
  | i + 1, xs, ys, h, h1, h2, h3 => by
    cases xs with
    | nil => simp at h1
    | cons x r =>
      cases ys with
      | nil => simp at h2
      | cons y q =>
        rw [List.take_succ_cons, List.take_succ_cons] at h
        obtain ⟨e, h⟩ := List.cons.inj h
        unfold comP
        rw [if_pos e, comP_of i h (by simpa using h1) (by simpa using h2) (by simpa using h3)]
theorem dif_some {i : Nat} {xs ys : List Int} (h : xs.take i = ys.take i) (h1 : i ≤ xs.length) (h2 : i ≤ ys.length) (h3 : xs[i]? ≠ ys[i]?) : difI xs ys = some i := by
  unfold difI
  rw [if_neg (fun e => h3 (by rw [e])), comP_of i h h1 h2 h3]
theorem dif_none {xs ys : List Int} (h : xs = ys) : difI xs ys = none := if_pos h
/-! ### generations -/
def itC (im cs : List Int) (n : Nat) : Nat → Option (List Int)
  | 0 => some im
  | k + 1 => (itC im cs n k).bind fun l => childO l cs n
def rowC (im cs : List Int) (n c : Nat) : List (List Int) := (List.range (c + 1)).filterMap (itC im cs n)
section
variable {im cs : List Int} {n : Nat}
theorem rowC_succ (c : Nat) : rowC im cs n (c + 1) = rowC im cs n c ++ (itC im cs n (c + 1)).toList := by
  unfold rowC
  rw [List.range_succ, List.filterMap_append]
  cases h : itC im cs n (c + 1) <;> simp [h]
theorem itC_some {k : Nat} {l : List Int} (h : itC im cs n (k + 1) = some l) : ∃ l', itC im cs n k = some l' ∧ childO l' cs n = some l := by
  unfold itC at h
  cases g : itC im cs n k with
  | none => rw [g] at h; cases h
  | some l' => rw [g] at h; exact ⟨l', rfl, h⟩
theorem itC_next {k : Nat} {l : List Int} (h : itC im cs n k = some l) : itC im cs n (k + 1) = childO l cs n := by
  rw [itC, h]
  rfl
theorem itC_none {k : Nat} (h : itC im cs n k = none) : itC im cs n (k + 1) = none := by rw [itC, h]; rfl
theorem rowC_len : ∀ {k : Nat} {l : List Int}, itC im cs n k = some l → (rowC im cs n k).length = k + 1
  | 0, l, h => by unfold rowC; simp [itC]
  | k + 1, l, h => by
    obtain ⟨l', h1, _⟩ := itC_some h
    rw [rowC_succ, h, List.length_append, rowC_len h1]
    rfl
theorem rowC_last {k : Nat} {l : List Int} (h : itC im cs n k = some l) : (rowC im cs n k)[k]? = some l := by
  cases k with
  | zero => cases h; unfold rowC; simp [itC]
  | succ k =>
    obtain ⟨l', h1, _⟩ := itC_some h
    rw [rowC_succ, h, List.getElem?_append_right (by rw [rowC_len h1]; omega), rowC_len h1]
    simp
theorem rowC_stop {k : Nat} (h : itC im cs n (k + 1) = none) : ∀ j : Nat, rowC im cs n (k + j) = rowC im cs n k ∧ itC im cs n (k + j + 1) = none
  | 0 => ⟨rfl, h⟩
  | j + 1 => by
    obtain ⟨h1, h2⟩ := rowC_stop h j
    rw [show k + (j + 1) = k + j + 1 by omega, rowC_succ, h2, h1]
    exact ⟨by simp, itC_none h2⟩
theorem rowC_pre (c : Nat) : ∀ d : Nat, ∃ r, rowC im cs n (c + d) = rowC im cs n c ++ r
  | 0 => ⟨[], by simp⟩
  | d + 1 => by
    obtain ⟨r, h⟩ := rowC_pre c d
    exact ⟨r ++ (itC im cs n (c + d + 1)).toList, by rw [show c + (d + 1) = c + d + 1 by omega, rowC_succ, h, List.append_assoc]⟩
theorem rowC_at {k c : Nat} {l : List Int} (h : itC im cs n k = some l) (hc : k ≤ c) : (rowC im cs n c)[k]? = some l ∧ k < (rowC im cs n c).length := by
  obtain ⟨r, hr⟩ := rowC_pre (im := im) (cs := cs) (n := n) k (c - k)
  rw [show k + (c - k) = c by omega] at hr
  have := rowC_len h
  have h1 : (rowC im cs n c)[k]? = some l := by rw [hr, List.getElem?_append_left (by omega)]; exact rowC_last h
  exact ⟨h1, (List.getElem?_eq_some_iff.mp h1).1⟩
theorem rowC_no {k c : Nat} {l : List Int} (h0 : itC im cs n k = some l) (h : itC im cs n (k + 1) = none) (hc : k ≤ c) : (rowC im cs n c).length = k + 1 := by
  have := (rowC_stop h (c - k)).1
  rw [show k + (c - k) = c by omega] at this
  rw [this, rowC_len h0]
theorem rowC_take {c d : Nat} (hc : c ≤ d) : (rowC im cs n d).take (c + 1) = rowC im cs n c := by
  obtain ⟨r, hr⟩ := rowC_pre (im := im) (cs := cs) (n := n) c (d - c)
  rw [show c + (d - c) = d by omega] at hr
  by_cases h : (rowC im cs n c).length = c + 1
  · rw [hr, List.take_append_of_le_length (by omega), List.take_of_length_le (by omega)]
  · have hl : (rowC im cs n c).length ≤ c + 1 := by
      unfold rowC
      exact Nat.le_trans (List.length_filterMap_le _ _) (by rw [List.length_range]; exact Nat.le_refl _)
    have hn : itC im cs n c = none := by
      cases g : itC im cs n c with
      | none => rfl
      | some l => exact absurd (rowC_len g) h
    have h2 : rowC im cs n d = rowC im cs n c := by
      cases c with
      | zero => cases hn
      | succ k =>
        have h3 := (rowC_stop hn (d - k)).1
        have h4 := (rowC_stop hn 1).1
        rw [show k + (d - k) = d by omega] at h3
        rw [h3, h4]
    rw [h2, List.take_of_length_le hl]
end
def setD (cs : List Int) (n : Nat) : Nat → Nat → List Int → PyData
  | 0, _, _ => .none
  | m + 1, k, im => match childO im cs n with
    | none => .none
    | some l => if l = im then .tuple [.int (k : Int), .list (im.map PyData.int)] else setD cs n m (k + 1) l
/-- a new list of new lists -/
structure NewLL (H H2 : Hp) (A : Addr) (ps : List Addr) (ls : List (List Int)) : Prop where
  na : H A = none
  ex : Ex H H2
  ha : H2 A = some (.lst (ps.map V.ref))
  pc : Pcs H2 ps ls
  np : ∀ p ∈ ps, H p = none
  no : A ∉ ps
theorem NewLL.exx {H H2 H3 : Hp} {A : Addr} {ps : List Addr} {ls : List (List Int)} (h : NewLL H H2 A ps ls) (e : Ex H2 H3) : NewLL H H3 A ps ls := ⟨h.na, h.ex.trans e, e _ _ h.ha, h.pc.ex e, h.np, h.no⟩
theorem NewLL.app {H H2 : Hp} {A o : Addr} {ps : List Addr} {ls : List (List Int)} {l : List Int} (h : NewLL H H2 A ps ls) (ho : H o = none) (hl : H2 o = some (.lst (l.map V.int))) (hA : o ≠ A) : NewLL H (upd H2 A (.lst (ps.map V.ref ++ [.ref o]))) A (ps ++ [o]) (ls ++ [l]) := by
  refine ⟨h.na, h.ex.mut h.na, by rw [List.map_append]; exact upd_same, Pcs.snoc (h.pc.keep fun a u ha hu => by rw [upd_ne (fun e => h.no (by rw [← e]; exact ha))]; exact hu) (by rw [upd_ne hA]; exact hl), fun p hp => ?_, fun hp => ?_⟩
  · rcases List.mem_append.mp hp with m | m
    · exact h.np p m
    · rw [List.mem_singleton.mp m]; exact ho
  · rcases List.mem_append.mp hp with m | m
    · exact h.no m
    · exact hA (List.mem_singleton.mp m).symm
def rowsD (ls : List (List Int)) : PyData := .list (ls.map fun l => .list (l.map PyData.int))
theorem dp_pcs {K : PySem.W.Frag} {H : Hp} : ∀ {ps : List Addr} {ls : List (List Int)}, Pcs H ps ls → DpAll K H (ps.map V.ref) (ls.map fun l => .list (l.map PyData.int))
  | [], [], _ => .nil
  | a :: as, l :: ls, h => .cons (dp_ints (sq_of h.1)) (dp_pcs h.2)
  | [], _ :: _, h => h.elim
  | _ :: _, [], h => h.elim
theorem NewLL.dp {K : PySem.W.Frag} {H H2 : Hp} {A : Addr} {ps : List Addr} {ls : List (List Int)} (h : NewLL H H2 A ps ls) : Dp K H2 (.ref A) (rowsD ls) := .lst (sq_of h.ha) (dp_pcs h.pc)
theorem rowsD_eqv : ∀ ls ms : List (List Int), PyData.eqvAll (ls.map fun l => PyData.list (l.map PyData.int)) (ms.map fun l => .list (l.map PyData.int)) = decide (ls = ms)
  | [], [] => by simp [PyData.eqvAll]
  | [], m :: r => by simp [PyData.eqvAll]
  | l :: r, [] => by simp [PyData.eqvAll]
  | l :: r, m :: q => by
    rw [List.map_cons, List.map_cons, PyData.eqvAll, rowsD_eqv r q, eqv_refl_ints]
    by_cases h : l = m
    · subst h
      by_cases h2 : r = q
      · subst h2; simp
      · simp [h2]
    · simp [h]
theorem rowsD_lay : ∀ ls : List (List Int), PyData.canLayAll0 (ls.map fun l => PyData.list (l.map PyData.int)) = true
  | [] => by simp [PyData.canLayAll0]
  | l :: r => by rw [List.map_cons, PyData.canLayAll0, rowsD_lay r, PyData.canLay0, can_ints]; rfl
theorem rowsD_dep : ∀ ls : List (List Int), PyData.depthAll (ls.map fun l => PyData.list (l.map PyData.int)) ≤ 3
  | [] => by simp [PyData.depthAll]
  | l :: r => by
    have h1 := rowsD_dep r
    have h2 := Gd.depthAll_ints l
    rw [List.map_cons, PyData.depthAll, PyData.depth]
    omega
theorem rowsD_ok (ls : List (List Int)) : PyData.eqv (rowsD ls) (rowsD ls) = true ∧ SeqAt.shaped (rowsD ls) = true := by
  constructor
  · unfold rowsD
    rw [PyData.eqv, rowsD_eqv, decide_eq_true rfl]
  · have := rowsD_dep ls
    unfold rowsD SeqAt.shaped
    rw [PyData.canLay0, rowsD_lay, PyData.depth]
    simp only [Bool.true_and]
    exact decide_eq_true (by omega)
end Gd

set_option Elab.async false
set_option linter.all false
set_option maxRecDepth 100000
set_option maxHeartbeats 4000000
/-! Of our own: a slice that takes each k-th item; images that write cells. -/
namespace Gd
open PySem PySem.Spec PyProof.Rows L2 Evl
def stepJ (k n : Nat) : List Nat := sliceRange 0 (n : Int) (k : Int)
def stepV {α : Type} (k : Nat) (xs : List α) : List α := (stepJ k xs.length).filterMap (xs[·]?)
theorem vals_pick {xs : List V} {us : List Value} (h : Vals xs us) : ∀ js : List Nat, Vals (js.filterMap (xs[·]?)) (js.filterMap (us[·]?))
  | [] => .nil
  | j :: r => by
    cases e : xs[j]? with
    | none => rw [List.filterMap_cons_none e, List.filterMap_cons_none (h.none_of e)]; exact vals_pick h r
    | some x =>
      obtain ⟨u, e2, rx⟩ := h.get e
      rw [List.filterMap_cons_some e, List.filterMap_cons_some e2]
      exact .cons rx (vals_pick h r)
theorem pick_step {k : Nat} (hk : 0 < k) (its : List Value) : slicePick its.toArray none none (some (k : Int)) = (stepV k its).toArray := by
  have hk' : (k : Int) > 0 := by omega
  unfold slicePick stepV stepJ
  simp only [sliceBounds, Option.getD_some, hk', if_true, List.size_toArray, List.getElem?_toArray]
theorem stepV_len {α : Type} (k : Nat) (hk : 0 < k) (xs : List α) : (stepV k xs).length ≤ xs.length := by
  unfold stepV stepJ
  exact Nat.le_trans (List.length_filterMap_le _ _) (sliceRange_length_le _ _ _ _ (fun _ => by omega) (fun h => absurd (show (k : Int) > 0 by omega) h))
def rSlK (K : PySem.W.Frag) (k : Nat) : V → Hp → VK → Prop := fun x H Q => ∃ a xs, x = .ref a ∧ SqL K H a xs ∧ ∀ p, H p = none → Q (.ref p) (upd H p (.lst (stepV k xs)))
def tSlK (K : PySem.W.Frag) (k : Nat) (te : TE) : TE := fun σ H Q => te σ H fun x H1 => rSlK K k x H1 Q
theorem pe_sliceK {X : Cx} {K : PySem.W.Frag} {e : Expr} {te : TE} {k j : Nat} {p2 p3 pos : Pos} (eK : X.K = K) (hk : 0 < k) (he : PE X e te) : PE X (.Subscript e (.Slice none none (some (.Constant (.int (k : Int)) j p3)) p2) pos) (tSlK K k te) := by
  subst eK
  refine ⟨fun pins s σ H Q I h => ?_⟩
  refine Subscript_ (thn (he.run pins s σ H _ I h) fun v s1 ⟨x, H1, I1, r1, q1⟩ => ?_)
  obtain ⟨a, xs, rfl, hx, q⟩ := q1
  cases r1
  have part : PO X (some (.Constant (.int (k : Int)) j p3)) (tPart (tC (.int (k : Int)))) := po_some pe_int
  refine wpAny_Slice (thn (po_none.run pins s1 σ H1 (fun o G => o = none ∧ G = H1) I1 ⟨rfl, rfl⟩) fun vl s2 ⟨l, H2, I2, pl, el, e2⟩ => ?_)
  subst el e2
  refine thn (po_none.run pins s2 σ H2 (fun o G => o = none ∧ G = H2) I2 ⟨rfl, rfl⟩) fun vu s3 ⟨u, H3, I3, pu, eu, e3⟩ => ?_
  subst eu e3
  refine thn (part.run pins s3 σ H3 (fun o G => o = some (k : Int) ∧ G = H3) I3 ⟨k, rfl, rfl, rfl⟩) fun vs s4 ⟨o, H4, I4, ps, eo, e4⟩ => ?_
  subst eo e4
  have J : Inv X pins σ H4 { s4 with heap := s4.heap.push { cls := .type "slice", data := .fields #[vl, vu, vs] } } := I4.kept (t' := s4.toks) fun b ob q => Heap.get?_push_of_some _ q
  obtain ⟨its, r, ht, hz⟩ := J.list hx
  have hl := r.length
  refine tail_any (ops := [.ref a, .ref s4.heap.objs.size]) ht.isList.typeIs (PySem.slot_list_getitem.lookup) ?_ (by with_unfolding_all rfl)
  refine wpAny_getItem_list_slice ht.isList (Heap.IsSliceOf.new _ vl vu vs) pl pu ps (by intro z; have := Option.some.inj z; omega) ?_ (by rw [List.size_toArray]; omega)
  rw [pick_step hk]
  refine ⟨.ref _, _, J.laid (t' := s4.toks) (o := .lst (stepV k xs)) (fun b ob q => Heap.get?_push_of_some _ q) (Nat.le_refl _) ?_, rfl, q _ (J.hok.fresh (Nat.le_refl _))⟩
  refine ⟨Nat.le_trans (stepV_len k hk xs) hz, _, 0, ?_, Heap.get?_push_size _ rfl⟩
  unfold stepV
  rw [hl]
  exact vals_pick r _
theorem el_slK {K : PySem.W.Frag} {te : TE} {σ : L2.St} {H : Hp} {a : Addr} {k : Nat} {xs : List V} (h : Ev te σ H (.ref a)) (hx : SqL K H a xs) : EvL (tSlK K k te) σ H (stepV k xs) := fun H1 e Q q =>
  h H1 e _ fun H2 e2 => ⟨a, xs, rfl, ex_l (e.trans e2) hx, fun p hp => q p _ (fresh_back e2 hp) (e2.trans (Ex.new hp)) upd_same⟩
theorem stepV_map {α β : Type} (f : α → β) (k : Nat) (xs : List α) : stepV k (xs.map f) = (stepV k xs).map f := by
  unfold stepV
  rw [List.length_map, List.map_filterMap]
  congr 1
  funext j
  rw [List.getElem?_map]
theorem mem_stepJ {j n : Nat} : j ∈ stepJ 4 n ↔ ∃ i, j = 4 * i ∧ j < n := by
  unfold stepJ sliceRange
  simp only [show ((4 : Nat) : Int) > 0 by decide, if_true]
  constructor
  · intro h
    obtain ⟨i, h1, h2⟩ := List.mem_map.mp h
    have h1 := List.mem_range.mp h1
    refine ⟨i, by omega, ?_⟩
    split at h1
    · omega
    · omega
  · rintro ⟨i, rfl, h⟩
    refine List.mem_map.mpr ⟨i, List.mem_range.mpr ?_, by omega⟩
    rw [if_pos (by omega)]
    omega
theorem mem_step4 {x : Int} {xs : List Int} : x ∈ stepV 4 xs ↔ ∃ i : Nat, xs[4 * i]? = some x := by
  unfold stepV
  rw [List.mem_filterMap]
  constructor
  · rintro ⟨j, h1, h2⟩
    obtain ⟨i, rfl, h3⟩ := mem_stepJ.mp h1
    exact ⟨i, h2⟩
  · rintro ⟨i, h⟩
    exact ⟨4 * i, mem_stepJ.mpr ⟨i, rfl, (List.getElem?_eq_some_iff.mp h).1⟩, h⟩
/-! ### a cell of the image is pushed -/
theorem g_cell {im nums : List Int} {k : Nat} {a arg su v : Int} {st bk ou : List Int} {f : Int → Int} {p : Nat} {C : AS} (h : nodeAt im a = some (38, arg, su)) (g : GoS im nums k ⟨su, st ++ [cellAt im v], f, bk, p, ou⟩ C) : GoS im nums (k + 1) ⟨a, st ++ [v], f, bk, p, ou⟩ C := GoS.one (fun s hz => ⟨_, stepM_at (by rw [hz.a]; exact h), by
  have e : perfM im nums (38, arg, su) (goM s (38, arg, su)) = { (goM s (38, arg, su)) with st := st ++ [cellAt im v] } := by
    show pushM (popM (goM s (38, arg, su))) (cellAt im (topM (goM s (38, arg, su)))) = _
    rw [top_snoc (s := goM s (38, arg, su)) hz.st, pop_snoc (s := goM s (38, arg, su)) hz.st]
    rfl
  rw [e]
  exact ⟨rfl, rfl, hz.f, hz.bk, hz.p, hz.ou⟩⟩) g
/-! ### nodes by their rows -/
theorem fold_none {k : Int} : ∀ (rows : List (Int × Nd)) (acc : Option Nd), (∀ r ∈ rows, r.1 ≠ k) → rows.foldl (pickR k) acc = acc
  | [], _, _ => rfl
  | r :: t, acc, h => by
    rw [List.foldl_cons, show pickR k acc r = acc from if_neg (h r List.mem_cons_self)]
    exact fold_none t acc fun x hx => h x (List.mem_cons_of_mem _ hx)
theorem rowsOf_app4 : ∀ (l r : List Int), l.length % 4 = 0 → rowsOf (l ++ r) = rowsOf l ++ rowsOf r
  | [], r, _ => rfl
  | [_], r, h => by simp at h
  | [_, _], r, h => by simp at h
  | [_, _, _], r, h => by simp at h
  | a :: b :: c :: d :: t, r, h => by
    show (a, b, c, d) :: rowsOf (t ++ r) = (a, b, c, d) :: rowsOf t ++ rowsOf r
    rw [rowsOf_app4 t r (by simp only [List.length_cons] at h; omega)]
    rfl
theorem rows_num : ∀ {im : List Int} {r : Int × Nd}, r ∈ rowsOf im → ∃ i : Nat, im[4 * i]? = some r.1 ∧ 4 * i + 3 < im.length
  | a :: b :: c :: d :: t, r, h => by
    rw [rowsOf] at h
    rcases List.mem_cons.mp h with rfl | h
    · exact ⟨0, rfl, by simp only [List.length_cons]; omega⟩
    · obtain ⟨i, hi, hl⟩ := rows_num h
      exact ⟨i + 1, by rw [show 4 * (i + 1) = 4 * i + 1 + 1 + 1 + 1 by omega]; exact hi, by simp only [List.length_cons]; omega⟩
  | [], _, h => nomatch h
  | [_], _, h => nomatch h
  | [_, _], _, h => nomatch h
  | [_, _, _], _, h => nomatch h
/-! ### a list is written, node after node -/
def wrR : Nat → List Int → List (Int × Nd)
  | _, [] => []
  | n, c :: r => (((2 * n : Nat) : Int), 35, c, ((2 * n + 1 : Nat) : Int)) :: (((2 * n + 1 : Nat) : Int), 46, 0, ((2 * n + 2 : Nat) : Int)) :: wrR (n + 1) r
def wrI (n : Nat) (cs : List Int) : List Int := (wrR n cs).flatMap rowL
theorem rowsOf_flat : ∀ rows : List (Int × Nd), rowsOf (rows.flatMap rowL) = rows
  | [] => rfl
  | (a, b, c, d) :: r => by
    rw [List.flatMap_cons]
    show (a, b, c, d) :: rowsOf (r.flatMap rowL) = _
    rw [rowsOf_flat r]
theorem wrR_num : ∀ (n : Nat) (cs : List Int) (r : Int × Nd), r ∈ wrR n cs → (2 * n : Int) ≤ r.1 ∧ r.1 < 2 * (n + cs.length : Int)
  | _, [], _, h => nomatch h
  | n, c :: t, r, h => by
    rw [wrR] at h
    rcases List.mem_cons.mp h with rfl | h
    · dsimp only [List.length_cons]; omega
    · rcases List.mem_cons.mp h with rfl | h
      · dsimp only [List.length_cons]; omega
      · have := wrR_num (n + 1) t r h
        simp only [List.length_cons]
        omega
theorem wrR_app : ∀ (n : Nat) (xs ys : List Int), wrR n (xs ++ ys) = wrR n xs ++ wrR (n + xs.length) ys
  | n, [], ys => rfl
  | n, c :: t, ys => by
    show _ :: _ :: wrR (n + 1) (t ++ ys) = _ :: _ :: (wrR (n + 1) t ++ wrR (n + (c :: t).length) ys)
    rw [wrR_app (n + 1) t ys, List.length_cons, show n + (t.length + 1) = n + 1 + t.length by omega]
theorem wr_len (n : Nat) (cs : List Int) : (wrI n cs).length = 8 * cs.length := by
  induction cs generalizing n with
  | nil => rfl
  | cons c t ih =>
    have := ih (n + 1)
    unfold wrI at this ⊢
    rw [wrR, List.flatMap_cons, List.flatMap_cons, List.length_append, List.length_append, this]
    show 4 + (4 + 8 * t.length) = 8 * (t.length + 1)
    omega
theorem wr_nodes (xs : List Int) (c : Int) (ys : List Int) : nodeAt (wrI 0 (xs ++ c :: ys)) ((2 * xs.length : Nat) : Int) = some (35, c, ((2 * xs.length + 1 : Nat) : Int)) ∧ nodeAt (wrI 0 (xs ++ c :: ys)) ((2 * xs.length + 1 : Nat) : Int) = some (46, 0, ((2 * xs.length + 2 : Nat) : Int)) := by
  unfold nodeAt wrI nodeIn
  rw [rowsOf_flat, wrR_app, Nat.zero_add, wrR]
  have h1 := wrR_num 0 xs
  have h2 := wrR_num (xs.length + 1) ys
  constructor
  · rw [List.foldl_append, List.foldl_cons, List.foldl_cons, fold_none (wrR (xs.length + 1) ys) _ (fun r hr => by have := h2 r hr; omega), fold_none (wrR 0 xs) _ (fun r hr => by have := h1 r hr; omega)]
    unfold pickR
    dsimp only
    rw [if_neg (by omega), if_pos rfl]
  · rw [List.foldl_append, List.foldl_cons, List.foldl_cons, fold_none (wrR (xs.length + 1) ys) _ (fun r hr => by have := h2 r hr; omega), fold_none (wrR 0 xs) _ (fun r hr => by have := h1 r hr; omega)]
    unfold pickR
    dsimp only
    rw [if_pos rfl]
theorem wr_end (cs : List Int) : nodeAt (wrI 0 cs) ((2 * cs.length : Nat) : Int) = none := by
  unfold nodeAt wrI nodeIn
  rw [rowsOf_flat]
  exact fold_none _ _ fun r hr => by have := wrR_num 0 cs r hr; omega
theorem wr_go (cs : List Int) : ∀ (ys xs : List Int), xs ++ ys = cs → GoS (wrI 0 cs) [] (2 * ys.length) ⟨((2 * xs.length : Nat) : Int), [], fun _ => 0, [], 0, xs⟩ ⟨((2 * cs.length : Nat) : Int), [], fun _ => 0, [], 0, cs⟩
  | [], xs, h => by
    rw [List.append_nil] at h
    subst h
    exact GoS.refl
  | c :: t, xs, h => by
    have hn := wr_nodes xs c t
    rw [h] at hn
    have hr := wr_go cs t (xs ++ [c]) (by rw [List.append_assoc]; exact h)
    rw [List.length_append, show 2 * (xs.length + [c].length) = 2 * xs.length + 2 from rfl] at hr
    exact g_push (st := []) hn.1 (g_write (st := []) hn.2 hr)
theorem atI_back {l : List Int} {m : Nat} {x : Int} (h0 : 0 < m) (h1 : m ≤ l.length) (h : l[l.length - m]? = some x) : atI l (-(m : Int)) = some x := by
  have e : ixN l.length (-(m : Int)) = some (l.length - m) := by
    unfold ixN
    split
    · omega
    · split
      · congr 1
        omega
      · omega
  unfold atI
  rw [e]
  exact h
/-! ### an image that writes its own end -/
def SELF (n : Int) : List Int := [0, 35, -n, 1, 1, 34, 0, 2, 2, 38, 0, 3, 3, 46, 0, 4, 4, 35, 1, 5, 5, 43, 0, 6, 6, 34, 0, 7, 7, 63, 8, 1]
theorem self_node {n : Int} {r : List Int} {k : Int} (hk : 0 ≤ k ∧ k ≤ 8) (hr : ∀ x ∈ rowsOf r, ¬ (0 ≤ x.1 ∧ x.1 < 200)) : nodeAt (SELF n ++ r) k = nodeAt (SELF n) k := by
  unfold nodeAt nodeIn
  rw [rowsOf_app4 _ _ (by simp [SELF]), List.foldl_append]
  exact fold_none _ _ fun x hx => by
    have := hr x hx
    omega
theorem self_go {n : Nat} {r : List Int} (hr : ∀ x ∈ rowsOf r, ¬ (0 ≤ x.1 ∧ x.1 < 200)) : ∀ (m : Nat) (ou : List Int), m < n → n ≤ (SELF n ++ r).length →
    GoS (SELF n ++ r) [] (7 * (m + 1)) ⟨1, [-((m + 1 : Nat) : Int)], fun _ => 0, [], 0, ou⟩ ⟨8, [0], fun _ => 0, [], 0, ou ++ (SELF n ++ r).drop ((SELF n ++ r).length - (m + 1))⟩ := by
  have nd : ∀ {k : Int}, 0 ≤ k ∧ k ≤ 8 → nodeAt (SELF n ++ r) k = nodeAt (SELF n) k := fun hk => self_node hk hr
  intro m
  induction m with
  | zero =>
    intro ou hm hl
    have hc : ∃ x, cellAt (SELF n ++ r) (-((0 + 1 : Nat) : Int)) = x ∧ (SELF n ++ r).drop ((SELF n ++ r).length - (0 + 1)) = [x] := by
      generalize SELF n ++ r = l at hl
      refine ⟨l[l.length - 1]'(by omega), ?_, ?_⟩
      · unfold cellAt
        rw [atI_back (by omega) (by omega) (List.getElem?_eq_getElem (by omega))]
        rfl
      · rw [List.drop_eq_getElem_cons (by omega), List.drop_eq_nil_of_le (by omega)]
    obtain ⟨x, h1, h2⟩ := hc
    rw [h2]
    refine g_double (st := []) (arg := 0) (su := 2) (by rw [nd (by omega)]; rfl) (g_cell (st := [-((0 + 1 : Nat) : Int)]) (arg := 0) (su := 3) (by rw [nd (by omega)]; rfl) ?_)
    rw [h1]
    refine g_write (st := [-((0 + 1 : Nat) : Int)]) (arg := 0) (su := 4) (by rw [nd (by omega)]; rfl) (g_push (st := [-((0 + 1 : Nat) : Int)]) (v := 1) (su := 5) (by rw [nd (by omega)]; rfl) (g_comb (st := []) (op := 43) (arg := 0) (su := 6) (x := -((0 + 1 : Nat) : Int)) (y := 1) (by rw [nd (by omega)]; rfl) rfl ?_))
    exact g_double (st := []) (arg := 0) (su := 7) (by rw [nd (by omega)]; rfl) (g_br0 (st := [0]) (arg := 8) (su := 1) (by rw [nd (by omega)]; rfl) rfl GoS.refl)
  | succ m ih =>
    intro ou hm hl
    obtain ⟨x, h1, h2⟩ : ∃ x, cellAt (SELF n ++ r) (-((m + 1 + 1 : Nat) : Int)) = x ∧ (SELF n ++ r).drop ((SELF n ++ r).length - (m + 1 + 1)) = x :: (SELF n ++ r).drop ((SELF n ++ r).length - (m + 1)) := by
      generalize SELF n ++ r = l at hl
      refine ⟨l[l.length - (m + 1 + 1)]'(by omega), ?_, ?_⟩
      · unfold cellAt
        rw [atI_back (by omega) (by omega) (List.getElem?_eq_getElem (by omega))]
        rfl
      · rw [List.drop_eq_getElem_cons (by omega), show l.length - (m + 1 + 1) + 1 = l.length - (m + 1) by omega]
    rw [h2, List.append_cons ou x]
    have h3 := ih (ou ++ [x]) (by omega) hl
    refine GoS.cast (j := 7 * (m + 1) + 1 + 1 + 1 + 1 + 1 + 1 + 1) ?_ (by omega)
    refine g_double (st := []) (arg := 0) (su := 2) (by rw [nd (by omega)]; rfl) (g_cell (st := [-((m + 1 + 1 : Nat) : Int)]) (arg := 0) (su := 3) (by rw [nd (by omega)]; rfl) ?_)
    rw [h1]
    refine g_write (st := [-((m + 1 + 1 : Nat) : Int)]) (arg := 0) (su := 4) (by rw [nd (by omega)]; rfl) (g_push (st := [-((m + 1 + 1 : Nat) : Int)]) (v := 1) (su := 5) (by rw [nd (by omega)]; rfl) (g_comb (st := []) (op := 43) (arg := 0) (su := 6) (x := -((m + 1 + 1 : Nat) : Int)) (y := 1) (by rw [nd (by omega)]; rfl) rfl ?_))
    have hv : combI 43 (-((m + 1 + 1 : Nat) : Int)) 1 = -((m + 1 : Nat) : Int) := by
      show -((m + 1 + 1 : Nat) : Int) + 1 = _
      omega
    rw [hv]
    exact g_double (st := []) (arg := 0) (su := 7) (by rw [nd (by omega)]; rfl) (g_br1 (st := [-((m + 1 : Nat) : Int)]) (arg := 8) (su := 1) (by rw [nd (by omega)]; rfl) (by omega) h3)
theorem self_run {n : Nat} {r : List Int} (hn : 0 < n) (hl : n ≤ (SELF n ++ r).length) (hr : ∀ x ∈ rowsOf r, ¬ (0 ≤ x.1 ∧ x.1 < 200)) :
    GoS (SELF n ++ r) [] (7 * n + 1) ⟨0, [], fun _ => 0, [], 0, []⟩ ⟨8, [0], fun _ => 0, [], 0, (SELF n ++ r).drop ((SELF n ++ r).length - n)⟩ := by
  obtain ⟨m, rfl⟩ : ∃ m, n = m + 1 := ⟨n - 1, by omega⟩
  exact g_push (st := []) (v := -((m + 1 : Nat) : Int)) (su := 1) (by rw [self_node (by omega) hr]; rfl) (self_go hr m [] (by omega) hl)
theorem self_end {n : Int} {r : List Int} (hr : ∀ x ∈ rowsOf r, ¬ (0 ≤ x.1 ∧ x.1 < 200)) : nodeAt (SELF n ++ r) 8 = none := by
  rw [self_node (by omega) hr]
  rfl
/-! ### lists of new tuples of ints -/
def Tups (H : Hp) : List Addr → List (List Int) → Prop
  | [], [] => True
  | p :: ps, r :: rs => H p = some (.tup (r.map V.int)) ∧ Tups H ps rs
  | _, _ => False
theorem Tups.ex {H H' : Hp} (e : Ex H H') : ∀ {ps : List Addr} {rs : List (List Int)}, Tups H ps rs → Tups H' ps rs
  | [], [], _ => trivial
  | _ :: _, _ :: _, h => ⟨e _ _ h.1, h.2.ex e⟩
theorem Tups.upd {H : Hp} {l : Addr} {xs : List V} {o : HO} (hl : H l = some (.lst xs)) : ∀ {ps : List Addr} {rs : List (List Int)}, Tups H ps rs → Tups (L2.upd H l o) ps rs
  | [], [], _ => trivial
  | p :: _, _ :: _, h => ⟨by
    rw [upd_ne (fun e => by have h1 := h.1; rw [e, hl] at h1; cases h1)]
    exact h.1, h.2.upd hl⟩
theorem Tups.app {H : Hp} : ∀ {ps qs : List Addr} {rs ss : List (List Int)}, Tups H ps rs → Tups H qs ss → Tups H (ps ++ qs) (rs ++ ss)
  | [], _, [], _, _, h => h
  | _ :: _, _, _ :: _, _, h, g => ⟨h.1, h.2.app g⟩
theorem Tups.len {H : Hp} : ∀ {ps : List Addr} {rs : List (List Int)}, Tups H ps rs → ps.length = rs.length
  | [], [], _ => rfl
  | _ :: _, _ :: _, h => by rw [List.length_cons, List.length_cons, h.2.len]
theorem Tups.dp {K : PySem.W.Frag} {H : Hp} : ∀ {ps : List Addr} {rs : List (List Int)}, Tups H ps rs → DpAll K H (ps.map V.ref) (rs.map rowT)
  | [], [], _ => .nil
  | _ :: _, _ :: _, h => .cons (.tup (.inl (.inl h.1)) (dpAll_ints _)) h.2.dp
def EvTs (t : TA) (σ : L2.St) (H : Hp) (rows : List (List Int)) : Prop := ∀ H1, Ex H H1 → ∀ Q : List V → Hp → Prop, (∀ ps H2, Ex H1 H2 → Tups H2 ps rows → Q (ps.map V.ref) H2) → t σ H1 Q
theorem ets_nil {σ : L2.St} {H : Hp} : EvTs tNil σ H [] := fun H1 e Q q => q [] H1 (Ex.refl H1) trivial
theorem ets_cons {t u : TA} {σ : L2.St} {H : Hp} {r : List Int} {rows : List (List Int)} (h1 : EvA t σ H (r.map V.int)) (hr : r.length ≤ 100000) (h2 : EvTs u σ H rows) : EvTs (tCons (tTup t) u) σ H (r :: rows) := fun H1 e Q q =>
  h1 H1 e _ fun H2 e2 => ⟨sz_of (by rw [List.length_map]; exact hr), fun p hp => h2 _ (e.trans (e2.trans (Ex.new hp))) _ fun ps H3 e3 hT => q (p :: ps) H3 (e2.trans ((Ex.new hp).trans e3)) ⟨e3 _ _ upd_same, hT⟩⟩
theorem s_extT {K : PySem.W.Frag} {σ : L2.St} {H : Hp} {D : Ends} {ta : TE} {t : TA} {l : Addr} {xs : List V} {rows : List (List Int)} (hl : H l = some (.lst xs)) (ha : Ev ta σ H (.ref l)) (h : EvTs t σ H rows) (hz : xs.length + rows.length ≤ 100000)
    (k : ∀ ps H1, Ex H H1 → Tups H1 ps rows → D.nx σ (upd H1 l (.lst (xs ++ ps.map V.ref)))) : tDrop (tBM K "list" rExtend ta (tCons (tLst t) tNil)) D σ H := ha H (Ex.refl H) _ fun H1 e1 =>
  ⟨Or.inl ⟨rfl, xs, sq_of (e1 l _ hl)⟩, h H1 e1 _ fun ps H2 e2 hT => ⟨sz_of (by rw [List.length_map, hT.len]; omega), fun p hp => by
    have hp1 := (Ex.new (o := HO.lst (ps.map V.ref)) hp)
    exact ⟨l, p, xs, ps.map V.ref, rfl, rfl, hp1 _ _ (e2 l _ (e1 l _ hl)), upd_same, sz_of (by rw [List.length_map, hT.len]; exact hz), k ps _ (e1.trans (e2.trans hp1)) (hT.ex hp1)⟩⟩⟩
theorem q_asgTs {σ : L2.St} {H : Hp} {D : Ends} {tz : TS} {t : TA} {i : Nat} {rows : List (List Int)} (h : EvTs t σ H rows) (hz : rows.length ≤ 100000) (k : ∀ q ps H1, Ex H H1 → H1 q = some (.lst (ps.map V.ref)) → Tups H1 ps rows → tz D (σ.set i (some (.ref q))) H1) : tSeq (tAsg (tLst t) (gName i)) tz D σ H :=
  h H (Ex.refl H) _ fun ps H2 e2 hT => ⟨sz_of (by rw [List.length_map, hT.len]; exact hz), fun q hq => k q ps _ (e2.trans (Ex.new hq)) upd_same (hT.ex (Ex.new hq))⟩
theorem rc_any {K : PySem.W.Frag} {H : Hp} {p : Addr} {bs : List Bool} (h : SqL K H p (bs.map V.bl)) : RC (rAny K) [.ref p] H (.bl (bs.any id)) := fun H1 e _ q => ⟨p, bs, rfl, ex_l e h, q H1 (Ex.refl H1)⟩
theorem rv_isB {H : Hp} {b c : Bool} : RV (fun x y H Q => ∃ a b, x = .bl a ∧ y = .bl b ∧ Q (.bl (decide (a = b))) H) (.bl b) (.bl c) H (.bl (decide (b = c))) := fun H1 _ _ q => ⟨b, c, rfl, rfl, q H1 (Ex.refl H1)⟩
/-- a number of a node that is one of the program's own -/
def ownN (x : Int) : Bool := decide (0 ≤ x) && decide (x < 200)
def badP (ps : List Int) : Bool := (stepV 4 ps).any ownN
theorem bad_no {ps : List Int} (h : badP ps = false) : ∀ i x, ps[4 * i]? = some x → ¬ (0 ≤ x ∧ x < 200) := fun i x hx hn => by
  have h1 : ownN x = true := by unfold ownN; rw [decide_eq_true hn.1, decide_eq_true hn.2]; rfl
  have := List.any_eq_true.mpr ⟨x, mem_step4.mpr ⟨i, hx⟩, h1⟩
  unfold badP at h
  rw [h] at this
  cases this
theorem bad_yes {ps : List Int} {i : Nat} {x : Int} (hx : ps[4 * i]? = some x) (h0 : 0 ≤ x ∧ x < 200) : badP ps = true :=
  List.any_eq_true.mpr ⟨x, mem_step4.mpr ⟨i, hx⟩, by unfold ownN; rw [decide_eq_true h0.1, decide_eq_true h0.2]; rfl⟩
theorem wrR_rows (n : Nat) (cs : List Int) : ((wrR n cs).map rowL).flatten = wrI n cs := by
  unfold wrI
  rw [List.flatMap_def]
theorem self_rows {ps t : List Int} (h : badP ps = false) (ht : t.length ≤ 2) : ∀ x ∈ rowsOf (ps ++ t), ¬ (0 ≤ x.1 ∧ x.1 < 200) := fun x hx => by
  obtain ⟨i, hi, hl⟩ := rows_num hx
  rw [List.length_append] at hl
  rw [List.getElem?_append_left (by omega)] at hi
  exact bad_no h i _ hi
theorem wr_ops : ∀ (n : Nat) (cs : List Int) (k : Nat) (x : Int), (wrI n cs)[4 * k + 1]? = some x → x ≠ 38
  | _, [], _, _, h => by cases h
  | n, c :: r, k, x, h => by
    have e : wrI n (c :: r) = [((2 * n : Nat) : Int), 35, c, ((2 * n + 1 : Nat) : Int), ((2 * n + 1 : Nat) : Int), 46, 0, ((2 * n + 2 : Nat) : Int)] ++ wrI (n + 1) r := rfl
    rw [e] at h
    match k, h with
    | 0, h => cases h; decide
    | 1, h => cases h; decide
    | k + 2, h =>
      rw [List.getElem?_append_right (by simp only [List.length_cons, List.length_nil]; omega)] at h
      exact wr_ops (n + 1) r k x (by rw [← h]; congr 1)
end Gd

set_option Elab.async false
set_option linter.all false
set_option maxRecDepth 100000
set_option maxHeartbeats 4000000
/-! Of our own: what a step does depends on its footprint alone. -/
namespace Gd
open PySem PySem.Spec PyProof.Rows L2 Evl
/-- two states that agree on what a step at n looks at -/
structure AgreeM (nums nums' : List Int) (n : Nd) (s o : MS) : Prop where
  t1 : 1 ≤ popL n.1 → tp s.st = tp o.st
  t2 : popL n.1 = 2 → tp s.st.dropLast = tp o.st.dropLast
  rd : ∀ k, rdM n.1 (tp s.st) = some k → lk s.sd k = lk o.sd k
  p : s.p = o.p
  ln : nums.length = nums'.length
  nu : s.p < nums.length → (atI nums s.p).getD 0 = (atI nums' s.p).getD 0
  bk : s.bk.getLast? = o.bk.getLast?
section
variable {im nums nums' : List Int} {n : Nd} {s o : MS}
theorem pop_two {op : Int} (h : op ∈ ([43, 45, 42, 60, 126, 33, 92] : List Int)) : popL op = 2 := by
  simp only [List.mem_cons, List.not_mem_nil, or_false] at h
  rcases h with rfl | rfl | rfl | rfl | rfl | rfl | rfl <;> rfl
theorem pop_one {op : Int} (h : op ∈ ([64, 61, 46, 38, 95, 34, 63, 40, 36] : List Int)) : popL op = 1 := by
  simp only [List.mem_cons, List.not_mem_nil, or_false] at h
  rcases h with rfl | rfl | rfl | rfl | rfl | rfl | rfl | rfl | rfl <;> rfl
theorem agree_ys (h : AgreeM nums nums' n s o) : ysL im nums n s = ysL im nums' n o := by
  obtain ⟨op, arg, su⟩ := n
  have t1 : 1 ≤ popL op → tp s.st = tp o.st := h.t1
  have t2 : popL op = 2 → tp s.st.dropLast = tp o.st.dropLast := h.t2
  unfold ysL
  by_cases h35 : op = 35
  · rw [if_pos h35, if_pos h35]
  rw [if_neg h35, if_neg h35]
  by_cases hc : op = 43 ∨ op = 45 ∨ op = 42 ∨ op = 60 ∨ op = 126
  · have p2 : popL op = 2 := pop_two (by simp only [List.mem_cons, List.not_mem_nil, or_false]; rcases hc with z | z | z | z | z <;> simp [z])
    rw [if_pos hc, if_pos hc, t1 (by show 1 ≤ popL op; omega), t2 p2]
  rw [if_neg hc, if_neg hc]
  by_cases h34 : op = 34
  · rw [if_pos h34, if_pos h34, t1 (by subst h34; decide)]
  rw [if_neg h34, if_neg h34]
  by_cases h92 : op = 92
  · rw [if_pos h92, if_pos h92, t1 (by subst h92; decide), t2 (by subst h92; rfl)]
  rw [if_neg h92, if_neg h92]
  by_cases h64 : op = 64
  · have e := t1 (by subst h64; decide)
    rw [if_pos h64, if_pos h64, h.rd (tp s.st) (by subst h64; rfl), e]
  rw [if_neg h64, if_neg h64]
  by_cases h44 : op = 44
  · rw [if_pos h44, if_pos h44, ← h.p, ← h.ln]
    by_cases hl : s.p < (nums.length : Int)
    · rw [if_pos hl, if_pos hl, h.nu hl]
    · rw [if_neg hl, if_neg hl]
  rw [if_neg h44, if_neg h44]
  by_cases h38 : op = 38
  · rw [if_pos h38, if_pos h38, t1 (by subst h38; decide)]
  rw [if_neg h38, if_neg h38]
  by_cases h36 : op = 36
  · rw [if_pos h36, if_pos h36, t1 (by subst h36; decide)]
  rw [if_neg h36, if_neg h36]
  by_cases hs : isSm op = true
  · rw [if_pos hs, if_pos hs, h.rd op (by unfold rdM; rw [if_neg h64, if_pos hs])]
  · rw [if_neg hs, if_neg hs]
/-- the address that is gone to, and the addresses to come back to -/
theorem agree_c (h : AgreeM nums nums' n s o) : (lawM im nums n s).a = (lawM im nums' n o).a ∧
    (((lawM im nums n s).bk = s.bk ∧ (lawM im nums' n o).bk = o.bk) ∨ (∃ x, (lawM im nums n s).bk = s.bk ++ [x] ∧ (lawM im nums' n o).bk = o.bk ++ [x]) ∨ (s.bk ≠ [] ∧ o.bk ≠ [] ∧ (lawM im nums n s).bk = s.bk.dropLast ∧ (lawM im nums' n o).bk = o.bk.dropLast)) := by
  obtain ⟨op, arg, su⟩ := n
  have t1 : 1 ≤ popL op → tp s.st = tp o.st := h.t1
  by_cases h63 : op = 63
  · subst h63
    refine ⟨?_, .inl ⟨rfl, rfl⟩⟩
    show (if tp s.st = 0 then arg else su) = (if tp o.st = 0 then arg else su)
    rw [t1 (by decide)]
  by_cases hc : (decide (65 ≤ op) && decide (op ≤ 90)) = true
  · have key : ∀ (nm : List Int) (z : MS), (lawM im nm (op, arg, su) z).a = op ∧ (lawM im nm (op, arg, su) z).bk = z.bk ++ [su] := fun nm z => by
      have : ∀ st, lsC im op arg su st z.bk = (st, z.bk ++ [su], op) := fun st => by unfold lsC; rw [if_neg h63, if_pos hc]
      constructor
      · show (lsC im op arg su _ z.bk).2.2 = op
        rw [this]
      · show (lsC im op arg su _ z.bk).2.1 = _
        rw [this]
    exact ⟨by rw [(key nums s).1, (key nums' o).1], .inr (.inl ⟨su, (key nums s).2, (key nums' o).2⟩)⟩
  by_cases h40 : op = 40
  · subst h40
    refine ⟨?_, .inr (.inl ⟨su, rfl, rfl⟩)⟩
    show tp s.st = tp o.st
    exact t1 (by decide)
  by_cases h36 : op = 36
  · subst h36
    have e := t1 (by decide)
    have hs : ∀ (nm : List Int) (z : MS), lawM im nm (36, arg, su) z = { a := (lsC im 36 arg su z.st z.bk).2.2, st := (lsC im 36 arg su z.st z.bk).1, sd := z.sd, bk := (lsC im 36 arg su z.st z.bk).2.1, p := z.p, ou := z.ou, n := z.n } := fun nm z => rfl
    have hcl : ∀ (z : MS), lsC im 36 arg su z.st z.bk = (if canC im (tp z.st) = true then (z.st.dropLast, z.bk ++ [su], tp z.st) else (z.st.dropLast ++ [tp z.st], z.bk, su)) := fun z => rfl
    rw [hs, hs]
    dsimp only
    rw [hcl, hcl, ← e]
    by_cases g : canC im (tp s.st) = true
    · rw [if_pos g, if_pos g]
      exact ⟨rfl, .inr (.inl ⟨su, rfl, rfl⟩)⟩
    · rw [if_neg g, if_neg g]
      exact ⟨rfl, .inl ⟨rfl, rfl⟩⟩
  by_cases h41 : op = 41
  · subst h41
    have hs : ∀ (nm : List Int) (z : MS), (lawM im nm (41, arg, su) z).a = (match z.bk.getLast? with | none => su | some b => b) ∧ (lawM im nm (41, arg, su) z).bk = (match z.bk.getLast? with | none => z.bk | some b => z.bk.dropLast) := fun nm z => by
      have : ∀ st, lsC im 41 arg su st z.bk = (match z.bk.getLast? with | none => (st, z.bk, su) | some b => (st, z.bk.dropLast, b)) := fun st => rfl
      constructor
      · show (lsC im 41 arg su _ z.bk).2.2 = _
        rw [this]
        cases z.bk.getLast? <;> rfl
      · show (lsC im 41 arg su _ z.bk).2.1 = _
        rw [this]
        cases z.bk.getLast? <;> rfl
    obtain ⟨a1, b1⟩ := hs nums s
    obtain ⟨a2, b2⟩ := hs nums' o
    rw [a1, a2, b1, b2, h.bk]
    cases g : o.bk.getLast? with
    | none => exact ⟨rfl, .inl ⟨rfl, rfl⟩⟩
    | some b =>
      refine ⟨rfl, .inr (.inr ⟨?_, ?_, rfl, rfl⟩)⟩
      · intro z
        have := h.bk
        rw [g, z] at this
        cases this
      · intro z
        rw [z] at g
        cases g
  have key : ∀ (nm : List Int) (z : MS), (lawM im nm (op, arg, su) z).a = su ∧ (lawM im nm (op, arg, su) z).bk = z.bk := fun nm z => by
    have : ∀ st, lsC im op arg su st z.bk = (st, z.bk, su) := fun st => by unfold lsC; rw [if_neg h63, if_neg hc, if_neg h40, if_neg h36, if_neg h41]
    constructor
    · show (lsC im op arg su _ z.bk).2.2 = _
      rw [this]
    · show (lsC im op arg su _ z.bk).2.1 = _
      rw [this]
  exact ⟨by rw [(key nums s).1, (key nums' o).1], .inl ⟨(key nums s).2, (key nums' o).2⟩⟩
theorem agree_p (h : AgreeM nums nums' n s o) : (lawM im nums n s).p = (lawM im nums' n o).p := by rw [law_p, law_p, h.p, h.ln]
/-- what is written to the store -/
theorem agree_w (h : AgreeM nums nums' n s o) {k : Int} (hk : wrM n.1 n.2.1 (tp s.st) = some k) : lk (lawM im nums n s).sd k = lk (lawM im nums' n o).sd k := by
  obtain ⟨op, arg, su⟩ := n
  have t1 : 1 ≤ popL op → tp s.st = tp o.st := h.t1
  have t2 : popL op = 2 → tp s.st.dropLast = tp o.st.dropLast := h.t2
  by_cases h33 : op = 33
  · subst h33
    have e1 := t1 (by decide)
    have e2 := t2 rfl
    have hk : some (tp s.st) = some k := hk
    obtain rfl := Option.some.inj hk
    show lk (putI s.sd (tp s.st) (tp s.st.dropLast)) (tp s.st) = lk (putI o.sd (tp o.st) (tp o.st.dropLast)) (tp s.st)
    rw [lk_put, lk_put, if_pos rfl, if_pos e1, e2]
  by_cases h61 : op = 61
  · subst h61
    have e1 := t1 (by decide)
    have hk : some arg = some k := hk
    obtain rfl := Option.some.inj hk
    show lk (putI s.sd arg (tp s.st)) arg = lk (putI o.sd arg (tp o.st)) arg
    rw [lk_put, lk_put, if_pos rfl, if_pos rfl, e1]
  have hk : (if op = 33 then some (tp s.st) else if op = 61 then some arg else none) = some k := hk
  rw [if_neg h33, if_neg h61] at hk
  cases hk
/-- what is written out -/
theorem agree_ou (h : AgreeM nums nums' n s o) : ∃ us, (lawM im nums n s).ou = s.ou ++ us ∧ (lawM im nums' n o).ou = o.ou ++ us := by
  obtain ⟨op, arg, su⟩ := n
  have t1 : 1 ≤ popL op → tp s.st = tp o.st := h.t1
  by_cases h46 : op = 46
  · subst h46
    refine ⟨[tp s.st], rfl, ?_⟩
    show o.ou ++ [tp o.st] = o.ou ++ [tp s.st]
    rw [t1 (by decide)]
  · have key : ∀ (nm : List Int) (z : MS), (lawM im nm (op, arg, su) z).ou = z.ou := fun nm z => by
      show (lsP im nm op _ z.p z.ou).2.2 = z.ou
      unfold lsP
      by_cases h44 : op = 44
      · rw [if_pos h44]
        split <;> rfl
      rw [if_neg h44]
      by_cases h94 : op = 94
      · rw [if_pos h94]
      rw [if_neg h94, if_neg h46]
      by_cases h38 : op = 38
      · rw [if_pos h38]
      · rw [if_neg h38]
    exact ⟨[], by rw [key, List.append_nil], by rw [key, List.append_nil]⟩
/-- the footprint itself -/
theorem agree_fp (h : AgreeM nums nums' n s o) : fpN im nums n (tp s.st) s.p = fpN im nums' n (tp o.st) o.p := by
  obtain ⟨op, arg, su⟩ := n
  by_cases hp : 1 ≤ popL op
  · have e := h.t1 hp
    have : fpN im nums (op, arg, su) (tp s.st) s.p = fpN im nums' (op, arg, su) (tp s.st) s.p := by unfold fpN; rw [h.ln]
    rw [this, e, h.p]
  · have hn2 : inP2 op = false := by
      cases z : inP2 op with
      | false => rfl
      | true => exact absurd (show 1 ≤ popL op by unfold popL; rw [if_pos z]; decide) hp
    have hn1 : inP1 op = false := by
      cases z : inP1 op with
      | false => rfl
      | true => exact absurd (show 1 ≤ popL op by unfold popL; rw [if_neg (by rw [hn2]; exact Bool.false_ne_true), if_pos z]; decide) hp
    have n64 : op ≠ 64 := fun z => by rw [z] at hn1; revert hn1; decide
    have n36 : op ≠ 36 := fun z => by rw [z] at hn1; revert hn1; decide
    have n38 : op ≠ 38 := fun z => by rw [z] at hn1; revert hn1; decide
    have n33 : op ≠ 33 := fun z => by rw [z] at hn2; revert hn2; decide
    have hc : ∀ t, cntM im op t = cntM im op 0 := fun t => by
      unfold cntM
      rw [decide_eq_false n36]
      rfl
    unfold fpN rdM wrM
    dsimp only
    rw [hc (tp s.st), hc (tp o.st), if_neg n64, if_neg n64, if_neg n33, if_neg n33, if_neg n38, if_neg n38, h.ln, h.p]
end
end Gd

set_option Elab.async false
set_option linter.all false
set_option maxRecDepth 100000
set_option maxHeartbeats 4000000
/-! Of our own: tuple * n, for n = 0 and n = 1 too. -/
namespace Gd
open PySem PySem.Spec PyProof.Rows L2 Evl
theorem tup_mul1 (l : Addr) (items : Array Value) (n : Nat) (dd : Option Addr) (sl : Array (Option Value)) (u : Tok) :
    Meets (Builtin.«tuple.__mul__» ⟨[.ref l, .int 1 u], []⟩) (fun _ R s => s.heap.get? l = some { cls := .type "tuple", dict := dd, data := .seq items n, slots := sl } ∧ R (.ok (.ret (Value.ref l))) s) :=
  .of_wp fun prog w A R s h => by
    obtain ⟨hp, g, d, tk, os⟩ := s
    obtain ⟨hl, h⟩ := h
    have f1 := AutoSeq1.idx_int
    wp_walk using wpAny_loadPart' hl
    exact ⟨_, rfl, h⟩
theorem tup_mul0 (l : Addr) (items : Array Value) (n : Nat) (dd : Option Addr) (sl : Array (Option Value)) (u : Tok) (hi : items.isEmpty = false) :
    Meets (Builtin.«tuple.__mul__» ⟨[.ref l, .int 0 u], []⟩) (fun _ R s => s.heap.get? l = some { cls := .type "tuple", dict := dd, data := .seq items n, slots := sl } ∧
      R (.ok (.ret (Value.ref s.heap.objs.size))) { s with heap := s.heap.push { cls := Value.type "tuple", data := Data.seq #[] }, toks := s.toks }) :=
  .of_wp fun prog w A R s h => by
    obtain ⟨hp, g, d, tk, os⟩ := s
    obtain ⟨hl, h⟩ := h
    have f1 := AutoSeq1.idx_int
    wp_walk using wpAny_loadPart' hl
    exact ⟨_, rfl, h⟩
def rRep01 (K : PySem.W.Frag) : R2 := fun x y H Q => ∃ l k xs, x = .ref l ∧ y = .int k ∧ SqT K H l xs ∧ xs ≠ [] ∧ 0 ≤ k ∧ k ≤ 1000 ∧ xs.length ≤ 1000 ∧ (k = 1 → Q (.ref l) H) ∧ (k ≠ 1 → ∀ p, H p = none → Q (.ref p) (upd H p (.tup (List.replicate k.toNat xs).flatten)))
section
variable {X : Cx}
theorem op_rep01 : OpR X (binaryOp .Mult) (rRep01 X.K) := by
  intro pins s σ H x y v u Q I rx ry h
  obtain ⟨l, k, xs, rfl, rfl, hT, hne, h1, h2, hz, q1, q⟩ := h
  by_cases k2 : 2 ≤ k
  · exact op_repT pins s σ H _ _ v u Q I rx ry ⟨l, k, xs, rfl, rfl, hT, hne, k2, h2, hz, q (by omega)⟩
  cases rx
  obtain ⟨t, rfl⟩ := ry
  obtain ⟨its, r, ⟨⟨cls, dd, data, sl⟩, ho, hc, n, hd⟩, hs⟩ := I.tuple hT
  simp only at hc hd
  subst hc hd
  have hle : its.length = xs.length := r.length.symm
  have hn : its ≠ [] := fun e => hne (by
    rw [e] at hle
    exact List.eq_nil_of_length_eq_zero hle.symm)
  have hi : its.toArray.isEmpty = false := by
    cases its with
    | nil => exact absurd rfl hn
    | cons a b => rfl
  by_cases e1 : k = 1
  · subst e1
    refine wpAny_binaryOp_repeat_ref (T := "tuple") (U := "int") (by decide) ⟨_, ho, rfl⟩ (fun s' => typeIs_int s' 1 t) noFill_tuple_mul F.fills_int_mul F.slot_int_rmul repeat_tuple F.slot_int_index.lookup
      (call_meets F.slot_int_rmul (typeIs_int s 1 t) F.entry_int_rmul (F.args_int_rmul_2 _ _) (int_rmul_tuple 1 t l its.toArray n dd sl)
        ⟨ho, rfl, ⟨_, ho, rfl⟩, call_meets F.slot_tuple_mul ⟨_, ho, rfl⟩ F.entry_tuple_mul (F.args_tuple_mul_2 _ _) (tup_mul1 l its.toArray n dd sl t) ⟨ho, ?_⟩⟩)
    exact ⟨.ref l, H, I, rfl, q1 rfl⟩
  · have e0 : k = 0 := by omega
    subst e0
    refine wpAny_binaryOp_repeat_ref (T := "tuple") (U := "int") (by decide) ⟨_, ho, rfl⟩ (fun s' => typeIs_int s' 0 t) noFill_tuple_mul F.fills_int_mul F.slot_int_rmul repeat_tuple F.slot_int_index.lookup
      (call_meets F.slot_int_rmul (typeIs_int s 0 t) F.entry_int_rmul (F.args_int_rmul_2 _ _) (int_rmul_tuple 0 t l its.toArray n dd sl)
        ⟨ho, rfl, ⟨_, ho, rfl⟩, call_meets F.slot_tuple_mul ⟨_, ho, rfl⟩ F.entry_tuple_mul (F.args_tuple_mul_2 _ _) (tup_mul0 l its.toArray n dd sl t hi) ⟨ho, ?_⟩⟩)
    refine ⟨.ref s.heap.objs.size, _, I.laid (t' := s.toks) (o := .tup []) (fun b ob q => Heap.get?_push_of_some _ q) (Nat.le_refl _) ?_, rfl, q (by decide) _ (I.hok.fresh (Nat.le_refl _))⟩
    exact ⟨Nat.zero_le _, _, .nil, IsTup.new _ _⟩
end
section
variable {K : PySem.W.Frag} {σ : L2.St} {H : Hp} {ta tb te : TE}
theorem dpAll_rep {G : Hp} {x : V} {d : PyData} (h : Dp K G x d) : ∀ k : Nat, DpAll K G (List.replicate k x) (List.replicate k d)
  | 0 => .nil
  | k + 1 => by rw [List.replicate_succ, List.replicate_succ]; exact .cons h (dpAll_rep h k)
/-- (x,) * n, told by its data -/
theorem ed_rep01 {d : PyData} {k : Nat} (ha : EvD K ta σ H (.tuple [d])) (hb : Ev tb σ H (.int (k : Int))) (hk : k ≤ 1000) : EvD K (tOp (rRep01 K) ta tb) σ H (.tuple (List.replicate k d)) := fun H1 e Q q =>
  ha H1 e _ fun v H2 e2 hv => hb H2 (e.trans e2) _ fun H3 e3 => by
    obtain ⟨a, xs, rfl, hx, hds⟩ := dp_tup_inv (hv.ex e3)
    cases hds with | cons h1 h2 =>
    cases h2
    rename_i x
    refine ⟨a, (k : Int), [x], rfl, rfl, hx, by simp, by omega, by omega, by show 1 ≤ 1000; decide, fun h => ?_, fun h p np => ?_⟩
    · have : k = 1 := by omega
      subst this
      exact q _ H3 (e2.trans e3) (.tup hx (.cons h1 .nil))
    · refine q _ _ ((e2.trans e3).trans (Ex.new np)) (.tup (st_of upd_same) ?_)
      have hr : (List.replicate ((k : Int)).toNat [x]).flatten = List.replicate k x := by
        rw [Int.toNat_natCast]
        simp
      rw [hr]
      exact dpAll_rep (h1.ex (Ex.new np)) k
end
end Gd

set_option Elab.async false
set_option linter.all false
set_option maxRecDepth 100000
set_option maxHeartbeats 4000000
/-! Of our own: values in pairs; t + u and [x] * n told by data. -/
namespace Gd
open PySem PySem.Spec PyProof.Rows L2 Evl
def valP (pr : List (Int × Int)) (k : Int) : Int := ((pr.find? fun q => decide (q.1 = k)).map (·.2)).getD 0
theorem valP_no {pr : List (Int × Int)} {k : Int} (h : ∀ y ∈ pr, y.1 ≠ k) : valP pr k = 0 := by
  unfold valP
  rw [List.find?_eq_none.mpr fun y hy => by simpa using h y hy]
  rfl
theorem valP_at {pr : List (Int × Int)} {k : Int} {i : Nat} {q : Int × Int} (h : pr[i]? = some q) (hk : q.1 = k) (hall : ∀ y ∈ pr.take i, y.1 ≠ k) : valP pr k = q.2 := by
  have hi := (List.getElem?_eq_some_iff.mp h).1
  have hq : pr[i] = q := (List.getElem?_eq_some_iff.mp h).2
  have e : pr = pr.take i ++ q :: pr.drop (i + 1) := by
    rw [← hq, List.getElem_cons_drop, List.take_append_drop]
  unfold valP
  rw [e, List.find?_append, List.find?_eq_none.mpr fun y hy => by simpa using hall y hy, List.find?_cons_of_pos (by simpa using hk)]
  rfl
theorem val_back (sd : List (Int × Int)) (k : Int) : valP (pairsOf sd) k = lk sd k := by
  unfold valP pairsOf
  rw [List.find?_map]
  cases h : ((srt (sd.map (·.1))).filter fun k => (getI sd k).getD 0 ≠ 0).find? ((fun q : Int × Int => decide (q.1 = k)) ∘ fun k => (k, (getI sd k).getD 0)) with
  | some j =>
    have hj : j = k := by simpa using List.find?_some h
    subst hj
    rfl
  | none =>
    have hn := List.find?_eq_none.mp h
    show (0 : Int) = lk sd k
    by_cases hk : k ∈ sd.map (·.1)
    · have hs : k ∈ srt (sd.map (·.1)) := (srt_perm _).mem_iff.mpr hk
      by_cases h0 : lk sd k = 0
      · exact h0.symm
      · exact absurd (show ((fun q : Int × Int => decide (q.1 = k)) ∘ fun k => (k, (getI sd k).getD 0)) k = true by simp) (hn k (List.mem_filter.mpr ⟨hs, decide_eq_true (show (getI sd k).getD 0 ≠ 0 from h0)⟩))
    · unfold lk
      rw [getI_none hk]
      rfl
/-- a store that is written anew from keys -/
theorem lk_keys (f : Int → Int) : ∀ (ks : List Int) (sd : List (Int × Int)) (k : Int), lk ((ks.map fun j => (j, f j)).foldl (fun sd q => putI sd q.1 q.2) sd) k = if k ∈ ks then f k else lk sd k
  | [], sd, k => by simp
  | j :: r, sd, k => by
    rw [List.map_cons, List.foldl_cons, lk_keys f r]
    by_cases h : k ∈ r
    · rw [if_pos h, if_pos (List.mem_cons_of_mem _ h)]
    · rw [if_neg h, lk_put]
      by_cases e : k = j
      · rw [if_pos e, if_pos (by rw [e]; exact List.mem_cons_self), e]
      · rw [if_neg e, if_neg (by simp [e, h])]
theorem lk_all (sd : List (Int × Int)) (k : Int) : lk (stoF ((srt (sd.map (·.1))).map fun j => (j, lk sd j))) k = lk sd k := by
  unfold stoF
  rw [lk_keys]
  by_cases hk : k ∈ srt (sd.map (·.1))
  · rw [if_pos hk]
  · rw [if_neg hk]
    have : k ∉ sd.map (·.1) := fun z => hk ((srt_perm _).mem_iff.mpr z)
    unfold lk
    rw [getI_none this]
    rfl
theorem cutD_drop (ns : List Int) (k : Nat) : cutD (ns.map PyData.int) (some (k : Int)) none = (ns.drop k).map PyData.int := by
  unfold cutD
  rw [HT.sIx_nat, HT.sIx_none, List.length_map, ← List.map_drop, ← List.map_take]
  congr 1
  by_cases h : k ≤ ns.length
  · rw [Nat.min_eq_left h]
    exact List.take_of_length_le (by rw [List.length_drop]; omega)
  · rw [Nat.min_eq_right (by omega), List.drop_eq_nil_of_le (show ns.length ≤ k by omega), List.drop_eq_nil_of_le (Nat.le_refl _)]
    simp
section
variable {K : PySem.W.Frag} {σ : L2.St} {H : Hp} {ta tb te : TE}
theorem ed_catA {d1 d2 : List PyData} (ha : EvD K ta σ H (.tuple d1)) (hb : EvD K tb σ H (.tuple d2)) (hl : d1.length + d2.length ≤ 100000) : EvD K (tOp (rCatA K) ta tb) σ H (.tuple (d1 ++ d2)) := fun H1 e Q q =>
  ha H1 e _ fun v H2 e2 hd => hb H2 (e.trans e2) _ fun w H3 e3 hd2 => by
    obtain ⟨a, xs, rfl, g1, g2⟩ := dp_tup_inv hd
    obtain ⟨b, ys, rfl, g3, g4⟩ := dp_tup_inv hd2
    have l1 := dpAll_len g2
    have l2 := dpAll_len g4
    refine ⟨a, b, xs, ys, rfl, rfl, ex_t e3 g1, g3, by rw [l1, l2]; exact sz_of hl, fun z => ?_, fun _ z => ?_, fun _ _ p hp => q _ _ ((e2.trans e3).trans (Ex.new hp)) (.tup (st_of upd_same) (((g2.ex e3).app g4).ex (Ex.new hp)))⟩
    · subst z
      cases g2
      exact q _ H3 (e2.trans e3) (.tup g3 g4)
    · subst z
      cases g4
      rw [List.append_nil] at q
      exact q _ H3 (e2.trans e3) (.tup (ex_t e3 g1) (g2.ex e3))
theorem el_repL {xs : List V} {k : Nat} (ha : EvL ta σ H xs) (hb : ∀ H1, Ex H H1 → Ev tb σ H1 (.int (k : Int))) (hk : k ≤ 100000) (hz : xs.length * k ≤ 100000) : EvL (tOp rRep ta tb) σ H (List.replicate k xs).flatten := fun H1 e Q q =>
  ha H1 e _ fun p H2 np e2 hp => hb H2 (e.trans e2) H2 (Ex.refl H2) _ fun H3 e3 => ⟨p, (k : Int), xs, rfl, rfl, e3 _ _ hp, by omega, by omega, by rw [Int.toNat_natCast]; exact sz_of hz, fun l hl => by
    rw [Int.toNat_natCast]
    exact q l _ (fresh_back (e2.trans e3) hl) ((e2.trans e3).trans (Ex.new hl)) upd_same⟩
theorem q_forNU {D : Ends} {tu tz : TS} {xs : List V} {tl : TE} {j : Nat} (h : EvU tl σ H xs) (Pv : Addr → Nat → L2.St → Hp → Prop) (h0 : ∀ p H1, H p = none → Ex H H1 → H1 p = some (.tup xs) → Pv p 0 σ H1) (hl : ∀ p i σ' H', i ≤ xs.length → Pv p i σ' H' → SqT K H' p xs)
    (hs : ∀ p i x σ' H', xs[i]? = some x → Pv p i σ' H' → tu { D with nx := Pv p (i + 1), ct := Pv p (i + 1), bk := tz D } (σ'.set j (some x)) H') (hd : ∀ p σ' H', Pv p xs.length σ' H' → tz D σ' H') : tSeq (tFor (iTup K tl) (gName j) tu) tz D σ H :=
  h H (Ex.refl H) _ fun p H1 np e1 hp => ⟨p, rfl, ⟨xs, st_of hp⟩, for_tup (D := { D with nx := tz D }) (Pv p) (h0 p H1 np e1 hp) (hl p) (hs p) (hd p)⟩
/-- [(k, store[k]) for k in sorted(store)] -/
theorem eld_all {ts : TE} {d : Addr} {sd : List (Int × Int)} {vs : List Nat} {j : Nat} (h : Ev ts σ H (.ref d)) (hd : H d = some (.dK (kvI sd))) (hl : sd.length < 64) (hw : ∀ x, wipe ((wipe σ vs).set j (some x)) vs = wipe σ vs)
    (he : ∀ c v H', Ex H H' → getI sd c = some v → H' d = some (.dK (kvI sd)) → EvD K te ((wipe σ vs).set j (some (.int c))) H' (pairD (c, v))) :
    EvLD K (tLc (iList K (tCB rSrtDI (tCons ts tNil))) (gName j) tYes te vs) σ H (((srt (sd.map (·.1))).map fun k => (k, lk sd k)).map pairD) := by
  have hks : ∀ (i : Nat) (x : V), ((srt (sd.map (·.1))).map V.int)[i]? = some x → ∃ c v, x = .int c ∧ (srt (sd.map (·.1)))[i]? = some c ∧ getI sd c = some v := fun i x hx => by
    obtain ⟨c, h1, rfl⟩ := map_at hx
    obtain ⟨v, hv⟩ := getI_mem ((srt_perm _).mem_iff.mp (List.mem_of_getElem? h1))
    exact ⟨c, v, rfl, h1, hv⟩
  rw [List.map_map]
  have hf := filter_range_map (srt (sd.map (·.1))) (fun _ => true) (fun k => pairD (k, lk sd k)) 0
  rw [filter_all] at hf
  show EvLD K _ _ _ ((srt (sd.map (·.1))).map fun k => pairD (k, lk sd k))
  rw [← hf]
  have hl2 : (srt (sd.map (·.1))).length = ((srt (sd.map (·.1))).map V.int).length := by rw [List.length_map]
  rw [hl2]
  refine eld_lcNL (el_sortedDI h hd hl) (by rw [List.length_map, srt_len, List.length_map]; omega) hw (fun i _ => pairD_tup _) (fun i x hx H' e' => et_yes) (fun i x hx _ H' e' => ?_)
  obtain ⟨c, v, rfl, h1, hv⟩ := hks i x hx
  have hg : (srt (sd.map (·.1))).getD i 0 = c := by rw [List.getD_eq_getElem?_getD, h1]; rfl
  have hk : lk sd c = v := by unfold lk; rw [hv]; rfl
  rw [hg, hk]
  exact he c v H' e' hv (e' _ _ hd)
end
end Gd

set_option Elab.async false
set_option linter.all false
set_option maxRecDepth 100000
set_option maxHeartbeats 4000000
/-! Of our own: a fold that may fail; lists of data that grow; a walk over zip. -/
namespace Gd
open PySem PySem.Spec PyProof.Rows L2 Evl
def foldO {α β : Type} (f : α → β → Option α) : List β → α → Option α
  | [], s => some s
  | x :: r, s => (f s x).bind (foldO f r)
theorem foldO_app {α β : Type} {f : α → β → Option α} : ∀ (l r : List β) (s : α), foldO f (l ++ r) s = (foldO f l s).bind (foldO f r)
  | [], _, _ => rfl
  | x :: l, r, s => by
    show (f s x).bind (foldO f (l ++ r)) = ((f s x).bind (foldO f l)).bind (foldO f r)
    cases f s x with
    | none => rfl
    | some t => exact foldO_app l r t
theorem foldO_snoc {α β : Type} {f : α → β → Option α} {l : List β} {i : Nat} {x : β} {s t : α} (h : l[i]? = some x) (g : foldO f (l.take i) s = some t) : foldO f (l.take (i + 1)) s = f t x := by
  rw [take_snoc h, foldO_app, g]
  show (f t x).bind (fun s => some s) = f t x
  cases f t x <;> rfl
theorem foldO_stop {α β : Type} {f : α → β → Option α} {l : List β} {i : Nat} {x : β} {s t : α} (h : l[i]? = some x) (g : foldO f (l.take i) s = some t) (e : f t x = none) : foldO f l s = none := by
  have h1 := foldO_snoc h g
  rw [← List.take_append_drop (i + 1) l, foldO_app, h1, e]
  rfl
section
variable {K : PySem.W.Frag} {H : Hp} {σ : L2.St} {te ta tb : TE} {D : Ends} {tz : TS}
/-- a new list of two pieces of data -/
theorem eld_lst2 {d1 d2 : PyData} {t1 t2 : TE} (h1 : EvD K t1 σ H d1) (h2 : EvD K t2 σ H d2) : EvLD K (tLst (tCons t1 (tCons t2 tNil))) σ H [d1, d2] := fun H1 e Q q =>
  h1 H1 e _ fun v H2 e2 hv => h2 H2 (e.trans e2) _ fun u H3 e3 hu => ⟨sz_of (n := 2) (by decide), fun p hp => q p [v, u] _ (fresh_back (e2.trans e3) hp) ((e2.trans e3).trans (Ex.new hp)) upd_same (.cons ((hv.ex e3).ex (Ex.new hp)) (.cons (hu.ex (Ex.new hp)) .nil))⟩
/-- l.append(data) -/
theorem s_appD {d : PyData} {l : Addr} {xs : List V} (ha : Ev ta σ H (.ref l)) (hl : H l = some (.lst xs)) (hz : xs.length < 100000) (h : EvD K te σ H d) (k : ∀ v H1, Ex H H1 → Dp K H1 v d → D.nx σ (upd H1 l (.lst (xs ++ [v])))) :
    tDrop (tBM K "list" rAppend ta (tCons te tNil)) D σ H := s_appP (P := fun v H' => Ex H H' ∧ Dp K H' v d) ha hl hz (fun H1 e1 Q q => h H1 e1 Q fun v H2 e2 hv => q v H2 ⟨e1.trans e2, hv⟩) fun v H1 h1 => ⟨h1.1 _ _ hl, k v H1 h1.1 h1.2⟩
/-- a walk over two lists of data at once -/
theorem s_forZip {A B : Addr} {xs ys : List V} {n j1 j2 : Nat} {tu : TS} (h1 : EvA ta' σ H [.ref A, .ref B]) (hx : SqL K H A xs) (hy : SqL K H B ys) (hn : n = min xs.length ys.length) (Pv : Nat → L2.St → Hp → Prop) (h0 : ∀ H1, Ex H H1 → Pv 0 σ H1) (hG : ∀ i σ' H', i ≤ n → Pv i σ' H' → SqL K H' A xs ∧ SqL K H' B ys)
    (hs : ∀ i x y σ' H' H'', i < n → xs[i]? = some x → ys[i]? = some y → Pv i σ' H' → Ex H' H'' → tu { D with nx := Pv (i + 1), ct := Pv (i + 1), bk := D.nx } ((σ'.set j1 (some x)).set j2 (some y)) H'') (hd : ∀ σ' H', Pv n σ' H' → D.nx σ' H') :
    tFor (iZip K ta') (gTup K 2 (gCons (gName j1) (gCons (gName j2) gNil))) tu D σ H := h1 H (Ex.refl H) _ fun H1 e1 => ⟨A, B, xs, ys, rfl, ex_l e1 hx, ex_l e1 hy, for_it (walk_zip hn) Pv (h0 H1 e1) hG (fun i v σ' H' H'' hi p y => by
      obtain ⟨t, x, z, rfl, ht, rfl, hx2, hy2⟩ := y
      exact g_tup2 (.inl (.inl upd_same)) (hs i x z σ' H' _ hi hx2 hy2 p (Ex.new ht))) hd⟩
theorem g_tup4 {a : Addr} {x y z u : V} {i j k l : Nat} {Q : L2.St → Hp → Prop} (h : SqT K H a [x, y, z, u]) (q : Q ((((σ.set i (some x)).set j (some y)).set k (some z)).set l (some u)) H) : gTup K 4 (gCons (gName i) (gCons (gName j) (gCons (gName k) (gCons (gName l) gNil)))) (.ref a) σ H Q := ⟨a, [x, y, z, u], rfl, h, rfl, x, [y, z, u], rfl, y, [z, u], rfl, z, [u], rfl, u, [], rfl, rfl, q⟩
/-- a walk over a new list of data, any target -/
theorem q_forLDg {ds : List PyData} {tl : TE} {g : TG} {tu : TS} (h : EvLD K tl σ H ds) (Pv : Addr → List V → Nat → L2.St → Hp → Prop) (h0 : ∀ p xs H1, H p = none → Ex H H1 → H1 p = some (.lst xs) → DpAll K H1 xs ds → Pv p xs 0 σ H1) (hl : ∀ p xs i σ' H', i ≤ xs.length → Pv p xs i σ' H' → SqL K H' p xs)
    (hs : ∀ p xs i x σ' H', xs[i]? = some x → Pv p xs i σ' H' → g x σ' H' fun σ2 H2 => tu { D with nx := Pv p xs (i + 1), ct := Pv p xs (i + 1), bk := tz D } σ2 H2) (hd : ∀ p xs σ' H', Pv p xs xs.length σ' H' → tz D σ' H') : tSeq (tFor (iList K tl) g tu) tz D σ H :=
  h H (Ex.refl H) _ fun p xs H1 np e1 hp hds => ⟨p, rfl, ⟨xs, sq_of hp⟩, for_it (D := { D with nx := tz D }) walk_list (Pv p xs) (h0 p xs H1 np e1 hp hds) (fun i σ' H' hi q => hl p xs i σ' H' hi q) (fun i x σ' H' H'' hi q y => by
    obtain ⟨rfl, hx⟩ := y
    exact hs p xs i x σ' H'' hx q) (hd p xs)⟩
theorem s_forZipD {ds es : List PyData} {t1 t2 : TE} {j1 j2 : Nat} {tu : TS} (h1 : EvLD K t1 σ H ds) (h2 : ∀ H1, Ex H H1 → EvLD K t2 σ H1 es) (hl : ds.length = es.length)
    (k : ∀ (A B : Addr) (xs ys : List V) (H2 : Hp), Ex H H2 → H A = none → H B = none → H2 A = some (.lst xs) → DpAll K H2 xs ds → H2 B = some (.lst ys) → DpAll K H2 ys es → ∃ Pv : Nat → L2.St → Hp → Prop, Pv 0 σ H2 ∧ (∀ i σ' H', i ≤ ds.length → Pv i σ' H' → SqL K H' A xs ∧ SqL K H' B ys) ∧
      (∀ i x y σ' H' H'', i < ds.length → xs[i]? = some x → ys[i]? = some y → Pv i σ' H' → Ex H' H'' → tu { D with nx := Pv (i + 1), ct := Pv (i + 1), bk := D.nx } ((σ'.set j1 (some x)).set j2 (some y)) H'') ∧ ∀ σ' H', Pv ds.length σ' H' → D.nx σ' H') :
    tFor (iZip K (tCons t1 (tCons t2 tNil))) (gTup K 2 (gCons (gName j1) (gCons (gName j2) gNil))) tu D σ H := h1 H (Ex.refl H) _ fun A xs H1 nA e1 hA dA => h2 H1 e1 H1 (Ex.refl H1) _ fun B ys H2 nB e2 hB dB => by
  obtain ⟨Pv, p0, pG, ps, pd⟩ := k A B xs ys H2 (e1.trans e2) nA (fresh_back e1 nB) (e2 _ _ hA) (dA.ex e2) hB dB
  have hn : ds.length = min xs.length ys.length := by rw [dpAll_len dA, dpAll_len dB, ← hl, Nat.min_self]
  exact ⟨A, B, xs, ys, rfl, sq_of (e2 _ _ hA), sq_of hB, for_it (walk_zip hn) Pv p0 pG (fun i v σ' H' H'' hi p y => by
      obtain ⟨t, x, z, rfl, ht, rfl, hx2, hy2⟩ := y
      exact g_tup2 (.inl (.inl upd_same)) (ps i x z σ' H' _ hi hx2 hy2 p (Ex.new ht))) pd⟩
end
end Gd

set_option Elab.async false
set_option linter.all false
set_option maxRecDepth 100000
set_option maxHeartbeats 4000000
/-! Of our own: None or a dict compared; a walk over a dict's keys; what a locked dict holds. -/
namespace Gd
open PySem PySem.Spec PyProof.Rows L2 Evl
theorem op_or {X : Cx} {f : Value → Value → Sem Value} {r1 r2 : R2} (h1 : OpR X f r1) (h2 : OpR X f r2) : OpR X f (fun x y H Q => r1 x y H Q ∨ r2 x y H Q) := fun pins s σ H x y v u Q I rx ry h => h.elim (h1 pins s σ H x y v u Q I rx ry) (h2 pins s σ H x y v u Q I rx ry)
def rEqO : R2 := fun x y H Q => rEqDA x y H Q ∨ rEq x y H Q
def rNeO : R2 := fun x y H Q => rNeDA x y H Q ∨ rNe x y H Q
theorem op_eqO {X : Cx} (hu : X.A.units + 64 < cLine) : OpR X (compareOp .Eq) rEqO := op_or (op_eq_dictA (by omega)) op_eq
theorem op_neO {X : Cx} (hu : X.A.units + 64 < cLine) : OpR X (compareOp .NotEq) rNeO := op_or (op_ne_dictA (by omega)) op_ne
theorem rc_isDict {K : PySem.W.Frag} {H : Hp} {p : Addr} {kvs : List (Key × V)} (h : H p = some (.dK kvs)) : RC (rIsi K) [.ref p, .ty "dict"] H (.bl true) := fun H1 e _ q => ⟨_, _, _, _, true, rfl, .ty "dict", .base (.dK (e _ _ h)), kit_ty (by decide +kernel), q H1 (Ex.refl H1)⟩
theorem rd_ex {H H' : Hp} {a : Addr} {u : HO} (e : Ex H H') (h : Rd H a u) : Rd H' a u := h.elim (fun h => .inl (e _ _ h)) fun ⟨o, h⟩ => .inr ⟨o, e _ _ h⟩
section
variable {K : PySem.W.Frag} {H : Hp} {σ : L2.St} {td ty te ta tb : TE} {D : Ends} {tz : TS} {a : Addr}
theorem ev_notInR {sd : List (Int × Int)} {k : Int} (hk : Ev ty σ H (.int k)) (h : ∀ H2, Ex H H2 → Ev td σ H2 (.ref a)) (hd : Rd H a (.dK (kvI sd))) : Ev (tDNotIn ty td) σ H (.bl (!(getI sd k).isSome)) := fun H1 e Q q =>
  hk H1 e _ fun H2 e2 => h H2 (e.trans e2) H2 (Ex.refl H2) _ fun H3 e3 => ⟨a, valV (kvI sd) (Sum.inl k), rfl, .inl ⟨_, Sum.inl k, rd_ex (e.trans (e2.trans e3)) hd, rfl, rfl⟩, by
    rw [kvI_get, Option.isSome_map]
    exact q H3 (e2.trans e3)⟩
theorem ev_ixR {sd : List (Int × Int)} {k v : Int} (h : Ev td σ H (.ref a)) (hk : ∀ H2, Ex H H2 → Ev ty σ H2 (.int k)) (hd : Rd H a (.dK (kvI sd))) (hv : getI sd k = some v) : Ev (tDGet td ty) σ H (.int v) := fun H1 e Q q =>
  h H1 e _ fun H2 e2 => hk H2 (e.trans e2) H2 (Ex.refl H2) _ fun H3 e3 => ⟨a, _, rfl, .inl ⟨_, Sum.inl k, rd_ex (e.trans (e2.trans e3)) hd, rfl, by rw [kvI_get, hv]; rfl⟩, q H3 (e2.trans e3)⟩
/-- for k in d: a body that only looks -/
theorem q_forDk {d : Addr} {kvs : List (Key × V)} {j : Nat} {tu : TS} (hd : H d = some (.dK kvs)) (he : ∀ G, Ev td σ G (.ref d)) (Sv : Nat → L2.St → Prop) (h0 : Sv 0 σ)
    (hs : ∀ (i : Nat) (kv : Key × V) (σ' : L2.St) (G : Hp) (D' : Ends), kvs[i]? = some kv → Sv i σ' → Rd G d (.dK kvs) → (∀ b o, b ≠ d → H b = some o → G b = some o) → (∀ G' σ2, Ex G G' → Sv (i + 1) σ2 → D'.nx σ2 G') → tu D' (σ'.set j (some (kV kv.1))) G)
    (hz : ∀ σ' G, Ex H G → Sv kvs.length σ' → tz D σ' G) : tSeq (tLock (tFor (iKeys td) (gName j) tu)) tz D σ H := by
  refine ⟨d, .dK kvs, hd, trivial, fun od => ?_⟩
  refine he _ _ (Ex.refl _) _ fun H1 e1 => ⟨d, od, rfl, .inl ⟨kvs, e1 _ _ upd_same, ?_⟩⟩
  refine for_it walk_keys (fun i σ' H' => Sv i σ' ∧ H' d = some (.frz od (.dK kvs)) ∧ ∀ b o, b ≠ d → H b = some o → H' b = some o) ⟨h0, e1 _ _ upd_same, fun b o hb h => e1 _ _ (by rw [upd_ne hb]; exact h)⟩ (fun i σ' H' _ q => q.2.1) (fun i x σ' H' H'' hi q y => ?_) (fun σ' H' q => ⟨q.2.1, hz σ' _ (fun b o h => ?_) q.1⟩)
  · obtain ⟨rfl, k, v, hk, rfl⟩ := y
    exact hs i (k, v) σ' H'' _ hk q.1 (.inr ⟨od, q.2.1⟩) q.2.2 fun G' σ2 e s => ⟨s, e _ _ q.2.1, fun b o hb h => e _ _ (q.2.2 b o hb h)⟩
  · by_cases c : b = d
    · subst c
      rw [hd] at h
      cases h
      exact upd_same
    · rw [upd_ne c]
      exact q.2.2 b o c h
/-- a walk over the rows of a list, by hand: range(lo, hi, step) -/
theorem q_forR3 {ta : TA} {i0 j0 c0 : Int} {n j : Nat} {tu : TS} (h : EvA ta σ H [.int i0, .int j0, .int c0]) (hr : RgC i0 j0 c0 n) (Pv : Nat → L2.St → Hp → Prop) (h0 : ∀ H1, Ex H H1 → Pv 0 σ H1)
    (hs : ∀ (i : Nat) σ' H', i < n → Pv i σ' H' → tu { D with nx := Pv (i + 1), ct := Pv (i + 1), bk := tz D } (σ'.set j (some (.int (i0 + (i : Nat) * c0)))) H') (hd : ∀ σ' H', Pv n σ' H' → tz D σ' H') : tSeq (tFor (iRng3 ta) (gName j) tu) tz D σ H :=
  h H (Ex.refl H) _ fun H1 e => ⟨i0, j0, c0, n, rfl, hr, for_rangeC (D := { D with nx := tz D }) Pv (h0 H1 e) (fun i σ' H' hi p => hs i σ' H' hi p) hd⟩
end
end Gd
namespace Gd
open PySem PySem.Spec PyProof.Rows L2 Evl
section
variable {K : PySem.W.Frag} {H : Hp} {σ : L2.St} {te ta tb : TE} {tas : TA} {D : Ends} {tz : TS}
theorem q_appD {d : PyData} {l : Addr} {xs : List V} (ha : Ev ta σ H (.ref l)) (hl : H l = some (.lst xs)) (hz : xs.length < 100000) (h : EvD K te σ H d) (k : ∀ v H1, Ex H H1 → Dp K H1 v d → tz D σ (upd H1 l (.lst (xs ++ [v])))) :
    tSeq (tDrop (tBM K "list" rAppend ta (tCons te tNil))) tz D σ H := s_appD (D := { D with nx := tz D }) ha hl hz h k
/-- l.extend([..]), the display told by what it leaves -/
theorem s_extP {l : Addr} {xs : List V} {P : List V → Hp → Prop} (ha : Ev ta σ H (.ref l)) (hl : H l = some (.lst xs)) (h : ∀ H1, Ex H H1 → ∀ Q : List V → Hp → Prop, (∀ vs H2, P vs H2 → Q vs H2) → tas σ H1 Q)
    (k : ∀ vs H2, P vs H2 → vs.length ≤ 100000 ∧ xs.length + vs.length ≤ 100000 ∧ H2 l = some (.lst xs) ∧ ∀ G, Ex H2 G → D.nx σ (upd G l (.lst (xs ++ vs)))) :
    tDrop (tBM K "list" rExtend ta (tCons (tLst tas) tNil)) D σ H := ha H (Ex.refl H) _ fun H1 e1 =>
  ⟨Or.inl ⟨rfl, xs, sq_of (e1 l _ hl)⟩, h H1 e1 _ fun vs H2 hv => by
    obtain ⟨z1, z2, h2, kk⟩ := k vs H2 hv
    exact ⟨sz_of z1, fun p hp => ⟨l, p, xs, vs, rfl, rfl, by rw [upd_ne (ne_of_none h2 hp)]; exact h2, upd_same, sz_of z2, kk _ (Ex.new hp)⟩⟩⟩
end
theorem rg44 (m : Nat) (h : m ≤ 10) : RgC 0 ((4 * m : Nat) : Int) 4 m := by
  have h2 : m = 0 ∨ m = 1 ∨ m = 2 ∨ m = 3 ∨ m = 4 ∨ m = 5 ∨ m = 6 ∨ m = 7 ∨ m = 8 ∨ m = 9 ∨ m = 10 := by omega
  rcases h2 with rfl | rfl | rfl | rfl | rfl | rfl | rfl | rfl | rfl | rfl | rfl <;> exact ⟨by decide, by decide, by decide, by decide⟩
end Gd

set_option Elab.async false
set_option linter.all false
set_option maxRecDepth 100000
set_option maxHeartbeats 4000000
set_option exponentiation.threshold 600
/-! Of our own: an exception's __init__ that begins with super().__init__(..), the class below ValueError by classes of the program. -/
namespace Gd
open PySem PySem.Spec PyProof.Rows L2 Evl NdefX
class ProgOk (P : Program) : Prop where
  file : ((P.main.file : Str) == "/claim/cut.py") = true
  top : (P.main.scope.names.lookup ("super" : Str)).isSome = false
/-- what the written part tells of an __init__ at f, of the class at C -/
structure SupF (K : PySem.W.Frag) (C f cc cda : Addr) (qual : Str) (st : Stmt) (fd : FuncData) : Prop where
  ex : ∃ (oc ct kV doc pm ccl cl : Value) (od an cdd cld : Option Addr) (osl ccs csl : Array (Option Value)) (vs : Array Value) (tf : Tok), fd = PySem.W.ksFn "__init__" qual (defArgs st) (defBody st) (defScope st) .none kV doc pm an (.ref cda) ct cc ∧ K.lookup f = some ⟨oc, od, .func fd, osl⟩ ∧
    K.lookup cda = some ⟨ccl, cdd, .fields vs, ccs⟩ ∧ vs[2]? = some (.str "/claim/cut.py" tf) ∧ K.lookup cc = some ⟨cl, cld, .cell (some (.ref C)), csl⟩
  cd : PySem.W.codeIn K (.ref cda) qual = true
  kp : PySem.W.keepIn K (.ref f) = true
  sub : PySem.W.mroIn K C (.ref C) = some true
  ks : PySem.W.ks_superIn K C C "__init__" = some (some (.builtin "ValueError.__init__"))
  ve : PySem.W.subIn K (.ref C) (.type "ValueError") = some true
  op : PySem.W.nsIn K cStatics "thirdparty.any" = some none
abbrev supN (qual : Str) (st : Stmt) (cc cda : Addr) : NF := ⟨"__init__", qual, defArgs st, defBody st, defScope st, [("__class__", cc)], cda⟩
abbrev supX (CX : CXT) (P : Program) (w : World) (K : PySem.W.Frag) (mg : Str → Option Value) (base : Heap) (N : List Str) (qual : Str) (st : Stmt) (cc cda f : Addr) (A : Around) (outer : List Env) (s : Shared) (H : Hp) (E : XK) : Cx :=
  ncx CX P w K mg base N (supN qual st cc cda) f A outer s H E
section
variable {prog : Program} {w : World} {A : Around} {E : Value → Shared → Prop} {h : Heap} {g : Array GenState} {d : Drawn} {t : Nat} {os : OsState}
variable {nm q : Str} {C N : Addr} {bs bm : List Value} {hdct : Bool} {sn : List Str} {sub : List Value} {ab : Bool} {col : Option Bool} {dd : Option Addr} {k0 k1 k2 k3 k5 : Option Value}
/-- the built-in __init__ bound to the object, called -/
theorem call_mw {u e t0 : Addr} {rest : List Value} {Q : Value → Shared → Prop} (hbm : PySem.HandSPX.refsVE bm = true)
    (hC : h.get? C = some (excClassObj nm q C N bs bm hdct sn sub ab col dd k0 k1 k2 k3 k5 "ValueError.__new__")) (he : h.get? e = some (PySem.HandSPX.excO C t0)) (hu : h.get? u = some (PySem.W.kxs_mw "ValueError.__init__" e)) (hrest : rest.length ≤ sizeLine)
    (hq : ∀ h' t1, (∀ b o, b ≠ e → h.get? b = some o → h'.get? b = some o) → h'.get? e = some (PySem.HandSPX.excO C t1) → Q .none ⟨h', g, d, t, os⟩) :
    wpAny (model prog w) A (call (.ref u) rest) Q E ⟨h, g, d, t, os⟩ := by
  refine wpAny_call (codeAny_of_tree ?_)
  show wpAny _ A.in1 (callAny (.ref u) ⟨rest, []⟩) _ _ _
  simp only [callAny]
  refine wpAny_bind (wpAny_load hu ?_)
  simp only [PySem.W.kxs_mw, show (Value.type "method-wrapper" == Value.type "method" || Value.type "method-wrapper" == Value.type "builtin_function_or_method" || Value.type "method-wrapper" == Value.type "method-wrapper") = true by decide, if_true]
  refine PySem.W.KFB.if_so (by decide) ?_
  refine wpAny_bind (PySem.ESX.check_bound F.excBase_ValueError hC he rfl ?_)
  refine wpAny_bind (wpAny_pure (wpAny_pure ?_))
  refine ⟨Code.quiet_builtin _ (by decide +kernel), codeAny_builtin F.excBase_ValueError.initEntry ?_⟩
  rw [Around.under_plainId F.excBase_ValueError.init.plain _]
  wp_walk
  refine hq _ h.objs.size (fun b o hb ho => ?_) ?_
  · rw [Heap.get?_update_other _ _ (Ne.symm hb)]
    exact Heap.get?_push_of_some _ ho
  · rw [Heap.get?_update_self _ (Heap.get?_push_of_some _ he) rfl]
    rfl
end
section
variable {CX : CXT} {P : Program} {w : World} {K : PySem.W.Frag} {mg : Str → Option Value} {base : Heap} {N ps : List Str} {C f cc cda : Addr} {qual : Str} {st st2 : Stmt} {fd : FuncData} {k : Nat} {sp : Sp} {e : Expr} {p0 p1 p2 p3 p4 : Pos} {slf : Str}
theorem sup_ok [PO : ProgOk P] (F : SupF K C f cc cda qual st fd) (T : OexC K C) (hsup : mg "super" = none) (S : NScope N (slf :: ps) ["__class__"] (defScope st)) (hp : ((defArgs st).posonlyargs ++ (defArgs st).args).head?.map (·.arg) = some slf)
    (hks : (defScope st).names.lookup ("super" : Str) = some .globalImplicit)
    (hbody : defBody st = [.Expr (.Call (.Attribute (.Call (.Name "super" p0) [] [] p1) "__init__" p2) [e] [] p3) p4, st2])
    (hI : ∀ L, interactive (envF (supN qual st cc cda) f L) = false) (hSw : ∀ L, swapsWith (.Call (.Attribute (.Call (.Name "super" p0) [] [] p1) "__init__" p2) [e] [] p3) none p4.line (envF (supN qual st cc cda) f L) = pure false)
    (hSt : ∀ L, starEach [e] (envF (supN qual st cc cda) f L) = (false, eval e (envF (supN qual st cc cda) f L)) :: starEach [] (envF (supN qual st cc cda) f L))
    (hE : ∀ L, ∃ pl : Sem Bool, eval (.Call (.Attribute (.Call (.Name "super" p0) [] [] p1) "__init__" p2) [e] [] p3) (envF (supN qual st cc cda) f L) = (do
      let ov ← attributeBase (.Call (.Name "super" p0) [] [] p1) "__init__" (envF (supN qual st cc cda) f L) (eval (.Call (.Name "super" p0) [] [] p1) (envF (supN qual st cc cda) f L))
      standAt p2.atName
      let (f', first) ← holding [ov] (getMethod ov "__init__" pl)
      callWith p3 f' first (backTo p3 (starEach [e] (envF (supN qual st cc cda) f L))) []))
    (len : ∀ vs H Q E, sp vs H Q E → vs.length = (slf :: ps).length)
    (hb : ∀ (A : Around) (outer : List Env) (s : Shared) (H : Hp) (vs : List V) (Q : VK) (E : XK), Room k (A.deeper (envF (supN qual st cc cda) f s.heap.objs.size)) → sp vs H Q E →
      ∃ (a : Addr) (r : List V) (te : TE) (ts : TS), vs = .ref a :: r ∧ H a = some (exo a C none) ∧ PE (supX CX P w K mg base N qual st cc cda f A outer s H E) e te ∧ L2.PS (supX CX P w K mg base N qual st cc cda f A outer s H E) st2 ts ∧
        te (startF N vs [none]) H fun y H1 => H1 a = some (exo a C none) ∧ ts { nx := fun _ H' => Q .non H', rt := Q } (startF N vs [none]) H1) :
    FnOk P w K mg base CX (k + 1) f fd (slf :: ps) sp := by
  refine ⟨len, fun A outer s H args us vs Q E hr e0 hbd r hsp => ?_⟩
  obtain ⟨oc, ct, kV, doc, pm, ccl, cl, od, an, cdd, cld, osl, ccs, csl, vs2, tf, rfl, lk, lc, hvs, lcc⟩ := F.ex
  have hl := len _ _ _ _ hsp
  have KX : K.In s.heap := e0.mod.kin.keeps fun b o e => (e0.bs b o e).1
  have lim : s.heap.NoLimit := e0.mod.nolimit.keeps fun b o e => (e0.bs b o e).1
  obtain ⟨a, rv, te, ts, rfl, ha, hte, hts, hrun⟩ := hb A outer s H vs Q E (hr.deeper _) hsp
  have hcellH : H cc = none := (e0.bs cc _ (e0.mod.kin _ _ lcc)).2
  have C0 : CellsAt (supN qual st cc cda).cl ["__class__"] [none] s.heap H := by
    have one : ∀ {y : Str} {c : Addr}, List.lookup y [(("__class__" : Str), cc)] = some c → y = "__class__" ∧ c = cc := fun {y c} z => by
      rw [List.lookup_cons] at z
      cases h : (y == ("__class__" : Str)) with
      | true =>
        rw [h] at z
        exact ⟨by simpa using h, (Option.some.inj z).symm⟩
      | false =>
        rw [h] at z
        cases z
    refine ⟨rfl, fun y c z => ?_, fun x y c z1 z2 => ?_, fun i y z => ?_⟩
    · obtain ⟨rfl, rfl⟩ := one z
      exact ⟨hcellH, _, _, KX _ _ lcc, rfl⟩
    · rw [(one z1).1, (one z2).1]
    · match i, z with
      | 0, z =>
        obtain rfl : ("__class__" : Str) = y := by simpa using z
        exact ⟨cc, rfl, fun v z => nomatch z⟩
  refine PySem.ks_codeAny_call_defAt (fd := PySem.W.ksFn "__init__" qual (defArgs st) (defBody st) (defScope st) .none kV doc pm an (.ref cda) ct cc) (body := defBody st) (binds := (slf :: ps).zip us) hr.depth (KX _ _ lk) rfl lim (PySem.W.codeRec_of KX F.cd) rfl hbd (fun x hx => S.nocell x hx) (fun ⟨n, _⟩ hy => S.par n (List.of_mem_zip hy).1) (fun h₁ hns kp => ?_) S.co S.gen S.kind
  have I : Inv (supX CX P w K mg base N qual st cc cda f A outer s H E) [] (startF N (.ref a :: rv) [none]) H { s with heap := h₁, toks := s.toks + ((slf :: ps).zip us).length } := inv_startN S hr.hd e0 hl r C0 hns kp
  obtain ⟨nm, q, N0, bs, bm, sn, sub, ab, col, dd, k0, k1, k2, k3, k5, hC, hbm⟩ := T.cls
  have hcl : PySem.W.clsIn K C = some { name := nm, bases := bs, mro := .ref C :: bm, ns := N0, qualname := q, hasDict := true, slotNames := sn, subclasses := sub, abstract := ab, collection := col, hasDel := false } := by unfold PySem.W.clsIn; rw [hC] <;> rfl
  obtain ⟨ar, har, rfl⟩ : ∃ ar : Arg, ((defArgs st).posonlyargs ++ (defArgs st).args).head? = some ar ∧ ar.arg = slf := by
    cases z : ((defArgs st).posonlyargs ++ (defArgs st).args).head? with
    | none => rw [z] at hp; cases hp
    | some ar => rw [z] at hp; exact ⟨ar, rfl, Option.some.inj hp⟩
  have hex : ∀ env : Env, execs (defBody st) env = execs [.Expr (.Call (.Attribute (.Call (.Name "super" p0) [] [] p1) "__init__" p2) [e] [] p3) p4, st2] env := fun env => by rw [hbody]
  show _root_.PySem.wpAt _ (A.deeper (envF (supN qual st cc cda) f s.heap.objs.size)) (.func (defBody st) (envF (supN qual st cc cda) f s.heap.objs.size)) (execs (defBody st) (envF (supN qual st cc cda) f s.heap.objs.size)) _ _ _
  rw [hex]
  have hkc : (envF (supN qual st cc cda) f s.heap.objs.size).kindOf "__class__" = some .free := S.frk _ (List.mem_singleton.mpr rfl)
  have hks' : (envF (supN qual st cc cda) f s.heap.objs.size).kindOf "super" = some .globalImplicit := hks
  obtain ⟨pl, hE⟩ := hE s.heap.objs.size
  refine PySem.ks_wpAt_execs_cons (PySem.ks_wpAt_Expr_any (PySem.ks_wpAt_MethodCall (pl := pl) (PySem.ks_wpAt_super_base (f := f) (cc := cda) hks' hkc (by decide) rfl (I.kIn _ _ lk) rfl har rfl (I.kIn _ _ lc) rfl hvs PO.file PO.top ?_) hE) (hI _) (hSw _))
  obtain ⟨mb, hb1, hb2⟩ := I.mod.blt
  refine PySem.W.ks_loadName_global S.kind hks' (Calls.loadGlobal_builtin (env := envF (supN qual st cc cda) f s.heap.objs.size) (I.mod.glob.keeps I.bk) hsup (hb1.keeps I.bk) ((hb2 "super" (by decide)).trans PyProof.Rows.Boot.«super») ⟨rfl, ?_⟩)
  refine wpAny_loadName_free S.kind hkc rfl ⟨_, I.kIn _ _ lcc, rfl⟩ ?_
  cases r with
  | @cons _ u0 _ ur ra rw' =>
  obtain rfl : u0 = Value.ref a := ra
  have ndP : (ar.arg :: ps).Nodup := by
    have q := S.nd.sublist (List.take_sublist ((ar.arg :: ps).length + [("__class__" : Str)].length) N)
    rw [S.pre] at q
    exact (List.nodup_append.mp q).1
  refine wpAny_loadName_local S.kind (S.par _ List.mem_cons_self) hns (zip_look (i := 0) ndP rfl rfl) ?_
  have XI := I.kIn
  refine PySem.ks_wpAny_isType_cls (XI _ _ hC) rfl ⟨rfl, ?_⟩
  obtain ⟨t1, ho⟩ := exo_at I.hok ha
  refine PySem.ks_wpAny_call_super (XI _ _ hC) rfl ho rfl (fun c z => nomatch z) (PySem.W.looks_mroIn XI F.sub) (fun h2 hso kso => ?_)
  have I2 : Inv (supX CX P w K mg base N qual st cc cda f A outer s H E) [] (startF N (.ref a :: rv) [none]) H { s with heap := h2, toks := s.toks + ((ar.arg :: ps).zip (Value.ref a :: ur)).length } := I.kept kso
  have X2 := I2.kIn
  obtain ⟨t2, ho2⟩ := exo_at I2.hok ha
  have J2 : PySem.W.InstAt h2 a { cls := .ref C, dict := none, data := .fields #[.ref t2, .none, .none, .none, .bool false, .none] } C none := ⟨ho2, rfl, rfl, trivial⟩
  have hks2 := F.ks
  unfold PySem.W.ks_superIn at hks2
  rw [hcl] at hks2
  refine PySem.W.kxs_getMethod PySem.W.kxs_ValueError hso (PySem.W.looks_opaque X2 F.op) (l₀ := .ref C :: bm) (fun A Q E s k q => wpAny_bind ((PySem.W.looks_clsIn X2 hcl) A _ E s k (wpAny_pure q))) rfl X2 hks2 (J2.type.andThen (PySem.W.looks_subIn X2 F.ve)) (PySem.W.ks_ne X2 J2 hcl) (by decide) ?_
  have I3 : Inv (supX CX P w K mg base N qual st cc cda f A outer s H E) [(h2.objs.size, PySem.W.kxs_mw "ValueError.__init__" a)] (startF N (.ref a :: rv) [none]) H { s with heap := h2.push (PySem.W.kxs_mw "ValueError.__init__" a), toks := s.toks + ((ar.arg :: ps).zip (Value.ref a :: ur)).length + 1 } :=
    ClX.pin_new (s := { s with heap := h2, toks := s.toks + ((ar.arg :: ps).zip (Value.ref a :: ur)).length }) I2 (fun b u z => Heap.get?_push_of_some _ z) (Nat.le_refl _) (Heap.get?_push_at rfl rfl) (fun v z => nomatch z)
  show wpAny _ _ (callWith p3 (.ref h2.objs.size) [] (backTo p3 (starEach [e] (envF (supN qual st cc cda) f s.heap.objs.size))) []) _ _ _
  have hStL := hSt s.heap.objs.size
  have hpa : PA (supX CX P w K mg base N qual st cc cda f A outer s H E) [e] (tCons te tNil) := pa_cons hte pa_nil (by exact hStL)
  have hr3 := hpa.run p3 _ _ _ _ (fun xs H1 => match xs with | [_] => H1 a = some (exo a C none) ∧ ts { nx := fun _ H' => Q .non H', rt := Q } (startF N (.ref a :: rv) [none]) H1 | _ => False) I3 hrun
  rw [show starEach [e] (supX CX P w K mg base N qual st cc cda f A outer s H E).env = (false, eval e (envF (supN qual st cc cda) f s.heap.objs.size)) :: starEach [] (envF (supN qual st cc cda) f s.heap.objs.size) from hStL] at hr3
  rw [hStL]
  refine PySem.W.kxs_callWith (i := "ValueError.__init__") (x := a) (by rfl) (PySem.Calls.evalArgs_plain ?_)
  refine wpAny_mono hr3 (fun us2 s4 hh => ?_) (fun e s' hs => hs)
  obtain ⟨xs, H1, I4, r4, hq4⟩ := hh
  match xs, r4, hq4 with
  | [y], r4, hq4 =>
  obtain ⟨ha4, hts4⟩ := hq4
  have hu := ClX.pin_at I4
  refine ⟨hu, ?_⟩
  obtain ⟨t4, ho4⟩ := exo_at I4.hok ha4
  obtain ⟨h4, g4, d4, tk4, os4⟩ := s4
  have hus : us2.length ≤ sizeLine := by
    rw [← r4.length, sizeLine_eq]
    show 1 ≤ _
    omega
  refine call_mw hbm (I4.kIn _ _ hC) ho4 hu hus (fun h5 t5 k5' hx5 => ?_)
  have J := I4.write (t' := tk4) (x := a) (e := a) (o := exo a C none) (by rw [ha4]; exact True.intro) (.inl rfl) k5' ⟨_, hx5⟩ (exo_ok hx5)
  have eu : upd H1 a (exo a C none) = H1 := by
    funext b
    by_cases hb : b = a
    · rw [hb, upd_same, ha4]
    · rw [upd_ne hb]
  rw [eu] at J
  refine PySem.wpAt_of_wpAny ?_
  refine wpAny_mono ((pss_one hts).run _ _ _ _ _ J hts4) (fun fl s' hs => ?_) (fun e s' hs => hs)
  have fin : ∀ {σ' : L2.St} {H' : Hp} {v : V} {u : Value} {pn : List (Addr × Obj)}, Inv (supX CX P w K mg base N qual st cc cda f A outer s H E) pn σ' H' s' → L2.RelV v u → Q v H' → CE outer P w H s Q u s' :=
    fun {σ' H' v u pn} J rv q => ⟨v, H', J.os, J.bare, J.base, J.hok, rv, q⟩
  cases fl with
  | ret u =>
    obtain ⟨v, σ', H', J, rv, q⟩ := hs
    exact fin J rv q
  | next =>
    obtain ⟨σ', H', J, q⟩ := hs
    exact fin J (v := .non) rfl q
  | brk => exact (let ⟨_, _, _, q⟩ := hs; False.elim q)
  | cont => exact (let ⟨_, _, _, q⟩ := hs; False.elim q)
end
section
variable {P : Program} {w : World} {K : PySem.W.Frag} {C f cc cda : Addr} {qual : Str} {st : Stmt} {fd : FuncData} {ps : List Str}
theorem SupF.binds (F : SupF K C f cc cda qual st fd) (h : ∀ (kV doc pm : Value) (an : Option Addr) (ct : Value) (us : List Value), us.length = ps.length → bindArgs (PySem.W.ksFn "__init__" qual (defArgs st) (defBody st) (defScope st) .none kV doc pm an (.ref cda) ct cc) ⟨us, []⟩ = pure (ps.zip us)) : Binds K fd ps [] := by
  obtain ⟨oc, ct, kV, doc, pm, ccl, cl, od, an, cdd, cld, osl, ccs, csl, vs2, tf, rfl, lk, lc, hvs, lcc⟩ := F.ex
  exact .all (h kV doc pm an ct)
/-- the promise of such an __init__: one field -/
def OkY (y : V) : Prop := (∃ i : Int, y = .int i ∧ i.natAbs < 10 ^ 200) ∨ ∃ s : Str, y = .str s ∧ s.length ≤ 1000
def spXI (C : Addr) (fn : Str) : Sp := fun vs H Q _ => ∃ (a : Addr) (y : V), vs = [.ref a, y] ∧ OkY y ∧ H a = some (exo a C none) ∧ ∀ H1 dx, Ex H H1 → H1 dx = none → dx ≠ a → Q .non (upd (upd H1 dx (exd dx [(fn, y)])) a (exo a C (some dx)))
/-- the message: texts and the argument -/
theorem int_len {i : Int} (h : i.natAbs < 10 ^ 200) : (PySem.Str.ofString (toString i)).length ≤ 501 := by
  show (PySem.Str.ofString (toString i)).cps.size ≤ 501
  rw [← Array.length_toList, show_int i]
  have := dec_len_le 199 h
  unfold intL
  split
  · rw [List.length_cons]; omega
  · omega
theorem app_ln (a z : Str) : (a ++ z).length = a.length + z.length := by
  show (a ++ z).cps.size = a.cps.size + z.cps.size
  exact Array.size_append
theorem js_y {acc : Str} {n : Nat} {y : V} {te : TE} {ts : List TE} {σ : L2.St} {H : Hp} {Q : Str → Hp → Prop} (hy : OkY y) (h : Ev te σ H y) (ha : acc.length ≤ n) (hn : n ≤ 20000) (k : ∀ z H1, Ex H H1 → (acc ++ z).length ≤ n + 1000 → tJs ts (acc ++ z) σ H1 Q) : tJs (tFmt te :: ts) acc σ H Q :=
  h H (Ex.refl H) _ fun H1 e1 => by
    rcases hy with ⟨i, rfl, hi⟩ | ⟨s, rfl, hs⟩
    · have := int_len hi
      have hl : (acc ++ PySem.Str.ofString (toString i)).length ≤ n + 1000 := by rw [app_ln]; omega
      exact .inr ⟨i, rfl, log_ok (Nat.lt_of_lt_of_le hi (Nat.pow_le_pow_right (by decide) (by decide))), _, rfl, by rw [sizeLine_eq]; exact Nat.le_trans hl (by omega), k _ H1 e1 hl⟩
    · have hl : (acc ++ s).length ≤ n + 1000 := by rw [app_ln]; omega
      exact .inl ⟨s, rfl, by rw [sizeLine_eq]; omega, s, rfl, by rw [sizeLine_eq]; omega, k s H1 e1 hl⟩
theorem js_c {acc z : Str} {n : Nat} {ts : List TE} {σ : L2.St} {H : Hp} {Q : Str → Hp → Prop} (ha : acc.length ≤ n) (hn : n ≤ 20000) (hz : z.length ≤ 1000) (h : (acc ++ z).length ≤ n + 1000 → tJs ts (acc ++ z) σ H Q) : tJs (tC (.str z) :: ts) acc σ H Q := by
  have hl : (acc ++ z).length ≤ n + 1000 := by rw [app_ln]; omega
  exact ⟨z, rfl, by rw [sizeLine_eq]; omega, h hl⟩
end
section
variable {K : PySem.W.Frag} {σ : L2.St} {H : Hp}
/-- isinstance of the error that a suite holds, with a dict or without -/
def rIsXD (K : PySem.W.Frag) (D a : Addr) (cls : Value) (d : Option Addr) : List V → Hp → VK → Prop := fun xs H Q => cls = .ref D ∧ (d = none ∨ ∃ dd fs, d = some dd ∧ H dd = some (.xd fs)) ∧ rIsE K D a xs H Q
theorem call_isXD {X : Cx} {a D : Addr} {oe : Obj} {pn : List (Addr × Obj)} {cls : Value} {d : Option Addr} (C : ExcC X.K D) (hz : Zc cls d oe) (hf : ∃ vs, oe.data = .fields vs) : CallR (X.suite a ((a, oe) :: pn)) (.builtin "isinstance") (rIsXD X.K D a cls d) := by
  intro pins s σ H xs us Q I r h
  obtain ⟨rfl, hd, h⟩ := h
  rcases hd with rfl | ⟨dd, fs, rfl, hdd⟩
  · exact call_isE C hz hf pins s σ H xs us Q I r h
  obtain ⟨c, cv, b, rfl, hcv, e, q⟩ := h
  cases r with
  | cons rx rr =>
    cases rr with
    | cons rt rr =>
      cases rr
      cases rx
      have ec := hcv _ rt
      subst ec
      obtain ⟨hget, _⟩ := I.pin (a, oe) (List.mem_append.mpr (.inl List.mem_cons_self))
      obtain ⟨vs, hv⟩ := hf
      have hx : ObjOk X.prog X.w H s.heap dd (.xd fs) := I.hok dd _ hdd
      obtain ⟨mA, hns, hr⟩ := hx
      obtain ⟨od, ho, hl⟩ := lookIn_ns hns
      have J : PySem.W.InstAt s.heap a oe D (some od) := ⟨hget, hz.1, by unfold PySem.W.notCls; rw [hv] <;> rfl, by rw [hz.2]; exact ho⟩
      obtain ⟨cdD, hcD, _⟩ := PySem.W.any_some C.hd
      exact PySem.W.kia_one (PySem.W.kitx_exc (by rw [hcD]; rfl) C.hg C.hk C.hs C.ha C.hn C.ht C.hm) I.kIn J e (fun z => nomatch z) fun tk => ⟨.bl b, H, I.kept (t' := tk) fun _ _ z => z, rfl, q⟩
theorem rc_isXD {D a dd : Addr} {fs : List (Str × V)} {c : V} {cv : Value} {b : Bool} (hd : H dd = some (.xd fs)) (hc : ∀ u, RelV c u → u = cv) (hk : PySem.W.kitOne K (.ref D) cv = some b) : RC (rIsXD K D a (.ref D) (some dd)) [.ref a, c] H (.bl b) := fun H1 e _ q => ⟨rfl, .inr ⟨dd, fs, rfl, e _ _ hd⟩, c, cv, b, rfl, hc, hk, q H1 (Ex.refl H1)⟩
theorem rc_isX0 {D a : Addr} {c : V} {cv : Value} {b : Bool} (hc : ∀ u, RelV c u → u = cv) (hk : PySem.W.kitOne K (.ref D) cv = some b) : RC (rIsXD K D a (.ref D) none) [.ref a, c] H (.bl b) := fun H1 e _ q => ⟨rfl, .inl rfl, c, cv, b, rfl, hc, hk, q H1 (Ex.refl H1)⟩
/-- e.f -/
theorem ev_xf {a C dd : Addr} {f : Str} {fs : List (Str × V)} {v : V} {te : TE} (h : Ev te σ H (.ref a)) (hd : H dd = some (.xd fs)) (hl : fs.lookup f = some v) : Ev (tXf a (.ref C) (some dd) C f te) σ H v := fun H1 e Q q =>
  h H1 e _ fun H2 e2 => ⟨rfl, rfl, dd, fs, v, rfl, (e.trans e2) _ _ hd, hl, q H2 e2⟩
/-- raise C(e) -/
theorem mk_xi {C : Addr} {fn : Str} {y : V} {ta : TA} {Q : XK} (h : EvA ta σ H [y]) (hy : OkY y) (k : ∀ d H2, Ex H H2 → H2 d = some (.xd [(fn, y)]) → Q (.ref C) (some d) H2) : tMkO C (spXI C fn) [] ta σ H Q :=
  h H (Ex.refl H) _ fun H1 e1 => ⟨by show 1 ≤ 1000; decide, fun a na => ⟨a, y, rfl, hy, upd_same, fun H3 dx e3 ndx dne => by
    have ndx1 : H1 dx = none := by
      have := fresh_back e3 ndx
      rw [upd_ne dne] at this
      exact this
    refine ⟨rfl, dx, [(fn, y)], upd_same, by rw [upd_ne dne]; exact upd_same, ndx1, k dx _ (fun b o hb => ?_) upd_same⟩
    have h1 := e1 _ _ hb
    have nb : b ≠ a := ne_of_none h1 na
    have nx : b ≠ dx := ne_of_none h1 ndx1
    rw [upd_ne nx, del_ne nb, upd_ne nb, upd_ne nx]
    exact e3 _ _ (by rw [upd_ne nb]; exact h1)⟩⟩
/-- self.f = e, in such an __init__ -/
theorem s_ost {C a : Addr} {fn : Str} {y : V} {to te : TE} {D : Ends} (T : OexC K C) (hno : PySem.W.findIn K (.ref C) fn = some none) (ha : H a = some (exo a C none)) (ho : ∀ H1, Ev to σ H1 (.ref a)) (he : Ev te σ H y) (k : ∀ H1 dx, Ex H H1 → H1 dx = none → dx ≠ a → D.nx σ (upd (upd H1 dx (exd dx [(fn, y)])) a (exo a C (some dx)))) : tOst K fn to te D σ H :=
  he H (Ex.refl H) _ fun H1 e1 => ho H1 H1 (Ex.refl H1) _ fun H2 e2 => ⟨a, C, rfl, T, hno, .inl ⟨(e1.trans e2) _ _ ha, fun dx nd ne => k H2 dx (e1.trans e2) nd ne⟩⟩
end
end Gd

set_option Elab.async false
set_option linter.all false
set_option maxRecDepth 100000
set_option maxHeartbeats 4000000
/-! Of our own: walks over enumerate. -/
namespace Gd
open PySem PySem.Spec PyProof.Rows L2 Evl
section
variable {K : PySem.W.Frag} {σ : L2.St} {H : Hp} {D : Ends} {tu tz : TS} {te : TE} {a : Addr} {xs : List V} {j1 j2 : Nat}
theorem s_forE (h : Ev te σ H (.ref a)) (hx : SqL K H a xs) (Pv : Nat → L2.St → Hp → Prop) (h0 : ∀ H1, Ex H H1 → Pv 0 σ H1) (hG : ∀ i σ' H', i ≤ xs.length → Pv i σ' H' → SqL K H' a xs)
    (hs : ∀ i x σ' H' H'', xs[i]? = some x → Pv i σ' H' → Ex H' H'' → tu { D with nx := Pv (i + 1), ct := Pv (i + 1), bk := D.nx } ((σ'.set j1 (some (.int (i : Int)))).set j2 (some x)) H'') (hd : ∀ σ' H', Pv xs.length σ' H' → D.nx σ' H') :
    tFor (iEnum K (tCons te tNil)) (gTup K 2 (gCons (gName j1) (gCons (gName j2) gNil))) tu D σ H :=
  h H (Ex.refl H) _ fun H1 e1 => ⟨a, xs, rfl, ex_l e1 hx, for_it walk_enum Pv (h0 H1 e1) hG (fun i x σ' H' H'' hi p y => by
    obtain ⟨T, u, v, rfl, hT, rfl, h1, h2⟩ := y
    have h1 : u = .int (i : Int) := (Option.some.inj h1).symm
    subst h1
    exact g_tup2 (st_of upd_same) (hs i v σ' H' _ h2 p (Ex.new hT))) hd⟩
theorem q_forE (h : Ev te σ H (.ref a)) (hx : SqL K H a xs) (Pv : Nat → L2.St → Hp → Prop) (h0 : ∀ H1, Ex H H1 → Pv 0 σ H1) (hG : ∀ i σ' H', i ≤ xs.length → Pv i σ' H' → SqL K H' a xs)
    (hs : ∀ i x σ' H' H'', xs[i]? = some x → Pv i σ' H' → Ex H' H'' → tu { D with nx := Pv (i + 1), ct := Pv (i + 1), bk := tz D } ((σ'.set j1 (some (.int (i : Int)))).set j2 (some x)) H'') (hd : ∀ σ' H', Pv xs.length σ' H' → tz D σ' H') :
    tSeq (tFor (iEnum K (tCons te tNil)) (gTup K 2 (gCons (gName j1) (gCons (gName j2) gNil))) tu) tz D σ H := s_forE (D := { D with nx := tz D }) h hx Pv h0 hG hs hd
end
end Gd

set_option Elab.async false
set_option linter.all false
set_option maxRecDepth 100000
set_option maxHeartbeats 4000000
/-! Of our own: a state apart from the lists that it was made from. -/
namespace Gd
open PySem PySem.Spec PyProof.Rows L2 Evl
/-- a heap without some objects -/
def rmL (L : List Addr) (H : Hp) : Hp := fun a => if a ∈ L then none else H a
theorem rmL_at {L : List Addr} {a : Addr} {H : Hp} (n : a ∉ L) : rmL L H a = H a := if_neg n
theorem rmL_ex {L : List Addr} {H : Hp} : Ex (rmL L H) H := fun a o h => by
  unfold rmL at h
  split at h
  · cases h
  · exact h
theorem rmL_mem {L : List Addr} {a : Addr} {H : Hp} (m : a ∈ L) : rmL L H a = none := if_pos m
theorem rmL_nil {H : Hp} : rmL [] H = H := by
  funext a
  unfold rmL
  simp
theorem rmL_none {L : List Addr} {a : Addr} {H : Hp} (h : H a = none) : rmL L H a = none := by
  unfold rmL
  split
  · rfl
  · exact h
theorem rmL_mono {L : List Addr} {H H' : Hp} (e : Ex H H') : Ex (rmL L H) (rmL L H') := fun a o h => by
  unfold rmL at h ⊢
  split at h
  · cases h
  · rename_i n
    rw [if_neg n]
    exact e _ _ h
theorem rm_rmL {x : Addr} {L : List Addr} {H : Hp} : rmH x (rmL L H) = rmL L (rmH x H) := by
  funext a
  by_cases h1 : a = x <;> by_cases h2 : a ∈ L <;> simp [rmH, rmL, h1, h2]
theorem ex_rmL {L : List Addr} {G F : Hp} (e : Ex G F) (n : ∀ b ∈ L, G b = none) : Ex G (rmL L F) := fun a o h => by
  rw [rmL_at (fun m => by rw [n a m] at h; cases h)]
  exact e _ _ h
def Lsts (L : List Addr) (H : Hp) : Prop := ∀ b ∈ L, ∃ xs, H b = some (.lst xs)
theorem Lsts.nil {H : Hp} : Lsts [] H := fun b m => nomatch m
theorem Lsts.ex {L : List Addr} {H H' : Hp} (h : Lsts L H) (e : Ex H H') : Lsts L H' := fun b m => let ⟨xs, g⟩ := h b m; ⟨xs, e _ _ g⟩
theorem Lsts.no {L : List Addr} {H : Hp} (h : Lsts L H) {a : Addr} {o : HO} (ha : H a = some o) (hn : ∀ xs, o ≠ .lst xs) : a ∉ L := fun m => by
  obtain ⟨xs, g⟩ := h a m
  rw [ha] at g
  exact hn xs (Option.some.inj g)
theorem Lsts.new {L : List Addr} {H : Hp} (h : Lsts L H) {a : Addr} (ha : H a = none) : a ∉ L := fun m => by
  obtain ⟨xs, g⟩ := h a m
  rw [ha] at g
  cases g
section
variable {K : PySem.W.Frag} {H : Hp} {L : List Addr}
theorem sqT_rmL (hL : Lsts L H) {a : Addr} {xs : List V} (h : SqT K H a xs) : SqT K (rmL L H) a xs := by
  rcases h with (h | ⟨o, h⟩) | h
  · exact .inl (.inl (by rw [rmL_at (hL.no h (fun _ z => by cases z))]; exact h))
  · exact .inl (.inr ⟨o, by rw [rmL_at (hL.no h (fun _ z => by cases z))]; exact h⟩)
  · exact .inr h
theorem dpRows_rmL (hL : Lsts L H) : ∀ (rs : List (Int × Nd)) (vs : List V), DpAll K H vs (rs.map rowD) → DpAll K (rmL L H) vs (rs.map rowD)
  | [], _, h => by cases h; exact .nil
  | r :: rs, _, h => by
    rw [List.map_cons] at h
    cases h with
    | cons a b =>
      refine .cons ?_ (dpRows_rmL hL rs _ b)
      obtain ⟨p, rfl, g⟩ := dp_intsT_inv (ns := rowL r) a
      exact dp_intsT (sqT_rmL hL g)
theorem nodes_rmL {CN n dn qc qr qt : Addr} {im : List Int} {kvs : List (Key × V)} {rs : List V} (hL : Lsts L H) (h1 : H n = some (.ins CN dn [("_cells", .ref qc), ("_rows", .ref qr), ("_table", .ref qt)])) (h2 : H qc = some (.lst (im.map V.int))) (h3 : H qr = some (.lst rs)) (h3' : DpAll K H rs ((rowsOf im).map rowD))
    (h4 : H qt = some (.dK kvs)) (h5 : TabT K H kvs (nodeAt im)) (hl : im.length ≤ 60000) (nc : qc ∉ L) (nr : qr ∉ L) : NodesAt K CN (rmL L H) n im :=
  ⟨⟨dn, qc, qr, qt, kvs, by rw [rmL_at (hL.no h1 (fun _ z => by cases z))]; exact h1, sq_of (by rw [rmL_at nc]; exact h2), .lst (sq_of (by rw [rmL_at nr]; exact h3)) (dpRows_rmL hL _ _ h3'), by rw [rmL_at (hL.no h4 (fun _ z => by cases z))]; exact h4, fun k => by
    have := h5 k
    cases q : nodeAt im k with
    | none => rw [q] at this; exact this
    | some n => rw [q] at this; obtain ⟨p, g1, g2⟩ := this; exact ⟨p, g1, sqT_rmL hL g2⟩⟩, hl⟩
end
section
variable {K : PySem.W.Frag} {C CN : Addr} {F H H' : Hp} {A : AM} {im nums : List Int} {s : MS}
/-- an object that the state does not know -/
theorem RM.far (h : RM K C CN F H A im nums s) {b : Addr} {o : HO} (hF : F b = none) (hb : b ∉ A.L) : RM K C CN F (upd H b o) A im nums s := by
  simp only [AM.L, List.mem_cons, List.not_mem_nil, or_false, not_or] at hb
  obtain ⟨n1, n2, n3, n4, n5⟩ := hb
  exact { h with
    fr := h.fr.mut hF
    ox := by rw [upd_ne (fun z => n1 z.symm)]; exact h.ox
    os := by rw [upd_ne (fun z => n2 z.symm)]; exact h.os
    od := by rw [upd_ne (fun z => n3 z.symm)]; exact h.od
    ob := by rw [upd_ne (fun z => n4 z.symm)]; exact h.ob
    oo := by rw [upd_ne (fun z => n5 z.symm)]; exact h.oo }
/-- what the frame holds is none of the state's own -/
theorem RM.notF (h : RM K C CN F H A im nums s) {b : Addr} {o : HO} (hb : F b = some o) : b ∉ A.L := fun m => by
  simp only [AM.L, List.mem_cons, List.not_mem_nil, or_false] at m
  rcases m with rfl | rfl | rfl | rfl | rfl
  · rw [h.fx] at hb; cases hb
  · rw [h.fs] at hb; cases hb
  · rw [h.fd] at hb; cases hb
  · rw [h.fb] at hb; cases hb
  · rw [h.fo] at hb; cases hb
theorem RM.cut (h : RM K C CN F H A im nums s) {L : List Addr} (hn : NodesAt K CN (rmL L F) A.n im) (hq : SqL K (rmL L F) A.qn (nums.map V.int)) : RM K C CN (rmL L F) H A im nums s :=
  { h with fr := rmL_ex.trans h.fr, fx := rmL_none h.fx, fs := rmL_none h.fs, fd := rmL_none h.fd, fb := rmL_none h.fb, fo := rmL_none h.fo, nd := hn, nu := hq }
end
section
variable {K : PySem.W.Frag} {σ : L2.St} {H : Hp} {ta te tb : TE} {t : TA} {D : Ends} {tz : TS} {P P1 : V → Hp → Prop} {n : Nat} {tk : TA}
/-- a new object's method -/
theorem ep_methO {C : Addr} {m : Str} {sp : Sp} {E : XK} (ha : EvP ta σ H P1) (hs : ∀ x H1, P1 x H1 → ∃ a dx fs, x = .ref a ∧ H1 a = some (.ins C dx fs) ∧ fs.lookup m = none ∧ ∀ Q : VK, (∀ v H', P v H' → Q v H') → sp [.ref a] H1 Q E) : EvP (tMeth C m sp [] E ta tNil) σ H P := fun Q q =>
  ha _ fun x H1 p => by
    obtain ⟨a, dx, fs, rfl, h1, h2, h3⟩ := hs x H1 p
    exact ⟨a, dx, fs, rfl, h1, h2, h3 Q q⟩
theorem ep_evD {d : PyData} (h : EvP te σ H (fun v H' => Ex H H' ∧ Dp K H' v d)) : ∀ Q : VK, (∀ v H', Ex H H' → Dp K H' v d → Q v H') → te σ H Q := fun Q q => h Q fun v H' p => q v H' p.1 p.2
/-- xs.clear() -/
theorem q_clear {l : Addr} {xs : List V} (hl : H l = some (.lst xs)) (ha : Ev ta σ H (.ref l)) (k : ∀ H1, Ex H H1 → tz D σ (upd H1 l (.lst []))) : tSeq (tDrop (tBM0 K "list" rClear ta)) tz D σ H :=
  ha H (Ex.refl H) _ fun H1 e1 => ⟨Or.inl ⟨rfl, xs, sq_of (e1 l _ hl)⟩, l, xs, rfl, rfl, e1 l _ hl, k H1 e1⟩
theorem s_dropMS {C a dx : Addr} {sp : Sp} {gV : List V → List V → List V} {E : L2.St → XK} {fs : List (Str × V)} {mm : Str} {zs : List V} (ha : Ev ta σ H (.ref a)) (ho : H a = some (.ins C dx fs)) (hl : fs.lookup mm = none) (hk : EvA tk σ H zs) (lz : zs.length = n) (k : ∀ H1, Ex H H1 → sp (gV [.ref a] zs) H1 (fun v H' => D.nx σ H') (E σ)) : tDrop (tMethN0S C mm n sp gV E ta tk) D σ H :=
  q_dropMS (tz := fun D => D.nx) (D := D) ha ho hl hk lz k
theorem ep_cb1 {r : List V → Hp → VK → Prop} (ha : EvP ta σ H P1) (h : ∀ v H1, P1 v H1 → ∀ Q : VK, (∀ z H', P z H' → Q z H') → r [v] H1 Q) : EvP (tCB r (tCons ta tNil)) σ H P := fun Q q =>
  ha _ fun v H1 p => h v H1 p Q q
theorem non_optD {v : V} {o : Option PS} (h : Dp K H v (optD o)) : (!decide (v = V.non)) = o.isSome := by
  cases o with
  | none =>
    have h : Dp K H v .none := h
    cases h
    simp
  | some t =>
    have h : Dp K H v (plainD t) := h
    obtain ⟨r, zs, rfl, _⟩ := dp_tup_inv h
    simp
end
end Gd

set_option Elab.async false
set_option linter.all false
set_option maxRecDepth 100000
set_option maxHeartbeats 4000000
/-! Of our own: tables of nodes (number -> (operation, argument, successor)), read, made and walked. -/
namespace Gd
open PySem PySem.Spec PyProof.Rows L2 Evl
theorem lookup_isSome {β : Type} : ∀ (tb : List (Int × β)) (i : Int), (tb.lookup i).isSome = decide (i ∈ tb.map (·.1))
  | [], i => by simp
  | (a, b) :: r, i => by
    rw [List.lookup_cons]
    by_cases c : i = a
    · subst c
      simp
    · have : (i == a) = false := by simp [c]
      rw [this]
      simp only [List.map_cons, List.mem_cons]
      rw [lookup_isSome r i]
      simp [c]
def addK (ks : List Int) (k : Int) : List Int := if k ∈ ks then ks else ks ++ [k]
def keysOf (rows : List (Int × Nd)) : List Int := rows.foldl (fun ks r => addK ks r.1) []
theorem addK_nodup {ks : List Int} (h : ks.Nodup) (k : Int) : (addK ks k).Nodup := by
  unfold addK
  split
  · exact h
  · rename_i m
    exact List.nodup_append.mpr ⟨h, (by simp), fun a ha b hb e => m (by rw [← List.mem_singleton.mp hb, ← e]; exact ha)⟩
theorem keys_fold_nodup : ∀ (rows : List (Int × Nd)) (ks : List Int), ks.Nodup → (rows.foldl (fun ks r => addK ks r.1) ks).Nodup
  | [], _, h => h
  | r :: rows, _, h => keys_fold_nodup rows _ (addK_nodup h r.1)
theorem keys_nodup (rows : List (Int × Nd)) : (keysOf rows).Nodup := keys_fold_nodup rows [] List.nodup_nil
theorem addK_len (ks : List Int) (k : Int) : (addK ks k).length ≤ ks.length + 1 := by
  unfold addK
  split
  · omega
  · rw [List.length_append]; exact Nat.le_refl _
theorem keys_fold_len : ∀ (rows : List (Int × Nd)) (ks : List Int), (rows.foldl (fun ks r => addK ks r.1) ks).length ≤ ks.length + rows.length
  | [], _ => Nat.le_refl _
  | r :: rows, ks => by
    have h1 := keys_fold_len rows (addK ks r.1)
    have h2 := addK_len ks r.1
    show (rows.foldl _ (addK ks r.1)).length ≤ ks.length + (rows.length + 1)
    omega
theorem keys_len (rows : List (Int × Nd)) : (keysOf rows).length ≤ rows.length := by
  have := keys_fold_len rows []
  rw [List.length_nil, Nat.zero_add] at this
  exact this
theorem keys_snoc {rows : List (Int × Nd)} {i : Nat} {r : Int × Nd} (h : rows[i]? = some r) : keysOf (rows.take (i + 1)) = addK (keysOf (rows.take i)) r.1 := by
  unfold keysOf
  rw [take_snoc h, List.foldl_append]
  rfl
theorem mem_addK {ks : List Int} {k x : Int} : x ∈ addK ks k ↔ x ∈ ks ∨ x = k := by
  unfold addK
  split
  · rename_i m
    exact ⟨.inl, fun h => h.elim id fun e => by rw [e]; exact m⟩
  · rw [List.mem_append, List.mem_singleton]
theorem keys_fold_mem : ∀ (rows : List (Int × Nd)) (ks : List Int) (x : Int), x ∈ rows.foldl (fun ks r => addK ks r.1) ks ↔ x ∈ ks ∨ ∃ r ∈ rows, r.1 = x
  | [], _, _ => by simp
  | r :: rows, ks, x => by
    show x ∈ rows.foldl _ (addK ks r.1) ↔ _
    rw [keys_fold_mem rows (addK ks r.1) x, mem_addK]
    constructor
    · rintro ((h | h) | ⟨q, h1, h2⟩)
      · exact .inl h
      · exact .inr ⟨r, List.mem_cons_self, h.symm⟩
      · exact .inr ⟨q, List.mem_cons_of_mem _ h1, h2⟩
    · rintro (h | ⟨q, h1, h2⟩)
      · exact .inl (.inl h)
      · rcases List.mem_cons.mp h1 with rfl | h1
        · exact .inl (.inr h2.symm)
        · exact .inr ⟨q, h1, h2⟩
theorem pick_some (k : Int) : ∀ (rows : List (Int × Nd)) (acc : Option Nd), (rows.foldl (pickR k) acc).isSome = (acc.isSome || decide (∃ r ∈ rows, r.1 = k))
  | [], acc => by simp
  | r :: rows, acc => by
    show (rows.foldl (pickR k) (pickR k acc r)).isSome = _
    rw [pick_some k rows]
    unfold pickR
    by_cases c : r.1 = k
    · rw [if_pos c]
      simp [c]
    · rw [if_neg c]
      have e : (∃ q ∈ rows, q.1 = k) ↔ ∃ q ∈ r :: rows, q.1 = k := ⟨fun ⟨q, h, z⟩ => ⟨q, List.mem_cons_of_mem _ h, z⟩, fun ⟨q, h, z⟩ => by
        rcases List.mem_cons.mp h with rfl | h
        · exact absurd z c
        · exact ⟨q, h, z⟩⟩
      rw [decide_eq_decide.mpr e]
theorem keys_mem {im : List Int} {k : Int} : k ∈ keysOf (rowsOf im) ↔ (nodeAt im k).isSome = true := by
  unfold keysOf nodeAt nodeIn
  rw [keys_fold_mem, pick_some]
  simp only [List.not_mem_nil, false_or, Option.isSome_none, Bool.false_or, decide_eq_true_eq]
theorem putK_keys {kvs : List (Key × V)} {ks : List Int} (h : kvs.map (·.1) = ks.map Sum.inl) (k : Int) (v : V) : (putK kvs (Sum.inl k) v).map (·.1) = (addK ks k).map Sum.inl := by
  have hm : (kvs.any fun kv => decide (kv.1 = (Sum.inl k : Key))) = decide (k ∈ ks) := by
    have : (kvs.any fun kv => decide (kv.1 = (Sum.inl k : Key))) = (kvs.map (·.1)).any fun y => decide (y = (Sum.inl k : Key)) := by rw [List.any_map]; rfl
    rw [this, h, List.any_map]
    rw [Bool.eq_iff_iff]
    simp only [List.any_eq_true, Function.comp_apply, decide_eq_true_eq]
    constructor
    · rintro ⟨x, hx, e⟩
      rw [← Sum.inl.inj e]
      exact hx
    · intro hk
      exact ⟨k, hk, rfl⟩
  unfold putK addK
  rw [hm]
  by_cases c : k ∈ ks
  · rw [if_pos (decide_eq_true c), if_pos c, ← h, List.map_map]
    refine List.map_congr_left fun p _ => ?_
    show (if p.1 = Sum.inl k then (p.1, v) else p).1 = p.1
    split <;> rfl
  · rw [if_neg (by rw [decide_eq_false c]; exact Bool.false_ne_true), if_neg c, List.map_append, List.map_append, h]
    rfl
theorem tab_step {K : PySem.W.Frag} {H : Hp} {kvs : List (Key × V)} {rows : List (Int × Nd)} {i : Nat} {r : Int × Nd} {p : Addr} (h : TabT K H kvs (nodeIn (rows.take i))) (hr : rows[i]? = some r) (hp : SqT K H p ((ndL r.2).map V.int)) : TabT K H (putK kvs (Sum.inl r.1) (.ref p)) (nodeIn (rows.take (i + 1))) := fun k => by
  have e : nodeIn (rows.take (i + 1)) k = pickR k (nodeIn (rows.take i) k) r := by unfold nodeIn; rw [take_snoc hr, List.foldl_append]; rfl
  rw [e, valV_put]
  unfold pickR
  have hk := h k
  by_cases q : r.1 = k
  · rw [if_pos q, if_pos (by rw [q])]
    exact ⟨p, rfl, hp⟩
  · rw [if_neg q, if_neg (fun z => q (Sum.inl.inj z).symm)]
    exact hk
/-- the table of an image stands at t -/
structure Tb (K : PySem.W.Frag) (H : Hp) (t : Addr) (im : List Int) : Prop where
  ex : ∃ kvs, Rd H t (.dK kvs) ∧ TabT K H kvs (nodeAt im) ∧ kvs.map (·.1) = (keysOf (rowsOf im)).map Sum.inl
theorem Tb.up {K : PySem.W.Frag} {H H' : Hp} {t : Addr} {im : List Int} (h : Tb K H t im) (e : Ex H H') : Tb K H' t im := by
  obtain ⟨kvs, h1, h2, h3⟩ := h.ex
  exact ⟨kvs, rd_ex e h1, h2.ex e, h3⟩
section
variable {K : PySem.W.Frag} {H : Hp} {σ : L2.St} {td ty te ta tb tl tk tv : TE} {D : Ends} {tz : TS} {t : Addr} {im : List Int} {k : Int}
theorem ev_inTb (hk : Ev ty σ H (.int k)) (h : ∀ H2, Ex H H2 → Ev td σ H2 (.ref t)) (hd : Tb K H t im) : Ev (tDIn ty td) σ H (.bl (nodeAt im k).isSome) := fun H1 e Q q =>
  hk H1 e _ fun H2 e2 => h H2 (e.trans e2) H2 (Ex.refl H2) _ fun H3 e3 => by
    obtain ⟨kvs, h1, h2, h3⟩ := (hd.up (e.trans (e2.trans e3))).ex
    refine ⟨t, _, rfl, .inl ⟨kvs, Sum.inl k, h1, rfl, rfl⟩, ?_⟩
    have := h2 k
    cases c : nodeAt im k with
    | none => rw [c] at this; rw [this]; rw [c] at q; exact q H3 (e2.trans e3)
    | some n => rw [c] at this; obtain ⟨p, hp, _⟩ := this; rw [hp]; rw [c] at q; exact q H3 (e2.trans e3)
theorem ev_notTb (hk : Ev ty σ H (.int k)) (h : ∀ H2, Ex H H2 → Ev td σ H2 (.ref t)) (hd : Tb K H t im) : Ev (tDNotIn ty td) σ H (.bl (!(nodeAt im k).isSome)) := fun H1 e Q q =>
  hk H1 e _ fun H2 e2 => h H2 (e.trans e2) H2 (Ex.refl H2) _ fun H3 e3 => by
    obtain ⟨kvs, h1, h2, h3⟩ := (hd.up (e.trans (e2.trans e3))).ex
    refine ⟨t, _, rfl, .inl ⟨kvs, Sum.inl k, h1, rfl, rfl⟩, ?_⟩
    have := h2 k
    cases c : nodeAt im k with
    | none => rw [c] at this; rw [this]; rw [c] at q; exact q H3 (e2.trans e3)
    | some n => rw [c] at this; obtain ⟨p, hp, _⟩ := this; rw [hp]; rw [c] at q; exact q H3 (e2.trans e3)
/-- d[k] is the node's own tuple -/
theorem ev_tb {n : Nd} (h : Ev td σ H (.ref t)) (hk : ∀ H2, Ex H H2 → Ev ty σ H2 (.int k)) (hd : Tb K H t im) (hn : nodeAt im k = some n) : ∃ p, SqT K H p ((ndL n).map V.int) ∧ Ev (tDGet td ty) σ H (.ref p) := by
  obtain ⟨kvs, h1, h2, h3⟩ := hd.ex
  have := h2 k
  rw [hn] at this
  obtain ⟨p, hp, hs⟩ := this
  exact ⟨p, hs, fun H1 e Q q => h H1 e _ fun H2 e2 => hk H2 (e.trans e2) H2 (Ex.refl H2) _ fun H3 e3 => ⟨t, _, rfl, .inl ⟨kvs, Sum.inl k, rd_ex (e.trans (e2.trans e3)) h1, rfl, by rw [hp]⟩, q H3 (e2.trans e3)⟩⟩
theorem ev_tbI {n : Nd} {y : Int} (j : Nat) (hj : (ndL n)[j]? = some y) (h : Ev td σ H (.ref t)) (hk : ∀ H2, Ex H H2 → Ev ty σ H2 (.int k)) (hd : Tb K H t im) (hn : nodeAt im k = some n) : Ev (tOp (rIxT K) (tDGet td ty) (tC (.int (j : Int)))) σ H (.int y) := by
  obtain ⟨p, hs, he⟩ := ev_tb h hk hd hn
  exact ev_op he ev_c (rv_ixT hs (at_of (j := j) rfl (by rw [List.getElem?_map, hj]; rfl)))
/-- {..: .. for x in (a new list of data)} -/
theorem ep_dcLD {P : V → Hp → Prop} {ds : List PyData} {g : TG} {tt : TT} {vs : List Nat} (h : EvLD K tl σ H ds) (k : ∀ a xs H4, H a = none → Ex H H4 → H4 a = some (.lst xs) → DpAll K H4 xs ds → ∀ Dt, H4 Dt = none → ∃ Pv : Nat → Hp → Prop, Pv 0 (upd H4 Dt (.dK [])) ∧ (∀ i H', i ≤ xs.length → Pv i H' → SqL K H' a xs) ∧
    (∀ i x H', xs[i]? = some x → Pv i H' → DcTurn g tt tk tv vs σ Dt (Pv (i + 1)) x H') ∧ ∀ H', Pv xs.length H' → P (.ref Dt) H') : EvP (tDc (iList K tl) g tt tk tv vs) σ H P := fun Q q =>
  h H (Ex.refl H) _ fun a xs H4 na e4 ha hd => ⟨a, rfl, ⟨xs, sq_of ha⟩, fun Dt nDt => by
    obtain ⟨Pv, h0, hG, hs, hdd⟩ := k a xs H4 na e4 ha hd Dt nDt
    exact dc_it (walk_list (xs := xs)) Pv h0 hG (fun i x H5 H6 hi p y => by
      obtain ⟨e, hv⟩ := y
      subst e
      exact hs i x _ hv p) (fun H' p => q _ H' (hdd H' p))⟩
end
end Gd
namespace Gd
open PySem PySem.Spec PyProof.Rows L2 Evl
theorem given_filter (ns : List Int) (p : Int → Bool) : given ns.length (fun i => p (ns.getD i 0)) (fun i => V.int (ns.getD i 0)) = (ns.filter p).map V.int := by
  have key : ∀ k, k ≤ ns.length → given k (fun i => p (ns.getD i 0)) (fun i => V.int (ns.getD i 0)) = ((ns.take k).filter p).map V.int := by
    intro k
    induction k with
    | zero => intro _; rfl
    | succ k ih =>
      intro hk
      have hg : ns[k]? = some (ns.getD k 0) := by rw [List.getD_eq_getElem?_getD, List.getElem?_eq_getElem (by omega)]; rfl
      rw [take_snoc hg, List.filter_append, List.map_append]
      cases hp : p (ns.getD k 0) with
      | true => rw [given_yes hp, ih (by omega), List.filter_cons, if_pos hp]; rfl
      | false => rw [given_no hp, ih (by omega), List.filter_cons, if_neg (by rw [hp]; exact Bool.false_ne_true)]; simp
  have := key ns.length (Nat.le_refl _)
  rw [List.take_length] at this
  exact this
def Least (fx : Int → Bool) (S : Int → Prop) (v : Int) : Prop := ((∃ y, S y ∧ fx y = true) → S v ∧ fx v = true ∧ ∀ y, S y → fx y = true → v ≤ y) ∧ ((¬ ∃ y, S y ∧ fx y = true) → S v ∧ ∀ y, S y → v ≤ y)
theorem Least.uniq {fx : Int → Bool} {S : Int → Prop} {v w : Int} (h : Least fx S v) (g : Least fx S w) : v = w := by
  by_cases c : ∃ y, S y ∧ fx y = true
  · obtain ⟨a1, a2, a3⟩ := h.1 c
    obtain ⟨b1, b2, b3⟩ := g.1 c
    have := a3 w b1 b2
    have := b3 v a1 a2
    omega
  · obtain ⟨a1, a2⟩ := h.2 c
    obtain ⟨b1, b2⟩ := g.2 c
    have := a2 w b1
    have := b2 v a1
    omega
theorem Least.congr {fx : Int → Bool} {S S' : Int → Prop} {v : Int} (h : Least fx S v) (e : ∀ y, S y ↔ S' y) : Least fx S' v := by
  have : S = S' := funext fun y => propext (e y)
  rw [← this]
  exact h
theorem min_ex : ∀ (l : List Int), l ≠ [] → ∃ m ∈ l, ∀ y ∈ l, m ≤ y
  | [x], _ => ⟨x, List.mem_cons_self, fun y hy => by rw [List.mem_singleton.mp hy]; exact Int.le_refl _⟩
  | x :: y :: l, _ => by
    obtain ⟨m, h1, h2⟩ := min_ex (y :: l) (by simp)
    by_cases c : x ≤ m
    · exact ⟨x, List.mem_cons_self, fun z hz => by
        rcases List.mem_cons.mp hz with rfl | hz
        · exact Int.le_refl _
        · have := h2 z hz
          omega⟩
    · exact ⟨m, List.mem_cons_of_mem _ h1, fun z hz => by
        rcases List.mem_cons.mp hz with rfl | hz
        · omega
        · exact h2 z hz⟩
theorem least_ex (fx : Int → Bool) {ns : List Int} (h : ns ≠ []) : ∃ v, Least fx (fun y => y ∈ ns) v := by
  by_cases c : ∃ y, y ∈ ns ∧ fx y = true
  · obtain ⟨y, hy, hf⟩ := c
    obtain ⟨m, h1, h2⟩ := min_ex (ns.filter fx) (fun z => by
      have : y ∈ ns.filter fx := List.mem_filter.mpr ⟨hy, hf⟩
      rw [z] at this
      cases this)
    have h3 := List.mem_filter.mp h1
    exact ⟨m, fun _ => ⟨h3.1, h3.2, fun y hy hf => h2 y (List.mem_filter.mpr ⟨hy, hf⟩)⟩, fun c => absurd ⟨y, hy, hf⟩ c⟩
  · obtain ⟨m, h1, h2⟩ := min_ex ns h
    exact ⟨m, fun d => absurd d c, fun _ => ⟨h1, h2⟩⟩
section
variable {K : PySem.W.Frag} {H : Hp} {σ : L2.St} {te ta tb : TE} {t : TT}
/-- min of a list of ints, told by what it is -/
theorem ev_min {a : Addr} {ns : List Int} {m : Int} (h : Ev ta σ H (.ref a)) (hS : SqL K H a (ns.map V.int)) (h1 : m ∈ ns) (h2 : ∀ y ∈ ns, m ≤ y) : Ev (tCB (rMin K) (tCons ta tNil)) σ H (.int m) := fun G e Q q =>
  h G e _ fun G1 e1 => ⟨a, ns, rfl, ex_l (e.trans e1) hS, List.length_pos_of_mem h1, fun m' g1 g2 => by
    have := g2 m h1
    have := h2 m' g1
    rw [show m' = m by omega]
    exact q G1 e1⟩
/-- xs or ys -/
theorem ev_orL {a : Addr} {xs : List V} {v : V} (h : Ev ta σ H (.ref a)) (hS : SqL K H a xs) (h1 : xs ≠ [] → v = .ref a) (h2 : xs = [] → Ev tb σ H v) : Ev (tOrT K ta tb) σ H v := fun G e Q q =>
  h G e _ fun G1 e1 => ⟨!xs.isEmpty, .inl ⟨xs, ex_l (e.trans e1) hS, rfl⟩, by
    cases xs with
    | nil => exact h2 rfl G1 (e.trans e1) _ fun G2 e2 => q G2 (e1.trans e2)
    | cons x l => rw [h1 (by simp)] at q; exact q G1 e1⟩
theorem el_lcR2 {ta : TA} {j : Nat} {vs : List Nat} {lo : Int} {n : Nat} (f : Nat → Bool) (v : Nat → V) (h : EvA ta σ H [.int lo, .int (lo + (n : Int))]) (hn : n ≤ 40000 ∧ -100000 ≤ lo ∧ lo ≤ 100000) (hw : ∀ x, wipe ((wipe σ vs).set j (some x)) vs = wipe σ vs)
    (ht : ∀ (i : Nat) H1, Ex H H1 → i < n → EvT t ((wipe σ vs).set j (some (.int (lo + (i : Int))))) H1 (f i)) (he : ∀ (i : Nat) H1, Ex H H1 → i < n → f i = true → Ev te ((wipe σ vs).set j (some (.int (lo + (i : Int))))) H1 (v i)) :
    EvL (tLc (iRng2 ta) (gName j) t te vs) σ H (given n f v) := fun H0 e Q q => h H0 e _ fun H1 e1 => ⟨lo, lo + n, rfl, by omega, fun Dl hD => by
  have e0 : (lo + (n : Int) - lo).toNat = n := by omega
  rw [e0]
  exact lc_range (lo := lo) (n := n) (Cw H1 f v Dl) ⟨hD, Ex.new hD, upd_same⟩ (fun i H' hi p => ⟨hw _, cw_turn p (by omega) (ht i H1 (e.trans e1) hi) (fun hf => he i H1 (e.trans e1) hi hf)⟩) (fun H' p => q Dl H' (fresh_back e1 p.1) (e1.trans p.2.1) p.2.2)⟩
end
end Gd
namespace Gd
open PySem PySem.Spec PyProof.Rows L2 Evl
section
variable {H : Hp} {σ : L2.St} {td : TE} {D : Ends} {tz : TS}
/-- for k in d: a body that may change what is not d -/
theorem s_forDg {d : Addr} {kvs : List (Key × V)} {j : Nat} {tu : TS} (hd : H d = some (.dK kvs)) (he : ∀ G, Ev td σ G (.ref d))
    (k : ∀ od : Obj, ∃ Pv : Nat → L2.St → Hp → Prop, (∀ G, Ex (upd H d (.frz od (.dK kvs))) G → Pv 0 σ G) ∧ (∀ i σ' G, Pv i σ' G → G d = some (.frz od (.dK kvs))) ∧
      (∀ (i : Nat) (kv : Key × V) σ' G (D' : Ends), kvs[i]? = some kv → Pv i σ' G → (∀ G' σ2, Pv (i + 1) σ2 G' → D'.nx σ2 G') → tu D' (σ'.set j (some (kV kv.1))) G) ∧ ∀ σ' G, Pv kvs.length σ' G → D.nx σ' (upd G d (.dK kvs))) : tLock (tFor (iKeys td) (gName j) tu) D σ H := by
  refine ⟨d, .dK kvs, hd, trivial, fun od => ?_⟩
  obtain ⟨Pv, h0, hG, hs, hz⟩ := k od
  refine he _ _ (Ex.refl _) _ fun H1 e1 => ⟨d, od, rfl, .inl ⟨kvs, e1 _ _ upd_same, ?_⟩⟩
  refine for_it walk_keys Pv (h0 H1 e1) (fun i σ' H' _ q => hG i σ' H' q) (fun i x σ' H' H'' hi q y => ?_) (fun σ' H' q => ⟨hG _ _ _ q, hz σ' H' q⟩)
  obtain ⟨rfl, k, v, hk, rfl⟩ := y
  exact hs i (k, v) σ' H'' _ hk q fun G' σ2 s => s
theorem q_forDg {d : Addr} {kvs : List (Key × V)} {j : Nat} {tu : TS} (hd : H d = some (.dK kvs)) (he : ∀ G, Ev td σ G (.ref d))
    (k : ∀ od : Obj, ∃ Pv : Nat → L2.St → Hp → Prop, (∀ G, Ex (upd H d (.frz od (.dK kvs))) G → Pv 0 σ G) ∧ (∀ i σ' G, Pv i σ' G → G d = some (.frz od (.dK kvs))) ∧
      (∀ (i : Nat) (kv : Key × V) σ' G (D' : Ends), kvs[i]? = some kv → Pv i σ' G → (∀ G' σ2, Pv (i + 1) σ2 G' → D'.nx σ2 G') → tu D' (σ'.set j (some (kV kv.1))) G) ∧ ∀ σ' G, Pv kvs.length σ' G → tz D σ' (upd G d (.dK kvs))) : tSeq (tLock (tFor (iKeys td) (gName j) tu)) tz D σ H :=
  s_forDg (D := { D with nx := tz D }) hd he k
/-- list(d) -/
theorem el_listDk {a : Addr} {kvs : List (Key × V)} (h : Ev td σ H (.ref a)) (hd : Rd H a (.dK kvs)) : EvL (tCB (fun xs H Q => ∃ (a : Addr) (kvs : List (Key × V)), xs = [.ref a] ∧ Rd H a (.dK kvs) ∧ ∀ p, H p = none → Q (.ref p) (upd H p (.lst (kvs.map fun kv => kV kv.1)))) (tCons td tNil)) σ H (kvs.map fun kv => kV kv.1) := fun G e Q q =>
  h G e _ fun G1 e1 => ⟨a, kvs, rfl, rd_ex (e.trans e1) hd, fun p hp => q p _ (fresh_back e1 hp) (e1.trans (Ex.new hp)) upd_same⟩
/-- l.index(k), there first at j -/
theorem ev_indexI {K : PySem.W.Frag} {ta tb : TE} {a : Addr} {ns : List Int} {k : Int} {j : Nat} (h : Ev ta σ H (.ref a)) (hk : ∀ H2, Ex H H2 → Ev tb σ H2 (.int k)) (hS : SqL K H a (ns.map V.int)) (hj : ns[j]? = some k) (hm : ∀ m, m < j → ns[m]? ≠ some k) (hty : ∀ G, Ex H G → tyV K "list" (.ref a) G) :
    Ev (tBM K "list" (rIndex K) ta (tCons tb tNil)) σ H (.int (j : Int)) := fun G e Q q =>
  h G e _ fun G1 e1 => ⟨hty _ (e.trans e1), hk G1 (e.trans e1) G1 (Ex.refl G1) _ fun G2 e2 => ⟨a, ns.map V.int, .int k, j, .int k, rfl, rfl, ex_l (e.trans (e1.trans e2)) hS, rfl, by simp [flatV], by rw [List.getElem?_map, hj]; rfl, by simp [eqV], fun m z' hm' hz => by
    rw [List.getElem?_map] at hz
    cases c : ns[m]? with
    | none => rw [c] at hz; cases hz
    | some y =>
      rw [c] at hz
      cases hz
      have : y ≠ k := fun z => hm m hm' (by rw [c, z])
      simpa [eqV] using this, q G2 (e1.trans e2)⟩⟩
end
end Gd
namespace Gd
open PySem PySem.Spec PyProof.Rows L2 Evl
theorem nt_frz {o : Obj} {xs : List (Key × V)} : NoTup (.frz o (.dK xs)) := ⟨fun _ h => (by cases h), fun _ _ h => (by cases h)⟩
theorem TabT.mut {K : PySem.W.Frag} {H : Hp} {kvs : List (Key × V)} {f : Int → Option Nd} {p : Addr} {o u : HO} (h : TabT K H kvs f) (hp : H p = some o) (n : NoTup o) : TabT K (upd H p u) kvs f := fun k => by
  have := h k
  cases q : f k with
  | none => rw [q] at this; exact this
  | some nd =>
    rw [q] at this
    obtain ⟨t, g1, g2⟩ := this
    have h2 : Bu [p] H (upd H p u) := (Bu.refl).upd (.inl (List.mem_singleton.mpr rfl))
    exact ⟨t, g1, sqT_bu h2 (fun c m => by rw [List.mem_singleton.mp m]; exact ⟨_, hp, n⟩) g2⟩
theorem cutZ_drop (ns : List Int) {j : Nat} (h : j ≤ ns.length) : cutZ ns (some (j : Int)) none = ns.drop j := by
  unfold cutZ
  rw [HT.sIx_nat, HT.sIx_none, Nat.min_eq_left h, List.take_of_length_le (by rw [List.length_drop]; omega)]
section
variable {H : Hp} {σ : L2.St} {td ty : TE} {a : Addr}
theorem ev_inR {sd : List (Int × Int)} {k : Int} (hk : Ev ty σ H (.int k)) (h : ∀ H2, Ex H H2 → Ev td σ H2 (.ref a)) (hd : Rd H a (.dK (kvI sd))) : Ev (tDIn ty td) σ H (.bl (getI sd k).isSome) := fun H1 e Q q =>
  hk H1 e _ fun H2 e2 => h H2 (e.trans e2) H2 (Ex.refl H2) _ fun H3 e3 => ⟨a, valV (kvI sd) (Sum.inl k), rfl, .inl ⟨_, Sum.inl k, rd_ex (e.trans (e2.trans e3)) hd, rfl, rfl⟩, by
    rw [kvI_get, Option.isSome_map]
    exact q H3 (e2.trans e3)⟩
end
end Gd
namespace Gd
open PySem PySem.Spec PyProof.Rows L2 Evl
theorem q_dnew {H : Hp} {σ : L2.St} {D : Ends} {tz : TS} {i : Nat} (k : ∀ d, H d = none → tz D (σ.set i (some (.ref d))) (upd H d (.dK []))) : tSeq (tAsg tDNewK (gName i)) tz D σ H := fun d hd => k d hd
theorem s_dputII {H : Hp} {σ : L2.St} {D : Ends} {td ty tv : TE} {a : Addr} {sd : List (Int × Int)} {k v : Int} (hv : Ev tv σ H (.int v)) (ha : ∀ H2, Ex H H2 → Ev td σ H2 (.ref a)) (hk : ∀ H2, Ex H H2 → Ev ty σ H2 (.int k)) (hd : H a = some (.dK (kvI sd))) (hz : sd.length < 100000) (q : ∀ H2, Ex H H2 → D.nx σ (upd H2 a (.dK (kvI (putI sd k v))))) : sDPut td ty tv D σ H :=
  s_dputI (ep_of hv) fun w H1 h1 => ⟨kvI sd, h1.2 _ _ hd, fun H2 e2 => ha H2 (h1.2.trans e2), fun H2 e2 => hk H2 (h1.2.trans e2), by rw [kvI_len]; exact hz, fun H2 e2 => by rw [h1.1, kvI_put]; exact q H2 (h1.2.trans e2)⟩
theorem q_dputII {H : Hp} {σ : L2.St} {D : Ends} {tz : TS} {td ty tv : TE} {a : Addr} {sd : List (Int × Int)} {k v : Int} (hv : Ev tv σ H (.int v)) (ha : ∀ H2, Ex H H2 → Ev td σ H2 (.ref a)) (hk : ∀ H2, Ex H H2 → Ev ty σ H2 (.int k)) (hd : H a = some (.dK (kvI sd))) (hz : sd.length < 100000) (q : ∀ H2, Ex H H2 → tz D σ (upd H2 a (.dK (kvI (putI sd k v))))) : tSeq (sDPut td ty tv) tz D σ H :=
  s_dputII (D := { D with nx := tz D }) hv ha hk hd hz q
end Gd
namespace Gd
open PySem PySem.Spec PyProof.Rows L2 Evl
theorem op_catAK {X : Cx} {K : PySem.W.Frag} (h : X.K = K) : OpR X (binaryOp .Add) (rCatA K) := by
  subst h
  exact op_catA
end Gd

set_option Elab.async false
set_option linter.all false
set_option maxRecDepth 100000
set_option maxHeartbeats 4000000
/-! Of our own: rings of images. -/
namespace Gd
open PySem PySem.Spec PyProof.Rows L2 Evl
def RI (s : Int) : List Int := [0, 35, -77, 1, 1, 34, 0, 2, 2, 38, 0, 3, 3, 46, 0, 4, 4, 35, 1, 5, 5, 43, 0, 6, 6, 34, 0, 7, 7, 35, -1, 8, 8, 126, 0, 9, 9, 63, 1, 10, 10, 38, 0, 11, 11, 35, 1, 12, 12, 43, 0, 13, 13, 34, 0, 14, 14, 35, s, 15, 15, 60, 0, 16, 16, 63, 18, 17, 17, 46, 0, 19, 18, 35, 0, 17]
theorem ri_node {s : Int} {t : List Int} (ht : t.length ≤ 3) (k : Int) : nodeAt (RI s ++ t) k = nodeAt (RI s) k := by
  unfold nodeAt nodeIn
  rw [rowsOf_app4 _ _ (by simp [RI]), List.foldl_append]
  have : rowsOf t = [] := by
    match t, ht with
    | [], _ => rfl
    | [_], _ => rfl
    | [_, _], _ => rfl
    | [_, _, _], _ => rfl
  rw [this]
  rfl
def nxI (s x : Int) : Int := if x + 1 < s then x + 1 else 0
theorem back_drop {l : List Int} {m : Nat} (h0 : 0 < m) (h1 : m ≤ l.length) : ∃ x, cellAt l (-(m : Int)) = x ∧ l.drop (l.length - m) = x :: l.drop (l.length - (m - 1)) := by
  refine ⟨l[l.length - m]'(by omega), ?_, ?_⟩
  · unfold cellAt
    rw [atI_back h0 h1 (List.getElem?_eq_getElem (by omega))]
    rfl
  · rw [List.drop_eq_getElem_cons (by omega), show l.length - m + 1 = l.length - (m - 1) by omega]
theorem ri_loop {s : Int} {t : List Int} (ht : t.length ≤ 3) (h1 : 0 < t.length) : ∀ (m : Nat) (ou : List Int), m + 2 ≤ 77 →
    GoS (RI s ++ t) [] (9 * (m + 1)) ⟨1, [-((m + 2 : Nat) : Int)], fun _ => 0, [], 0, ou⟩ ⟨10, [-1], fun _ => 0, [], 0, ou ++ ((RI s ++ t).drop ((RI s ++ t).length - (m + 2))).take (m + 1)⟩ := by
  have nd : ∀ (k : Int), nodeAt (RI s ++ t) k = nodeAt (RI s) k := ri_node ht
  have hl : 77 ≤ (RI s ++ t).length := by
    rw [List.length_append]
    show 77 ≤ 76 + t.length
    omega
  have turn : ∀ (m : Nat) (x : Int) (ou : List Int) (k : Nat) (C : AS), cellAt (RI s ++ t) (-((m + 2 : Nat) : Int)) = x → GoS (RI s ++ t) [] k ⟨7, [-((m + 1 : Nat) : Int)] ++ [-((m + 1 : Nat) : Int)], fun _ => 0, [], 0, ou ++ [x]⟩ C → GoS (RI s ++ t) [] (k + 6) ⟨1, [-((m + 2 : Nat) : Int)], fun _ => 0, [], 0, ou⟩ C := by
    intro m x ou k C hx g
    refine g_double (st := []) (arg := 0) (su := 2) (by rw [nd]; rfl) (g_cell (st := [-((m + 2 : Nat) : Int)]) (arg := 0) (su := 3) (by rw [nd]; rfl) ?_)
    rw [hx]
    refine g_write (st := [-((m + 2 : Nat) : Int)]) (arg := 0) (su := 4) (by rw [nd]; rfl) (g_push (st := [-((m + 2 : Nat) : Int)]) (v := 1) (su := 5) (by rw [nd]; rfl) (g_comb (st := []) (op := 43) (arg := 0) (su := 6) (x := -((m + 2 : Nat) : Int)) (y := 1) (by rw [nd]; rfl) rfl ?_))
    have hv : combI 43 (-((m + 2 : Nat) : Int)) 1 = -((m + 1 : Nat) : Int) := by
      show -((m + 2 : Nat) : Int) + 1 = _
      omega
    rw [hv]
    exact g_double (st := []) (arg := 0) (su := 7) (by rw [nd]; rfl) g
  intro m
  induction m with
  | zero =>
    intro ou hm
    obtain ⟨x, hx, hd⟩ := back_drop (l := RI s ++ t) (m := 0 + 2) (by omega) (by omega)
    rw [hd]
    refine turn 0 x ou 3 _ hx ?_
    refine g_push (st := [-((0 + 1 : Nat) : Int)] ++ [-((0 + 1 : Nat) : Int)]) (v := -1) (su := 8) (by rw [nd]; rfl) (g_comb (st := [-((0 + 1 : Nat) : Int)]) (op := 126) (arg := 0) (su := 9) (x := -((0 + 1 : Nat) : Int)) (y := -1) (by rw [nd]; rfl) rfl ?_)
    exact g_br1 (st := [-1]) (arg := 1) (su := 10) (by rw [nd]; rfl) (by decide) GoS.refl
  | succ m ih =>
    intro ou hm
    obtain ⟨x, hx, hd⟩ := back_drop (l := RI s ++ t) (m := m + 1 + 2) (by omega) (by omega)
    rw [hd, List.take_succ_cons, List.append_cons ou x]
    have h3 := ih (ou ++ [x]) (by omega)
    refine GoS.cast (j := 9 * (m + 1) + 1 + 1 + 1 + 6) ?_ (by omega)
    refine turn (m + 1) x ou _ _ hx ?_
    refine g_push (st := [-((m + 1 + 1 : Nat) : Int)] ++ [-((m + 1 + 1 : Nat) : Int)]) (v := -1) (su := 8) (by rw [nd]; rfl) (g_comb (st := [-((m + 1 + 1 : Nat) : Int)]) (op := 126) (arg := 0) (su := 9) (x := -((m + 1 + 1 : Nat) : Int)) (y := -1) (by rw [nd]; rfl) rfl ?_)
    exact g_br0 (st := [-((m + 1 + 1 : Nat) : Int)]) (arg := 1) (su := 10) (by rw [nd]; rfl) (eq0 (by omega)) h3
theorem ri_run {s : Int} {t : List Int} (ht : t.length ≤ 3) (h1 : 0 < t.length) : ∃ k st, k ≤ 700 ∧ GoS (RI s ++ t) [] k ⟨0, [], fun _ => 0, [], 0, []⟩ ⟨19, st, fun _ => 0, [], 0, ((RI s ++ t).drop ((RI s ++ t).length - 77)).take 76 ++ [nxI s (cellAt (RI s ++ t) (-1))]⟩ := by
  have nd : ∀ (k : Int), nodeAt (RI s ++ t) k = nodeAt (RI s) k := ri_node ht
  have g := ri_loop (s := s) ht h1 75 [] (by omega)
  rw [List.nil_append] at g
  generalize ((RI s ++ t).drop ((RI s ++ t).length - (75 + 2))).take (75 + 1) = ou at g
  by_cases hx : cellAt (RI s ++ t) (-1) + 1 < s
  · refine ⟨9 * (75 + 1) + 8 + 1, [], by decide, g_push (st := []) (v := -77) (su := 1) (by rw [nd]; rfl) (g.trans ?_)⟩
    refine g_cell (st := []) (arg := 0) (su := 11) (by rw [nd]; rfl) (g_push (st := [cellAt (RI s ++ t) (-1)]) (v := 1) (su := 12) (by rw [nd]; rfl) (g_comb (st := []) (op := 43) (arg := 0) (su := 13) (x := cellAt (RI s ++ t) (-1)) (y := 1) (by rw [nd]; rfl) rfl (g_double (st := []) (arg := 0) (su := 14) (by rw [nd]; rfl) (g_push (v := s) (su := 15) (by rw [nd]; rfl) (g_comb (st := [cellAt (RI s ++ t) (-1) + 1]) (op := 60) (arg := 0) (su := 16) (x := cellAt (RI s ++ t) (-1) + 1) (y := s) (by rw [nd]; rfl) rfl (g_br1 (arg := 18) (su := 17) (by rw [nd]; rfl) (lt1 hx) ?_))))))
    have e : nxI s (cellAt (RI s ++ t) (-1)) = cellAt (RI s ++ t) (-1) + 1 := if_pos hx
    rw [e]
    exact g_write (st := []) (arg := 0) (su := 19) (by rw [nd]; rfl) GoS.refl
  · refine ⟨9 * (75 + 1) + 9 + 1, [cellAt (RI s ++ t) (-1) + 1], by decide, g_push (st := []) (v := -77) (su := 1) (by rw [nd]; rfl) (g.trans ?_)⟩
    refine g_cell (st := []) (arg := 0) (su := 11) (by rw [nd]; rfl) (g_push (st := [cellAt (RI s ++ t) (-1)]) (v := 1) (su := 12) (by rw [nd]; rfl) (g_comb (st := []) (op := 43) (arg := 0) (su := 13) (x := cellAt (RI s ++ t) (-1)) (y := 1) (by rw [nd]; rfl) rfl (g_double (st := []) (arg := 0) (su := 14) (by rw [nd]; rfl) (g_push (v := s) (su := 15) (by rw [nd]; rfl) (g_comb (st := [cellAt (RI s ++ t) (-1) + 1]) (op := 60) (arg := 0) (su := 16) (x := cellAt (RI s ++ t) (-1) + 1) (y := s) (by rw [nd]; rfl) rfl (g_br0 (arg := 18) (su := 17) (by rw [nd]; rfl) (lt0 hx) ?_))))))
    have e : nxI s (cellAt (RI s ++ t) (-1)) = 0 := if_neg hx
    rw [e]
    exact g_push (st := [cellAt (RI s ++ t) (-1) + 1]) (v := 0) (su := 17) (by rw [nd]; rfl) (g_write (st := [cellAt (RI s ++ t) (-1) + 1]) (arg := 0) (su := 19) (by rw [nd]; rfl) GoS.refl)
theorem ri_end {s : Int} {t : List Int} (ht : t.length ≤ 3) : nodeAt (RI s ++ t) 19 = none := by
  rw [ri_node ht]
  rfl
section
variable {K : PySem.W.Frag} {σ : L2.St} {H : Hp} {ta tb te tl : TE}
theorem el_catLL {xs ys : List V} (ha : EvL ta σ H xs) (hb : EvL tb σ H ys) (hz : xs.length + ys.length ≤ 100000) : EvL (tOp rCat ta tb) σ H (xs ++ ys) := fun H1 e Q q =>
  ha H1 e _ fun a H2 na e2 h2 => hb H2 (e.trans e2) _ fun b H3 nb e3 h3 => ⟨a, b, xs, ys, rfl, rfl, e3 _ _ h2, h3, sz_of hz, fun p hp => q p _ (fresh_back (e2.trans e3) hp) ((e2.trans e3).trans (Ex.new hp)) upd_same⟩
/-- a new list of new lists, each at its own place -/
def NewR (H : Hp) (ls : List (List Int)) : V → Hp → Prop := fun v H' => ∃ A ps, v = .ref A ∧ NewLL H H' A ps ls ∧ ps.Nodup
theorem newR_app {H H2 H3 : Hp} {A o : Addr} {ps : List Addr} {ls : List (List Int)} {l : List Int} (h : NewLL H H2 A ps ls) (hn : ps.Nodup) (no : H2 o = none) (e : Ex H2 H3) (ho : H3 o = some (.lst (l.map V.int))) : NewLL H (upd H3 A (.lst (ps.map V.ref ++ [.ref o]))) A (ps ++ [o]) (ls ++ [l]) ∧ (ps ++ [o]).Nodup := by
  refine ⟨(h.exx e).app (fresh_back h.ex no) ho (fun z => by rw [z, h.ha] at no; cases no), ?_⟩
  refine List.nodup_append.mpr ⟨hn, by simp, fun x hx y hy => ?_⟩
  rw [List.mem_singleton.mp hy]
  intro z
  have : ∀ {ps : List Addr} {ls : List (List Int)}, Pcs H2 ps ls → o ∈ ps → False := by
    intro ps
    induction ps with
    | nil => intro ls _ h; cases h
    | cons p t ih =>
      intro ls hp hm
      cases ls with
      | nil => exact hp.elim
      | cons l r =>
        rcases List.mem_cons.mp hm with rfl | hm
        · rw [hp.1] at no; cases no
        · exact ih hp.2 hm
  exact this h.pc (z ▸ hx)
theorem ep_lcNL {t : TA} {n j : Nat} {vs : List Nat} {f : Nat → List Int} (h : EvA t σ H [.int (n : Int)]) (hz : n ≤ 90000) (hw : ∀ x, wipe ((wipe σ vs).set j (some x)) vs = wipe σ vs)
    (he : ∀ i, i < n → ∀ H', Ex H H' → EvL te ((wipe σ vs).set j (some (.int (i : Int)))) H' ((f i).map V.int)) : EvP (tLc (iRng1 t) (gName j) tYes te vs) σ H (NewR H ((List.range n).map f)) := fun Q q =>
  h H (Ex.refl H) _ fun H1 e1 => ⟨(n : Int), rfl, by omega, by omega, fun D hD => by
    have z : ∀ i : Nat, (0 : Int) + (i : Int) = (i : Int) := fun i => Int.zero_add _
    refine lc_range (lo := 0) (n := n) (fun i H' => ∃ ps : List Addr, NewLL H H' D ps ((List.range i).map f) ∧ ps.Nodup ∧ ps.length = i) ⟨[], ⟨fresh_back e1 hD, e1.trans (Ex.new hD), upd_same, trivial, (fun x hx => nomatch hx), (fun hx => nomatch hx)⟩, List.nodup_nil, rfl⟩ (fun i H' hi hP => ?_) (fun H' hP => ?_)
    · obtain ⟨ps, hN, hn, hl⟩ := hP
      refine ⟨hw _, ?_⟩
      dsimp only [tYes]
      rw [if_pos rfl, z]
      refine he i hi H' hN.ex H' (Ex.refl H') _ fun o H4 no e4 ho => ?_
      have hA := newR_app hN hn no e4 ho
      refine ⟨_, e4 _ _ hN.ha, sz_lt (by rw [List.length_map]; omega), ps ++ [o], ?_, hA.2, by rw [List.length_append, hl]; rfl⟩
      rw [List.range_succ, List.map_append]
      exact hA.1
    · obtain ⟨ps, hN, hn, _⟩ := hP
      exact q _ H' ⟨D, ps, rfl, hN, hn⟩⟩
theorem ep_lcLL {j : Nat} {vs : List Nat} {a : Addr} {qs : List Addr} {ls : List (List Int)} (h : Ev tl σ H (.ref a)) (hx : SqL K H a (qs.map V.ref)) (hq : Pcs H qs ls) (hz : ls.length ≤ 90000) (hw : ∀ x, wipe ((wipe σ vs).set j (some x)) vs = wipe σ vs)
    (he : ∀ (p : Addr) (l : List Int) H', H' p = some (.lst (l.map V.int)) → EvL te ((wipe σ vs).set j (some (.ref p))) H' (l.map V.int)) : EvP (tLc (iList K tl) (gName j) tYes te vs) σ H (NewR H ls) := fun Q q =>
  h H (Ex.refl H) _ fun H1 e1 => ⟨a, rfl, ⟨_, ex_l e1 hx⟩, fun D hD => by
    have hlen : (qs.map V.ref).length = ls.length := by rw [List.length_map, hq.len]
    refine lc_list (K := K) (a := a) (xs := qs.map V.ref) (fun i H' => ∃ ps : List Addr, NewLL H H' D ps (ls.take i) ∧ ps.Nodup ∧ ps.length = i) ⟨[], ⟨fresh_back e1 hD, e1.trans (Ex.new hD), upd_same, trivial, (fun x hx => nomatch hx), (fun hx => nomatch hx)⟩, List.nodup_nil, rfl⟩ (fun i H' _ p => by obtain ⟨_, hN, _⟩ := p; exact ex_l hN.ex hx) (fun i x H' hi hP => ?_) (fun H' hP => ?_)
    · obtain ⟨ps, hN, hn, hl⟩ := hP
      have hi2 : i < ls.length := by have := (List.getElem?_eq_some_iff.mp hi).1; omega
      obtain ⟨p, l, h1, h2, _, h4⟩ := (hq.ex hN.ex).at i (by rw [hq.len]; exact hi2)
      rw [List.getElem?_map, h1] at hi
      cases hi
      refine ⟨hw _, ?_⟩
      dsimp only [tYes]
      rw [if_pos rfl]
      refine he p l H' h4 H' (Ex.refl H') _ fun o H4 no e4 ho => ?_
      have hA := newR_app hN hn no e4 ho
      refine ⟨_, e4 _ _ hN.ha, sz_lt (by rw [List.length_map]; omega), ps ++ [o], ?_, hA.2, by rw [List.length_append, hl]; rfl⟩
      rw [List.take_add_one, h2]
      exact hA.1
    · obtain ⟨ps, hN, hn, _⟩ := hP
      rw [hlen, List.take_length] at hN
      exact q _ H' ⟨D, ps, rfl, hN, hn⟩⟩
theorem el_lcZip {A B : Addr} {xs ys : List V} {n j1 j2 : Nat} {vs : List Nat} {bs : Nat → Bool} (h1 : Ev ta σ H (.ref A)) (h2 : Ev tb σ H (.ref B)) (hx : SqL K H A xs) (hy : SqL K H B ys) (hn : xs.length = n) (hn2 : ys.length = n) (hz : n ≤ 90000)
    (hw : ∀ u v, wipe (((wipe σ vs).set j1 (some u)).set j2 (some v)) vs = wipe σ vs) (he : ∀ i u v H', xs[i]? = some u → ys[i]? = some v → Ex H H' → Ev te (((wipe σ vs).set j1 (some u)).set j2 (some v)) H' (.bl (bs i))) :
    EvL (tLc (iZip K (tCons ta (tCons tb tNil))) (gTup K 2 (gCons (gName j1) (gCons (gName j2) gNil))) tYes te vs) σ H (((List.range n).map bs).map V.bl) := fun H0 e Q q =>
  h1 H0 e _ fun H1 e1 => h2 H1 (e.trans e1) _ fun H2 e2 => ⟨A, B, xs, ys, rfl, ex_l ((e.trans e1).trans e2) hx, ex_l ((e.trans e1).trans e2) hy, fun D hD => by
    have e02 := (e.trans e1).trans e2
    refine lc_it (walk_zip (xs := xs) (ys := ys) (n := n) (by omega)) (fun i H' => Ex H2 H' ∧ H' D = some (.lst (((List.range i).map bs).map V.bl))) ⟨Ex.new hD, upd_same⟩ (fun i H' _ p => ⟨ex_l (e02.trans p.1) hx, ex_l (e02.trans p.1) hy⟩) ?_ (fun H' p => q D H' (fresh_back (e1.trans e2) hD) ((e1.trans e2).trans p.1) p.2)
    intro i x G G' hi p y
    obtain ⟨T, u, v, rfl, hT, rfl, hu, hv⟩ := y
    refine g_tup2 (st_of upd_same) ⟨hw u v, ?_⟩
    dsimp only [tYes]
    rw [if_pos rfl]
    have eT : Ex G (upd G T (.tup [u, v])) := Ex.new hT
    refine he i u v _ hu hv (e02.trans (p.1.trans eT)) _ (Ex.refl _) _ fun H4 e4 => ⟨((List.range i).map bs).map V.bl, e4 _ _ (eT _ _ p.2), sz_lt (by rw [List.length_map, List.length_map, List.length_range]; omega), Ex.mut ((p.1.trans eT).trans e4) hD, ?_⟩
    rw [upd_same, List.range_succ, List.map_append, List.map_append]
    rfl⟩
end
end Gd

set_option Elab.async false
set_option linter.all false
set_option maxRecDepth 100000
set_option maxHeartbeats 4000000
/-! Of our own: tables that are made of a function and the numbers so far; a dict comprehension over a dict; three new lists in one. -/
namespace Gd
open PySem PySem.Spec PyProof.Rows L2 Evl
theorem tab_put {K : PySem.W.Frag} {H : Hp} {kvs : List (Key × V)} {f g : Int → Option Nd} {k : Int} {n : Nd} {p : Addr} (h : TabT K H kvs f) (hp : SqT K H p ((ndL n).map V.int)) (hg : ∀ x, g x = if x = k then some n else f x) : TabT K H (putK kvs (Sum.inl k) (.ref p)) g := fun x => by
  rw [hg x, valV_put]
  have hk := h x
  by_cases q : x = k
  · rw [if_pos q, if_pos (by rw [q])]
    exact ⟨p, rfl, hp⟩
  · rw [if_neg q, if_neg (fun z => q (Sum.inl.inj z))]
    exact hk
def rsF (F : Int → Nd) (ks : List Int) (k : Int) : Option Nd := if k ∈ ks then some (F k) else none
theorem rsF_add (F : Int → Nd) (ks : List Int) (k : Int) : ∀ x, rsF F (addK ks k) x = if x = k then some (F k) else rsF F ks x := fun x => by
  unfold rsF
  by_cases c : x = k
  · rw [if_pos c, if_pos (mem_addK.mpr (.inr c)), c]
  · rw [if_neg c]
    by_cases d : x ∈ ks
    · rw [if_pos d, if_pos (mem_addK.mpr (.inl d))]
    · rw [if_neg d, if_neg (fun z => (mem_addK.mp z).elim d c)]
theorem tab_nil {K : PySem.W.Frag} {H : Hp} (F : Int → Nd) : TabT K H [] (rsF F []) := fun k => by
  have : rsF F [] k = none := if_neg List.not_mem_nil
  rw [this]
  rfl
theorem addK_new {ks : List Int} {k : Int} (h : k ∉ ks) : addK ks k = ks ++ [k] := if_neg h
theorem addK_old {ks : List Int} {k : Int} (h : k ∈ ks) : addK ks k = ks := if_pos h
theorem nodup_take_new {ks : List Int} {i : Nat} {k : Int} (hn : ks.Nodup) (h : ks[i]? = some k) : k ∉ ks.take i := fun m => by
  obtain ⟨j, hj⟩ := List.mem_iff_getElem?.mp m
  rw [List.getElem?_take] at hj
  split at hj
  · rename_i hlt
    have hi := (List.getElem?_eq_some_iff.mp h).1
    have e1 : ks[j]? = ks[i]? := hj.trans h.symm
    have := (List.getElem?_inj (by omega) hn).mp e1
    omega
  · cases hj
theorem addK_take {ks : List Int} {i : Nat} {k : Int} (hn : ks.Nodup) (h : ks[i]? = some k) : addK (ks.take i) k = ks.take (i + 1) := by
  rw [addK_new (nodup_take_new hn h), take_snoc h]
section
variable {K : PySem.W.Frag} {H : Hp} {σ : L2.St} {td tk tv : TE} {tt : TT} {g : TG} {vs : List Nat} {P : V → Hp → Prop}
/-- {..: .. for x in d} -/
theorem ep_dcKy {d : Addr} {kvs : List (Key × V)} (hd : H d = some (.dK kvs)) (he : ∀ G, Ev td σ G (.ref d))
    (k : ∀ (od : Obj) (H1 : Hp), Ex (upd H d (.frz od (.dK kvs))) H1 → ∀ Dt, H1 Dt = none → ∃ Pv : Nat → Hp → Prop, Pv 0 (upd H1 Dt (.dK [])) ∧ (∀ i G, Pv i G → G d = some (.frz od (.dK kvs))) ∧
      (∀ i kv G, kvs[i]? = some kv → Pv i G → DcTurn g tt tk tv vs σ Dt (Pv (i + 1)) (kV kv.1) G) ∧ ∀ G, Pv kvs.length G → P (.ref Dt) (upd G d (.dK kvs))) : EvP (tLockE (tDc (iKeys td) g tt tk tv vs)) σ H P := fun Q q =>
  ⟨d, .dK kvs, hd, trivial, fun od => he _ _ (Ex.refl _) _ fun H1 e1 => ⟨d, od, rfl, .inl ⟨kvs, e1 _ _ upd_same, fun Dt nDt => by
    obtain ⟨Pv, h0, hG, hs, hz⟩ := k od H1 e1 Dt nDt
    exact dc_it walk_keys Pv h0 (fun i G _ p => hG i G p) (fun i x H5 H6 hi p y => by
      obtain ⟨rfl, k, v, hk, rfl⟩ := y
      exact hs i (k, v) _ hk p) (fun G p => ⟨hG _ _ p, q _ _ (hz G p)⟩)⟩⟩⟩
theorem ep_lst3 {t1 t2 t3 : TE} {x1 x2 x3 : List V} (h1 : EvL t1 σ H x1) (h2 : EvL t2 σ H x2) (h3 : EvL t3 σ H x3) : EvP (tLst (tCons t1 (tCons t2 (tCons t3 tNil)))) σ H (fun v H' => ∃ l a1 a2 a3, v = .ref l ∧ H l = none ∧ Ex H H' ∧ H' l = some (.lst [.ref a1, .ref a2, .ref a3]) ∧ H' a1 = some (.lst x1) ∧ H' a2 = some (.lst x2) ∧ H' a3 = some (.lst x3)) := fun Q q =>
  h1 H (Ex.refl H) _ fun a1 H1 n1 e1 g1 => h2 H1 e1 _ fun a2 H2 n2 e2 g2 => h3 H2 (e1.trans e2) _ fun a3 H3 n3 e3 g3 => ⟨sz_of (n := 3) (by decide), fun l hl => by
    have f1 := e3 _ _ (e2 _ _ g1)
    have f2 := e3 _ _ g2
    refine q _ _ ⟨l, a1, a2, a3, rfl, fresh_back (e1.trans (e2.trans e3)) hl, (e1.trans (e2.trans e3)).trans (Ex.new hl), upd_same, ?_, ?_, ?_⟩
    · rw [upd_ne (ne_of_none f1 hl)]; exact f1
    · rw [upd_ne (ne_of_none f2 hl)]; exact f2
    · rw [upd_ne (ne_of_none g3 hl)]; exact g3⟩
theorem el_ofP {te : TE} {xs : List V} (h : ∀ G, Ex H G → EvP te σ G (fun v G' => ∃ p, v = .ref p ∧ G p = none ∧ Ex G G' ∧ G' p = some (.lst xs))) : EvL te σ H xs := fun H1 e Q q => h H1 e Q fun v H2 hv => by
  obtain ⟨p, rfl, np, e2, hp⟩ := hv
  exact q p H2 np e2 hp
end
end Gd

set_option Elab.async false
set_option linter.all false
set_option maxRecDepth 100000
set_option maxHeartbeats 4000000
set_option exponentiation.threshold 600
namespace K32
open PySem PySem.Spec PyProof.Rows L2 Evl Gd
/-! ### a look at the law, ahead of all that follows (it wants the most memory) -/
end K32
section
open PySem PySem.W PyProof.Rows
set_option maxRecDepth 100000 in
set_option maxHeartbeats 0 in
theorem K32.opening (h : PySem.Challenge.rw_plinth_k32_thread_fold_and_prune.row.wellSaid = true → PySem.Challenge.rw_plinth_k32_thread_fold_and_prune.row.Holds) : PySem.Challenge.rw_plinth_k32_thread_fold_and_prune.Holds := by
  w_on; o_law
  exact h (by assumption)
end
namespace K32

end K32

set_option Elab.async false
set_option linter.all false
set_option maxRecDepth 100000
set_option maxHeartbeats 4000000
set_option exponentiation.threshold 600
namespace K32
open PySem PySem.Spec PyProof.Rows L2 Evl Gd
/-! ### the text -/
def topS (i : Nat) : Stmt := PySem.Challenge.pw_plinth_k32_thread_fold_and_prune.main.body.getD i (.Pass ⟨0, 0, 0, 0⟩)
abbrev s_combined : Stmt := topS 9
abbrev N_combined : List Str := ["operation", "x", "y"]
theorem sc_combined : FnScope N_combined ["operation", "x", "y"] (defScope s_combined) := ⟨rfl, rfl, rfl, by decide +kernel, rfl, by decide +kernel, by decide +kernel⟩
abbrev s_can_call : Stmt := topS 10
abbrev N_can_call : List Str := ["nodes", "number"]
theorem sc_can_call : FnScope N_can_call ["nodes", "number"] (defScope s_can_call) := ⟨rfl, rfl, rfl, by decide +kernel, rfl, by decide +kernel, by decide +kernel⟩
abbrev s_nodes_of : Stmt := topS 12
abbrev N_nodes_of : List Str := ["image", "start"]
theorem sc_nodes_of : FnScope N_nodes_of ["image"] (defScope s_nodes_of) := ⟨rfl, rfl, rfl, by decide +kernel, rfl, by decide +kernel, by decide +kernel⟩
abbrev s_image_of : Stmt := topS 13
abbrev N_image_of : List Str := ["nodes", "node", "cell"]
theorem sc_image_of : FnScope N_image_of ["nodes"] (defScope s_image_of) := ⟨rfl, rfl, rfl, by decide +kernel, rfl, by decide +kernel, by decide +kernel⟩
abbrev s_is_capital : Stmt := topS 15
abbrev N_is_capital : List Str := ["code"]
theorem sc_is_capital : FnScope N_is_capital ["code"] (defScope s_is_capital) := ⟨rfl, rfl, rfl, by decide +kernel, rfl, by decide +kernel, by decide +kernel⟩
abbrev s_is_small : Stmt := topS 16
abbrev N_is_small : List Str := ["code"]
theorem sc_is_small : FnScope N_is_small ["code"] (defScope s_is_small) := ⟨rfl, rfl, rfl, by decide +kernel, rfl, by decide +kernel, by decide +kernel⟩
abbrev s_push_argument : Stmt := topS 18
abbrev N_push_argument : List Str := ["state", "node"]
theorem sc_push_argument : FnScope N_push_argument ["state", "node"] (defScope s_push_argument) := ⟨rfl, rfl, rfl, by decide +kernel, rfl, by decide +kernel, by decide +kernel⟩
abbrev s_combine : Stmt := topS 19
abbrev N_combine : List Str := ["state", "node", "y", "x"]
theorem sc_combine : FnScope N_combine ["state", "node"] (defScope s_combine) := ⟨rfl, rfl, rfl, by decide +kernel, rfl, by decide +kernel, by decide +kernel⟩
abbrev s_get : Stmt := topS 20
abbrev N_get : List Str := ["state", "_"]
theorem sc_get : FnScope N_get ["state", "_"] (defScope s_get) := ⟨rfl, rfl, rfl, by decide +kernel, rfl, by decide +kernel, by decide +kernel⟩
abbrev s_put : Stmt := topS 21
abbrev N_put : List Str := ["state", "_", "address"]
theorem sc_put : FnScope N_put ["state", "_"] (defScope s_put) := ⟨rfl, rfl, rfl, by decide +kernel, rfl, by decide +kernel, by decide +kernel⟩
abbrev s_set_argument : Stmt := topS 22
abbrev N_set_argument : List Str := ["state", "node"]
theorem sc_set_argument : FnScope N_set_argument ["state", "node"] (defScope s_set_argument) := ⟨rfl, rfl, rfl, by decide +kernel, rfl, by decide +kernel, by decide +kernel⟩
abbrev s_take_number : Stmt := topS 23
abbrev N_take_number : List Str := ["state", "_"]
theorem sc_take_number : FnScope N_take_number ["state", "_"] (defScope s_take_number) := ⟨rfl, rfl, rfl, by decide +kernel, rfl, by decide +kernel, by decide +kernel⟩
abbrev s_rewind : Stmt := topS 24
abbrev N_rewind : List Str := ["state", "_"]
theorem sc_rewind : FnScope N_rewind ["state", "_"] (defScope s_rewind) := ⟨rfl, rfl, rfl, by decide +kernel, rfl, by decide +kernel, by decide +kernel⟩
abbrev s_write : Stmt := topS 25
abbrev N_write : List Str := ["state", "_"]
theorem sc_write : FnScope N_write ["state", "_"] (defScope s_write) := ⟨rfl, rfl, rfl, by decide +kernel, rfl, by decide +kernel, by decide +kernel⟩
abbrev s_push_cell : Stmt := topS 26
abbrev N_push_cell : List Str := ["state", "_"]
theorem sc_push_cell : FnScope N_push_cell ["state", "_"] (defScope s_push_cell) := ⟨rfl, rfl, rfl, by decide +kernel, rfl, by decide +kernel, by decide +kernel⟩
abbrev s_drop : Stmt := topS 27
abbrev N_drop : List Str := ["state", "_"]
theorem sc_drop : FnScope N_drop ["state", "_"] (defScope s_drop) := ⟨rfl, rfl, rfl, by decide +kernel, rfl, by decide +kernel, by decide +kernel⟩
abbrev s_double : Stmt := topS 28
abbrev N_double : List Str := ["state", "_", "x"]
theorem sc_double : FnScope N_double ["state", "_"] (defScope s_double) := ⟨rfl, rfl, rfl, by decide +kernel, rfl, by decide +kernel, by decide +kernel⟩
abbrev s_exchange : Stmt := topS 29
abbrev N_exchange : List Str := ["state", "_", "y", "x"]
theorem sc_exchange : FnScope N_exchange ["state", "_"] (defScope s_exchange) := ⟨rfl, rfl, rfl, by decide +kernel, rfl, by decide +kernel, by decide +kernel⟩
abbrev s_branch : Stmt := topS 30
abbrev N_branch : List Str := ["state", "node"]
theorem sc_branch : FnScope N_branch ["state", "node"] (defScope s_branch) := ⟨rfl, rfl, rfl, by decide +kernel, rfl, by decide +kernel, by decide +kernel⟩
abbrev s_call_popped : Stmt := topS 31
abbrev N_call_popped : List Str := ["state", "_"]
theorem sc_call_popped : FnScope N_call_popped ["state", "_"] (defScope s_call_popped) := ⟨rfl, rfl, rfl, by decide +kernel, rfl, by decide +kernel, by decide +kernel⟩
abbrev s_call_if_defined : Stmt := topS 32
abbrev N_call_if_defined : List Str := ["state", "_", "number"]
theorem sc_call_if_defined : FnScope N_call_if_defined ["state", "_"] (defScope s_call_if_defined) := ⟨rfl, rfl, rfl, by decide +kernel, rfl, by decide +kernel, by decide +kernel⟩
abbrev s_return : Stmt := topS 33
abbrev N_return : List Str := ["state", "_"]
theorem sc_return : FnScope N_return ["state", "_"] (defScope s_return) := ⟨rfl, rfl, rfl, by decide +kernel, rfl, by decide +kernel, by decide +kernel⟩
abbrev s_is_operation : Stmt := topS 35
abbrev N_is_operation : List Str := ["code"]
theorem sc_is_operation : FnScope N_is_operation ["code"] (defScope s_is_operation) := ⟨rfl, rfl, rfl, by decide +kernel, rfl, by decide +kernel, by decide +kernel⟩
abbrev s_table_of : Stmt := topS 38
abbrev N_table_of : List Str := ["image", "node"]
theorem sc_table_of : FnScope N_table_of ["image"] (defScope s_table_of) := ⟨rfl, rfl, rfl, by decide +kernel, rfl, by decide +kernel, by decide +kernel⟩
abbrev s_image_of_table : Stmt := topS 39
abbrev N_image_of_table : List Str := ["table", "number"]
theorem sc_image_of_table : FnScope N_image_of_table ["table"] (defScope s_image_of_table) := ⟨rfl, rfl, rfl, by decide +kernel, rfl, by decide +kernel, by decide +kernel⟩
abbrev s_is_fixed : Stmt := topS 40
abbrev N_is_fixed : List Str := ["number"]
theorem sc_is_fixed : FnScope N_is_fixed ["number"] (defScope s_is_fixed) := ⟨rfl, rfl, rfl, by decide +kernel, rfl, by decide +kernel, by decide +kernel⟩
abbrev s_is_nop : Stmt := topS 41
abbrev N_is_nop : List Str := ["table", "number"]
theorem sc_is_nop : FnScope N_is_nop ["table", "number"] (defScope s_is_nop) := ⟨rfl, rfl, rfl, by decide +kernel, rfl, by decide +kernel, by decide +kernel⟩
abbrev s_least : Stmt := topS 42
abbrev N_least : List Str := ["numbers", "fixed", "number"]
theorem sc_least : FnScope N_least ["numbers"] (defScope s_least) := ⟨rfl, rfl, rfl, by decide +kernel, rfl, by decide +kernel, by decide +kernel⟩
abbrev s_callable : Stmt := topS 43
abbrev N_callable : List Str := ["table", "number"]
theorem sc_callable : FnScope N_callable ["table"] (defScope s_callable) := ⟨rfl, rfl, rfl, by decide +kernel, rfl, by decide +kernel, by decide +kernel⟩
abbrev s_next_numbers : Stmt := topS 44
abbrev N_next_numbers : List Str := ["table", "number", "operation", "argument", "successor"]
theorem sc_next_numbers : FnScope N_next_numbers ["table", "number"] (defScope s_next_numbers) := ⟨rfl, rfl, rfl, by decide +kernel, rfl, by decide +kernel, by decide +kernel⟩
abbrev s_reachable_in : Stmt := topS 45
abbrev N_reachable_in : List Str := ["table", "found", "waiting", "number", "following"]
theorem sc_reachable_in : FnScope N_reachable_in ["table"] (defScope s_reachable_in) := ⟨rfl, rfl, rfl, by decide +kernel, rfl, by decide +kernel, by decide +kernel⟩
abbrev s_is_closed : Stmt := topS 46
abbrev N_is_closed : List Str := ["image", "table", "operations", "number"]
theorem sc_is_closed : FnScope N_is_closed ["image"] (defScope s_is_closed) := ⟨rfl, rfl, rfl, by decide +kernel, rfl, by decide +kernel, by decide +kernel⟩
abbrev s_end_of_walk : Stmt := topS 47
abbrev N_end_of_walk : List Str := ["walk", "number"]
theorem sc_end_of_walk : FnScope N_end_of_walk ["walk", "number"] (defScope s_end_of_walk) := ⟨rfl, rfl, rfl, by decide +kernel, rfl, by decide +kernel, by decide +kernel⟩
abbrev s_targets_of : Stmt := topS 48
abbrev N_targets_of : List Str := ["table", "targets", "start", "walk", "number", "end", "passed"]
theorem sc_targets_of : FnScope N_targets_of ["table"] (defScope s_targets_of) := ⟨rfl, rfl, rfl, by decide +kernel, rfl, by decide +kernel, by decide +kernel⟩
abbrev s_redirected : Stmt := topS 50
abbrev N_redirected : List Str := ["node", "targets", "operation", "argument", "successor"]
theorem sc_redirected : FnScope N_redirected ["node", "targets"] (defScope s_redirected) := ⟨rfl, rfl, rfl, by decide +kernel, rfl, by decide +kernel, by decide +kernel⟩
abbrev s_threaded : Stmt := topS 51
abbrev N_threaded : List Str := ["table", "targets", "changed", "number", "end"]
theorem sc_threaded : FnScope N_threaded ["table"] (defScope s_threaded) := ⟨rfl, rfl, rfl, by decide +kernel, rfl, by decide +kernel, by decide +kernel⟩
abbrev s_thread : Stmt := topS 52
abbrev N_thread : List Str := ["image"]
theorem sc_thread : FnScope N_thread ["image"] (defScope s_thread) := ⟨rfl, rfl, rfl, by decide +kernel, rfl, by decide +kernel, by decide +kernel⟩
abbrev s_folded : Stmt := topS 53
abbrev N_folded : List Str := ["table", "node", "operation", "argument", "successor", "second", "third"]
theorem sc_folded : FnScope N_folded ["table", "node"] (defScope s_folded) := ⟨rfl, rfl, rfl, by decide +kernel, rfl, by decide +kernel, by decide +kernel⟩
abbrev s_fold : Stmt := topS 54
abbrev N_fold : List Str := ["image", "table", "number"]
theorem sc_fold : FnScope N_fold ["image"] (defScope s_fold) := ⟨rfl, rfl, rfl, by decide +kernel, rfl, by decide +kernel, by decide +kernel⟩
abbrev s_prune : Stmt := topS 55
abbrev N_prune : List Str := ["image", "table", "number"]
theorem sc_prune : FnScope N_prune ["image"] (defScope s_prune) := ⟨rfl, rfl, rfl, by decide +kernel, rfl, by decide +kernel, by decide +kernel⟩
abbrev s_law_number : Stmt := topS 57
abbrev N_law_number : List Str := ["cell"]
theorem sc_law_number : FnScope N_law_number ["cell"] (defScope s_law_number) := ⟨rfl, rfl, rfl, by decide +kernel, rfl, by decide +kernel, by decide +kernel⟩
abbrev s_law_draws : Stmt := topS 58
abbrev N_law_draws : List Str := ["script", "draws", "seed", "cell", "rest", "k", "once", "twice"]
theorem sc_law_draws : FnScope N_law_draws ["script"] (defScope s_law_draws) := ⟨rfl, rfl, rfl, by decide +kernel, rfl, by decide +kernel, by decide +kernel⟩
abbrev s_law_draw : Stmt := topS 59
abbrev N_law_draw : List Str := ["draws"]
theorem sc_law_draw : FnScope N_law_draw ["draws"] (defScope s_law_draw) := ⟨rfl, rfl, rfl, by decide +kernel, rfl, by decide +kernel, by decide +kernel⟩
abbrev s_law_pick : Stmt := topS 60
abbrev N_law_pick : List Str := ["draws", "many"]
theorem sc_law_pick : FnScope N_law_pick ["draws", "many"] (defScope s_law_pick) := ⟨rfl, rfl, rfl, by decide +kernel, rfl, by decide +kernel, by decide +kernel⟩
abbrev s_law_is_integer : Stmt := topS 61
abbrev N_law_is_integer : List Str := ["actual"]
theorem sc_law_is_integer : FnScope N_law_is_integer ["actual"] (defScope s_law_is_integer) := ⟨rfl, rfl, rfl, by decide +kernel, rfl, by decide +kernel, by decide +kernel⟩
abbrev s_law_is_cells : Stmt := topS 62
abbrev N_law_is_cells : List Str := ["actual", "number"]
theorem sc_law_is_cells : FnScope N_law_is_cells ["actual"] (defScope s_law_is_cells) := ⟨rfl, rfl, rfl, by decide +kernel, rfl, by decide +kernel, by decide +kernel⟩
abbrev s_law_number_of : Stmt := topS 63
abbrev N_law_number_of : List Str := ["draws", "pool"]
theorem sc_law_number_of : FnScope N_law_number_of ["draws"] (defScope s_law_number_of) := ⟨rfl, rfl, rfl, by decide +kernel, rfl, by decide +kernel, by decide +kernel⟩
abbrev s_law_op : Stmt := topS 64
abbrev N_law_op : List Str := ["draws", "share", "ops"]
theorem sc_law_op : FnScope N_law_op ["draws", "share"] (defScope s_law_op) := ⟨rfl, rfl, rfl, by decide +kernel, rfl, by decide +kernel, by decide +kernel⟩
abbrev s_law_arg : Stmt := topS 65
abbrev N_law_arg : List Str := ["draws", "op"]
theorem sc_law_arg : FnScope N_law_arg ["draws", "op"] (defScope s_law_arg) := ⟨rfl, rfl, rfl, by decide +kernel, rfl, by decide +kernel, by decide +kernel⟩
abbrev s_law_image : Stmt := topS 66
abbrev N_law_image : List Str := ["draws", "many", "share", "numbers", "k", "cells", "op", "successor"]
theorem sc_law_image : FnScope N_law_image ["draws", "many", "share"] (defScope s_law_image) := ⟨rfl, rfl, rfl, by decide +kernel, rfl, by decide +kernel, by decide +kernel⟩
abbrev s_law_table : Stmt := topS 67
abbrev N_law_table : List Str := ["cells", "table", "at"]
theorem sc_law_table : FnScope N_law_table ["cells"] (defScope s_law_table) := ⟨rfl, rfl, rfl, by decide +kernel, rfl, by decide +kernel, by decide +kernel⟩
abbrev s_law_is_nop : Stmt := topS 68
abbrev N_law_is_nop : List Str := ["op"]
theorem sc_law_is_nop : FnScope N_law_is_nop ["op"] (defScope s_law_is_nop) := ⟨rfl, rfl, rfl, by decide +kernel, rfl, by decide +kernel, by decide +kernel⟩
abbrev s_law_ways : Stmt := topS 69
abbrev N_law_ways : List Str := ["table", "number", "op", "arg", "successor", "ways", "k"]
theorem sc_law_ways : FnScope N_law_ways ["table", "number"] (defScope s_law_ways) := ⟨rfl, rfl, rfl, by decide +kernel, rfl, by decide +kernel, by decide +kernel⟩
abbrev s_law_reached : Stmt := topS 70
abbrev N_law_reached : List Str := ["table", "met", "queue", "k", "way"]
theorem sc_law_reached : FnScope N_law_reached ["table"] (defScope s_law_reached) := ⟨rfl, rfl, rfl, by decide +kernel, rfl, by decide +kernel, by decide +kernel⟩
abbrev s_law_is_closed : Stmt := topS 71
abbrev N_law_is_closed : List Str := ["table", "number"]
theorem sc_law_is_closed : FnScope N_law_is_closed ["table"] (defScope s_law_is_closed) := ⟨rfl, rfl, rfl, by decide +kernel, rfl, by decide +kernel, by decide +kernel⟩
abbrev s_law_written : Stmt := topS 72
abbrev N_law_written : List Str := ["table", "cells", "number", "op", "arg", "successor"]
theorem sc_law_written : FnScope N_law_written ["table"] (defScope s_law_written) := ⟨rfl, rfl, rfl, by decide +kernel, rfl, by decide +kernel, by decide +kernel⟩
abbrev s_law_ring : Stmt := topS 73
abbrev N_law_ring : List Str := ["ring", "fixed", "number"]
theorem sc_law_ring : FnScope N_law_ring ["ring"] (defScope s_law_ring) := ⟨rfl, rfl, rfl, by decide +kernel, rfl, by decide +kernel, by decide +kernel⟩
abbrev s_law_target : Stmt := topS 74
abbrev N_law_target : List Str := ["table", "number", "path", "k"]
theorem sc_law_target : FnScope N_law_target ["table", "number"] (defScope s_law_target) := ⟨rfl, rfl, rfl, by decide +kernel, rfl, by decide +kernel, by decide +kernel⟩
abbrev s_law_combined : Stmt := topS 75
abbrev N_law_combined : List Str := ["op", "x", "y"]
theorem sc_law_combined : FnScope N_law_combined ["op", "x", "y"] (defScope s_law_combined) := ⟨rfl, rfl, rfl, by decide +kernel, rfl, by decide +kernel, by decide +kernel⟩
abbrev s_law_threaded : Stmt := topS 76
abbrev N_law_threaded : List Str := ["table", "changed", "number", "op", "arg", "successor", "end"]
theorem sc_law_threaded : FnScope N_law_threaded ["table"] (defScope s_law_threaded) := ⟨rfl, rfl, rfl, by decide +kernel, rfl, by decide +kernel, by decide +kernel⟩
abbrev s_law_folded : Stmt := topS 77
abbrev N_law_folded : List Str := ["table", "changed", "number", "node"]
theorem sc_law_folded : FnScope N_law_folded ["table"] (defScope s_law_folded) := ⟨rfl, rfl, rfl, by decide +kernel, rfl, by decide +kernel, by decide +kernel⟩
abbrev s_law_folded_node : Stmt := topS 78
abbrev N_law_folded_node : List Str := ["table", "node", "after", "last"]
theorem sc_law_folded_node : FnScope N_law_folded_node ["table", "node", "after"] (defScope s_law_folded_node) := ⟨rfl, rfl, rfl, by decide +kernel, rfl, by decide +kernel, by decide +kernel⟩
abbrev s_law_pruned : Stmt := topS 79
abbrev N_law_pruned : List Str := ["table", "kept", "number"]
theorem sc_law_pruned : FnScope N_law_pruned ["table"] (defScope s_law_pruned) := ⟨rfl, rfl, rfl, by decide +kernel, rfl, by decide +kernel, by decide +kernel⟩
abbrev s_law_is_due : Stmt := topS 80
abbrev N_law_is_due : List Str := ["actual", "due", "passed", "cells"]
theorem sc_law_is_due : FnScope N_law_is_due ["actual", "due", "passed", "cells"] (defScope s_law_is_due) := ⟨rfl, rfl, rfl, by decide +kernel, rfl, by decide +kernel, by decide +kernel⟩
abbrev s_law : Stmt := topS 81
abbrev N_law : List Str := ["script", "draws", "share", "cells", "table", "due", "passed"]
theorem sc_law : FnScope N_law ["script"] (defScope s_law) := ⟨rfl, rfl, rfl, by decide +kernel, rfl, by decide +kernel, by decide +kernel⟩
/-! ### what the top has written -/
structure Txt (K : PySem.W.Frag) (mg : Str → Option Value) where
  f_combined : Addr
  d_combined : FuncData
  F_combined : Fun K "combined" "combined" s_combined f_combined d_combined
  b_combined : Binds K d_combined ["operation", "x", "y"] []
  g_combined : mg "combined" = some (.ref f_combined)
  f_can_call : Addr
  d_can_call : FuncData
  F_can_call : Fun K "can_call" "can_call" s_can_call f_can_call d_can_call
  b_can_call : Binds K d_can_call ["nodes", "number"] []
  g_can_call : mg "can_call" = some (.ref f_can_call)
  f_nodes_of : Addr
  d_nodes_of : FuncData
  F_nodes_of : Fun K "nodes_of" "nodes_of" s_nodes_of f_nodes_of d_nodes_of
  b_nodes_of : Binds K d_nodes_of ["image"] []
  g_nodes_of : mg "nodes_of" = some (.ref f_nodes_of)
  f_image_of : Addr
  d_image_of : FuncData
  F_image_of : Fun K "image_of" "image_of" s_image_of f_image_of d_image_of
  b_image_of : Binds K d_image_of ["nodes"] []
  g_image_of : mg "image_of" = some (.ref f_image_of)
  f_is_capital : Addr
  d_is_capital : FuncData
  F_is_capital : Fun K "is_capital" "is_capital" s_is_capital f_is_capital d_is_capital
  b_is_capital : Binds K d_is_capital ["code"] []
  g_is_capital : mg "is_capital" = some (.ref f_is_capital)
  f_is_small : Addr
  d_is_small : FuncData
  F_is_small : Fun K "is_small" "is_small" s_is_small f_is_small d_is_small
  b_is_small : Binds K d_is_small ["code"] []
  g_is_small : mg "is_small" = some (.ref f_is_small)
  f_push_argument : Addr
  d_push_argument : FuncData
  F_push_argument : Fun K "_push_argument" "_push_argument" s_push_argument f_push_argument d_push_argument
  b_push_argument : Binds K d_push_argument ["state", "node"] []
  g_push_argument : mg "_push_argument" = some (.ref f_push_argument)
  f_combine : Addr
  d_combine : FuncData
  F_combine : Fun K "_combine" "_combine" s_combine f_combine d_combine
  b_combine : Binds K d_combine ["state", "node"] []
  g_combine : mg "_combine" = some (.ref f_combine)
  f_get : Addr
  d_get : FuncData
  F_get : Fun K "_get" "_get" s_get f_get d_get
  b_get : Binds K d_get ["state", "_"] []
  g_get : mg "_get" = some (.ref f_get)
  f_put : Addr
  d_put : FuncData
  F_put : Fun K "_put" "_put" s_put f_put d_put
  b_put : Binds K d_put ["state", "_"] []
  g_put : mg "_put" = some (.ref f_put)
  f_set_argument : Addr
  d_set_argument : FuncData
  F_set_argument : Fun K "_set_argument" "_set_argument" s_set_argument f_set_argument d_set_argument
  b_set_argument : Binds K d_set_argument ["state", "node"] []
  g_set_argument : mg "_set_argument" = some (.ref f_set_argument)
  f_take_number : Addr
  d_take_number : FuncData
  F_take_number : Fun K "_take_number" "_take_number" s_take_number f_take_number d_take_number
  b_take_number : Binds K d_take_number ["state", "_"] []
  g_take_number : mg "_take_number" = some (.ref f_take_number)
  f_rewind : Addr
  d_rewind : FuncData
  F_rewind : Fun K "_rewind" "_rewind" s_rewind f_rewind d_rewind
  b_rewind : Binds K d_rewind ["state", "_"] []
  g_rewind : mg "_rewind" = some (.ref f_rewind)
  f_write : Addr
  d_write : FuncData
  F_write : Fun K "_write" "_write" s_write f_write d_write
  b_write : Binds K d_write ["state", "_"] []
  g_write : mg "_write" = some (.ref f_write)
  f_push_cell : Addr
  d_push_cell : FuncData
  F_push_cell : Fun K "_push_cell" "_push_cell" s_push_cell f_push_cell d_push_cell
  b_push_cell : Binds K d_push_cell ["state", "_"] []
  g_push_cell : mg "_push_cell" = some (.ref f_push_cell)
  f_drop : Addr
  d_drop : FuncData
  F_drop : Fun K "_drop" "_drop" s_drop f_drop d_drop
  b_drop : Binds K d_drop ["state", "_"] []
  g_drop : mg "_drop" = some (.ref f_drop)
  f_double : Addr
  d_double : FuncData
  F_double : Fun K "_double" "_double" s_double f_double d_double
  b_double : Binds K d_double ["state", "_"] []
  g_double : mg "_double" = some (.ref f_double)
  f_exchange : Addr
  d_exchange : FuncData
  F_exchange : Fun K "_exchange" "_exchange" s_exchange f_exchange d_exchange
  b_exchange : Binds K d_exchange ["state", "_"] []
  g_exchange : mg "_exchange" = some (.ref f_exchange)
  f_branch : Addr
  d_branch : FuncData
  F_branch : Fun K "_branch" "_branch" s_branch f_branch d_branch
  b_branch : Binds K d_branch ["state", "node"] []
  g_branch : mg "_branch" = some (.ref f_branch)
  f_call_popped : Addr
  d_call_popped : FuncData
  F_call_popped : Fun K "_call_popped" "_call_popped" s_call_popped f_call_popped d_call_popped
  b_call_popped : Binds K d_call_popped ["state", "_"] []
  g_call_popped : mg "_call_popped" = some (.ref f_call_popped)
  f_call_if_defined : Addr
  d_call_if_defined : FuncData
  F_call_if_defined : Fun K "_call_if_defined" "_call_if_defined" s_call_if_defined f_call_if_defined d_call_if_defined
  b_call_if_defined : Binds K d_call_if_defined ["state", "_"] []
  g_call_if_defined : mg "_call_if_defined" = some (.ref f_call_if_defined)
  f_return : Addr
  d_return : FuncData
  F_return : Fun K "_return" "_return" s_return f_return d_return
  b_return : Binds K d_return ["state", "_"] []
  g_return : mg "_return" = some (.ref f_return)
  f_is_operation : Addr
  d_is_operation : FuncData
  F_is_operation : Fun K "is_operation" "is_operation" s_is_operation f_is_operation d_is_operation
  b_is_operation : Binds K d_is_operation ["code"] []
  g_is_operation : mg "is_operation" = some (.ref f_is_operation)
  f_table_of : Addr
  d_table_of : FuncData
  F_table_of : Fun K "table_of" "table_of" s_table_of f_table_of d_table_of
  b_table_of : Binds K d_table_of ["image"] []
  g_table_of : mg "table_of" = some (.ref f_table_of)
  f_image_of_table : Addr
  d_image_of_table : FuncData
  F_image_of_table : Fun K "image_of_table" "image_of_table" s_image_of_table f_image_of_table d_image_of_table
  b_image_of_table : Binds K d_image_of_table ["table"] []
  g_image_of_table : mg "image_of_table" = some (.ref f_image_of_table)
  f_is_fixed : Addr
  d_is_fixed : FuncData
  F_is_fixed : Fun K "is_fixed" "is_fixed" s_is_fixed f_is_fixed d_is_fixed
  b_is_fixed : Binds K d_is_fixed ["number"] []
  g_is_fixed : mg "is_fixed" = some (.ref f_is_fixed)
  f_is_nop : Addr
  d_is_nop : FuncData
  F_is_nop : Fun K "is_nop" "is_nop" s_is_nop f_is_nop d_is_nop
  b_is_nop : Binds K d_is_nop ["table", "number"] []
  g_is_nop : mg "is_nop" = some (.ref f_is_nop)
  f_least : Addr
  d_least : FuncData
  F_least : Fun K "least" "least" s_least f_least d_least
  b_least : Binds K d_least ["numbers"] []
  g_least : mg "least" = some (.ref f_least)
  f_callable : Addr
  d_callable : FuncData
  F_callable : Fun K "_callable" "_callable" s_callable f_callable d_callable
  b_callable : Binds K d_callable ["table"] []
  g_callable : mg "_callable" = some (.ref f_callable)
  f_next_numbers : Addr
  d_next_numbers : FuncData
  F_next_numbers : Fun K "next_numbers" "next_numbers" s_next_numbers f_next_numbers d_next_numbers
  b_next_numbers : Binds K d_next_numbers ["table", "number"] []
  g_next_numbers : mg "next_numbers" = some (.ref f_next_numbers)
  f_reachable_in : Addr
  d_reachable_in : FuncData
  F_reachable_in : Fun K "reachable_in" "reachable_in" s_reachable_in f_reachable_in d_reachable_in
  b_reachable_in : Binds K d_reachable_in ["table"] []
  g_reachable_in : mg "reachable_in" = some (.ref f_reachable_in)
  f_is_closed : Addr
  d_is_closed : FuncData
  F_is_closed : Fun K "is_closed" "is_closed" s_is_closed f_is_closed d_is_closed
  b_is_closed : Binds K d_is_closed ["image"] []
  g_is_closed : mg "is_closed" = some (.ref f_is_closed)
  f_end_of_walk : Addr
  d_end_of_walk : FuncData
  F_end_of_walk : Fun K "_end_of_walk" "_end_of_walk" s_end_of_walk f_end_of_walk d_end_of_walk
  b_end_of_walk : Binds K d_end_of_walk ["walk", "number"] []
  g_end_of_walk : mg "_end_of_walk" = some (.ref f_end_of_walk)
  f_targets_of : Addr
  d_targets_of : FuncData
  F_targets_of : Fun K "targets_of" "targets_of" s_targets_of f_targets_of d_targets_of
  b_targets_of : Binds K d_targets_of ["table"] []
  g_targets_of : mg "targets_of" = some (.ref f_targets_of)
  f_redirected : Addr
  d_redirected : FuncData
  F_redirected : Fun K "_redirected" "_redirected" s_redirected f_redirected d_redirected
  b_redirected : Binds K d_redirected ["node", "targets"] []
  g_redirected : mg "_redirected" = some (.ref f_redirected)
  f_threaded : Addr
  d_threaded : FuncData
  F_threaded : Fun K "_threaded" "_threaded" s_threaded f_threaded d_threaded
  b_threaded : Binds K d_threaded ["table"] []
  g_threaded : mg "_threaded" = some (.ref f_threaded)
  f_thread : Addr
  d_thread : FuncData
  F_thread : Fun K "thread" "thread" s_thread f_thread d_thread
  b_thread : Binds K d_thread ["image"] []
  g_thread : mg "thread" = some (.ref f_thread)
  f_folded : Addr
  d_folded : FuncData
  F_folded : Fun K "_folded" "_folded" s_folded f_folded d_folded
  b_folded : Binds K d_folded ["table", "node"] []
  g_folded : mg "_folded" = some (.ref f_folded)
  f_fold : Addr
  d_fold : FuncData
  F_fold : Fun K "fold" "fold" s_fold f_fold d_fold
  b_fold : Binds K d_fold ["image"] []
  g_fold : mg "fold" = some (.ref f_fold)
  f_prune : Addr
  d_prune : FuncData
  F_prune : Fun K "prune" "prune" s_prune f_prune d_prune
  b_prune : Binds K d_prune ["image"] []
  g_prune : mg "prune" = some (.ref f_prune)
  f_law_number : Addr
  d_law_number : FuncData
  F_law_number : Fun K "_law_number" "_law_number" s_law_number f_law_number d_law_number
  b_law_number : Binds K d_law_number ["cell"] []
  g_law_number : mg "_law_number" = some (.ref f_law_number)
  f_law_draws : Addr
  d_law_draws : FuncData
  F_law_draws : Fun K "_law_draws" "_law_draws" s_law_draws f_law_draws d_law_draws
  b_law_draws : Binds K d_law_draws ["script"] []
  g_law_draws : mg "_law_draws" = some (.ref f_law_draws)
  f_law_draw : Addr
  d_law_draw : FuncData
  F_law_draw : Fun K "_law_draw" "_law_draw" s_law_draw f_law_draw d_law_draw
  b_law_draw : Binds K d_law_draw ["draws"] []
  g_law_draw : mg "_law_draw" = some (.ref f_law_draw)
  f_law_pick : Addr
  d_law_pick : FuncData
  F_law_pick : Fun K "_law_pick" "_law_pick" s_law_pick f_law_pick d_law_pick
  b_law_pick : Binds K d_law_pick ["draws", "many"] []
  g_law_pick : mg "_law_pick" = some (.ref f_law_pick)
  f_law_is_integer : Addr
  d_law_is_integer : FuncData
  F_law_is_integer : Fun K "_law_is_integer" "_law_is_integer" s_law_is_integer f_law_is_integer d_law_is_integer
  b_law_is_integer : Binds K d_law_is_integer ["actual"] []
  g_law_is_integer : mg "_law_is_integer" = some (.ref f_law_is_integer)
  f_law_is_cells : Addr
  d_law_is_cells : FuncData
  F_law_is_cells : Fun K "_law_is_cells" "_law_is_cells" s_law_is_cells f_law_is_cells d_law_is_cells
  b_law_is_cells : Binds K d_law_is_cells ["actual"] []
  g_law_is_cells : mg "_law_is_cells" = some (.ref f_law_is_cells)
  f_law_number_of : Addr
  d_law_number_of : FuncData
  F_law_number_of : Fun K "_law_number_of" "_law_number_of" s_law_number_of f_law_number_of d_law_number_of
  b_law_number_of : Binds K d_law_number_of ["draws"] []
  g_law_number_of : mg "_law_number_of" = some (.ref f_law_number_of)
  f_law_op : Addr
  d_law_op : FuncData
  F_law_op : Fun K "_law_op" "_law_op" s_law_op f_law_op d_law_op
  b_law_op : Binds K d_law_op ["draws", "share"] []
  g_law_op : mg "_law_op" = some (.ref f_law_op)
  f_law_arg : Addr
  d_law_arg : FuncData
  F_law_arg : Fun K "_law_arg" "_law_arg" s_law_arg f_law_arg d_law_arg
  b_law_arg : Binds K d_law_arg ["draws", "op"] []
  g_law_arg : mg "_law_arg" = some (.ref f_law_arg)
  f_law_image : Addr
  d_law_image : FuncData
  F_law_image : Fun K "_law_image" "_law_image" s_law_image f_law_image d_law_image
  b_law_image : Binds K d_law_image ["draws", "many", "share"] []
  g_law_image : mg "_law_image" = some (.ref f_law_image)
  f_law_table : Addr
  d_law_table : FuncData
  F_law_table : Fun K "_law_table" "_law_table" s_law_table f_law_table d_law_table
  b_law_table : Binds K d_law_table ["cells"] []
  g_law_table : mg "_law_table" = some (.ref f_law_table)
  f_law_is_nop : Addr
  d_law_is_nop : FuncData
  F_law_is_nop : Fun K "_law_is_nop" "_law_is_nop" s_law_is_nop f_law_is_nop d_law_is_nop
  b_law_is_nop : Binds K d_law_is_nop ["op"] []
  g_law_is_nop : mg "_law_is_nop" = some (.ref f_law_is_nop)
  f_law_ways : Addr
  d_law_ways : FuncData
  F_law_ways : Fun K "_law_ways" "_law_ways" s_law_ways f_law_ways d_law_ways
  b_law_ways : Binds K d_law_ways ["table", "number"] []
  g_law_ways : mg "_law_ways" = some (.ref f_law_ways)
  f_law_reached : Addr
  d_law_reached : FuncData
  F_law_reached : Fun K "_law_reached" "_law_reached" s_law_reached f_law_reached d_law_reached
  b_law_reached : Binds K d_law_reached ["table"] []
  g_law_reached : mg "_law_reached" = some (.ref f_law_reached)
  f_law_is_closed : Addr
  d_law_is_closed : FuncData
  F_law_is_closed : Fun K "_law_is_closed" "_law_is_closed" s_law_is_closed f_law_is_closed d_law_is_closed
  b_law_is_closed : Binds K d_law_is_closed ["table"] []
  g_law_is_closed : mg "_law_is_closed" = some (.ref f_law_is_closed)
  f_law_written : Addr
  d_law_written : FuncData
  F_law_written : Fun K "_law_written" "_law_written" s_law_written f_law_written d_law_written
  b_law_written : Binds K d_law_written ["table"] []
  g_law_written : mg "_law_written" = some (.ref f_law_written)
  f_law_ring : Addr
  d_law_ring : FuncData
  F_law_ring : Fun K "_law_ring" "_law_ring" s_law_ring f_law_ring d_law_ring
  b_law_ring : Binds K d_law_ring ["ring"] []
  g_law_ring : mg "_law_ring" = some (.ref f_law_ring)
  f_law_target : Addr
  d_law_target : FuncData
  F_law_target : Fun K "_law_target" "_law_target" s_law_target f_law_target d_law_target
  b_law_target : Binds K d_law_target ["table", "number"] []
  g_law_target : mg "_law_target" = some (.ref f_law_target)
  f_law_combined : Addr
  d_law_combined : FuncData
  F_law_combined : Fun K "_law_combined" "_law_combined" s_law_combined f_law_combined d_law_combined
  b_law_combined : Binds K d_law_combined ["op", "x", "y"] []
  g_law_combined : mg "_law_combined" = some (.ref f_law_combined)
  f_law_threaded : Addr
  d_law_threaded : FuncData
  F_law_threaded : Fun K "_law_threaded" "_law_threaded" s_law_threaded f_law_threaded d_law_threaded
  b_law_threaded : Binds K d_law_threaded ["table"] []
  g_law_threaded : mg "_law_threaded" = some (.ref f_law_threaded)
  f_law_folded : Addr
  d_law_folded : FuncData
  F_law_folded : Fun K "_law_folded" "_law_folded" s_law_folded f_law_folded d_law_folded
  b_law_folded : Binds K d_law_folded ["table"] []
  g_law_folded : mg "_law_folded" = some (.ref f_law_folded)
  f_law_folded_node : Addr
  d_law_folded_node : FuncData
  F_law_folded_node : Fun K "_law_folded_node" "_law_folded_node" s_law_folded_node f_law_folded_node d_law_folded_node
  b_law_folded_node : Binds K d_law_folded_node ["table", "node", "after"] []
  g_law_folded_node : mg "_law_folded_node" = some (.ref f_law_folded_node)
  f_law_pruned : Addr
  d_law_pruned : FuncData
  F_law_pruned : Fun K "_law_pruned" "_law_pruned" s_law_pruned f_law_pruned d_law_pruned
  b_law_pruned : Binds K d_law_pruned ["table"] []
  g_law_pruned : mg "_law_pruned" = some (.ref f_law_pruned)
  f_law_is_due : Addr
  d_law_is_due : FuncData
  F_law_is_due : Fun K "_law_is_due" "_law_is_due" s_law_is_due f_law_is_due d_law_is_due
  b_law_is_due : Binds K d_law_is_due ["actual", "due", "passed", "cells"] []
  g_law_is_due : mg "_law_is_due" = some (.ref f_law_is_due)
  f_law : Addr
  d_law : FuncData
  F_law : Fun K "law" "law" s_law f_law d_law
  b_law : Binds K d_law ["script"] []
  g_law : mg "law" = some (.ref f_law)
  h_law : ∀ (s : Shared) (v : Value), BindsTo s d_law ⟨[v], []⟩ [("script", v)]
  D_ACTIONS : Addr
  g_ACTIONS : mg "_ACTIONS" = some (.ref D_ACTIONS)
  tab_ACTIONS : ITab K D_ACTIONS [(35, .ref f_push_argument), (43, .ref f_combine), (45, .ref f_combine), (42, .ref f_combine), (60, .ref f_combine), (126, .ref f_combine), (64, .ref f_get), (33, .ref f_put), (61, .ref f_set_argument), (44, .ref f_take_number), (94, .ref f_rewind), (46, .ref f_write), (38, .ref f_push_cell), (95, .ref f_drop), (34, .ref f_double), (92, .ref f_exchange), (63, .ref f_branch), (40, .ref f_call_popped), (36, .ref f_call_if_defined), (41, .ref f_return)]
  nd_ACTIONS : [f_push_argument, f_combine, f_get, f_put, f_set_argument, f_take_number, f_rewind, f_write, f_push_cell, f_drop, f_double, f_exchange, f_branch, f_call_popped, f_call_if_defined, f_return].Nodup
  D_COMBINING : Addr
  g_COMBINING : mg "COMBINING" = some (.ref D_COMBINING)
  tup_COMBINING : TupK K D_COMBINING ([(43 : Int), (45 : Int), (42 : Int), (60 : Int), (126 : Int)].map V.int)
  t_BRANCH : Tok
  c_BRANCH : mg "BRANCH" = some (.int 63 t_BRANCH)
  t_CALL : Tok
  c_CALL : mg "CALL" = some (.int 40 t_CALL)
  t_CALL_IF_DEFINED : Tok
  c_CALL_IF_DEFINED : mg "CALL_IF_DEFINED" = some (.int 36 t_CALL_IF_DEFINED)
  t_CELL : Tok
  c_CELL : mg "CELL" = some (.int 38 t_CELL)
  t_DROP : Tok
  c_DROP : mg "DROP" = some (.int 95 t_DROP)
  t_FIRST_FREE : Tok
  c_FIRST_FREE : mg "FIRST_FREE" = some (.int 200 t_FIRST_FREE)
  t_NOP : Tok
  c_NOP : mg "NOP" = some (.int 32 t_NOP)
  t_PUSH : Tok
  c_PUSH : mg "PUSH" = some (.int 35 t_PUSH)
  n_bool : mg "bool" = none
  n_int : mg "int" = none
  n_isinstance : mg "isinstance" = none
  n_len : mg "len" = none
  n_list : mg "list" = none
  n_min : mg "min" = none
  n_range : mg "range" = none
  n_sorted : mg "sorted" = none
  n_tuple : mg "tuple" = none

end K32

set_option Elab.async false
set_option linter.all false
set_option maxRecDepth 100000
set_option maxHeartbeats 4000000
set_option exponentiation.threshold 600
namespace K32
open PySem PySem.Spec PyProof.Rows L2 Evl Gd
/-! ### how expressions are evaluated, without a word of ours -/
local macro_rules | `(tactic| walk_at "ev") => `(tactic| exact ev_c)
local macro_rules | `(tactic| walk_at "ev") => `(tactic| exact ev_var rfl)
local macro_rules | `(tactic| walk_at "ev") => `(tactic| (refine' ev_op ?k1 ?k2 ?k3; (case k1 => walk_at "ev"); (case k2 => walk_at "ev"); (case k3 => walk_at "rv")))
local macro_rules | `(tactic| walk_at "ev") => `(tactic| (refine' ev_cb ?k1 ?k2; (case k1 => walk_at "ea"); (case k2 => walk_at "rc")))
local macro_rules | `(tactic| walk_at "ev") => `(tactic| (refine' ev_call ?k1 ?k2; (case k1 => walk_at "ea"); (case k2 => walk_at "sp")))
local macro_rules | `(tactic| walk_at "ev") => `(tactic| (refine' ev_chain ?k1 ?k2 ?k3 (fun _ => ?k4) (fun _ => ?k5); (case k1 => walk_at "ev"); (case k2 => walk_at "ev"); (case k3 => walk_at "rv"); (case k4 => walk_at "ev"); (case k5 => walk_at "rv")))
local macro_rules | `(tactic| walk_at "ev") => `(tactic| (refine' ev_orV ?k1 (fun _ => ?k2); (case k1 => walk_at "ev"); (case k2 => walk_at "ev")))
local macro_rules | `(tactic| walk_at "ev") => `(tactic| (refine' ev_andV ?k1 (fun _ => ?k2); (case k1 => walk_at "ev"); (case k2 => walk_at "ev")))
local macro_rules | `(tactic| walk_at "ev") => `(tactic| (refine' ev_notV ?k1; (case k1 => walk_at "ev")))
local macro_rules | `(tactic| walk_at "ea") => `(tactic| exact ea_nil)
local macro_rules | `(tactic| walk_at "ea") => `(tactic| (refine' ea_cons ?k1 ?k2; (case k1 => walk_at "ev"); (case k2 => walk_at "ea")))
local macro_rules | `(tactic| walk_at "rv") => `(tactic| exact rv_I0)
local macro_rules | `(tactic| walk_at "rv") => `(tactic| exact rv_eqI)
local macro_rules | `(tactic| walk_at "rv") => `(tactic| exact rv_neI)
local macro_rules | `(tactic| walk_at "rv") => `(tactic| exact rv_eqS)
local macro_rules | `(tactic| walk_at "rv") => `(tactic| exact rv_neS)
local macro_rules | `(tactic| walk_at "rv") => `(tactic| exact rv_mod (by decide))
local macro_rules | `(tactic| walk_at "rv") => `(tactic| exact rv_fdiv (by decide) (by decide))
local macro_rules | `(tactic| walk_at "rv") => `(tactic| exact rv_mulR (by decide))
local macro_rules | `(tactic| walk_at "rv") => `(tactic| exact rv_pow (by decide))
local macro_rules | `(tactic| walk_at "rc") => `(tactic| exact rc_int)
local macro_rules | `(tactic| walk_at "rc") => `(tactic| exact rc_ord)
local macro_rules | `(tactic| walk_at "et") => `(tactic| (refine' et_test ?k1; (case k1 => walk_at "ev")))
local macro_rules | `(tactic| walk_at "et") => `(tactic| (refine' et_B ?k1; (case k1 => walk_at "ev")))
local macro_rules | `(tactic| walk_at "et") => `(tactic| (refine' et_not ?k1; (case k1 => walk_at "et")))
local macro_rules | `(tactic| walk_at "et") => `(tactic| (refine' et_or ?k1 (fun _ => ?k2); (case k1 => walk_at "et"); (case k2 => walk_at "et")))
local macro_rules | `(tactic| walk_at "et") => `(tactic| (refine' et_and ?k1 (fun _ => ?k2); (case k1 => walk_at "et"); (case k2 => walk_at "et")))
section
variable {P : Program} {w : World} {K : PySem.W.Frag} {mg : Str → Option Value} {base : Heap}
/-! ### the draws -/
def sp_law_number (K : PySem.W.Frag) : Sp := fun vs H Q _ => ∃ c : Int, vs = [.int c] ∧ ∀ d : Int, RetV (.int (if c < 0 then 0 - c else c)) H Q
theorem v_law_number {c : Int} {H : Hp} : SpV (sp_law_number K) [.int c] H (.int (if c < 0 then 0 - c else c)) := fun _ _ _ q _ => ⟨c, rfl, fun _ => q⟩
theorem ok_law_number (T : Txt K mg) : FnOk P w K mg base CX0 1 T.f_law_number T.d_law_number ["cell"] (sp_law_number K) := by
  refine T.F_law_number.ok sc_law_number (fun vs H Q E h => ?_) (fun cdv A outer s H vs Q E hr h => ?_)
  · obtain ⟨c, rfl, _⟩ := h
    rfl
  · obtain ⟨c, rfl, k⟩ := h
    refine ⟨_, (pss_cons (ps_if (pt_cmpR op_lt (pv 0) pe_int (nomark _)) (pss_one (ps_ret (pe_op op_sub pe_int (pv 0)))) pss_nil)
        (pss_one (ps_ret (pv 0)))), ?_⟩
    have k := k 0
    refine q_when (b := decide (c < 0)) (by walk_at "et") (fun hb H1 e1 => ?_) (fun hb H1 e1 => ?_)
    · rw [if_pos (of_decide_eq_true hb)] at k
      exact s_ret (by walk_at "ev") fun H2 e2 => k H2 (e1.trans e2)
    · rw [if_neg (of_decide_eq_false hb)] at k
      exact s_ret (ev_var rfl) fun H2 e2 => k H2 (e1.trans e2)
def sp_law_draws (K : PySem.W.Frag) : Sp := fun vs H Q _ => ∃ (a : Addr) (ns : List Int), vs = [.ref a] ∧ SqL K H a (ns.map V.int) ∧ ns.length ≤ 63 ∧ ∀ p H2, H p = none → Ex H H2 → Drw p H2 → Q (.ref p) H2
theorem ok_law_draws (T : Txt K mg) : FnOk P w K mg base CX0 2 T.f_law_draws T.d_law_draws ["script"] (sp_law_draws K) := by
  refine T.F_law_draws.ok sc_law_draws (fun vs H Q E h => ?_) (fun cdv A outer s H vs Q E hr h => ?_)
  · obtain ⟨a, ns, rfl, _⟩ := h
    rfl
  · obtain ⟨a, ns, rfl, hS, hl, k⟩ := h
    refine ⟨_, (pss_cons (ps_set (i := 1) sc_law_draws.nd rfl (Or.inl rfl) (pe_lst pa_nil))
        (pss_cons (ps_set (i := 2) sc_law_draws.nd rfl (Or.inl rfl) pe_int)
        (pss_cons (ps_for PassesOwn.never rfl (pi_list (pv 0)) (pg_name (i := 3) sc_law_draws.nd rfl (Or.inl rfl)) (pss_cons (ps_set (i := 4) sc_law_draws.nd rfl (Or.inl rfl) (pe_call (ok_law_number T) (hr.mono (by decide)) (by rfl) T.g_law_number T.F_law_number.kp T.b_law_number .nil pass0 (pa_cons (pv 3) pa_nil)))
        (pss_cons (ps_set (i := 2) sc_law_draws.nd rfl (Or.inl rfl) (pe_op op_modN (pe_callTy call_int1 (by rfl) T.n_int (by decide +kernel) (pa_cons (pe_op op_add (pe_op op_mul (pv 2) pe_int) (pv 4)) pa_nil)) pe_int))
        (pss_one (ps_if (pt_cmpR op_ge (pv 4) pe_int (nomark _)) (pss_one (ps_for PassesOwn.never rfl (pi_range1 (by rfl) T.n_range (pa_cons pe_int pa_nil)) (pg_name (i := 5) sc_law_draws.nd rfl (Or.inl rfl)) (pss_cons (ps_if (pt_cmpR op_eq (pv 4) pe_int (nomark _)) (pss_one ps_break) pss_nil)
        (pss_cons (ps_expr (pe_bm PySem.F.plainAttrs_list PySem.F.slot_list_append PySem.F.type_list_append mt_append (pv 1) (pa_cons (pe_op op_modN (pe_callTy call_int1 (by rfl) T.n_int (by decide +kernel) (pa_cons (pv 4) pa_nil)) pe_int) pa_nil)))
        (pss_one (ps_set (i := 4) sc_law_draws.nd rfl (Or.inl rfl) (pe_op op_fdivN (pv 4) pe_int))))))) (pss_cons (ps_set (i := 6) sc_law_draws.nd rfl (Or.inl rfl) (pe_op op_modN (pe_callTy call_int1 (by rfl) T.n_int (by decide +kernel) (pa_cons (pe_op op_add (pe_op op_mul (pv 4) pe_int) pe_int) pa_nil)) pe_int))
        (pss_cons (ps_set (i := 7) sc_law_draws.nd rfl (Or.inl rfl) (pe_op op_modN (pe_callTy call_int1 (by rfl) T.n_int (by decide +kernel) (pa_cons (pe_op op_add (pe_op op_mul (pv 6) pe_int) (pv 4)) pa_nil)) pe_int))
        (pss_one (ps_expr (pe_bm PySem.F.plainAttrs_list PySem.F.slot_list_extend PySem.F.type_list_extend mt_extend (pv 1) (pa_cons (pe_lst (pa_cons (pe_op op_modN (pe_callTy call_int1 (by rfl) T.n_int (by decide +kernel) (pa_cons (pv 4) pa_nil)) pe_int) (pa_cons (pe_op op_modN (pe_callTy call_int1 (by rfl) T.n_int (by decide +kernel) (pa_cons (pv 6) pa_nil)) pe_int) (pa_cons (pe_op op_modN (pe_callTy call_int1 (by rfl) T.n_int (by decide +kernel) (pa_cons (pv 7) pa_nil)) pe_int) pa_nil)))) pa_nil)))))))))))
        (pss_cons (ps_for PassesOwn.never rfl (pi_range1 (by rfl) T.n_range (pa_cons pe_int pa_nil)) (pg_name (i := 5) sc_law_draws.nd rfl (Or.inl rfl)) (pss_cons (ps_set (i := 2) sc_law_draws.nd rfl (Or.inl rfl) (pe_op op_modN (pe_callTy call_int1 (by rfl) T.n_int (by decide +kernel) (pa_cons (pe_op op_add (pe_op op_mul (pv 2) pe_int) pe_int) pa_nil)) pe_int))
        (pss_one (ps_expr (pe_bm PySem.F.plainAttrs_list PySem.F.slot_list_append PySem.F.type_list_append mt_append (pv 1) (pa_cons (pe_op op_modN (pe_callTy call_int1 (by rfl) T.n_int (by decide +kernel) (pa_cons (pe_op op_fdivN (pv 2) pe_int) pa_nil)) pe_int) pa_nil))))))
        (pss_cons (ps_expr (pe_bm0 PySem.F.plainAttrs_list PySem.F.slot_list_reverse PySem.F.type_list_reverse mt_reverse (pv 1)))
        (pss_one (ps_ret (pv 1)))))))), ?_⟩
    refine q_asgL (el_lst ea_nil (by decide)) (fun p H1 hp e1 d1 => ?_)
    refine q_asg ev_c (fun H2 e2 => ?_)
    have hS2 := ex_l (e1.trans e2) hS
    refine q_forLn (ev_var rfl) hS2 (fun i σ' H' => Ex H H' ∧ ∃ (ds : List Int) (sd : Int) (y3 y4 y5 y6 y7 : Option V), H' p = some (.lst (ds.map V.int)) ∧ (∀ d ∈ ds, 0 ≤ d ∧ d < 1000) ∧ ds.length ≤ 60 * i ∧
      σ' = [some (.ref a), some (.ref p), some (.int sd), y3, y4, y5, y6, y7]) ?_ ?_ ?_ ?_
    · intro H3 e3
      exact ⟨e1.trans (e2.trans e3), [], 7, none, none, none, none, none, e3 _ _ (e2 _ _ d1), Small.nil.1, Nat.zero_le _, rfl⟩
    · rintro i σ' H' _ ⟨e3, _⟩
      exact ex_l e3 hS
    · rintro i x σ' H' hx ⟨e3, ds, sd, y3, y4, y5, y6, y7, hd, hs, hlen, rfl⟩
      obtain ⟨c, hc, rfl⟩ := map_at hx
      have hi : i < 63 := by
        have := (List.getElem?_eq_some_iff.mp hc).1
        omega
      refine q_asg (ev_call (ea_cons (ev_var rfl) ea_nil) v_law_number) (fun H4 e4 => ?_)
      generalize (if c < 0 then 0 - c else c) = rest
      refine q_asg (ev_op (ev_cb (ea_cons (ev_op (ev_op (ev_var rfl) ev_c (rv_mulR (by decide))) (ev_var rfl) rv_I0) ea_nil) rc_int) ev_c (rv_mod (by decide))) (fun H5 e5 => ?_)
      generalize (sd * 48271 + rest).fmod 2147483647 = sd
      refine s_if (b := decide (1000000000000000000 ≤ rest)) (by walk_at "et") (fun hb H6 e6 => ?_) (fun hb H6 e6 => ?_)
      · refine s_forR1 (n := 60) (ea_cons ev_c ea_nil) (by decide) (fun j σ' H' => Ex H H' ∧ ∃ (es : List Int) (rs : Int) (y5 : Option V), H' p = some (.lst (es.map V.int)) ∧ (∀ d ∈ es, 0 ≤ d ∧ d < 1000) ∧ es.length ≤ 60 * i + j ∧
          σ' = [some (.ref a), some (.ref p), some (.int sd), some (.int c), some (.int rs), y5, y6, y7]) ?_ ?_ ?_
        · intro H7 e7
          exact ⟨e3.trans (e4.trans (e5.trans (e6.trans e7))), ds, rest, y5, e7 _ _ (e6 _ _ (e5 _ _ (e4 _ _ hd))), hs, hlen, rfl⟩
        · rintro j σ' H' hj ⟨e7, es, rs, z5, he, hes, hel, rfl⟩
          refine q_when (b := decide (rs = 0)) (by walk_at "et") (fun hb H8 e8 => ?_) (fun hb H8 e8 => ?_)
          · exact ⟨e7.trans e8, es, sd, _, _, _, _, _, e8 _ _ he, hes, by omega, rfl⟩
          · refine q_app (e8 _ _ he) (ev_var rfl) (ev_op (ev_cb (ea_cons (ev_var rfl) ea_nil) rc_int) ev_c (rv_mod (by decide))) (by rw [List.length_map]; omega) (fun H9 e9 => ?_)
            refine s_asg (ev_op (ev_var rfl) ev_c (rv_fdiv (by decide) (by decide))) (fun H10 e10 => ?_)
            refine ⟨((Ex.mut ((e7.trans e8).trans e9) hp).trans e10), es ++ [rs.fmod 1000], rs.fdiv 1000, some (.int (j : Int)), ?_, Small.one hes (fmod_in rs (by decide)), by rw [List.length_append]; simp; omega, rfl⟩
            rw [List.map_append]
            exact e10 _ _ upd_same
        · rintro σ' H' ⟨e7, es, rs, z5, he, hes, hel, rfl⟩
          exact ⟨e7, es, sd, _, _, _, _, _, he, hes, by have : ((60 : Int).toNat) = 60 := rfl; omega, rfl⟩
      · refine q_asg (ev_op (ev_cb (ea_cons (ev_op (ev_op (ev_var rfl) ev_c (rv_mulR (by decide))) ev_c rv_I0) ea_nil) rc_int) ev_c (rv_mod (by decide))) (fun H7 e7 => ?_)
        refine q_asg (ev_op (ev_cb (ea_cons (ev_op (ev_op (ev_var rfl) ev_c (rv_mulR (by decide))) (ev_var rfl) rv_I0) ea_nil) rc_int) ev_c (rv_mod (by decide))) (fun H8 e8 => ?_)
        generalize (rest * 48271 + 11).fmod 2147483647 = once
        generalize (once * 69621 + rest).fmod 2147483629 = twice
        refine s_ext (xs := ds.map V.int) (e8 _ _ (e7 _ _ (e6 _ _ (e5 _ _ (e4 _ _ hd))))) (ev_var rfl) (el_lst (vs := [.int (rest.fmod 1000), .int (once.fmod 1000), .int (twice.fmod 1000)]) (ea_cons (ev_op (ev_cb (ea_cons (ev_var rfl) ea_nil) rc_int) ev_c (rv_mod (by decide))) (ea_cons (ev_op (ev_cb (ea_cons (ev_var rfl) ea_nil) rc_int) ev_c (rv_mod (by decide))) (ea_cons (ev_op (ev_cb (ea_cons (ev_var rfl) ea_nil) rc_int) ev_c (rv_mod (by decide))) ea_nil))) (by show 3 ≤ 100000; decide)) (by rw [List.length_map]; show ds.length + 3 ≤ 100000; omega) (fun H9 e9 => ?_)
        refine ⟨Ex.mut (e3.trans (e4.trans (e5.trans (e6.trans (e7.trans (e8.trans e9)))))) hp, ds ++ [rest.fmod 1000, once.fmod 1000, twice.fmod 1000], sd, _, _, _, _, _, ?_, Small.app hs ?_, ?_, rfl⟩
        · rw [List.map_append]
          exact upd_same
        · intro d hd'
          simp only [List.mem_cons, List.not_mem_nil, or_false] at hd'
          rcases hd' with rfl | rfl | rfl <;> exact fmod_in _ (by decide)
        · rw [List.length_append]
          show ds.length + 3 ≤ 60 * (i + 1)
          omega
    · rintro σ' H' ⟨e3, ds, sd, y3, y4, y5, y6, y7, hd, hs, hlen, rfl⟩
      rw [List.length_map] at hlen
      refine q_forR1 (n := 200) (ea_cons ev_c ea_nil) (by decide) (fun j σ' H' => Ex H H' ∧ ∃ (es : List Int) (sd : Int) (y5 : Option V), H' p = some (.lst (es.map V.int)) ∧ (∀ d ∈ es, 0 ≤ d ∧ d < 1000) ∧ es.length ≤ 60 * 63 + j ∧
          σ' = [some (.ref a), some (.ref p), some (.int sd), y3, y4, y5, y6, y7]) ?_ ?_ ?_
      · intro H4 e4
        exact ⟨e3.trans e4, ds, sd, y5, e4 _ _ hd, hs, by omega, rfl⟩
      · rintro j σ' H' hj ⟨e4, es, sd, z5, he, hes, hel, rfl⟩
        refine q_asg (ev_op (ev_cb (ea_cons (ev_op (ev_op (ev_var rfl) ev_c (rv_mulR (by decide))) ev_c rv_I0) ea_nil) rc_int) ev_c (rv_mod (by decide))) (fun H5 e5 => ?_)
        generalize (sd * 48271 + 12345).fmod 2147483647 = sd
        refine s_app (e5 _ _ he) (ev_var rfl) (ev_op (ev_cb (ea_cons (ev_op (ev_var rfl) ev_c (rv_fdiv (by decide) (by decide))) ea_nil) rc_int) ev_c (rv_mod (by decide))) (by rw [List.length_map]; omega) (fun H6 e6 => ?_)
        refine ⟨Ex.mut (e4.trans (e5.trans e6)) hp, es ++ [(sd.fdiv 7).fmod 1000], sd, some (.int (j : Int)), ?_, Small.one hes (fmod_in _ (by decide)), by rw [List.length_append]; simp; omega, rfl⟩
        rw [List.map_append]
        exact upd_same
      · rintro σ' H' ⟨e4, es, sd, z5, he, hes, hel, rfl⟩
        refine q_rev he (ev_var rfl) (fun H5 e5 => ?_)
        refine s_ret (ev_var rfl) (fun H6 e6 => k p H6 hp ((Ex.mut (e4.trans e5) hp).trans e6) ⟨es.reverse, ?_, fun d hd' => hes d (List.mem_reverse.mp hd'), ?_⟩)
        · rw [List.map_reverse]
          exact e6 _ _ upd_same
        · rw [List.length_reverse]
          have : ((200 : Int).toNat) = 200 := rfl
          omega
def sp_law_draw (K : PySem.W.Frag) : Sp := fun vs H Q _ => ∃ p : Addr, vs = [.ref p] ∧ Drw p H ∧ ∀ v H', DP p H (fun d => 0 ≤ d ∧ d < 1000) v H' → Q v H'
theorem ok_law_draw (T : Txt K mg) : FnOk P w K mg base CX0 1 T.f_law_draw T.d_law_draw ["draws"] (sp_law_draw K) := by
  refine T.F_law_draw.ok sc_law_draw (fun vs H Q E h => ?_) (fun cdv A outer s H vs Q E hr h => ?_)
  · obtain ⟨p, rfl, _⟩ := h
    rfl
  · obtain ⟨p, rfl, hD, k⟩ := h
    refine ⟨_, (pss_cons (ps_if (pt_truth (pv 0) (by intro _; rfl)) (pss_one (ps_ret (pe_bm0 PySem.F.plainAttrs_list PySem.F.slot_list_pop PySem.F.type_list_pop mt_pop (pv 0)))) pss_nil)
        (pss_one (ps_ret pe_int))), ?_⟩
    obtain ⟨ds, hd, hs, hlen⟩ := hD
    refine q_when (et_truL (K := K) (ev_var rfl) (sq_of hd)) (fun hb H1 e1 => ?_) (fun hb H1 e1 => ?_)
    · have hne : ds ≠ [] := by intro z; subst z; cases hb
      obtain ⟨es, d, rfl⟩ : ∃ es d, ds = es ++ [d] := ⟨ds.dropLast, ds.getLast hne, (List.dropLast_concat_getLast hne).symm⟩
      have hm : (es ++ [d]).map V.int = es.map V.int ++ [.int d] := by rw [List.map_append]; rfl
      rw [hm] at hd
      refine ⟨_, rfl, .inl ⟨rfl, _, sq_of (e1 _ _ hd)⟩, p, es.map V.int ++ [.int d], .int d, rfl, rfl, e1 _ _ hd, ?_, ?_⟩
      · rw [List.length_append]
        simp
      · have hd2 := hs d (List.mem_append_right _ (List.mem_singleton.mpr rfl))
        refine k _ _ ⟨d, rfl, hd2, ⟨es, ?_, fun x hx => hs x (List.mem_append_left _ hx), ?_⟩, but_mut (ex_but e1) rfl⟩
        · rw [List.dropLast_concat]
          exact upd_same
        · rw [List.length_append] at hlen
          omega
    · exact s_ret ev_c fun H2 e2 => k _ H2 ⟨0, rfl, by decide, ⟨ds, e2 _ _ (e1 _ _ hd), hs, hlen⟩, ex_but (e1.trans e2)⟩
theorem ep_draw {p : Addr} {i : Nat} {σ : L2.St} {H : Hp} (hi : σ[i]? = some (some (.ref p))) (hD : Drw p H) : EvP (tCall (sp_law_draw K) [] E0 (tCons (tVar i) tNil)) σ H (DP p H fun d => 0 ≤ d ∧ d < 1000) := fun Q q => ⟨_, hi, p, rfl, hD, q⟩
def sp_law_pick (K : PySem.W.Frag) : Sp := fun vs H Q _ => ∃ (p : Addr) (m : Int), vs = [.ref p, .int m] ∧ Drw p H ∧ 0 < m ∧ ∀ v H', DP p H (fun d => 0 ≤ d ∧ d < m) v H' → Q v H'
theorem ok_law_pick (T : Txt K mg) : FnOk P w K mg base CX0 2 T.f_law_pick T.d_law_pick ["draws", "many"] (sp_law_pick K) := by
  refine T.F_law_pick.ok sc_law_pick (fun vs H Q E h => ?_) (fun cdv A outer s H vs Q E hr h => ?_)
  · obtain ⟨p, m, rfl, _⟩ := h
    rfl
  · obtain ⟨p, m, rfl, hD, hm, k⟩ := h
    refine ⟨_, (pss_one (ps_ret (pe_op op_modN (pe_callTy call_int1 (by rfl) T.n_int (by decide +kernel) (pa_cons (pe_call (ok_law_draw T) (hr.mono (by decide)) (by rfl) T.g_law_draw T.F_law_draw.kp T.b_law_draw .nil pass0 (pa_cons (pv 0) pa_nil)) pa_nil)) (pv 1)))), ?_⟩
    refine ⟨_, rfl, p, rfl, hD, fun v H1 hv => ?_⟩
    obtain ⟨d, rfl, hd, hD1, b⟩ := hv
    refine .inl ⟨d, rfl, _, rfl, d, m, rfl, rfl, by omega, ?_⟩
    exact k _ H1 ⟨_, rfl, fmod_in d hm, hD1, b⟩
theorem ep_pick {p : Addr} {i : Nat} {m : Int} {σ : L2.St} {H : Hp} {tm : TE} (hi : σ[i]? = some (some (.ref p))) (hD : Drw p H) (hm : Ev tm σ H (.int m)) (h0 : 0 < m) : EvP (tCall (sp_law_pick K) [] E0 (tCons (tVar i) (tCons tm tNil))) σ H (DP p H fun d => 0 ≤ d ∧ d < m) := fun Q q =>
  ⟨_, hi, hm H (Ex.refl H) _ fun H2 e2 => ⟨p, m, rfl, hD.ex e2, h0, fun v H' ⟨d, hv, hd, hD', b⟩ => q v H' ⟨d, hv, hd, hD', (ex_but e2).trans b⟩⟩⟩
def sp_law_is_integer (K : PySem.W.Frag) : Sp := fun vs H Q _ => ∃ i : Int, vs = [.int i] ∧ RetV (.bl true) H Q
theorem v_law_is_integer {i : Int} {H : Hp} : SpV (sp_law_is_integer K) [.int i] H (.bl true) := fun _ _ _ q _ => ⟨i, rfl, q⟩
theorem ok_law_is_integer (T : Txt K mg) : FnOk P w K mg base CX0 1 T.f_law_is_integer T.d_law_is_integer ["actual"] (sp_law_is_integer K) := by
  refine T.F_law_is_integer.ok sc_law_is_integer (fun vs H Q E h => ?_) (fun cdv A outer s H vs Q E hr h => ?_)
  · obtain ⟨i, rfl, _⟩ := h
    rfl
  · obtain ⟨i, rfl, k⟩ := h
    refine ⟨_, (pss_one (ps_ret (pe_and (pe_callB call_isi (by rfl) T.n_isinstance (by decide +kernel) (pa_cons (pv 0) (pa_cons (pe_bltn (v := .ty "int") (by rfl) T.n_int (by decide +kernel) rfl) pa_nil))) (pe_one (pe_not (pe_callB call_isi (by rfl) T.n_isinstance (by decide +kernel) (pa_cons (pv 0) (pa_cons (pe_bltn (v := .ty "bool") (by rfl) T.n_bool (by decide +kernel) rfl) pa_nil)))))))), ?_⟩
    exact s_ret (v := .bl (true && !false)) (ev_andV (ev_cb (ea_cons (ev_var rfl) (ea_cons ev_c ea_nil)) rc_isInt) (fun _ => ev_notV (ev_cb (ea_cons (ev_var rfl) (ea_cons ev_c ea_nil)) rc_isIntB))) k
def sp_law_is_cells (K : PySem.W.Frag) : Sp := fun vs H Q _ => ∃ (p : Addr) (ns : List Int), vs = [.ref p] ∧ H p = some (.lst (ns.map V.int)) ∧ RetV (.bl true) H Q
theorem v_law_is_cells {p : Addr} {ns : List Int} {H : Hp} (h : H p = some (.lst (ns.map V.int))) : SpV (sp_law_is_cells K) [.ref p] H (.bl true) := fun _ e _ q _ => ⟨p, ns, rfl, e _ _ h, q⟩
theorem ok_law_is_cells (T : Txt K mg) : FnOk P w K mg base CX0 2 T.f_law_is_cells T.d_law_is_cells ["actual"] (sp_law_is_cells K) := by
  refine T.F_law_is_cells.ok sc_law_is_cells (fun vs H Q E h => ?_) (fun cdv A outer s H vs Q E hr h => ?_)
  · obtain ⟨p, ns, rfl, _⟩ := h
    rfl
  · obtain ⟨p, ns, rfl, hp, k⟩ := h
    refine ⟨_, (pss_cons (ps_if (pt_not (pt_val (pe_callB call_isi (by rfl) T.n_isinstance (by decide +kernel) (pa_cons (pv 0) (pa_cons (pe_bltn (v := .ty "list") (by rfl) T.n_list (by decide +kernel) rfl) pa_nil))))) (pss_one (ps_ret pe_bl)) pss_nil)
        (pss_cons (ps_for PassesOwn.never rfl (pi_list (pv 0)) (pg_name (i := 1) sc_law_is_cells.nd rfl (Or.inl rfl)) (pss_one (ps_if (pt_not (pt_val (pe_call (ok_law_is_integer T) (hr.mono (by decide)) (by rfl) T.g_law_is_integer T.F_law_is_integer.kp T.b_law_is_integer .nil pass0 (pa_cons (pv 1) pa_nil)))) (pss_one (ps_ret pe_bl)) pss_nil)))
        (pss_one (ps_ret pe_bl)))), ?_⟩
    refine q_when (b := !true) (et_not (et_B (ev_cb (ea_cons (ev_var rfl) (ea_cons ev_c ea_nil)) (rc_isList hp)))) (fun hb => nomatch hb) (fun _ H1 e1 => ?_)
    refine q_forLn (ev_var rfl) (sq_of (e1 _ _ hp)) (fun i σ' H' => Ex H H' ∧ ∃ y, σ' = [some (.ref p), y]) (fun H2 e2 => ⟨e1.trans e2, none, rfl⟩) (fun i σ' H' _ hq => sq_of (hq.1 _ _ hp)) ?_ ?_
    · rintro i x σ' H' hx ⟨e2, y, rfl⟩
      obtain ⟨c, hc, rfl⟩ := map_at hx
      exact s_when (b := !true) (et_not (et_B (ev_call (ea_cons (ev_var rfl) ea_nil) v_law_is_integer))) (fun hb => nomatch hb) (fun _ H3 e3 => ⟨e2.trans e3, _, rfl⟩)
    · rintro σ' H' ⟨e2, y, rfl⟩
      exact s_ret ev_c fun H3 e3 => k H3 (e2.trans e3)

def sp_nodes_of (K : PySem.W.Frag) : Sp := fun vs H Q _ => ∃ (a : Addr) (im : List Int), vs = [.ref a] ∧ SqL K H a (im.map V.int) ∧ im.length ≤ 60000 ∧ ∀ p xs H2, H p = none → Ex H H2 → H2 p = some (.lst xs) → DpAll K H2 xs ((rowsOf im).map rowD) → Q (.ref p) H2
theorem eld_nodes_of {te : TE} {σ : L2.St} {H : Hp} {a : Addr} {im : List Int} {E : XK} (h : Ev te σ H (.ref a)) (hS : SqL K H a (im.map V.int)) (hl : im.length ≤ 60000) : EvLD K (tCall (sp_nodes_of K) [] E (tCons te tNil)) σ H ((rowsOf im).map rowD) := fun H1 e Q q =>
  h H1 e _ fun H2 e2 => ⟨a, im, rfl, ex_l (e.trans e2) hS, hl, fun p xs H3 hp e3 h3 hd => q p xs H3 (fresh_back e2 hp) (e2.trans e3) h3 hd⟩
theorem ok_nodes_of (T : Txt K mg) : FnOk P w K mg base CX0 1 T.f_nodes_of T.d_nodes_of ["image"] (sp_nodes_of K) := by
  refine T.F_nodes_of.ok sc_nodes_of (fun vs H Q E h => ?_) (fun cdv A outer s H vs Q E hr h => ?_)
  · obtain ⟨a, im, rfl, _⟩ := h
    rfl
  · obtain ⟨a, im, rfl, hS, hl, k⟩ := h
    refine ⟨_, (pss_one (ps_ret (pe_lc (own := [("start", 1)]) (by rfl) sc_nodes_of.nd (pi_range3 (by rfl) T.n_range (pa_cons pe_int (pa_cons (pe_op op_sub (pe_callB call_len_seq (by rfl) T.n_len (by decide +kernel) (pa_cons (pv 0) pa_nil)) pe_int) (pa_cons pe_int pa_nil)))) (blkOk_by (own := [("start", 1)]) (N := N_nodes_of) (sc := defScope s_nodes_of) (by decide +kernel)) (fun _ _ _ _ _ => pg_name (i := 1) sc_nodes_of.nd rfl (Or.inl rfl)) (fun _ _ _ _ _ => pts_nil) (fun _ _ _ _ _ => (pe_callTy (Gd.call_tuple_ofK (K := K) rfl) (by rfl) T.n_tuple (by decide +kernel) (pa_cons (pe_slice (Gd.sl_listK (K := K) rfl) (pv 0) (po_some (pv 1)) (po_some (pe_op op_add (pv 1) pe_int))) pa_nil)))))), ?_⟩
    have hn : im.length / 4 = (rowsOf im).length := (rows_len im).symm
    have hlen : Ev (tCB (rLenS K) (tCons (tVar 0) tNil)) (L2.start N_nodes_of [.ref a]) H (.int ((im.map V.int).length : Int)) := ev_len (ev_var rfl) hS
    rw [List.length_map] at hlen
    refine s_retLD (K := K) (ds := givD (im.length / 4) (fun _ => true) fun i => rowD ((rowsOf im).getD i (0, 0, 0, 0))) (eld_lcC (ea_cons ev_c (ea_cons (ev_op hlen ev_c (rv_I0 (g := fun i j => .int (i - j)))) (ea_cons ev_c ea_nil))) (rgC4 im.length (by omega)) (by omega) (fun _ => rfl) (fun i hi => by
        unfold rowD
        rw [tupO]
        exact tupOs_at fun d m => by
          obtain ⟨z, _, rfl⟩ := List.mem_map.mp m
          rfl) (fun i hi H' e' => et_yes) (fun i hi _ H' e' => ?_)) (fun p xs H1 hp e1 h1 hd => k p xs H1 hp e1 h1 ?_)
    · have hi' : i < (rowsOf im).length := by omega
      have hg : (rowsOf im)[i]? = some ((rowsOf im).getD i (0, 0, 0, 0)) := by rw [List.getD_eq_getElem?_getD, List.getElem?_eq_getElem hi']; rfl
      have hr := rows_at im i _ hg
      generalize (rowsOf im).getD i (0, 0, 0, 0) = r at hr
      have e4 : (0 : Int) + ((i : Nat) : Int) * 4 = ((4 * i : Nat) : Int) := by omega
      rw [e4]
      have hc : cutV (im.map V.int) (some ((4 * i : Nat) : Int)) (some ((4 * i + 4 : Nat) : Int)) = (rowL r).map V.int := by
        rw [cut_ints, show 4 * i + 4 - 4 * i = 4 by omega, hr]
      refine ed_tupOfL (ed_L (xs := (rowL r).map V.int) ?_ (dpAll_ints _))
      rw [← hc]
      exact el_sl (ev_var rfl) (eo_some (ev_var rfl)) (eo_some (ev_op (z := .int ((4 * i + 4 : Nat) : Int)) (ev_var rfl) ev_c (by
        have : (((4 * i + 4 : Nat) : Int)) = ((4 * i : Nat) : Int) + 4 := by omega
        rw [this]
        exact rv_I0 (g := fun i j => .int (i + j))))) (ex_l e' hS)
    · have := filter_range_map (rowsOf im) (fun _ => true) rowD (0, 0, 0, 0)
      rw [Gd.filter_all] at this
      rw [← this, ← hn]
      exact hd


end
end K32

set_option Elab.async false
set_option linter.all false
set_option maxRecDepth 100000
set_option maxHeartbeats 4000000
set_option exponentiation.threshold 600
namespace K32
open PySem PySem.Spec PyProof.Rows L2 Evl Gd
/-! ### how expressions are evaluated, without a word of ours -/
local macro_rules | `(tactic| walk_at "ev") => `(tactic| exact ev_c)
local macro_rules | `(tactic| walk_at "ev") => `(tactic| exact ev_var rfl)
local macro_rules | `(tactic| walk_at "ev") => `(tactic| (refine' ev_op ?k1 ?k2 ?k3; (case k1 => walk_at "ev"); (case k2 => walk_at "ev"); (case k3 => walk_at "rv")))
local macro_rules | `(tactic| walk_at "ev") => `(tactic| (refine' ev_cb ?k1 ?k2; (case k1 => walk_at "ea"); (case k2 => walk_at "rc")))
local macro_rules | `(tactic| walk_at "ev") => `(tactic| (refine' ev_call ?k1 ?k2; (case k1 => walk_at "ea"); (case k2 => walk_at "sp")))
local macro_rules | `(tactic| walk_at "ev") => `(tactic| (refine' ev_chain ?k1 ?k2 ?k3 (fun _ => ?k4) (fun _ => ?k5); (case k1 => walk_at "ev"); (case k2 => walk_at "ev"); (case k3 => walk_at "rv"); (case k4 => walk_at "ev"); (case k5 => walk_at "rv")))
local macro_rules | `(tactic| walk_at "ev") => `(tactic| (refine' ev_orV ?k1 (fun _ => ?k2); (case k1 => walk_at "ev"); (case k2 => walk_at "ev")))
local macro_rules | `(tactic| walk_at "ev") => `(tactic| (refine' ev_andV ?k1 (fun _ => ?k2); (case k1 => walk_at "ev"); (case k2 => walk_at "ev")))
local macro_rules | `(tactic| walk_at "ev") => `(tactic| (refine' ev_notV ?k1; (case k1 => walk_at "ev")))
local macro_rules | `(tactic| walk_at "ea") => `(tactic| exact ea_nil)
local macro_rules | `(tactic| walk_at "ea") => `(tactic| (refine' ea_cons ?k1 ?k2; (case k1 => walk_at "ev"); (case k2 => walk_at "ea")))
local macro_rules | `(tactic| walk_at "rv") => `(tactic| exact rv_I0)
local macro_rules | `(tactic| walk_at "rv") => `(tactic| exact rv_eqI)
local macro_rules | `(tactic| walk_at "rv") => `(tactic| exact rv_neI)
local macro_rules | `(tactic| walk_at "rv") => `(tactic| exact rv_eqS)
local macro_rules | `(tactic| walk_at "rv") => `(tactic| exact rv_neS)
local macro_rules | `(tactic| walk_at "rv") => `(tactic| exact rv_mod (by decide))
local macro_rules | `(tactic| walk_at "rv") => `(tactic| exact rv_fdiv (by decide) (by decide))
local macro_rules | `(tactic| walk_at "rv") => `(tactic| exact rv_mulR (by decide))
local macro_rules | `(tactic| walk_at "rv") => `(tactic| exact rv_pow (by decide))
local macro_rules | `(tactic| walk_at "rc") => `(tactic| exact rc_int)
local macro_rules | `(tactic| walk_at "rc") => `(tactic| exact rc_ord)
local macro_rules | `(tactic| walk_at "et") => `(tactic| (refine' et_test ?k1; (case k1 => walk_at "ev")))
local macro_rules | `(tactic| walk_at "et") => `(tactic| (refine' et_B ?k1; (case k1 => walk_at "ev")))
local macro_rules | `(tactic| walk_at "et") => `(tactic| (refine' et_not ?k1; (case k1 => walk_at "et")))
local macro_rules | `(tactic| walk_at "et") => `(tactic| (refine' et_or ?k1 (fun _ => ?k2); (case k1 => walk_at "et"); (case k2 => walk_at "et")))
local macro_rules | `(tactic| walk_at "et") => `(tactic| (refine' et_and ?k1 (fun _ => ?k2); (case k1 => walk_at "et"); (case k2 => walk_at "et")))
section
variable {P : Program} {w : World} {K : PySem.W.Frag} {mg : Str → Option Value} {base : Heap}
def fixI (x : Int) : Bool := decide (0 ≤ x) && decide (x < 200)
def sp_is_capital (K : PySem.W.Frag) : Sp := fun vs H Q _ => ∃ c : Int, vs = [.int c] ∧ RetV (.bl (isCp c)) H Q
theorem v_is_capital {c : Int} {H : Hp} : SpV (sp_is_capital K) [.int c] H (.bl (isCp c)) := fun _ _ _ q _ => ⟨c, rfl, q⟩
theorem ok_is_capital (T : Txt K mg) : FnOk P w K mg base CX0 1 T.f_is_capital T.d_is_capital ["code"] (sp_is_capital K) := by
  refine T.F_is_capital.ok sc_is_capital (fun vs H Q E h => ?_) (fun cdv A outer s H vs Q E hr h => ?_)
  · obtain ⟨c, rfl, _⟩ := h
    rfl
  · obtain ⟨c, rfl, k⟩ := h
    refine ⟨_, (pss_one (ps_ret (pe_chain op_le op_le pe_int (pv 0) pe_int))), ?_⟩
    exact s_ret (v := .bl (isCp c)) (by walk_at "ev") k
def sp_is_small (K : PySem.W.Frag) : Sp := fun vs H Q _ => ∃ c : Int, vs = [.int c] ∧ RetV (.bl (isSm c)) H Q
theorem v_is_small {c : Int} {H : Hp} : SpV (sp_is_small K) [.int c] H (.bl (isSm c)) := fun _ _ _ q _ => ⟨c, rfl, q⟩
theorem ok_is_small (T : Txt K mg) : FnOk P w K mg base CX0 1 T.f_is_small T.d_is_small ["code"] (sp_is_small K) := by
  refine T.F_is_small.ok sc_is_small (fun vs H Q E h => ?_) (fun cdv A outer s H vs Q E hr h => ?_)
  · obtain ⟨c, rfl, _⟩ := h
    rfl
  · obtain ⟨c, rfl, k⟩ := h
    refine ⟨_, (pss_one (ps_ret (pe_chain op_le op_le pe_int (pv 0) pe_int))), ?_⟩
    exact s_ret (v := .bl (isSm c)) (by walk_at "ev") k
def sp_is_fixed (K : PySem.W.Frag) : Sp := fun vs H Q _ => ∃ x : Int, vs = [.int x] ∧ RetV (.bl (fixI x)) H Q
theorem v_is_fixed {x : Int} {H : Hp} : SpV (sp_is_fixed K) [.int x] H (.bl (fixI x)) := fun _ _ _ q _ => ⟨x, rfl, q⟩
theorem ok_is_fixed (T : Txt K mg) : FnOk P w K mg base CX0 1 T.f_is_fixed T.d_is_fixed ["number"] (sp_is_fixed K) := by
  refine T.F_is_fixed.ok sc_is_fixed (fun vs H Q E h => ?_) (fun cdv A outer s H vs Q E hr h => ?_)
  · obtain ⟨x, rfl, _⟩ := h
    rfl
  · obtain ⟨x, rfl, k⟩ := h
    refine ⟨_, (pss_one (ps_ret (pe_chain op_le op_lt pe_int (pv 0) (pe_glob (v := .int 200) (by rfl) T.c_FIRST_FREE ⟨_, rfl⟩)))), ?_⟩
    exact s_ret (ev_chain ev_c (ev_var rfl) rv_I0 (fun _ => ev_c) (fun _ => rv_I0)) k

def ACTC : List Int := [35, 43, 45, 42, 60, 126, 64, 33, 61, 44, 94, 46, 38, 95, 34, 92, 63, 40, 36, 41]
def opB (c : Int) : Bool := decide (c ∈ ACTC) || (isSm c || isCp c)
def sp_is_operation (K : PySem.W.Frag) : Sp := fun vs H Q _ => ∃ c : Int, vs = [.int c] ∧ RetV (.bl (opB c)) H Q
theorem v_is_operation {c : Int} {H : Hp} : SpV (sp_is_operation K) [.int c] H (.bl (opB c)) := fun _ _ _ q _ => ⟨c, rfl, q⟩
theorem ok_is_operation (T : Txt K mg) : FnOk P w K mg base CX0 2 T.f_is_operation T.d_is_operation ["code"] (sp_is_operation K) := by
  refine T.F_is_operation.ok sc_is_operation (fun vs H Q E h => ?_) (fun cdv A outer s H vs Q E hr h => ?_)
  · obtain ⟨c, rfl, _⟩ := h
    rfl
  · obtain ⟨c, rfl, k⟩ := h
    refine ⟨_, (pss_one (ps_ret (pe_or (pe_cmpR (op_in_it T.tab_ACTIONS) (pv 0) (pe_glob (v := .ref T.D_ACTIONS) (by rfl) T.g_ACTIONS rfl) (by rfl)) (pe_or (pe_call (ok_is_small T) (hr.mono (by decide)) (by rfl) T.g_is_small T.F_is_small.kp T.b_is_small .nil pass0 (pa_cons (pv 0) pa_nil)) (pe_one (pe_call (ok_is_capital T) (hr.mono (by decide)) (by rfl) T.g_is_capital T.F_is_capital.kp T.b_is_capital .nil pass0 (pa_cons (pv 0) pa_nil))))))), ?_⟩
    refine s_ret (v := .bl (opB c)) ?_ k
    refine ev_orV (a := decide (c ∈ ACTC)) (b := isSm c || isCp c) ?_ (fun _ => ev_orV (ev_call (ea_cons (ev_var rfl) ea_nil) v_is_small) (fun _ => ev_call (ea_cons (ev_var rfl) ea_nil) v_is_capital))
    refine ev_op (ev_var rfl) ev_c (fun H1 _ Q q => ⟨c, rfl, rfl, ?_⟩)
    rw [lookup_isSome]
    exact q H1 (Ex.refl H1)
def nopF (im : List Int) (k : Int) : Bool := match nodeAt im k with | none => false | some n => !opB n.1
def sp_is_nop (K : PySem.W.Frag) : Sp := fun vs H Q _ => ∃ (t : Addr) (im : List Int) (k : Int), vs = [.ref t, .int k] ∧ Tb K H t im ∧ RetV (.bl (nopF im k)) H Q
theorem ok_is_nop (T : Txt K mg) : FnOk P w K mg base CX0 3 T.f_is_nop T.d_is_nop ["table", "number"] (sp_is_nop K) := by
  refine T.F_is_nop.ok sc_is_nop (fun vs H Q E h => ?_) (fun cdv A outer s H vs Q E hr h => ?_)
  · obtain ⟨t, im, n, rfl, _⟩ := h
    rfl
  · obtain ⟨t, im, x, rfl, hT, k⟩ := h
    refine ⟨_, (pss_one (ps_ret (pe_and (pe_cmp (pc_din (hu_of hr) (pv 1) (pv 0))) (pe_one (pe_not (pe_call (ok_is_operation T) (hr.mono (by decide)) (by rfl) T.g_is_operation T.F_is_operation.kp T.b_is_operation .nil pass0 (pa_cons (pe_ix ix_tup (pe_dget (hu_of hr) (pv 0) (pv 1) (fun _ _ => rfl)) pe_int (fun _ _ => rfl)) pa_nil))))))), ?_⟩
    refine s_ret (v := .bl (nopF im x)) ?_ k
    have hin := ev_inTb (K := K) (H := H) (σ := L2.start N_is_nop [.ref t, .int x]) (td := tVar 0) (ty := tVar 1) (ev_var rfl) (fun _ _ => ev_var rfl) hT
    unfold nopF
    cases hn : nodeAt im x with
    | none =>
      rw [hn] at hin
      exact ev_andV (a := false) (b := false) hin (fun h => nomatch h)
    | some n =>
      rw [hn] at hin
      refine ev_andV (a := true) (b := !opB n.1) hin (fun _ => ?_)
      exact ev_notV (ev_call (ea_cons (ev_tbI 0 rfl (ev_var rfl) (fun _ _ => ev_var rfl) hT hn) ea_nil) v_is_operation)
theorem v_is_nop {t : Addr} {im : List Int} {x : Int} {H : Hp} (h : Tb K H t im) : SpV (sp_is_nop K) [.ref t, .int x] H (.bl (nopF im x)) := fun _ e _ q _ => ⟨t, im, x, rfl, h.up e, q⟩
def sp_table_of (K : PySem.W.Frag) : Sp := fun vs H Q _ => ∃ (a : Addr) (im : List Int), vs = [.ref a] ∧ SqL K H a (im.map V.int) ∧ im.length ≤ 60000 ∧ ∀ t kvs H2, H t = none → Ex H H2 → H2 t = some (.dK kvs) → TabT K H2 kvs (nodeAt im) → kvs.map (·.1) = (keysOf (rowsOf im)).map Sum.inl → Q (.ref t) H2
theorem ok_table_of (T : Txt K mg) : FnOk P w K mg base CX0 2 T.f_table_of T.d_table_of ["image"] (sp_table_of K) := by
  refine T.F_table_of.ok sc_table_of (fun vs H Q E h => ?_) (fun cdv A outer s H vs Q E hr h => ?_)
  · obtain ⟨a, im, rfl, _⟩ := h
    rfl
  · obtain ⟨a, im, rfl, hS, hl, k⟩ := h
    refine ⟨_, (pss_one (ps_ret (pe_dc (own := [("node", 1)]) (by rfl) sc_table_of.nd (pi_list (pe_call (ok_nodes_of T) (hr.mono (by decide)) (by rfl) T.g_nodes_of T.F_nodes_of.kp T.b_nodes_of .nil pass0 (pa_cons (pv 0) pa_nil))) (blkOk_by (own := [("node", 1)]) (N := N_table_of) (sc := defScope s_table_of) (by decide +kernel)) (fun _ _ _ _ _ => pg_name (i := 1) sc_table_of.nd rfl (Or.inl rfl)) (fun _ _ _ _ _ => pts_nil) (fun _ _ _ _ _ => (pe_ix (Gd.ix_tupK (K := K) rfl) (pv 1) pe_int (fun _ _ => rfl))) (fun _ _ _ _ _ => (pe_slice (Gd.sl_tupK (K := K) rfl) (pv 1) (po_some pe_int) po_none))))), ?_⟩
    refine s_retP (P := fun v H' => ∃ Dt kvs, v = .ref Dt ∧ H Dt = none ∧ Ex H H' ∧ H' Dt = some (.dK kvs) ∧ TabT K H' kvs (nodeAt im) ∧ kvs.map (·.1) = (keysOf (rowsOf im)).map Sum.inl) (ep_dcLD (K := K) (eld_nodes_of (ev_var rfl) hS hl) fun ar rs H4 nar e4 r2 d2 Dt nDt => ?_) (fun v H5 h5 => ?_)
    · have hlen : rs.length = (rowsOf im).length := by rw [dpAll_len d2, List.length_map]
      refine ⟨fun i H' => Ex H4 H' ∧ ∃ kvs, H' Dt = some (.dK kvs) ∧ kvs.length ≤ i ∧ TabT K H' kvs (nodeIn ((rowsOf im).take i)) ∧ kvs.map (·.1) = (keysOf ((rowsOf im).take i)).map Sum.inl, ⟨Ex.new nDt, [], upd_same, Nat.le_refl _, fun k => rfl, rfl⟩, fun i H' _ p => sq_of (p.1 _ _ r2), fun i v H6 hv p => ?_, fun H5 p => ?_⟩
      · obtain ⟨p1, kvs, p2, p3, p4, p5⟩ := p
        have hi' : i < (rowsOf im).length := by rw [← hlen]; exact (List.getElem?_eq_some_iff.mp hv).1
        have hlz : (rowsOf im).length ≤ 60000 := by rw [rows_len]; omega
        obtain ⟨w, hw, hd⟩ := dpAll_at (d2.ex p1) (i := i) (d := rowD ((rowsOf im)[i])) (by rw [List.getElem?_map, List.getElem?_eq_getElem hi']; rfl)
        rw [hv] at hw
        cases hw
        have hrow : (rowsOf im)[i]? = some (rowsOf im)[i] := List.getElem?_eq_getElem hi'
        generalize (rowsOf im)[i] = r at hd hrow
        obtain ⟨t, rfl, ht⟩ := dp_intsT_inv (ns := rowL r) hd
        refine ⟨rfl, ?_⟩
        dsimp only [tYes]
        rw [if_pos rfl]
        refine go_ev (v := .int r.1) (ev_op (ev_var rfl) ev_c (rv_ixT (i := 0) ht rfl)) fun H7 e7 => ?_
        refine go_ed (K := K) (ed_slT (ds := (rowL r).map PyData.int) (lo := some 1) (hi := none) (by show ¬(1 = 0 ∧ _); omega) (ed_ev (ev_var rfl) (dp_intsT (ex_t e7 ht))) (eo_some ev_c) eo_none) fun v H8 e8 hd8 => ?_
        obtain ⟨t2, rfl, ht2⟩ := dp_intsT_inv (ns := ndL r.2) hd8
        have hD8 : H8 Dt = some (.dK kvs) := e8 _ _ (e7 _ _ p2)
        refine ⟨kvs, Sum.inl r.1, rfl, hD8, sz_lt (by omega), ?_, putK kvs (Sum.inl r.1) (.ref t2), upd_same, ?_, ?_, ?_⟩
        · exact (p1.trans (e7.trans e8)).mut nDt
        · have := length_putK kvs (Sum.inl r.1) (V.ref t2)
          omega
        · have h1 := tab_step (p4.ex (e7.trans e8)) hrow ht2
          have h2 : Bu [Dt] H8 (upd H8 Dt (.dK (putK kvs (Sum.inl r.1) (.ref t2)))) := (Bu.refl).upd (.inl (List.mem_singleton.mpr rfl))
          intro k
          have := h1 k
          cases q : nodeIn ((rowsOf im).take (i + 1)) k with
          | none => rw [q] at this; exact this
          | some n =>
            rw [q] at this
            obtain ⟨p, g1, g2⟩ := this
            exact ⟨p, g1, sqT_bu h2 (fun c m => by rw [List.mem_singleton.mp m]; exact ⟨_, hD8, nt_dK⟩) g2⟩
        · rw [keys_snoc hrow]
          exact putK_keys p5 r.1 _
      · obtain ⟨p1, kvs, p2, p3, p4, p5⟩ := p
        rw [hlen, List.take_length] at p4 p5
        exact ⟨Dt, kvs, rfl, fresh_back e4 nDt, e4.trans p1, p2, p4, p5⟩
    · obtain ⟨Dt, kvs, rfl, nDt, e5, p2, p4, p5⟩ := h5
      exact k Dt kvs H5 nDt e5 p2 p4 p5


end
end K32

set_option Elab.async false
set_option linter.all false
set_option maxRecDepth 100000
set_option maxHeartbeats 4000000
set_option exponentiation.threshold 600
namespace K32
open PySem PySem.Spec PyProof.Rows L2 Evl Gd
/-! ### how expressions are evaluated, without a word of ours -/
local macro_rules | `(tactic| walk_at "ev") => `(tactic| exact ev_c)
local macro_rules | `(tactic| walk_at "ev") => `(tactic| exact ev_var rfl)
local macro_rules | `(tactic| walk_at "ev") => `(tactic| (refine' ev_op ?k1 ?k2 ?k3; (case k1 => walk_at "ev"); (case k2 => walk_at "ev"); (case k3 => walk_at "rv")))
local macro_rules | `(tactic| walk_at "ev") => `(tactic| (refine' ev_cb ?k1 ?k2; (case k1 => walk_at "ea"); (case k2 => walk_at "rc")))
local macro_rules | `(tactic| walk_at "ev") => `(tactic| (refine' ev_call ?k1 ?k2; (case k1 => walk_at "ea"); (case k2 => walk_at "sp")))
local macro_rules | `(tactic| walk_at "ev") => `(tactic| (refine' ev_chain ?k1 ?k2 ?k3 (fun _ => ?k4) (fun _ => ?k5); (case k1 => walk_at "ev"); (case k2 => walk_at "ev"); (case k3 => walk_at "rv"); (case k4 => walk_at "ev"); (case k5 => walk_at "rv")))
local macro_rules | `(tactic| walk_at "ev") => `(tactic| (refine' ev_orV ?k1 (fun _ => ?k2); (case k1 => walk_at "ev"); (case k2 => walk_at "ev")))
local macro_rules | `(tactic| walk_at "ev") => `(tactic| (refine' ev_andV ?k1 (fun _ => ?k2); (case k1 => walk_at "ev"); (case k2 => walk_at "ev")))
local macro_rules | `(tactic| walk_at "ev") => `(tactic| (refine' ev_notV ?k1; (case k1 => walk_at "ev")))
local macro_rules | `(tactic| walk_at "ea") => `(tactic| exact ea_nil)
local macro_rules | `(tactic| walk_at "ea") => `(tactic| (refine' ea_cons ?k1 ?k2; (case k1 => walk_at "ev"); (case k2 => walk_at "ea")))
local macro_rules | `(tactic| walk_at "rv") => `(tactic| exact rv_I0)
local macro_rules | `(tactic| walk_at "rv") => `(tactic| exact rv_eqI)
local macro_rules | `(tactic| walk_at "rv") => `(tactic| exact rv_neI)
local macro_rules | `(tactic| walk_at "rv") => `(tactic| exact rv_eqS)
local macro_rules | `(tactic| walk_at "rv") => `(tactic| exact rv_neS)
local macro_rules | `(tactic| walk_at "rv") => `(tactic| exact rv_mod (by decide))
local macro_rules | `(tactic| walk_at "rv") => `(tactic| exact rv_fdiv (by decide) (by decide))
local macro_rules | `(tactic| walk_at "rv") => `(tactic| exact rv_mulR (by decide))
local macro_rules | `(tactic| walk_at "rv") => `(tactic| exact rv_pow (by decide))
local macro_rules | `(tactic| walk_at "rc") => `(tactic| exact rc_int)
local macro_rules | `(tactic| walk_at "rc") => `(tactic| exact rc_ord)
local macro_rules | `(tactic| walk_at "et") => `(tactic| (refine' et_test ?k1; (case k1 => walk_at "ev")))
local macro_rules | `(tactic| walk_at "et") => `(tactic| (refine' et_B ?k1; (case k1 => walk_at "ev")))
local macro_rules | `(tactic| walk_at "et") => `(tactic| (refine' et_not ?k1; (case k1 => walk_at "et")))
local macro_rules | `(tactic| walk_at "et") => `(tactic| (refine' et_or ?k1 (fun _ => ?k2); (case k1 => walk_at "et"); (case k2 => walk_at "et")))
local macro_rules | `(tactic| walk_at "et") => `(tactic| (refine' et_and ?k1 (fun _ => ?k2); (case k1 => walk_at "et"); (case k2 => walk_at "et")))
section
variable {P : Program} {w : World} {K : PySem.W.Frag} {mg : Str → Option Value} {base : Heap}
/-! ### least, the callable numbers, what follows -/
def sp_least (K : PySem.W.Frag) : Sp := fun vs H Q _ => ∃ (a : Addr) (ns : List Int) (v : Int), vs = [.ref a] ∧ SqL K H a (ns.map V.int) ∧ ns.length ≤ 40000 ∧ ns ≠ [] ∧ Least fixI (fun y => y ∈ ns) v ∧ RetV (.int v) H Q
theorem ok_least (T : Txt K mg) : FnOk P w K mg base CX0 2 T.f_least T.d_least ["numbers"] (sp_least K) := by
  refine T.F_least.ok sc_least (fun vs H Q E h => ?_) (fun cdv A outer s H vs Q E hr h => ?_)
  · obtain ⟨a, ns, v, rfl, _⟩ := h
    rfl
  · obtain ⟨a, ns, v, rfl, hS, hl, hne, hv, k⟩ := h
    refine ⟨_, (pss_cons (ps_setLc (i := 1) (own := [("number", 2)]) (by rfl) sc_least.nd rfl rfl (sw_true rfl rfl rfl (by decide +kernel)) (pi_list (pv 0)) (blkOk_by (own := [("number", 2)]) (N := N_least) (sc := defScope s_least) (by decide +kernel)) (fun _ _ _ _ _ => pg_name (i := 2) sc_least.nd rfl (Or.inl rfl)) (fun _ _ _ _ _ => (pts_one (pt_val (pe_call (ok_is_fixed T) (hr.mono (by decide)) (by rfl) T.g_is_fixed T.F_is_fixed.kp T.b_is_fixed .nil pass0 (pa_cons (pv 2) pa_nil))))) (fun _ _ _ _ _ => (pv 2)))
        (pss_one (ps_ret (pe_callB (cr_min rfl) (by rfl) T.n_min (by decide +kernel) (pa_cons (pe_orT (pv 1) (pe_one (pv 0))) pa_nil))))), ?_⟩
    refine q_asgL (xs := (ns.filter fixI).map V.int) ?_ (fun q H1 nq e1 hq => ?_)
    · rw [← given_filter]
      have := el_lcL (K := K) (σ := L2.start N_least [.ref a]) (H := H) (j := 2) (vs := [2]) (te := tVar 2) (tl := tVar 0) (t := fun σ H Q => tCall (sp_is_fixed K) [] E0 (tCons (tVar 2) tNil) σ H fun x H1 => ∃ b, x = .bl b ∧ Q b H1) (fun i => fixI (ns.getD i 0)) (fun i => V.int (ns.getD i 0)) (ev_var rfl) hS (by rw [List.length_map]; exact hl) (fun _ => rfl) (fun i x H1 e hx => ?_) (fun i x H1 e hx _ => ?_)
      · rw [List.length_map] at this
        exact this
      · obtain ⟨y, hy, rfl⟩ := map_at hx
        have hg : ns.getD i 0 = y := by rw [List.getD_eq_getElem?_getD, hy]; rfl
        rw [hg]
        exact et_B (ev_call (ea_cons (ev_var rfl) ea_nil) v_is_fixed)
      · obtain ⟨y, hy, rfl⟩ := map_at hx
        have hg : ns.getD i 0 = y := by rw [List.getD_eq_getElem?_getD, hy]; rfl
        rw [hg]
        exact ev_var rfl
    have hS1 := ex_l e1 hS
    by_cases c : ∃ y, y ∈ ns ∧ fixI y = true
    · obtain ⟨h1, h2, h3⟩ := hv.1 c
      have hm : v ∈ ns.filter fixI := List.mem_filter.mpr ⟨h1, h2⟩
      refine s_ret (ev_min (ns := ns.filter fixI) (ev_orL (a := q) (xs := (ns.filter fixI).map V.int) (ev_var rfl) (sq_of hq) (fun _ => rfl) (fun z => ?_)) (sq_of hq) hm (fun y hy => h3 y (List.mem_filter.mp hy).1 (List.mem_filter.mp hy).2)) fun H2 e2 => k H2 (e1.trans e2)
      rw [List.map_eq_nil_iff] at z
      rw [z] at hm
      cases hm
    · obtain ⟨h1, h2⟩ := hv.2 c
      refine s_ret (ev_min (ns := ns) (a := a) (ev_orL (a := q) (xs := (ns.filter fixI).map V.int) (ev_var rfl) (sq_of hq) (fun z => ?_) (fun _ => ev_var rfl)) hS1 h1 h2) fun H2 e2 => k H2 (e1.trans e2)
      exfalso
      apply z
      rw [List.map_eq_nil_iff, List.filter_eq_nil_iff]
      exact fun y hy hf => c ⟨y, hy, hf⟩
def callM (im : List Int) : List Int := ((List.range 199).filter fun (i : Nat) => (nodeAt im ((i : Int) + 1)).isSome).map fun (i : Nat) => (i : Int) + 1
theorem call_given (im : List Int) : given 199 (fun i => (nodeAt im (1 + (i : Int))).isSome) (fun i => V.int (1 + (i : Int))) = (callM im).map V.int := by
  unfold given callM
  rw [List.map_map]
  have h1 : (fun i : Nat => (nodeAt im (1 + (i : Int))).isSome) = fun i : Nat => (nodeAt im ((i : Int) + 1)).isSome := funext fun i => by rw [Int.add_comm]
  have h2 : (fun i : Nat => V.int (1 + (i : Int))) = V.int ∘ fun i : Nat => (i : Int) + 1 := funext fun i => by show _ = V.int ((i : Int) + 1); rw [Int.add_comm]
  rw [h1, h2]
theorem callM_len (im : List Int) : (callM im).length ≤ 199 := by
  unfold callM
  rw [List.length_map]
  have h := List.length_filter_le (fun i : Nat => (nodeAt im ((i : Int) + 1)).isSome) (List.range 199)
  rw [List.length_range] at h
  exact h
def sp_callable (K : PySem.W.Frag) : Sp := fun vs H Q _ => ∃ (t : Addr) (im : List Int), vs = [.ref t] ∧ Tb K H t im ∧ RetL ((callM im).map V.int) H Q
theorem l_callable {t : Addr} {im : List Int} {H : Hp} (h : Tb K H t im) : SpL (sp_callable K) [.ref t] H ((callM im).map V.int) := fun _ e _ q _ => ⟨t, im, rfl, h.up e, q⟩
theorem ok_callable (T : Txt K mg) : FnOk P w K mg base CX0 1 T.f_callable T.d_callable ["table"] (sp_callable K) := by
  refine T.F_callable.ok sc_callable (fun vs H Q E h => ?_) (fun cdv A outer s H vs Q E hr h => ?_)
  · obtain ⟨t, im, rfl, _⟩ := h
    rfl
  · obtain ⟨t, im, rfl, hT, k⟩ := h
    refine ⟨_, (pss_one (ps_ret (pe_lc (own := [("number", 1)]) (by rfl) sc_callable.nd (pi_range2 (by rfl) T.n_range (pa_cons pe_int (pa_cons (pe_glob (v := .int 200) (by rfl) T.c_FIRST_FREE ⟨_, rfl⟩) pa_nil))) (blkOk_by (own := [("number", 1)]) (N := N_callable) (sc := defScope s_callable) (by decide +kernel)) (fun _ _ _ _ _ => pg_name (i := 1) sc_callable.nd rfl (Or.inl rfl)) (fun _ _ _ _ _ => (pts_one (pt_cmp (pc_din (hu_of hr) (pv 1) (pv 0))))) (fun _ _ _ _ _ => (pv 1))))), ?_⟩
    refine s_retL (xs := (callM im).map V.int) ?_ k
    rw [← call_given]
    exact el_lcR2 (lo := 1) (n := 199) (fun i => (nodeAt im (1 + (i : Int))).isSome) (fun i => V.int (1 + (i : Int))) (ea_cons ev_c (ea_cons ev_c ea_nil)) (by omega) (fun _ => rfl) (fun i H1 e hi => et_test (ev_inTb (ev_var rfl) (fun _ _ => ev_var rfl) (hT.up e))) (fun i H1 e hi _ => ev_var rfl)
def nextM (im : List Int) (k : Int) : List Int := match nodeAt im k with
  | none => []
  | some n => if n.1 = 63 then [n.2.2, n.2.1] else if n.1 = 36 then n.2.2 :: callM im else if isCp n.1 = true then [n.2.2, n.1] else [n.2.2]
def sp_next_numbers (K : PySem.W.Frag) : Sp := fun vs H Q _ => ∃ (t : Addr) (im : List Int) (x : Int), vs = [.ref t, .int x] ∧ Tb K H t im ∧ RetL ((nextM im x).map V.int) H Q
theorem l_next_numbers {t : Addr} {im : List Int} {x : Int} {H : Hp} (h : Tb K H t im) : SpL (sp_next_numbers K) [.ref t, .int x] H ((nextM im x).map V.int) := fun _ e _ q _ => ⟨t, im, x, rfl, h.up e, q⟩
theorem ok_next_numbers (T : Txt K mg) : FnOk P w K mg base CX0 2 T.f_next_numbers T.d_next_numbers ["table", "number"] (sp_next_numbers K) := by
  refine T.F_next_numbers.ok sc_next_numbers (fun vs H Q E h => ?_) (fun cdv A outer s H vs Q E hr h => ?_)
  · obtain ⟨t, im, x, rfl, _⟩ := h
    rfl
  · obtain ⟨t, im, x, rfl, hT, k⟩ := h
    refine ⟨_, (pss_cons (ps_if (pt_cmp (pc_dnotin (hu_of hr) (pv 1) (pv 0))) (pss_one (ps_ret (pe_lst pa_nil))) pss_nil)
        (pss_cons (ps_asg (pe_dget (hu_of hr) (pv 0) (pv 1) (fun _ _ => rfl)) (pg_tup (by rfl) (pgs_cons (pg_name (i := 2) sc_next_numbers.nd rfl (Or.inl rfl)) (pgs_cons (pg_name (i := 3) sc_next_numbers.nd rfl (Or.inl rfl)) (pgs_cons (pg_name (i := 4) sc_next_numbers.nd rfl (Or.inl rfl)) pgs_nil)))))
        (pss_cons (ps_if (pt_cmpR op_eq (pv 2) (pe_glob (v := .int 63) (by rfl) T.c_BRANCH ⟨_, rfl⟩) (nomark _)) (pss_one (ps_ret (pe_lst (pa_cons (pv 4) (pa_cons (pv 3) pa_nil))))) pss_nil)
        (pss_cons (ps_if (pt_cmpR op_eq (pv 2) (pe_glob (v := .int 36) (by rfl) T.c_CALL_IF_DEFINED ⟨_, rfl⟩) (nomark _)) (pss_one (ps_ret (pe_op op_cat (pe_lst (pa_cons (pv 4) pa_nil)) (pe_call (ok_callable T) (hr.mono (by decide)) (by rfl) T.g_callable T.F_callable.kp T.b_callable .nil pass0 (pa_cons (pv 0) pa_nil))))) pss_nil)
        (pss_cons (ps_if (pt_val (pe_call (ok_is_capital T) (hr.mono (by decide)) (by rfl) T.g_is_capital T.F_is_capital.kp T.b_is_capital .nil pass0 (pa_cons (pv 2) pa_nil))) (pss_one (ps_ret (pe_lst (pa_cons (pv 4) (pa_cons (pv 2) pa_nil))))) pss_nil)
        (pss_one (ps_ret (pe_lst (pa_cons (pv 4) pa_nil))))))))), ?_⟩
    unfold nextM at k
    cases hn : nodeAt im x with
    | none =>
      rw [hn] at k
      refine q_when (b := true) (et_is (et_test (ev_notTb (ev_var rfl) (fun _ _ => ev_var rfl) hT)) (by rw [hn]; rfl)) (fun _ H1 e1 => ?_) (fun hb => nomatch hb)
      exact s_retL (el_lst ea_nil (by decide)) fun p H2 np e2 hp => k p H2 (fresh_back e1 np) (e1.trans e2) hp
    | some n =>
      rw [hn] at k
      dsimp only at k
      refine q_when (b := false) (et_is (et_test (ev_notTb (ev_var rfl) (fun _ _ => ev_var rfl) hT)) (by rw [hn]; rfl)) (fun hb => nomatch hb) (fun _ H1 e1 => ?_)
      obtain ⟨p, hp, he⟩ := ev_tb (K := K) (H := H1) (σ := L2.start N_next_numbers [.ref t, .int x]) (td := tVar 0) (ty := tVar 1) (ev_var rfl) (fun _ _ => ev_var rfl) (hT.up e1) hn
      refine q_unpD (K := K) (ed_ev he (dp_intsT hp)) (fun v H2 e2 hv => ?_)
      obtain ⟨p2, rfl, hp2⟩ := dp_intsT_inv (ns := ndL n) hv
      refine g_tup3 hp2 ?_
      have e12 := e1.trans e2
      refine q_when (b := decide (n.1 = 63)) (et_test (ev_op (ev_var rfl) ev_c rv_eqI)) (fun hb H3 e3 => ?_) (fun hb H3 e3 => ?_)
      · rw [if_pos (of_decide_eq_true hb)] at k
        exact s_retL (xs := ([n.2.2, n.2.1] : List Int).map V.int) (el_lst (ea_cons (ev_var rfl) (ea_cons (ev_var rfl) ea_nil)) (by show 2 ≤ 100000; decide)) fun p H4 np e4 hp => k p H4 (fresh_back (e12.trans e3) np) ((e12.trans e3).trans e4) hp
      rw [if_neg (of_decide_eq_false hb)] at k
      refine q_when (b := decide (n.1 = 36)) (et_test (ev_op (ev_var rfl) ev_c rv_eqI)) (fun hb H4 e4 => ?_) (fun hb H4 e4 => ?_)
      · rw [if_pos (of_decide_eq_true hb)] at k
        have e14 := e12.trans (e3.trans e4)
        have hc := callM_len im
        refine s_retL (xs := (n.2.2 :: callM im).map V.int) (el_catLL (xs := [.int n.2.2]) (ys := (callM im).map V.int) (el_lst (ea_cons (ev_var rfl) ea_nil) (by show 1 ≤ 100000; decide)) (el_call (ea_cons (ev_var rfl) ea_nil) (l_callable (hT.up e14))) (by rw [List.length_map]; show 1 + _ ≤ _; omega)) fun p H5 np e5 hp => k p H5 (fresh_back e14 np) (e14.trans e5) hp
      rw [if_neg (of_decide_eq_false hb)] at k
      have e14 := e12.trans (e3.trans e4)
      refine q_when (b := isCp n.1) (et_B (ev_call (ea_cons (ev_var rfl) ea_nil) v_is_capital)) (fun hb H5 e5 => ?_) (fun hb H5 e5 => ?_)
      · rw [if_pos hb] at k
        exact s_retL (xs := ([n.2.2, n.1] : List Int).map V.int) (el_lst (ea_cons (ev_var rfl) (ea_cons (ev_var rfl) ea_nil)) (by show 2 ≤ 100000; decide)) fun p H6 np e6 hp => k p H6 (fresh_back (e14.trans e5) np) ((e14.trans e5).trans e6) hp
      · rw [if_neg (by rw [hb]; exact Bool.false_ne_true)] at k
        exact s_retL (xs := ([n.2.2] : List Int).map V.int) (el_lst (ea_cons (ev_var rfl) ea_nil) (by show 1 ≤ 100000; decide)) fun p H6 np e6 hp => k p H6 (fresh_back (e14.trans e5) np) ((e14.trans e5).trans e6) hp


end
end K32

set_option Elab.async false
set_option linter.all false
set_option maxRecDepth 100000
set_option maxHeartbeats 4000000
set_option exponentiation.threshold 600
namespace K32
open PySem PySem.Spec PyProof.Rows L2 Evl Gd
/-! ### how expressions are evaluated, without a word of ours -/
local macro_rules | `(tactic| walk_at "ev") => `(tactic| exact ev_c)
local macro_rules | `(tactic| walk_at "ev") => `(tactic| exact ev_var rfl)
local macro_rules | `(tactic| walk_at "ev") => `(tactic| (refine' ev_op ?k1 ?k2 ?k3; (case k1 => walk_at "ev"); (case k2 => walk_at "ev"); (case k3 => walk_at "rv")))
local macro_rules | `(tactic| walk_at "ev") => `(tactic| (refine' ev_cb ?k1 ?k2; (case k1 => walk_at "ea"); (case k2 => walk_at "rc")))
local macro_rules | `(tactic| walk_at "ev") => `(tactic| (refine' ev_call ?k1 ?k2; (case k1 => walk_at "ea"); (case k2 => walk_at "sp")))
local macro_rules | `(tactic| walk_at "ev") => `(tactic| (refine' ev_chain ?k1 ?k2 ?k3 (fun _ => ?k4) (fun _ => ?k5); (case k1 => walk_at "ev"); (case k2 => walk_at "ev"); (case k3 => walk_at "rv"); (case k4 => walk_at "ev"); (case k5 => walk_at "rv")))
local macro_rules | `(tactic| walk_at "ev") => `(tactic| (refine' ev_orV ?k1 (fun _ => ?k2); (case k1 => walk_at "ev"); (case k2 => walk_at "ev")))
local macro_rules | `(tactic| walk_at "ev") => `(tactic| (refine' ev_andV ?k1 (fun _ => ?k2); (case k1 => walk_at "ev"); (case k2 => walk_at "ev")))
local macro_rules | `(tactic| walk_at "ev") => `(tactic| (refine' ev_notV ?k1; (case k1 => walk_at "ev")))
local macro_rules | `(tactic| walk_at "ea") => `(tactic| exact ea_nil)
local macro_rules | `(tactic| walk_at "ea") => `(tactic| (refine' ea_cons ?k1 ?k2; (case k1 => walk_at "ev"); (case k2 => walk_at "ea")))
local macro_rules | `(tactic| walk_at "rv") => `(tactic| exact rv_I0)
local macro_rules | `(tactic| walk_at "rv") => `(tactic| exact rv_eqI)
local macro_rules | `(tactic| walk_at "rv") => `(tactic| exact rv_neI)
local macro_rules | `(tactic| walk_at "rv") => `(tactic| exact rv_eqS)
local macro_rules | `(tactic| walk_at "rv") => `(tactic| exact rv_neS)
local macro_rules | `(tactic| walk_at "rv") => `(tactic| exact rv_mod (by decide))
local macro_rules | `(tactic| walk_at "rv") => `(tactic| exact rv_fdiv (by decide) (by decide))
local macro_rules | `(tactic| walk_at "rv") => `(tactic| exact rv_mulR (by decide))
local macro_rules | `(tactic| walk_at "rv") => `(tactic| exact rv_pow (by decide))
local macro_rules | `(tactic| walk_at "rc") => `(tactic| exact rc_int)
local macro_rules | `(tactic| walk_at "rc") => `(tactic| exact rc_ord)
local macro_rules | `(tactic| walk_at "et") => `(tactic| (refine' et_test ?k1; (case k1 => walk_at "ev")))
local macro_rules | `(tactic| walk_at "et") => `(tactic| (refine' et_B ?k1; (case k1 => walk_at "ev")))
local macro_rules | `(tactic| walk_at "et") => `(tactic| (refine' et_not ?k1; (case k1 => walk_at "et")))
local macro_rules | `(tactic| walk_at "et") => `(tactic| (refine' et_or ?k1 (fun _ => ?k2); (case k1 => walk_at "et"); (case k2 => walk_at "et")))
local macro_rules | `(tactic| walk_at "et") => `(tactic| (refine' et_and ?k1 (fun _ => ?k2); (case k1 => walk_at "et"); (case k2 => walk_at "et")))
section
variable {P : Program} {w : World} {K : PySem.W.Frag} {mg : Str → Option Value} {base : Heap}
/-! ### what is reached -/
theorem nodup_sub_len : ∀ (l U : List Int), l.Nodup → (∀ x ∈ l, x ∈ U) → l.length ≤ U.length
  | [], _, _, _ => Nat.zero_le _
  | a :: l, U, hn, hs => by
    rw [List.nodup_cons] at hn
    have ha := hs a List.mem_cons_self
    have h1 := nodup_sub_len l (U.erase a) hn.2 fun x hx => (List.mem_erase_of_ne (fun z => hn.1 (by rw [← z]; exact hx))).mpr (hs x (List.mem_cons_of_mem _ hx))
    have h2 := List.length_erase_of_mem ha
    have h3 := List.length_pos_of_mem ha
    rw [List.length_cons]
    omega
theorem perm_of_mem : ∀ (l m : List Int), l.Nodup → m.Nodup → (∀ x, x ∈ l ↔ x ∈ m) → l.Perm m
  | [], m, _, _, h => by
    cases m with
    | nil => exact List.Perm.refl _
    | cons b m => exact absurd ((h b).mpr List.mem_cons_self) (fun z => nomatch z)
  | a :: l, m, h1, h2, h => by
    rw [List.nodup_cons] at h1
    have ha : a ∈ m := (h a).mp List.mem_cons_self
    refine List.Perm.trans (List.Perm.cons a (perm_of_mem l (m.erase a) h1.2 (h2.erase a) fun x => ?_)) (List.perm_cons_erase ha).symm
    rw [h2.mem_erase_iff]
    constructor
    · intro hx
      exact ⟨fun z => h1.1 (by rw [← z]; exact hx), (h x).mp (List.mem_cons_of_mem _ hx)⟩
    · rintro ⟨hne, hx⟩
      rcases List.mem_cons.mp ((h x).mpr hx) with z | z
      · exact absurd z hne
      · exact z
inductive Reach (im : List Int) : Int → Prop where
  | zero : Reach im 0
  | step {k j : Int} : Reach im k → j ∈ nextM im k → Reach im j
def uniR (r : Int × Nd) : List Int := [r.1, r.2.2.2, if r.2.1 = 63 then r.2.2.1 else r.2.1]
def uni (im : List Int) : List Int := 0 :: (rowsOf im).flatMap uniR
theorem uni_len (im : List Int) : (uni im).length = 1 + 3 * (rowsOf im).length := by
  have go : ∀ l : List (Int × Nd), (l.flatMap uniR).length = 3 * l.length := by
    intro l
    induction l with
    | nil => rfl
    | cons r l ih => rw [List.flatMap_cons, List.length_append, ih, List.length_cons]; show 3 + _ = _; omega
  unfold uni
  rw [List.length_cons, go]
  omega
theorem node_row {im : List Int} {k : Int} {n : Nd} (h : nodeAt im k = some n) : ∃ r ∈ rowsOf im, r.2 = n := by
  rcases nodeIn_mem (rowsOf im) none h with h | h
  · cases h
  · exact h
theorem next_uni {im : List Int} {k j : Int} (h : j ∈ nextM im k) : j ∈ uni im := by
  unfold nextM at h
  cases hn : nodeAt im k with
  | none => rw [hn] at h; cases h
  | some n =>
    rw [hn] at h
    dsimp only at h
    obtain ⟨r, hr, rfl⟩ := node_row hn
    have put : ∀ {x : Int}, x ∈ uniR r → x ∈ uni im := fun hx => List.mem_cons_of_mem _ (List.mem_flatMap.mpr ⟨r, hr, hx⟩)
    have s : r.2.2.2 ∈ uni im := put (by simp [uniR])
    by_cases c1 : r.2.1 = 63
    · rw [if_pos c1] at h
      rcases List.mem_cons.mp h with rfl | h
      · exact s
      · rw [List.mem_singleton.mp h]
        exact put (by simp [uniR, c1])
    rw [if_neg c1] at h
    by_cases c2 : r.2.1 = 36
    · rw [if_pos c2] at h
      rcases List.mem_cons.mp h with rfl | h
      · exact s
      · unfold callM at h
        obtain ⟨i, hi, rfl⟩ := List.mem_map.mp h
        have hi := (List.mem_filter.mp hi).2
        have := keys_mem.mpr hi
        unfold keysOf at this
        rw [keys_fold_mem] at this
        rcases this with z | ⟨q, hq, e⟩
        · cases z
        · rw [← e]
          exact List.mem_cons_of_mem _ (List.mem_flatMap.mpr ⟨q, hq, by simp [uniR]⟩)
    rw [if_neg c2] at h
    split at h
    · rcases List.mem_cons.mp h with rfl | h
      · exact s
      · rw [List.mem_singleton.mp h]
        exact put (by simp [uniR, c1])
    · rw [List.mem_singleton.mp h]
      exact s
theorem reach_uni {im : List Int} {k : Int} (h : Reach im k) : k ∈ uni im := by
  cases h with
  | zero => exact List.mem_cons_self
  | step _ h => exact next_uni h
structure CL (im ks : List Int) : Prop where
  nd : ks.Nodup
  mem : ∀ k, k ∈ ks ↔ Reach im k
theorem CL.len {im ks : List Int} (h : CL im ks) : ks.length ≤ 1 + 3 * (rowsOf im).length := by
  rw [← uni_len]
  exact nodup_sub_len _ _ h.nd fun x hx => reach_uni ((h.mem x).mp hx)
theorem CL.srt {im ks ls : List Int} (h : CL im ks) (g : CL im ls) {ys : List Int} (hp : ys.Perm ls) (hs : ys.Pairwise (· ≤ ·)) : ys = Gd.srt ks :=
  srt_uniq (hp.trans (perm_of_mem _ _ g.nd h.nd fun x => (g.mem x).trans (h.mem x).symm)) hs
open Classical in
theorem cl_ex (im : List Int) : ∃ ks, CL im ks := by
  refine ⟨(keysOf ((uni im).map fun k => (k, ((0 : Int), (0 : Int), (0 : Int))))).filter fun k => decide (Reach im k), (keys_nodup _).filter _, fun k => ?_⟩
  rw [List.mem_filter, decide_eq_true_eq]
  unfold keysOf
  rw [keys_fold_mem]
  constructor
  · exact fun h => h.2
  · intro h
    refine ⟨.inr ?_, h⟩
    exact ⟨(k, _), List.mem_map.mpr ⟨k, reach_uni h, rfl⟩, rfl⟩
/-- a worklist: found, waiting -/
structure WkI (im fs ws : List Int) : Prop where
  nd : fs.Nodup
  re : ∀ k ∈ fs, Reach im k
  z : 0 ∈ fs
  sub : ∀ k ∈ ws, k ∈ fs
  cl : ∀ k ∈ fs, k ∈ ws ∨ ∀ j ∈ nextM im k, j ∈ fs
theorem WkI.start (im : List Int) : WkI im [0] [0] := ⟨List.nodup_cons.mpr ⟨fun h => (nomatch h), List.nodup_nil⟩, fun k hk => by rw [List.mem_singleton.mp hk]; exact .zero, List.mem_cons_self, fun k hk => hk, fun k hk => .inl hk⟩
theorem WkI.stop {im fs : List Int} (h : WkI im fs []) : CL im fs := ⟨h.nd, fun k => ⟨h.re k, fun r => by
  induction r with
  | zero => exact h.z
  | step _ hj ih =>
    rcases h.cl _ ih with c | c
    · cases c
    · exact c _ hj⟩⟩
theorem WkI.len {im fs ws : List Int} (h : WkI im fs ws) : fs.length ≤ (uni im).length := nodup_sub_len _ _ h.nd fun x hx => reach_uni (h.re x hx)
/-- while the ways of x (popped) are looked at: the first i are found -/
structure WkJ (im : List Int) (x : Int) (i : Nat) (fs ws : List Int) : Prop where
  nd : fs.Nodup
  re : ∀ k ∈ fs, Reach im k
  z : 0 ∈ fs
  sub : ∀ k ∈ ws, k ∈ fs
  xin : x ∈ fs
  cl : ∀ k ∈ fs, k = x ∨ k ∈ ws ∨ ∀ j ∈ nextM im k, j ∈ fs
  done : ∀ (m : Nat) (j : Int), m < i → (nextM im x)[m]? = some j → j ∈ fs
theorem WkI.pop {im fs ws : List Int} {x : Int} (h : WkI im fs (ws ++ [x])) : WkJ im x 0 fs ws := ⟨h.nd, h.re, h.z, fun k hk => h.sub k (List.mem_append_left _ hk), h.sub x (List.mem_append_right _ (List.mem_singleton.mpr rfl)), fun k hk => by
  rcases h.cl k hk with c | c
  · rcases List.mem_append.mp c with c | c
    · exact .inr (.inl c)
    · exact .inl (List.mem_singleton.mp c)
  · exact .inr (.inr c), fun m j hm => absurd hm (Nat.not_lt_zero _)⟩
theorem WkJ.skip {im : List Int} {x j : Int} {i : Nat} {fs ws : List Int} (h : WkJ im x i fs ws) (hj : (nextM im x)[i]? = some j) (hm : j ∈ fs) : WkJ im x (i + 1) fs ws := ⟨h.nd, h.re, h.z, h.sub, h.xin, h.cl, fun m j' hm' hj' => by
  by_cases c : m = i
  · rw [c, hj] at hj'
    cases hj'
    exact hm
  · exact h.done m j' (by omega) hj'⟩
theorem WkJ.add {im : List Int} {x j : Int} {i : Nat} {fs ws : List Int} (h : WkJ im x i fs ws) (hj : (nextM im x)[i]? = some j) (hm : j ∉ fs) : WkJ im x (i + 1) (fs ++ [j]) (ws ++ [j]) := by
  have up : ∀ {k : Int}, k ∈ fs → k ∈ fs ++ [j] := fun hk => List.mem_append_left _ hk
  have jn : j ∈ fs ++ [j] := List.mem_append_right _ (List.mem_singleton.mpr rfl)
  refine ⟨List.nodup_append.mpr ⟨h.nd, (by simp), fun a ha b hb e => hm (by rw [← List.mem_singleton.mp hb, ← e]; exact ha)⟩, fun k hk => ?_, up h.z, fun k hk => ?_, up h.xin, fun k hk => ?_, fun m j' hm' hj' => ?_⟩
  · rcases List.mem_append.mp hk with hk | hk
    · exact h.re k hk
    · rw [List.mem_singleton.mp hk]
      exact .step (h.re x h.xin) (List.mem_of_getElem? hj)
  · rcases List.mem_append.mp hk with hk | hk
    · exact up (h.sub k hk)
    · rw [List.mem_singleton.mp hk]
      exact jn
  · rcases List.mem_append.mp hk with hk | hk
    · rcases h.cl k hk with c | c | c
      · exact .inl c
      · exact .inr (.inl (List.mem_append_left _ c))
      · exact .inr (.inr fun j hj => up (c j hj))
    · rw [List.mem_singleton.mp hk]
      exact .inr (.inl (List.mem_append_right _ (List.mem_singleton.mpr rfl)))
  · by_cases c : m = i
    · rw [c, hj] at hj'
      cases hj'
      exact jn
    · exact up (h.done m j' (by omega) hj')
theorem WkJ.fin {im : List Int} {x : Int} {fs ws : List Int} (h : WkJ im x (nextM im x).length fs ws) : WkI im fs ws := ⟨h.nd, h.re, h.z, h.sub, fun k hk => by
  rcases h.cl k hk with c | c
  · subst c
    refine .inr fun j hj => ?_
    obtain ⟨m, hm⟩ := List.mem_iff_getElem?.mp hj
    exact h.done m j (List.getElem?_eq_some_iff.mp hm).1 hm
  · exact c⟩
theorem WkJ.len {im : List Int} {x : Int} {i : Nat} {fs ws : List Int} (h : WkJ im x i fs ws) : fs.length ≤ (uni im).length := nodup_sub_len _ _ h.nd fun x hx => reach_uni (h.re x hx)
def kvB (fs : List Int) : List (Key × V) := fs.map fun k => (Sum.inl k, V.bl true)
theorem kvB_keys (fs : List Int) : (kvB fs).map (·.1) = fs.map Sum.inl := by unfold kvB; rw [List.map_map]; rfl
theorem kvB_get (fs : List Int) (k : Int) : valV (kvB fs) (Sum.inl k) = if k ∈ fs then some (.bl true) else none := by
  induction fs with
  | nil => rfl
  | cons a fs ih =>
    unfold kvB at ih ⊢
    rw [List.map_cons]
    by_cases c : a = k
    · rw [valV_pos (by show Sum.inl a = _; rw [c]), if_pos (by rw [c]; exact List.mem_cons_self)]
    · rw [valV_neg (fun z => c (Sum.inl.inj z)), ih]
      by_cases d : k ∈ fs
      · rw [if_pos d, if_pos (List.mem_cons_of_mem _ d)]
      · rw [if_neg d, if_neg (fun z => (List.mem_cons.mp z).elim (fun e => c e.symm) d)]
theorem kvB_put {fs : List Int} {k : Int} (h : k ∉ fs) : putK (kvB fs) (Sum.inl k) (.bl true) = kvB (fs ++ [k]) := by
  rw [putK_new _ (by rw [kvB_get, if_neg h])]
  unfold kvB
  rw [List.map_append]
  rfl
theorem kvB_len (fs : List Int) : (kvB fs).length = fs.length := by unfold kvB; rw [List.length_map]
theorem ev_notB {H : Hp} {σ : L2.St} {ty td : TE} {k : Int} {a : Addr} {fs : List Int} (hk : Ev ty σ H (.int k)) (h : ∀ H2, Ex H H2 → Ev td σ H2 (.ref a)) (hd : H a = some (.dK (kvB fs))) : Ev (tDNotIn ty td) σ H (.bl (!decide (k ∈ fs))) := fun H1 e Q q =>
  hk H1 e _ fun H2 e2 => h H2 (e.trans e2) H2 (Ex.refl H2) _ fun H3 e3 => ⟨a, _, rfl, .inl ⟨kvB fs, Sum.inl k, .inl (e3 _ _ (e2 _ _ (e _ _ hd))), rfl, rfl⟩, by
    rw [kvB_get]
    by_cases c : k ∈ fs
    · rw [if_pos c]; rw [decide_eq_true c] at q; exact q H3 (e2.trans e3)
    · rw [if_neg c]; rw [decide_eq_false c] at q; exact q H3 (e2.trans e3)⟩
def sp_reachable_in (K : PySem.W.Frag) : Sp := fun vs H Q _ => ∃ (t : Addr) (im ks : List Int), vs = [.ref t] ∧ Tb K H t im ∧ (rowsOf im).length ≤ 20 ∧ CL im ks ∧ RetL ((Gd.srt ks).map V.int) H Q
theorem l_reachable_in {t : Addr} {im ks : List Int} {H : Hp} (h : Tb K H t im) (hl : (rowsOf im).length ≤ 20) (hc : CL im ks) : SpL (sp_reachable_in K) [.ref t] H ((Gd.srt ks).map V.int) := fun _ e _ q _ => ⟨t, im, ks, rfl, h.up e, hl, hc, q⟩
theorem ok_reachable_in (T : Txt K mg) : FnOk P w K mg base CX0 3 T.f_reachable_in T.d_reachable_in ["table"] (sp_reachable_in K) := by
  refine T.F_reachable_in.ok sc_reachable_in (fun vs H Q E h => ?_) (fun cdv A outer s H vs Q E hr h => ?_)
  · obtain ⟨t, im, ks, rfl, _⟩ := h
    rfl
  · obtain ⟨t, im, ks, rfl, hT, hl, hC, k⟩ := h
    refine ⟨_, (pss_cons (ps_set (i := 1) sc_reachable_in.nd rfl (Or.inl rfl) (pe_disp (pps_cons pe_int pe_bl pps_nil) (by rfl) (by rfl) (fun z => by cases z) (by decide)))
        (pss_cons (ps_set (i := 2) sc_reachable_in.nd rfl (Or.inl rfl) (pe_lst (pa_cons pe_int pa_nil)))
        (pss_cons (ps_while PassesOwn.never (pt_truth (pv 2) (by intro _; rfl)) (pss_cons (ps_set (i := 3) sc_reachable_in.nd rfl (Or.inl rfl) (pe_bm0 PySem.F.plainAttrs_list PySem.F.slot_list_pop PySem.F.type_list_pop mt_pop (pv 2)))
        (pss_one (ps_for PassesOwn.never rfl (pi_list (pe_call (ok_next_numbers T) (hr.mono (by decide)) (by rfl) T.g_next_numbers T.F_next_numbers.kp T.b_next_numbers .nil pass0 (pa_cons (pv 0) (pa_cons (pv 3) pa_nil)))) (pg_name (i := 4) sc_reachable_in.nd rfl (Or.inl rfl)) (pss_one (ps_if (pt_cmp (pc_dnotin (hu_of hr) (pv 4) (pv 1))) (pss_cons (ps_dput (hu_of hr) (pv 1) (pv 4) pe_bl rfl)
        (pss_one (ps_expr (pe_bm PySem.F.plainAttrs_list PySem.F.slot_list_append PySem.F.type_list_append mt_append (pv 2) (pa_cons (pv 4) pa_nil))))) pss_nil))))))
        (pss_one (ps_ret (pe_callB (call_sortedDI rfl) (by rfl) T.n_sorted (by decide +kernel) (pa_cons (pv 1) pa_nil))))))), ?_⟩
    have hU := uni_len im
    refine fun f hf => ⟨upd_same, [(Sum.inl 0, .bl true)], rfl, by show 1 ≤ 15; decide, ?_⟩
    have hm : mergeK [] [((Sum.inl 0 : Key), V.bl true)] = kvB [0] := rfl
    rw [hm]
    have x1 : Ex H (upd (upd H f (.dK [])) f (.dK (kvB [0]))) := Ex.mut (Ex.new hf) hf
    have f1 : (upd (upd H f (.dK [])) f (.dK (kvB [0]))) f = some (.dK (kvB [0])) := upd_same
    generalize upd (upd H f (.dK [])) f (.dK (kvB [0])) = H1 at x1 f1
    refine q_asgL (xs := ([0] : List Int).map V.int) (el_lst (ea_cons ev_c ea_nil) (by show 1 ≤ 100000; decide)) (fun w H2 nw e2 hw => ?_)
    have hfw : f ≠ w := fun z => by rw [← z, f1] at nw; cases nw
    have nwH : H w = none := fresh_back x1 nw
    refine q_while (fun m σ' H' => ∃ fs ws y3 y4, σ' = [some (.ref t), some (.ref f), some (.ref w), y3, y4] ∧ Ex H H' ∧ H' f = some (.dK (kvB fs)) ∧ H' w = some (.lst (ws.map V.int)) ∧ WkI im fs ws ∧ m = 2 * ((uni im).length - fs.length) + ws.length ∧ m ≤ 200) (2 * ((uni im).length - 1) + 1) ⟨[0], [0], none, none, rfl, x1.trans e2, e2 _ _ f1, hw, WkI.start im, rfl, by omega⟩ ?_
    rintro m σ' H' ⟨fs, ws, y3, y4, rfl, e, hf', hw', hI, hm, hm2⟩
    refine ⟨!(ws.map V.int).isEmpty, et_truL (K := K) (ev_var rfl) (sq_of hw'), fun hb H3 e3 => ⟨fun σ2 H2 => ∃ m', m' < m ∧ ∃ fs ws y3 y4, σ2 = [some (.ref t), some (.ref f), some (.ref w), y3, y4] ∧ Ex H H2 ∧ H2 f = some (.dK (kvB fs)) ∧ H2 w = some (.lst (ws.map V.int)) ∧ WkI im fs ws ∧ m' = 2 * ((uni im).length - fs.length) + ws.length ∧ m' ≤ 200, fun _ _ h => h, ?_⟩, fun hb H3 e3 => ?_⟩
    · have hne : ws ≠ [] := by intro z; subst z; cases hb
      obtain ⟨wr, x, rfl⟩ : ∃ wr x, ws = wr ++ [x] := ⟨ws.dropLast, ws.getLast hne, (List.dropLast_concat_getLast hne).symm⟩
      have hml : (wr ++ [x]).map V.int = wr.map V.int ++ [.int x] := by rw [List.map_append]; rfl
      rw [hml] at hw'
      rw [List.length_append] at hm
      have hm : m = 2 * ((uni im).length - fs.length) + (wr.length + 1) := hm
      refine q_asgP (ep_pop (ns := wr ++ [x]) (ev_var rfl) (e3 _ _ (by rw [hml]; exact hw')) (by simp)) (fun v H4 hv => ?_)
      obtain ⟨rfl, H3', e3', rfl⟩ := hv
      rw [List.dropLast_concat, List.getLast?_concat]
      have x4 := Ex.mut (o := .lst (wr.map V.int)) ((e.trans e3).trans e3') nwH
      have f4 : (upd H3' w (.lst (wr.map V.int))) f = some (.dK (kvB fs)) := by rw [upd_ne hfw]; exact e3' _ _ (e3 _ _ hf')
      have w4 : (upd H3' w (.lst (wr.map V.int))) w = some (.lst (wr.map V.int)) := upd_same
      generalize upd H3' w (.lst (wr.map V.int)) = H4 at x4 f4 w4
      refine s_forNL (el_call (ea_cons (ev_var rfl) (ea_cons (ev_var rfl) ea_nil)) (l_next_numbers (hT.up x4))) (fun p i σ' H' => H4 p = none ∧ H' p = some (.lst ((nextM im x).map V.int)) ∧ ∃ fs' ws' y4, σ' = [some (.ref t), some (.ref f), some (.ref w), some (.int x), y4] ∧ Ex H H' ∧ H' f = some (.dK (kvB fs')) ∧ H' w = some (.lst (ws'.map V.int)) ∧ WkJ im x i fs' ws' ∧ 2 * ((uni im).length - fs'.length) + ws'.length + 1 ≤ m) ?_ ?_ ?_ ?_
      · intro p H5 np e5 hp
        exact ⟨np, hp, fs, wr, y4, rfl, x4.trans e5, e5 _ _ f4, e5 _ _ w4, hI.pop, by omega⟩
      · rintro p i σ' H' _ ⟨_, hp, _⟩
        exact sq_of hp
      · rintro p i v σ' H5 hv ⟨np, hp, fs', ws', y4, rfl, e5, f5, w5, hJ, hme⟩
        obtain ⟨j, hj, rfl⟩ := map_at hv
        have hpf : p ≠ f := fun z => by rw [z, f4] at np; cases np
        have hpw : p ≠ w := fun z => by rw [z, w4] at np; cases np
        show tIfS _ _ _ _ [some (.ref t), some (.ref f), some (.ref w), some (.int x), some (.int j)] H5
        refine s_when (b := !decide (j ∈ fs')) (et_test (ev_notB (ev_var rfl) (fun _ _ => ev_var rfl) f5)) (fun hb H6 e6 => ?_) (fun hb H6 e6 => ?_)
        · have hj2 : j ∉ fs' := by simpa using hb
          have hJ2 := hJ.add hj hj2
          have hl2 := hJ2.len
          rw [List.length_append] at hl2
          have hl2 : fs'.length + 1 ≤ (uni im).length := hl2
          refine q_dput (k := Sum.inl j) (ev_c (v := .bl true)) (ev_var rfl) (ev_var rfl) (e6 _ _ f5) (by rw [kvB_len]; omega) (fun H7 e7 => ?_)
          rw [kvB_put hj2]
          have x7 := Ex.mut (o := .dK (kvB (fs' ++ [j]))) (e5.trans (e6.trans e7)) hf
          have f7 : (upd H7 f (.dK (kvB (fs' ++ [j])))) f = _ := upd_same
          have w7 : (upd H7 f (.dK (kvB (fs' ++ [j])))) w = some (.lst (ws'.map V.int)) := by rw [upd_ne hfw.symm]; exact e7 _ _ (e6 _ _ w5)
          have p7 : (upd H7 f (.dK (kvB (fs' ++ [j])))) p = some (.lst ((nextM im x).map V.int)) := by rw [upd_ne hpf]; exact e7 _ _ (e6 _ _ hp)
          generalize upd H7 f (.dK (kvB (fs' ++ [j]))) = G7 at x7 f7 w7 p7
          refine s_app w7 (ev_var rfl) (ev_var rfl) (by rw [List.length_map]; omega) (fun H8 e8 => ?_)
          refine ⟨np, by rw [upd_ne hpw]; exact e8 _ _ p7, fs' ++ [j], ws' ++ [j], _, rfl, Ex.mut (x7.trans e8) nwH, by rw [upd_ne hfw]; exact e8 _ _ f7, by rw [upd_same, List.map_append]; rfl, hJ2, ?_⟩
          rw [List.length_append, List.length_append]
          show 2 * ((uni im).length - (fs'.length + 1)) + (ws'.length + 1) + 1 ≤ m
          omega
        · have hj2 : j ∈ fs' := by simpa using hb
          exact ⟨np, e6 _ _ hp, fs', ws', _, rfl, e5.trans e6, e6 _ _ f5, e6 _ _ w5, hJ.skip hj hj2, hme⟩
      · rintro p σ' H5 ⟨np, hp, fs', ws', y4, rfl, e5, f5, w5, hJ, hme⟩
        rw [List.length_map] at hJ
        exact ⟨_, by omega, fs', ws', _, _, rfl, e5, f5, w5, hJ.fin, rfl, by omega⟩
    · have hne : ws = [] := by
        cases ws with
        | nil => rfl
        | cons a l => cases hb
      subst hne
      have hcl := hI.stop
      have hl3 := hcl.len
      refine s_retL (xs := (Gd.srt ks).map V.int) (fun G eG Q q => ⟨_, rfl, f, kvB fs, fs, rfl, .inl (eG _ _ (e3 _ _ hf')), kvB_keys fs, by omega, fun ys p hp hs hn => ?_⟩) fun p H4 np e4 hp => k p H4 (fresh_back (e.trans e3) np) ((e.trans e3).trans e4) hp
      rw [hC.srt hcl hp hs]
      exact q p _ hn (Ex.new hn) upd_same


end
end K32

set_option Elab.async false
set_option linter.all false
set_option maxRecDepth 100000
set_option maxHeartbeats 4000000
set_option exponentiation.threshold 600
namespace K32
open PySem PySem.Spec PyProof.Rows L2 Evl Gd
/-! ### how expressions are evaluated, without a word of ours -/
local macro_rules | `(tactic| walk_at "ev") => `(tactic| exact ev_c)
local macro_rules | `(tactic| walk_at "ev") => `(tactic| exact ev_var rfl)
local macro_rules | `(tactic| walk_at "ev") => `(tactic| (refine' ev_op ?k1 ?k2 ?k3; (case k1 => walk_at "ev"); (case k2 => walk_at "ev"); (case k3 => walk_at "rv")))
local macro_rules | `(tactic| walk_at "ev") => `(tactic| (refine' ev_cb ?k1 ?k2; (case k1 => walk_at "ea"); (case k2 => walk_at "rc")))
local macro_rules | `(tactic| walk_at "ev") => `(tactic| (refine' ev_call ?k1 ?k2; (case k1 => walk_at "ea"); (case k2 => walk_at "sp")))
local macro_rules | `(tactic| walk_at "ev") => `(tactic| (refine' ev_chain ?k1 ?k2 ?k3 (fun _ => ?k4) (fun _ => ?k5); (case k1 => walk_at "ev"); (case k2 => walk_at "ev"); (case k3 => walk_at "rv"); (case k4 => walk_at "ev"); (case k5 => walk_at "rv")))
local macro_rules | `(tactic| walk_at "ev") => `(tactic| (refine' ev_orV ?k1 (fun _ => ?k2); (case k1 => walk_at "ev"); (case k2 => walk_at "ev")))
local macro_rules | `(tactic| walk_at "ev") => `(tactic| (refine' ev_andV ?k1 (fun _ => ?k2); (case k1 => walk_at "ev"); (case k2 => walk_at "ev")))
local macro_rules | `(tactic| walk_at "ev") => `(tactic| (refine' ev_notV ?k1; (case k1 => walk_at "ev")))
local macro_rules | `(tactic| walk_at "ea") => `(tactic| exact ea_nil)
local macro_rules | `(tactic| walk_at "ea") => `(tactic| (refine' ea_cons ?k1 ?k2; (case k1 => walk_at "ev"); (case k2 => walk_at "ea")))
local macro_rules | `(tactic| walk_at "rv") => `(tactic| exact rv_I0)
local macro_rules | `(tactic| walk_at "rv") => `(tactic| exact rv_eqI)
local macro_rules | `(tactic| walk_at "rv") => `(tactic| exact rv_neI)
local macro_rules | `(tactic| walk_at "rv") => `(tactic| exact rv_eqS)
local macro_rules | `(tactic| walk_at "rv") => `(tactic| exact rv_neS)
local macro_rules | `(tactic| walk_at "rv") => `(tactic| exact rv_mod (by decide))
local macro_rules | `(tactic| walk_at "rv") => `(tactic| exact rv_fdiv (by decide) (by decide))
local macro_rules | `(tactic| walk_at "rv") => `(tactic| exact rv_mulR (by decide))
local macro_rules | `(tactic| walk_at "rv") => `(tactic| exact rv_pow (by decide))
local macro_rules | `(tactic| walk_at "rc") => `(tactic| exact rc_int)
local macro_rules | `(tactic| walk_at "rc") => `(tactic| exact rc_ord)
local macro_rules | `(tactic| walk_at "et") => `(tactic| (refine' et_test ?k1; (case k1 => walk_at "ev")))
local macro_rules | `(tactic| walk_at "et") => `(tactic| (refine' et_B ?k1; (case k1 => walk_at "ev")))
local macro_rules | `(tactic| walk_at "et") => `(tactic| (refine' et_not ?k1; (case k1 => walk_at "et")))
local macro_rules | `(tactic| walk_at "et") => `(tactic| (refine' et_or ?k1 (fun _ => ?k2); (case k1 => walk_at "et"); (case k2 => walk_at "et")))
local macro_rules | `(tactic| walk_at "et") => `(tactic| (refine' et_and ?k1 (fun _ => ?k2); (case k1 => walk_at "et"); (case k2 => walk_at "et")))
section
variable {P : Program} {w : World} {K : PySem.W.Frag} {mg : Str → Option Value} {base : Heap}
/-! ### reachable, is_closed -/
theorem ep_tab {H : Hp} {σ : L2.St} {te : TE} {a : Addr} {im : List Int} (h : Ev te σ H (.ref a)) (hS : SqL K H a (im.map V.int)) (hl : im.length ≤ 60000) : EvP (tCall (sp_table_of K) [] E0 (tCons te tNil)) σ H (fun v H' => ∃ t kvs, v = .ref t ∧ H t = none ∧ Ex H H' ∧ H' t = some (.dK kvs) ∧ TabT K H' kvs (nodeAt im) ∧ kvs.map (·.1) = (keysOf (rowsOf im)).map Sum.inl) :=
  ep_call (ea_cons h ea_nil) fun H1 e1 Q q => ⟨a, im, rfl, ex_l e1 hS, hl, fun t kvs H2 nt e2 h2 hT hk => q _ _ ⟨t, kvs, rfl, fresh_back e1 nt, e1.trans e2, h2, hT, hk⟩⟩
def opsM (im ys : List Int) : List Int := ys.filterMap fun k => (nodeAt im k).map (·.1)
theorem ops_given (im ys : List Int) : given ys.length (fun i => (nodeAt im (ys.getD i 0)).isSome) (fun i => V.int (((nodeAt im (ys.getD i 0)).map (·.1)).getD 0)) = (opsM im ys).map V.int := by
  have key : ∀ k, k ≤ ys.length → given k (fun i => (nodeAt im (ys.getD i 0)).isSome) (fun i => V.int (((nodeAt im (ys.getD i 0)).map (·.1)).getD 0)) = (opsM im (ys.take k)).map V.int := by
    intro k
    induction k with
    | zero => intro _; rfl
    | succ k ih =>
      intro hk
      have hg : ys[k]? = some (ys.getD k 0) := by rw [List.getD_eq_getElem?_getD, List.getElem?_eq_getElem (by omega)]; rfl
      unfold opsM at ih ⊢
      rw [take_snoc hg, List.filterMap_append, List.map_append]
      cases hn : nodeAt im (ys.getD k 0) with
      | none =>
        have hf : List.filterMap (fun k => (nodeAt im k).map (·.1)) [ys.getD k 0] = [] := by simp only [List.filterMap_cons, hn, Option.map_none, List.filterMap_nil]
        rw [given_no (by rw [hn]; rfl), ih (by omega), hf, List.map_nil, List.append_nil]
      | some n =>
        have hf : List.filterMap (fun k => (nodeAt im k).map (·.1)) [ys.getD k 0] = [n.1] := by simp only [List.filterMap_cons, hn, Option.map_some, List.filterMap_nil]
        rw [given_yes (by rw [hn]; rfl), ih (by omega), hf, hn]
        rfl
  have := key ys.length (Nat.le_refl _)
  rw [List.take_length] at this
  exact this
def clB (im ys : List Int) : Bool := !decide (38 ∈ opsM im ys) && !decide (40 ∈ opsM im ys)
def sp_is_closed (K : PySem.W.Frag) : Sp := fun vs H Q _ => ∃ (a : Addr) (im ks : List Int), vs = [.ref a] ∧ SqL K H a (im.map V.int) ∧ im.length ≤ 60000 ∧ (rowsOf im).length ≤ 20 ∧ CL im ks ∧ RetV (.bl (clB im (Gd.srt ks))) H Q
theorem v_is_closed {a : Addr} {im ks : List Int} {H : Hp} (hS : SqL K H a (im.map V.int)) (hl : im.length ≤ 60000) (hr : (rowsOf im).length ≤ 20) (hc : CL im ks) : SpV (sp_is_closed K) [.ref a] H (.bl (clB im (Gd.srt ks))) := fun _ e _ q _ => ⟨a, im, ks, rfl, ex_l e hS, hl, hr, hc, q⟩
theorem ok_is_closed (T : Txt K mg) : FnOk P w K mg base CX0 4 T.f_is_closed T.d_is_closed ["image"] (sp_is_closed K) := by
  refine T.F_is_closed.ok sc_is_closed (fun vs H Q E h => ?_) (fun cdv A outer s H vs Q E hr h => ?_)
  · obtain ⟨a, im, ks, rfl, _⟩ := h
    rfl
  · obtain ⟨a, im, ks, rfl, hS, hl, hrw, hC, k⟩ := h
    refine ⟨_, (pss_cons (ps_set (i := 1) sc_is_closed.nd rfl (Or.inr rfl) (pe_call (ok_table_of T) (hr.mono (by decide)) (by rfl) T.g_table_of T.F_table_of.kp T.b_table_of .nil pass0 (pa_cons (pv 0) pa_nil)))
        (pss_cons (ps_setLc (i := 2) (own := [("number", 3)]) (by rfl) sc_is_closed.nd rfl rfl (sw_true rfl rfl rfl (by decide +kernel)) (pi_list (pe_call (ok_reachable_in T) (hr.mono (by decide)) (by rfl) T.g_reachable_in T.F_reachable_in.kp T.b_reachable_in .nil pass0 (pa_cons (pv 1) pa_nil))) (blkOk_by (own := [("number", 3)]) (N := N_is_closed) (sc := defScope s_is_closed) (by decide +kernel)) (fun _ _ _ _ _ => pg_name (i := 3) sc_is_closed.nd rfl (Or.inl rfl)) (fun _ _ _ _ _ => (pts_one (pt_cmp (pc_din (hu_of hr) (pv 3) (pv 1))))) (fun _ _ _ _ _ => (pe_ix (Gd.ix_tupK (K := K) rfl) (pe_dget (hu_of hr) (pv 1) (pv 3) (fun _ _ => rfl)) pe_int (fun _ _ => rfl))))
        (pss_one (ps_ret (pe_and (pe_cmpR op_notIn_seq (pe_glob (v := .int 38) (by rfl) T.c_CELL ⟨_, rfl⟩) (pv 2) (by rfl)) (pe_one (pe_cmpR op_notIn_seq (pe_glob (v := .int 40) (by rfl) T.c_CALL ⟨_, rfl⟩) (pv 2) (by rfl)))))))), ?_⟩
    refine q_asgP (ep_tab (ev_var rfl) hS hl) (fun v H1 hv => ?_)
    obtain ⟨t, kvs, rfl, nt, e1, h1, hT, hk⟩ := hv
    have hTb : Tb K H1 t im := ⟨kvs, .inl h1, hT, hk⟩
    have hlen := hC.len
    have hsl := srt_len ks
    refine q_asgL (xs := (opsM im (Gd.srt ks)).map V.int) ?_ (fun q H2 nq e2 hq => ?_)
    · rw [← ops_given]
      have := el_lcNL (K := K) (σ := [some (.ref a), some (.ref t), none, none]) (H := H1) (j := 3) (vs := [3]) (te := tOp (rIxT K) (tDGet (tVar 1) (tVar 3)) (tC (.int 0))) (tl := tCall (sp_reachable_in K) [] E0 (tCons (tVar 1) tNil)) (t := tB (tDIn (tVar 3) (tVar 1))) (fun i => (nodeAt im ((Gd.srt ks).getD i 0)).isSome) (fun i => V.int (((nodeAt im ((Gd.srt ks).getD i 0)).map (·.1)).getD 0)) (el_call (ea_cons (ev_var rfl) ea_nil) (l_reachable_in hTb hrw hC)) (by rw [List.length_map]; omega) (fun _ => rfl) (fun i x H3 e3 hx => ?_) (fun i x H3 e3 hx hf => ?_)
      · rw [List.length_map] at this
        exact this
      · obtain ⟨y, hy, rfl⟩ := map_at hx
        have hg : (Gd.srt ks).getD i 0 = y := by rw [List.getD_eq_getElem?_getD, hy]; rfl
        rw [hg]
        exact et_test (ev_inTb (ev_var rfl) (fun _ _ => ev_var rfl) (hTb.up e3))
      · obtain ⟨y, hy, rfl⟩ := map_at hx
        have hg : (Gd.srt ks).getD i 0 = y := by rw [List.getD_eq_getElem?_getD, hy]; rfl
        rw [hg] at hf ⊢
        cases hn : nodeAt im y with
        | none => rw [hn] at hf; cases hf
        | some n => exact ev_tbI 0 rfl (ev_var rfl) (fun _ _ => ev_var rfl) (hTb.up e3) hn
    refine s_ret (v := .bl (clB im (Gd.srt ks))) (ev_andV ?_ (fun _ => ?_)) fun H3 e3 => k H3 (e1.trans (e2.trans e3))
    · have := ev_op (r := rIn K true) (H := H2) (σ := [some (.ref a), some (.ref t), some (.ref q), none]) (ta := tC (.int 38)) (tb := tVar 2) ev_c (ev_var rfl) (rv_inL (neg := true) (sq_of hq) rfl (by simp [flatV]))
      rw [show inV (.int 38) ((opsM im (Gd.srt ks)).map V.int) = decide (38 ∈ opsM im (Gd.srt ks)) from inV_ints _ _] at this
      exact this
    · have := ev_op (r := rIn K true) (H := H2) (σ := [some (.ref a), some (.ref t), some (.ref q), none]) (ta := tC (.int 40)) (tb := tVar 2) ev_c (ev_var rfl) (rv_inL (neg := true) (sq_of hq) rfl (by simp [flatV]))
      rw [show inV (.int 40) ((opsM im (Gd.srt ks)).map V.int) = decide (40 ∈ opsM im (Gd.srt ks)) from inV_ints _ _] at this
      exact this


end
end K32

set_option Elab.async false
set_option linter.all false
set_option maxRecDepth 100000
set_option maxHeartbeats 4000000
set_option exponentiation.threshold 600
namespace K32
open PySem PySem.Spec PyProof.Rows L2 Evl Gd
/-! ### how expressions are evaluated, without a word of ours -/
local macro_rules | `(tactic| walk_at "ev") => `(tactic| exact ev_c)
local macro_rules | `(tactic| walk_at "ev") => `(tactic| exact ev_var rfl)
local macro_rules | `(tactic| walk_at "ev") => `(tactic| (refine' ev_op ?k1 ?k2 ?k3; (case k1 => walk_at "ev"); (case k2 => walk_at "ev"); (case k3 => walk_at "rv")))
local macro_rules | `(tactic| walk_at "ev") => `(tactic| (refine' ev_cb ?k1 ?k2; (case k1 => walk_at "ea"); (case k2 => walk_at "rc")))
local macro_rules | `(tactic| walk_at "ev") => `(tactic| (refine' ev_call ?k1 ?k2; (case k1 => walk_at "ea"); (case k2 => walk_at "sp")))
local macro_rules | `(tactic| walk_at "ev") => `(tactic| (refine' ev_chain ?k1 ?k2 ?k3 (fun _ => ?k4) (fun _ => ?k5); (case k1 => walk_at "ev"); (case k2 => walk_at "ev"); (case k3 => walk_at "rv"); (case k4 => walk_at "ev"); (case k5 => walk_at "rv")))
local macro_rules | `(tactic| walk_at "ev") => `(tactic| (refine' ev_orV ?k1 (fun _ => ?k2); (case k1 => walk_at "ev"); (case k2 => walk_at "ev")))
local macro_rules | `(tactic| walk_at "ev") => `(tactic| (refine' ev_andV ?k1 (fun _ => ?k2); (case k1 => walk_at "ev"); (case k2 => walk_at "ev")))
local macro_rules | `(tactic| walk_at "ev") => `(tactic| (refine' ev_notV ?k1; (case k1 => walk_at "ev")))
local macro_rules | `(tactic| walk_at "ea") => `(tactic| exact ea_nil)
local macro_rules | `(tactic| walk_at "ea") => `(tactic| (refine' ea_cons ?k1 ?k2; (case k1 => walk_at "ev"); (case k2 => walk_at "ea")))
local macro_rules | `(tactic| walk_at "rv") => `(tactic| exact rv_I0)
local macro_rules | `(tactic| walk_at "rv") => `(tactic| exact rv_eqI)
local macro_rules | `(tactic| walk_at "rv") => `(tactic| exact rv_neI)
local macro_rules | `(tactic| walk_at "rv") => `(tactic| exact rv_eqS)
local macro_rules | `(tactic| walk_at "rv") => `(tactic| exact rv_neS)
local macro_rules | `(tactic| walk_at "rv") => `(tactic| exact rv_mod (by decide))
local macro_rules | `(tactic| walk_at "rv") => `(tactic| exact rv_fdiv (by decide) (by decide))
local macro_rules | `(tactic| walk_at "rv") => `(tactic| exact rv_mulR (by decide))
local macro_rules | `(tactic| walk_at "rv") => `(tactic| exact rv_pow (by decide))
local macro_rules | `(tactic| walk_at "rc") => `(tactic| exact rc_int)
local macro_rules | `(tactic| walk_at "rc") => `(tactic| exact rc_ord)
local macro_rules | `(tactic| walk_at "et") => `(tactic| (refine' et_test ?k1; (case k1 => walk_at "ev")))
local macro_rules | `(tactic| walk_at "et") => `(tactic| (refine' et_B ?k1; (case k1 => walk_at "ev")))
local macro_rules | `(tactic| walk_at "et") => `(tactic| (refine' et_not ?k1; (case k1 => walk_at "et")))
local macro_rules | `(tactic| walk_at "et") => `(tactic| (refine' et_or ?k1 (fun _ => ?k2); (case k1 => walk_at "et"); (case k2 => walk_at "et")))
local macro_rules | `(tactic| walk_at "et") => `(tactic| (refine' et_and ?k1 (fun _ => ?k2); (case k1 => walk_at "et"); (case k2 => walk_at "et")))
section
variable {P : Program} {w : World} {K : PySem.W.Frag} {mg : Str → Option Value} {base : Heap}
/-! ### where a walk of nodes that do nothing ends -/
def scI (im : List Int) (k : Int) : Int := match nodeAt im k with | some n => n.2.2 | none => k
def itI (im : List Int) : Nat → Int → Int
  | 0, k => k
  | i + 1, k => itI im i (scI im k)
theorem it_add (im : List Int) : ∀ (i j : Nat) (k : Int), itI im (i + j) k = itI im j (itI im i k)
  | 0, j, k => by rw [Nat.zero_add]; rfl
  | i + 1, j, k => by
    rw [show i + 1 + j = (i + j) + 1 by omega]
    exact it_add im i j (scI im k)
theorem it_last (im : List Int) (i : Nat) (k : Int) : itI im (i + 1) k = scI im (itI im i k) := it_add im i 1 k
def RingS (im : List Int) (k y : Int) : Prop := (∃ i, itI im i k = y) ∧ ∃ p, 0 < p ∧ itI im p y = y
def Tg (im : List Int) (k v : Int) : Prop := (∃ j, (∀ i, i < j → nopF im (itI im i k) = true) ∧ nopF im (itI im j k) = false ∧ v = itI im j k) ∨ ((∀ i, nopF im (itI im i k) = true) ∧ Least fixI (RingS im k) v)
theorem tg_uniq {im : List Int} {k v w : Int} (h : Tg im k v) (g : Tg im k w) : v = w := by
  rcases h with ⟨j, h1, h2, h3⟩ | ⟨h1, h2⟩
  · rcases g with ⟨l, g1, g2, g3⟩ | ⟨g1, g2⟩
    · rcases Nat.lt_trichotomy j l with c | c | c
      · rw [g1 j c] at h2; cases h2
      · rw [h3, g3, c]
      · rw [h1 l c] at g2; cases g2
    · rw [g1 j] at h2; cases h2
  · rcases g with ⟨l, g1, g2, g3⟩ | ⟨g1, g2⟩
    · rw [h1 l] at g2; cases g2
    · exact h2.uniq g2
theorem tg_non {im : List Int} {k : Int} (h : nopF im k = false) : Tg im k k := .inl ⟨0, fun i hi => absurd hi (Nat.not_lt_zero _), h, rfl⟩
theorem tg_step {im : List Int} {k v : Int} (h : nopF im k = true) (g : Tg im (scI im k) v) : Tg im k v := by
  rcases g with ⟨j, g1, g2, g3⟩ | ⟨g1, g2⟩
  · refine .inl ⟨j + 1, fun i hi => ?_, g2, g3⟩
    cases i with
    | zero => exact h
    | succ i => exact g1 i (by omega)
  · refine .inr ⟨fun i => ?_, g2.congr fun y => ?_⟩
    · cases i with
      | zero => exact h
      | succ i => exact g1 i
    · constructor
      · rintro ⟨⟨i, hi⟩, hp⟩
        exact ⟨⟨i + 1, hi⟩, hp⟩
      · rintro ⟨⟨i, hi⟩, p, hp, hy⟩
        cases i with
        | succ i => exact ⟨⟨i, hi⟩, p, hp, hy⟩
        | zero =>
          refine ⟨⟨p - 1, ?_⟩, p, hp, hy⟩
          have hk : k = y := hi
          rw [← hk] at hy ⊢
          have : itI im ((p - 1) + 1) k = k := by rw [show p - 1 + 1 = p by omega]; exact hy
          exact this
/-- the nodes of a walk s, .., all do nothing -/
theorem tg_back {im : List Int} {s v : Int} : ∀ (n : Nat), (∀ i, i < n → nopF im (itI im i s) = true) → Tg im (itI im n s) v → ∀ i, i ≤ n → Tg im (itI im i s) v := fun n hn hT i hi => by
  have key : ∀ d, ∀ i, i + d = n → Tg im (itI im i s) v := by
    intro d
    induction d with
    | zero => intro i e; rw [show i = n by omega]; exact hT
    | succ d ih =>
      intro i e
      refine tg_step (hn i (by omega)) ?_
      rw [← it_last]
      exact ih (i + 1) (by omega)
  exact key (n - i) i (by omega)
theorem it_mul (im : List Int) {p : Nat} {c : Int} (h : itI im p c = c) : ∀ q, itI im (p * q) c = c
  | 0 => rfl
  | q + 1 => by rw [Nat.mul_succ, it_add, it_mul im h q, h]
theorem it_mod (im : List Int) {p : Nat} {c : Int} (h : itI im p c = c) (i : Nat) : itI im i c = itI im (i % p) c := by
  have := it_add im (p * (i / p)) (i % p) c
  rw [Nat.div_add_mod, it_mul im h] at this
  exact this
/-- a ring: c, .., back to c -/
theorem tg_ring {im : List Int} {c v : Int} {p : Nat} (hp : 0 < p) (h : itI im p c = c) (hn : ∀ i, i < p → nopF im (itI im i c) = true) (hv : Least fixI (fun y => ∃ i, i < p ∧ itI im i c = y) v) : Tg im c v :=
  .inr ⟨fun i => by rw [it_mod im h i]; exact hn _ (Nat.mod_lt _ hp), hv.congr fun y => by
    constructor
    · rintro ⟨i, hi, rfl⟩
      refine ⟨⟨i, rfl⟩, p, hp, ?_⟩
      rw [← it_add, Nat.add_comm, it_add, h]
    · rintro ⟨⟨i, rfl⟩, _⟩
      exact ⟨i % p, Nat.mod_lt _ hp, (it_mod im h i).symm⟩⟩
def walkL (im : List Int) (s : Int) (n : Nat) : List Int := (List.range n).map fun i => itI im i s
theorem walk_len (im : List Int) (s : Int) (n : Nat) : (walkL im s n).length = n := by unfold walkL; rw [List.length_map, List.length_range]
theorem walk_snoc (im : List Int) (s : Int) (n : Nat) : walkL im s (n + 1) = walkL im s n ++ [itI im n s] := by unfold walkL; rw [List.range_succ, List.map_append]; rfl
theorem walk_at {im : List Int} {s : Int} {n i : Nat} (h : i < n) : (walkL im s n)[i]? = some (itI im i s) := by
  unfold walkL
  rw [List.getElem?_map, List.getElem?_range h]
  rfl
theorem walk_mem {im : List Int} {s : Int} {n : Nat} {y : Int} : y ∈ walkL im s n ↔ ∃ i, i < n ∧ itI im i s = y := by
  unfold walkL
  rw [List.mem_map]
  simp only [List.mem_range]
/-- a walk that meets itself: told by the place where it does -/
theorem walk_ring {im : List Int} {s : Int} {n : Nat} (hn : ∀ i, i < n → nopF im (itI im i s) = true) (hm : itI im n s ∈ walkL im s n) : ∃ j, j < n ∧ (walkL im s n)[j]? = some (itI im n s) ∧ (∀ m, m < j → (walkL im s n)[m]? ≠ some (itI im n s)) ∧
    ((walkL im s n).drop j ≠ []) ∧ ∃ v, Least fixI (fun y => y ∈ (walkL im s n).drop j) v ∧ Tg im (itI im n s) v := by
  obtain ⟨i0, hi0, e0⟩ := walk_mem.mp hm
  -- the first such place
  have first : ∀ (d : Nat), (∃ i, i < d ∧ itI im i s = itI im n s) → ∃ j, j < d ∧ itI im j s = itI im n s ∧ ∀ m, m < j → itI im m s ≠ itI im n s := by
    intro d
    induction d with
    | zero => rintro ⟨i, hi, _⟩; exact absurd hi (Nat.not_lt_zero _)
    | succ d ih =>
      rintro ⟨i, hi, e⟩
      by_cases c : ∃ i, i < d ∧ itI im i s = itI im n s
      · obtain ⟨j, h1, h2, h3⟩ := ih c
        exact ⟨j, by omega, h2, h3⟩
      · refine ⟨i, hi, e, fun m hm2 z => c ⟨m, by omega, z⟩⟩
  obtain ⟨j, hj, ej, hfirst⟩ := first n ⟨i0, hi0, e0⟩
  have hd : (walkL im s n).drop j ≠ [] := fun z => by
    have := congrArg List.length z
    rw [List.length_drop, walk_len] at this
    simp only [List.length_nil] at this
    omega
  obtain ⟨v, hv⟩ := least_ex fixI hd
  have hdm : ∀ y, y ∈ (walkL im s n).drop j ↔ ∃ i, i < n - j ∧ itI im i (itI im j s) = y := fun y => by
    rw [List.mem_iff_getElem?]
    simp only [List.getElem?_drop]
    constructor
    · rintro ⟨i, hi⟩
      have hlt : j + i < n := by
        have := (List.getElem?_eq_some_iff.mp hi).1
        rw [walk_len] at this
        exact this
      rw [walk_at hlt] at hi
      exact ⟨i, by omega, by rw [← it_add]; exact Option.some.inj hi⟩
    · rintro ⟨i, hi, rfl⟩
      exact ⟨i, by rw [walk_at (by omega), it_add]⟩
  refine ⟨j, hj, by rw [walk_at hj, ej], fun m hm2 z => ?_, hd, v, hv, ?_⟩
  · rw [walk_at (by omega)] at z
    exact hfirst m hm2 (Option.some.inj z)
  · rw [← ej]
    refine tg_ring (p := n - j) (by omega) ?_ (fun i hi => ?_) (hv.congr hdm)
    · rw [← it_add, show j + (n - j) = n by omega, ← ej]
    · rw [← it_add]
      exact hn _ (by omega)
theorem nop_key {im : List Int} {k : Int} (h : nopF im k = true) : k ∈ keysOf (rowsOf im) := by
  rw [keys_mem]
  unfold nopF at h
  cases c : nodeAt im k with
  | none => rw [c] at h; cases h
  | some n => rfl


end
end K32

set_option Elab.async false
set_option linter.all false
set_option maxRecDepth 100000
set_option maxHeartbeats 4000000
set_option exponentiation.threshold 600
namespace K32
open PySem PySem.Spec PyProof.Rows L2 Evl Gd
/-! ### how expressions are evaluated, without a word of ours -/
local macro_rules | `(tactic| walk_at "ev") => `(tactic| exact ev_c)
local macro_rules | `(tactic| walk_at "ev") => `(tactic| exact ev_var rfl)
local macro_rules | `(tactic| walk_at "ev") => `(tactic| (refine' ev_op ?k1 ?k2 ?k3; (case k1 => walk_at "ev"); (case k2 => walk_at "ev"); (case k3 => walk_at "rv")))
local macro_rules | `(tactic| walk_at "ev") => `(tactic| (refine' ev_cb ?k1 ?k2; (case k1 => walk_at "ea"); (case k2 => walk_at "rc")))
local macro_rules | `(tactic| walk_at "ev") => `(tactic| (refine' ev_call ?k1 ?k2; (case k1 => walk_at "ea"); (case k2 => walk_at "sp")))
local macro_rules | `(tactic| walk_at "ev") => `(tactic| (refine' ev_chain ?k1 ?k2 ?k3 (fun _ => ?k4) (fun _ => ?k5); (case k1 => walk_at "ev"); (case k2 => walk_at "ev"); (case k3 => walk_at "rv"); (case k4 => walk_at "ev"); (case k5 => walk_at "rv")))
local macro_rules | `(tactic| walk_at "ev") => `(tactic| (refine' ev_orV ?k1 (fun _ => ?k2); (case k1 => walk_at "ev"); (case k2 => walk_at "ev")))
local macro_rules | `(tactic| walk_at "ev") => `(tactic| (refine' ev_andV ?k1 (fun _ => ?k2); (case k1 => walk_at "ev"); (case k2 => walk_at "ev")))
local macro_rules | `(tactic| walk_at "ev") => `(tactic| (refine' ev_notV ?k1; (case k1 => walk_at "ev")))
local macro_rules | `(tactic| walk_at "ea") => `(tactic| exact ea_nil)
local macro_rules | `(tactic| walk_at "ea") => `(tactic| (refine' ea_cons ?k1 ?k2; (case k1 => walk_at "ev"); (case k2 => walk_at "ea")))
local macro_rules | `(tactic| walk_at "rv") => `(tactic| exact rv_I0)
local macro_rules | `(tactic| walk_at "rv") => `(tactic| exact rv_eqI)
local macro_rules | `(tactic| walk_at "rv") => `(tactic| exact rv_neI)
local macro_rules | `(tactic| walk_at "rv") => `(tactic| exact rv_eqS)
local macro_rules | `(tactic| walk_at "rv") => `(tactic| exact rv_neS)
local macro_rules | `(tactic| walk_at "rv") => `(tactic| exact rv_mod (by decide))
local macro_rules | `(tactic| walk_at "rv") => `(tactic| exact rv_fdiv (by decide) (by decide))
local macro_rules | `(tactic| walk_at "rv") => `(tactic| exact rv_mulR (by decide))
local macro_rules | `(tactic| walk_at "rv") => `(tactic| exact rv_pow (by decide))
local macro_rules | `(tactic| walk_at "rc") => `(tactic| exact rc_int)
local macro_rules | `(tactic| walk_at "rc") => `(tactic| exact rc_ord)
local macro_rules | `(tactic| walk_at "et") => `(tactic| (refine' et_test ?k1; (case k1 => walk_at "ev")))
local macro_rules | `(tactic| walk_at "et") => `(tactic| (refine' et_B ?k1; (case k1 => walk_at "ev")))
local macro_rules | `(tactic| walk_at "et") => `(tactic| (refine' et_not ?k1; (case k1 => walk_at "et")))
local macro_rules | `(tactic| walk_at "et") => `(tactic| (refine' et_or ?k1 (fun _ => ?k2); (case k1 => walk_at "et"); (case k2 => walk_at "et")))
local macro_rules | `(tactic| walk_at "et") => `(tactic| (refine' et_and ?k1 (fun _ => ?k2); (case k1 => walk_at "et"); (case k2 => walk_at "et")))
section
variable {P : Program} {w : World} {K : PySem.W.Frag} {mg : Str → Option Value} {base : Heap}
/-! ### the end of a walk; all targets -/
def EndV (ns : List Int) (x v : Int) : Prop := (x ∉ ns → v = x) ∧ (x ∈ ns → ∃ j, ns[j]? = some x ∧ (∀ m, m < j → ns[m]? ≠ some x) ∧ ns.drop j ≠ [] ∧ Least fixI (fun y => y ∈ ns.drop j) v)
def sp_end_of_walk (K : PySem.W.Frag) : Sp := fun vs H Q _ => ∃ (w : Addr) (ns : List Int) (x v : Int), vs = [.ref w, .int x] ∧ H w = some (.lst (ns.map V.int)) ∧ ns.length ≤ 1000 ∧ EndV ns x v ∧ RetV (.int v) H Q
theorem ok_end_of_walk (T : Txt K mg) : FnOk P w K mg base CX0 3 T.f_end_of_walk T.d_end_of_walk ["walk", "number"] (sp_end_of_walk K) := by
  refine T.F_end_of_walk.ok sc_end_of_walk (fun vs H Q E h => ?_) (fun cdv A outer s H vs Q E hr h => ?_)
  · obtain ⟨w, ns, x, v, rfl, _⟩ := h
    rfl
  · obtain ⟨w, ns, x, v, rfl, hw, hl, hv, k⟩ := h
    refine ⟨_, (pss_one (ps_ret (pe_ifExp (pt_cmpR op_in_seq (pv 1) (pv 0) (by rfl)) (pe_call (ok_least T) (hr.mono (by decide)) (by rfl) T.g_least T.F_least.kp T.b_least .nil pass0 (pa_cons (pe_slice sl_list (pv 0) (po_some (pe_bm PySem.F.plainAttrs_list PySem.F.slot_list_index PySem.F.type_list_index mt_index (pv 0) (pa_cons (pv 1) pa_nil))) po_none) pa_nil)) (pv 1)))), ?_⟩
    refine s_ret (v := .int v) (ev_if (b := decide (x ∈ ns)) ?_ (fun hb => ?_) (fun hb => ?_)) k
    · have := ev_op (r := rIn K false) (H := H) (σ := L2.start N_end_of_walk [.ref w, .int x]) (ta := tVar 1) (tb := tVar 0) (ev_var rfl) (ev_var rfl) (rv_inL (neg := false) (sq_of hw) rfl (by simp [flatV]))
      rw [show inV (.int x) (ns.map V.int) = decide (x ∈ ns) from inV_ints _ _] at this
      exact et_test this
    · obtain ⟨j, hj, hm, hd, hlv⟩ := hv.2 (of_decide_eq_true hb)
      have hjl := (List.getElem?_eq_some_iff.mp hj).1
      intro G e Q q
      have hix := ev_indexI (K := K) (H := G) (σ := L2.start N_end_of_walk [.ref w, .int x]) (ta := tVar 0) (tb := tVar 1) (ev_var rfl) (fun _ _ => ev_var rfl) (sq_of (e _ _ hw)) hj hm (fun G2 e2 => .inl ⟨rfl, _, sq_of (e2 _ _ (e _ _ hw))⟩)
      have hs := el_slI (K := K) (lo := tPart (tBM K "list" (rIndex K) (tVar 0) (tCons (tVar 1) tNil))) (hi := tNoPart) (σ := L2.start N_end_of_walk [.ref w, .int x]) (te := tVar 0) (ev_var rfl) (sq_of (e _ _ hw)) (eo_some hix) eo_none
      rw [cutZ_drop ns (by omega)] at hs
      exact hs G (Ex.refl G) _ fun p G1 np e1 hp => ⟨p, ns.drop j, v, rfl, sq_of hp, by rw [List.length_drop]; omega, hd, hlv, fun G2 e2 => q G2 (e1.trans e2)⟩
    · rw [hv.1 (of_decide_eq_false hb)]
      exact ev_var rfl


end
end K32

set_option Elab.async false
set_option linter.all false
set_option maxRecDepth 100000
set_option maxHeartbeats 4000000
set_option exponentiation.threshold 600
namespace K32
open PySem PySem.Spec PyProof.Rows L2 Evl Gd
/-! ### how expressions are evaluated, without a word of ours -/
local macro_rules | `(tactic| walk_at "ev") => `(tactic| exact ev_c)
local macro_rules | `(tactic| walk_at "ev") => `(tactic| exact ev_var rfl)
local macro_rules | `(tactic| walk_at "ev") => `(tactic| (refine' ev_op ?k1 ?k2 ?k3; (case k1 => walk_at "ev"); (case k2 => walk_at "ev"); (case k3 => walk_at "rv")))
local macro_rules | `(tactic| walk_at "ev") => `(tactic| (refine' ev_cb ?k1 ?k2; (case k1 => walk_at "ea"); (case k2 => walk_at "rc")))
local macro_rules | `(tactic| walk_at "ev") => `(tactic| (refine' ev_call ?k1 ?k2; (case k1 => walk_at "ea"); (case k2 => walk_at "sp")))
local macro_rules | `(tactic| walk_at "ev") => `(tactic| (refine' ev_chain ?k1 ?k2 ?k3 (fun _ => ?k4) (fun _ => ?k5); (case k1 => walk_at "ev"); (case k2 => walk_at "ev"); (case k3 => walk_at "rv"); (case k4 => walk_at "ev"); (case k5 => walk_at "rv")))
local macro_rules | `(tactic| walk_at "ev") => `(tactic| (refine' ev_orV ?k1 (fun _ => ?k2); (case k1 => walk_at "ev"); (case k2 => walk_at "ev")))
local macro_rules | `(tactic| walk_at "ev") => `(tactic| (refine' ev_andV ?k1 (fun _ => ?k2); (case k1 => walk_at "ev"); (case k2 => walk_at "ev")))
local macro_rules | `(tactic| walk_at "ev") => `(tactic| (refine' ev_notV ?k1; (case k1 => walk_at "ev")))
local macro_rules | `(tactic| walk_at "ea") => `(tactic| exact ea_nil)
local macro_rules | `(tactic| walk_at "ea") => `(tactic| (refine' ea_cons ?k1 ?k2; (case k1 => walk_at "ev"); (case k2 => walk_at "ea")))
local macro_rules | `(tactic| walk_at "rv") => `(tactic| exact rv_I0)
local macro_rules | `(tactic| walk_at "rv") => `(tactic| exact rv_eqI)
local macro_rules | `(tactic| walk_at "rv") => `(tactic| exact rv_neI)
local macro_rules | `(tactic| walk_at "rv") => `(tactic| exact rv_eqS)
local macro_rules | `(tactic| walk_at "rv") => `(tactic| exact rv_neS)
local macro_rules | `(tactic| walk_at "rv") => `(tactic| exact rv_mod (by decide))
local macro_rules | `(tactic| walk_at "rv") => `(tactic| exact rv_fdiv (by decide) (by decide))
local macro_rules | `(tactic| walk_at "rv") => `(tactic| exact rv_mulR (by decide))
local macro_rules | `(tactic| walk_at "rv") => `(tactic| exact rv_pow (by decide))
local macro_rules | `(tactic| walk_at "rc") => `(tactic| exact rc_int)
local macro_rules | `(tactic| walk_at "rc") => `(tactic| exact rc_ord)
local macro_rules | `(tactic| walk_at "et") => `(tactic| (refine' et_test ?k1; (case k1 => walk_at "ev")))
local macro_rules | `(tactic| walk_at "et") => `(tactic| (refine' et_B ?k1; (case k1 => walk_at "ev")))
local macro_rules | `(tactic| walk_at "et") => `(tactic| (refine' et_not ?k1; (case k1 => walk_at "et")))
local macro_rules | `(tactic| walk_at "et") => `(tactic| (refine' et_or ?k1 (fun _ => ?k2); (case k1 => walk_at "et"); (case k2 => walk_at "et")))
local macro_rules | `(tactic| walk_at "et") => `(tactic| (refine' et_and ?k1 (fun _ => ?k2); (case k1 => walk_at "et"); (case k2 => walk_at "et")))
section
variable {P : Program} {w : World} {K : PySem.W.Frag} {mg : Str → Option Value} {base : Heap}
def TgD (im : List Int) (sd : List (Int × Int)) : Prop := (∀ k v, getI sd k = some v → Tg im k v) ∧ ∀ k, nopF im k = true → (getI sd k).isSome = true
def sp_targets_of (K : PySem.W.Frag) : Sp := fun vs H Q _ => ∃ (t : Addr) (kvs : List (Key × V)) (im : List Int), vs = [.ref t] ∧ H t = some (.dK kvs) ∧ TabT K H kvs (nodeAt im) ∧ kvs.map (·.1) = (keysOf (rowsOf im)).map Sum.inl ∧ (rowsOf im).length ≤ 20 ∧ ∀ sd, TgD im sd → ∀ p H2, H p = none → Ex H H2 → H2 p = some (.dK (kvI sd)) → Q (.ref p) H2
theorem ok_targets_of (T : Txt K mg) : FnOk P w K mg base CX0 4 T.f_targets_of T.d_targets_of ["table"] (sp_targets_of K) := by
  refine T.F_targets_of.ok sc_targets_of (fun vs H Q E h => ?_) (fun cdv A outer s H vs Q E hr h => ?_)
  · obtain ⟨t, kvs, im, rfl, _⟩ := h
    rfl
  · obtain ⟨t, kvs, im, rfl, hT, hTab, hKeys, hrw, k⟩ := h
    refine ⟨_, (pss_cons (ps_set (i := 1) sc_targets_of.nd rfl (Or.inl rfl) pe_dnewK)
        (pss_cons (ps_lock (ps_for PassesOwn.never rfl (pi_keys (pv 0)) (pg_name (i := 2) sc_targets_of.nd rfl (Or.inl rfl)) (pss_cons (ps_set (i := 3) sc_targets_of.nd rfl (Or.inl rfl) pe_dnewK)
        (pss_cons (ps_set (i := 4) sc_targets_of.nd rfl (Or.inl rfl) (pv 2))
        (pss_cons (ps_while PassesOwn.never (PW.pt (pw_and (pt_val (pe_call (ok_is_nop T) (hr.mono (by decide)) (by rfl) T.g_is_nop T.F_is_nop.kp T.b_is_nop .nil pass0 (pa_cons (pv 0) (pa_cons (pv 4) pa_nil)))) (pw_and (pt_cmp (pc_dnotin (hu_of hr) (pv 4) (pv 3))) (pw_and1 (pt_cmp (pc_dnotin (hu_of hr) (pv 4) (pv 1))))))) (pss_cons (ps_dput (hu_of hr) (pv 3) (pv 4) pe_bl rfl)
        (pss_one (ps_set (i := 4) sc_targets_of.nd rfl (Or.inl rfl) (pe_ix ix_tup (pe_dget (hu_of hr) (pv 0) (pv 4) (fun _ _ => rfl)) pe_int (fun _ _ => rfl))))))
        (pss_cons (ps_set (i := 5) sc_targets_of.nd rfl (Or.inl rfl) (pe_ifExp (pt_cmp (pc_din (hu_of hr) (pv 4) (pv 1))) (pe_dget (hu_of hr) (pv 1) (pv 4) (fun _ _ => rfl)) (pe_call (ok_end_of_walk T) (hr.mono (by decide)) (by rfl) T.g_end_of_walk T.F_end_of_walk.kp T.b_end_of_walk .nil pass0 (pa_cons (pe_callTy (call_listD rfl) (by rfl) T.n_list (by decide +kernel) (pa_cons (pv 3) pa_nil)) (pa_cons (pv 4) pa_nil)))))
        (pss_one (ps_lock (ps_for PassesOwn.never rfl (pi_keys (pv 3)) (pg_name (i := 6) sc_targets_of.nd rfl (Or.inl rfl)) (pss_one (ps_dput (hu_of hr) (pv 1) (pv 6) (pv 5) rfl)))))))))))
        (pss_one (ps_ret (pv 1))))), ?_⟩
    have hkl := keys_len (rowsOf im)
    refine q_dnew (fun p np => ?_)
    have hpt : p ≠ t := fun z => by rw [z, hT] at np; cases np
    have x1 : Ex H (upd H p (.dK [])) := Ex.new np
    have p1 : (upd H p (.dK [])) p = some (.dK (kvI [])) := upd_same
    have hkk : kvs.length = (keysOf (rowsOf im)).length := by have := congrArg List.length hKeys; rwa [List.length_map, List.length_map] at this
    refine q_forDg (d := t) (kvs := kvs) (by rw [upd_ne hpt.symm]; exact hT) (fun G => ev_var rfl) (fun od => ⟨fun i σ' G => ∃ (sd : List (Int × Int)) (y2 y3 y4 y5 y6 : Option V), σ' = [some (.ref t), some (.ref p), y2, y3, y4, y5, y6] ∧ G t = some (.frz od (.dK kvs)) ∧ (∀ b o, b ≠ t → H b = some o → G b = some o) ∧ G p = some (.dK (kvI sd)) ∧ TabT K G kvs (nodeAt im) ∧ (∀ k v, getI sd k = some v → Tg im k v) ∧ (∀ i', i' < i → ∀ k, (keysOf (rowsOf im))[i']? = some k → nopF im k = true → (getI sd k).isSome = true) ∧ sd.length ≤ 100 * i, ?_, ?_, ?_, ?_⟩)
    · intro G eG
      refine ⟨[], none, none, none, none, none, rfl, eG _ _ upd_same, fun b o hb h => eG _ _ (by rw [upd_ne hb]; exact x1 _ _ h), eG _ _ (by rw [upd_ne hpt]; exact p1), ?_, fun k v h => (nomatch h), fun i' h => absurd h (Nat.not_lt_zero _), Nat.le_refl _⟩
      exact ((hTab.ex x1).mut (p := t) (o := .dK kvs) (by rw [upd_ne hpt.symm]; exact hT) nt_dK).ex eG
    · rintro i σ' G ⟨sd, _, _, _, _, _, rfl, h, _⟩
      exact h
    · rintro i kv σ' G D' hkv ⟨sd, y2, y3, y4, y5, y6, rfl, gt, gf, gp, gT, gv, gk, gl⟩ hk
      obtain ⟨s, hs, hkv1⟩ : ∃ s, (keysOf (rowsOf im))[i]? = some s ∧ kv.1 = Sum.inl s := by
        have h1 : (kvs.map (·.1))[i]? = some kv.1 := by rw [List.getElem?_map, hkv]; rfl
        rw [hKeys, List.getElem?_map] at h1
        cases c : (keysOf (rowsOf im))[i]? with
        | none => rw [c] at h1; cases h1
        | some s => rw [c] at h1; exact ⟨s, rfl, (Option.some.inj h1).symm⟩
      have hi20 : i < 20 := by have := (List.getElem?_eq_some_iff.mp hs).1; omega
      rw [hkv1]
      show tSeq _ _ _ [some (.ref t), some (.ref p), some (.int s), y3, y4, y5, y6] G
      refine q_dnew (fun w nw => ?_)
      have nwt : w ≠ t := fun z => by rw [z, gt] at nw; cases nw
      have nwp : w ≠ p := fun z => by rw [z, gp] at nw; cases nw
      have xg : Ex G (upd G w (.dK [])) := Ex.new nw
      refine q_asg (v := .int s) (ev_var rfl) (fun G1 e1 => ?_)
      have w1 : G1 w = some (.dK (kvB (walkL im s 0))) := e1 _ _ upd_same
      have xg1 := xg.trans e1
      have bnd : ∀ n, (∀ i, i < n → nopF im (itI im i s) = true) → (walkL im s n).Nodup → n ≤ 20 := fun n h1 h2 => by
        have := nodup_sub_len _ (keysOf (rowsOf im)) h2 fun x hx => by
          obtain ⟨i, hi, rfl⟩ := walk_mem.mp hx
          exact nop_key (h1 i hi)
        rw [walk_len] at this
        omega
      refine q_while (fun m σ' G' => ∃ n, σ' = [some (.ref t), some (.ref p), some (.int s), some (.ref w), some (.int (itI im n s)), y5, y6] ∧ Ex G G' ∧ G' w = some (.dK (kvB (walkL im s n))) ∧ (∀ i, i < n → nopF im (itI im i s) = true) ∧ (walkL im s n).Nodup ∧ m = 30 - n) 30 ⟨0, rfl, xg1, w1, fun i h => absurd h (Nat.not_lt_zero _), List.nodup_nil, rfl⟩ ?_
      rintro m σ' G2 ⟨n, rfl, e2, w2, hn, hnd, rfl⟩
      have hTb : Tb K G2 t im := ⟨kvs, .inr ⟨od, e2 _ _ gt⟩, gT.ex e2, hKeys⟩
      have hn20 := bnd n hn hnd
      refine ⟨nopF im (itI im n s) && (!decide (itI im n s ∈ walkL im s n) && !(getI sd (itI im n s)).isSome), et_and (et_B (ev_call (ea_cons (ev_var rfl) (ea_cons (ev_var rfl) ea_nil)) (v_is_nop hTb))) (fun _ => et_and (et_test (ev_notB (ev_var rfl) (fun _ _ => ev_var rfl) w2)) (fun _ => et_test (ev_notInR (ev_var rfl) (fun _ _ => ev_var rfl) (Rd.of (e2 _ _ gp))))), fun hb G3 e3 => ⟨fun σ2 G4 => ∃ m', m' < 30 - n ∧ ∃ n, σ2 = [some (.ref t), some (.ref p), some (.int s), some (.ref w), some (.int (itI im n s)), y5, y6] ∧ Ex G G4 ∧ G4 w = some (.dK (kvB (walkL im s n))) ∧ (∀ i, i < n → nopF im (itI im i s) = true) ∧ (walkL im s n).Nodup ∧ m' = 30 - n, fun _ _ h => h, ?_⟩, fun hb G3 e3 => ?_⟩
      · simp only [Bool.and_eq_true, Bool.not_eq_true', decide_eq_false_iff_not] at hb
        obtain ⟨hb1, hb2, hb3⟩ := hb
        refine q_dput (k := Sum.inl (itI im n s)) (ev_c (v := .bl true)) (ev_var rfl) (ev_var rfl) (e3 _ _ w2) (by rw [kvB_len, walk_len]; omega) (fun G4 e4 => ?_)
        rw [kvB_put hb2, ← walk_snoc]
        have x4 := Ex.mut (o := .dK (kvB (walkL im s (n + 1)))) (e2.trans (e3.trans e4)) nw
        have w4 : (upd G4 w (.dK (kvB (walkL im s (n + 1))))) w = _ := upd_same
        generalize upd G4 w (.dK (kvB (walkL im s (n + 1)))) = G5 at x4 w4
        have hTb5 : Tb K G5 t im := ⟨kvs, .inr ⟨od, x4 _ _ gt⟩, gT.ex x4, hKeys⟩
        obtain ⟨nd, hnn⟩ : ∃ nd, nodeAt im (itI im n s) = some nd := by
          unfold nopF at hb1
          cases c : nodeAt im (itI im n s) with
          | none => rw [c] at hb1; cases hb1
          | some nd => exact ⟨nd, rfl⟩
        have hsc : itI im (n + 1) s = nd.2.2 := by rw [it_last]; unfold scI; rw [hnn]
        have hnop' : ∀ i, i < n + 1 → nopF im (itI im i s) = true := fun i hi => by
          by_cases c : i = n
          · rw [c]; exact hb1
          · exact hn i (by omega)
        have hnd' : (walkL im s (n + 1)).Nodup := by
          rw [walk_snoc]
          exact List.nodup_append.mpr ⟨hnd, (by simp), fun a ha b hb e => hb2 (by rw [← List.mem_singleton.mp hb, ← e]; exact ha)⟩
        have := bnd (n + 1) hnop' hnd'
        exact s_asg (v := .int nd.2.2) (ev_tbI 2 rfl (ev_var rfl) (fun _ _ => ev_var rfl) hTb5 hnn) (fun G6 e6 => ⟨30 - (n + 1), by omega, n + 1, by rw [hsc]; rfl, x4.trans e6, e6 _ _ w4, hnop', hnd', rfl⟩)
      · have e23 := e2.trans e3
        have w3 := e3 _ _ w2
        have gp3 := e23 _ _ gp
        -- where it ends
        obtain ⟨v, hvT, hvE⟩ : ∃ v, Tg im (itI im n s) v ∧ Ev (tIf (tB (tDIn (tVar 4) (tVar 1))) (tDGet (tVar 1) (tVar 4)) (tCall (sp_end_of_walk K) [] E0 (tCons (tCB (fun xs H Q => ∃ (a : Addr) (kvs : List (Key × V)), xs = [.ref a] ∧ Rd H a (.dK kvs) ∧ ∀ p, H p = none → Q (.ref p) (upd H p (.lst (kvs.map fun kv => kV kv.1)))) (tCons (tVar 3) tNil)) (tCons (tVar 4) tNil)))) [some (.ref t), some (.ref p), some (.int s), some (.ref w), some (.int (itI im n s)), y5, y6] G3 (.int v) := by
          have hin := ev_inR (H := G3) (σ := [some (.ref t), some (.ref p), some (.int s), some (.ref w), some (.int (itI im n s)), y5, y6]) (td := tVar 1) (ty := tVar 4) (ev_var rfl) (fun _ _ => ev_var rfl) (Rd.of gp3)
          cases hg : getI sd (itI im n s) with
          | some v =>
            rw [hg] at hin
            exact ⟨v, gv _ _ hg, ev_if (b := true) (et_test hin) (fun _ => ev_ixR (ev_var rfl) (fun _ _ => ev_var rfl) (Rd.of gp3) hg) (fun h => nomatch h)⟩
          | none =>
            rw [hg] at hin
            have main : ∀ v, EndV (walkL im s n) (itI im n s) v → Ev (tIf (tB (tDIn (tVar 4) (tVar 1))) (tDGet (tVar 1) (tVar 4)) (tCall (sp_end_of_walk K) [] E0 (tCons (tCB (fun xs H Q => ∃ (a : Addr) (kvs : List (Key × V)), xs = [.ref a] ∧ Rd H a (.dK kvs) ∧ ∀ p, H p = none → Q (.ref p) (upd H p (.lst (kvs.map fun kv => kV kv.1)))) (tCons (tVar 3) tNil)) (tCons (tVar 4) tNil)))) [some (.ref t), some (.ref p), some (.int s), some (.ref w), some (.int (itI im n s)), y5, y6] G3 (.int v) := fun v hv =>
              ev_if (b := false) (et_test hin) (fun h => nomatch h) (fun _ G e Q q => by
                have hL := el_listDk (H := G3) (σ := [some (.ref t), some (.ref p), some (.int s), some (.ref w), some (.int (itI im n s)), y5, y6]) (td := tVar 3) (a := w) (kvs := kvB (walkL im s n)) (ev_var rfl) (Rd.of w3)
                refine hL G e (fun u G4 => tCons (tVar 4) tNil _ G4 fun us G5 => sp_end_of_walk K ((u :: us) ++ []) G5 Q E0) fun l G4 nl e4 hl => ⟨_, rfl, l, walkL im s n, itI im n s, v, rfl, by rw [hl]; unfold kvB; rw [List.map_map]; rfl, by rw [walk_len]; omega, hv, fun G5 e5 => q G5 (e4.trans e5)⟩)
            by_cases hw : itI im n s ∈ walkL im s n
            · obtain ⟨j, hj, h1, h2, h3, v, h4, h5⟩ := walk_ring hn hw
              exact ⟨v, h5, main v ⟨fun z => absurd hw z, fun _ => ⟨j, h1, h2, h3, h4⟩⟩⟩
            · have hnf : nopF im (itI im n s) = false := by
                rw [hg, decide_eq_false hw] at hb
                simpa using hb
              exact ⟨_, tg_non hnf, main _ ⟨fun _ => rfl, fun z => absurd z hw⟩⟩
        refine q_asg (v := .int v) hvE (fun G4 e4 => ?_)
        have e24 := e23.trans e4
        have hback := tg_back n hn hvT
        have gp4 := e24 _ _ gp
        have w4 := e4 _ _ w3
        refine s_forDg (d := w) (kvs := kvB (walkL im s n)) w4 (fun G => ev_var rfl) (fun od2 => ⟨fun i2 σ' G' => ∃ (sd2 : List (Int × Int)) (y6 : Option V), σ' = [some (.ref t), some (.ref p), some (.int s), some (.ref w), some (.int (itI im n s)), some (.int v), y6] ∧ G' w = some (.frz od2 (.dK (kvB (walkL im s n)))) ∧ (∀ b o, b ≠ w → b ≠ p → G4 b = some o → G' b = some o) ∧ G' p = some (.dK (kvI sd2)) ∧ TabT K G' kvs (nodeAt im) ∧ (∀ k v, getI sd2 k = some v → Tg im k v) ∧ (∀ k, (getI sd k).isSome = true → (getI sd2 k).isSome = true) ∧ (∀ i', i' < i2 → (getI sd2 (itI im i' s)).isSome = true) ∧ sd2.length ≤ sd.length + i2, ?_, ?_, ?_, ?_⟩)
        · intro G5 e5
          refine ⟨sd, y6, rfl, e5 _ _ upd_same, fun b o hb _ h => e5 _ _ (by rw [upd_ne hb]; exact h), e5 _ _ (by rw [upd_ne nwp.symm]; exact gp4), ?_, gv, fun k h => h, fun i' h => absurd h (Nat.not_lt_zero _), Nat.le_refl _⟩
          exact ((gT.ex e24).mut (p := w) w4 nt_dK).ex e5
        · rintro i2 σ' G' ⟨sd2, y6, rfl, h, _⟩
          exact h
        · rintro i2 kv2 σ' G5 D2 hkv2 ⟨sd2, y6, rfl, w5, f5, p5, T5, v5, m5, d5, l5⟩ hk2
          have hi2 : i2 < n := by
            have := (List.getElem?_eq_some_iff.mp hkv2).1
            rw [kvB_len, walk_len] at this
            exact this
          obtain rfl : kv2 = (Sum.inl (itI im i2 s), .bl true) := by
            unfold kvB at hkv2
            rw [List.getElem?_map, walk_at hi2] at hkv2
            exact (Option.some.inj hkv2).symm
          refine s_dputII (k := itI im i2 s) (v := v) (ev_var rfl) (fun _ _ => ev_var rfl) (fun _ _ => ev_var rfl) p5 (by omega) (fun G6 e6 => hk2 _ _ ?_)
          refine ⟨putI sd2 (itI im i2 s) v, _, rfl, by rw [upd_ne nwp]; exact e6 _ _ w5, fun b o hb hbp h => by rw [upd_ne hbp]; exact e6 _ _ (f5 b o hb hbp h), upd_same, (T5.ex e6).mut (e6 _ _ p5) nt_dK, fun k u hu => ?_, fun k hkk => ?_, fun i' hi' => ?_, ?_⟩
          · rw [getI_put] at hu
            by_cases c : k = itI im i2 s
            · rw [if_pos c] at hu
              cases hu
              rw [c]
              exact hback i2 (by omega)
            · rw [if_neg c] at hu
              exact v5 k u hu
          · rw [getI_put]
            by_cases c : k = itI im i2 s
            · rw [if_pos c]; rfl
            · rw [if_neg c]; exact m5 k hkk
          · rw [getI_put]
            by_cases c : itI im i' s = itI im i2 s
            · rw [if_pos c]; rfl
            · rw [if_neg c]
              exact d5 i' (by
                have : i' ≠ i2 := fun z => c (by rw [z])
                omega)
          · have := putI_len sd2 (itI im i2 s) v
            omega
        · rintro σ' G5 ⟨sd2, y6, rfl, w5, f5, p5, T5, v5, m5, d5, l5⟩
          rw [kvB_len, walk_len] at d5 l5
          refine hk _ _ ⟨sd2, _, _, _, _, _, rfl, ?_, fun b o hb h => ?_, by rw [upd_ne nwp.symm]; exact p5, T5.mut (p := w) w5 nt_frz, v5, fun i' hi' k hkey hnop => ?_, by omega⟩
          · rw [upd_ne nwt.symm]
            exact f5 _ _ nwt.symm hpt.symm (e24 _ _ gt)
          · have hbw : b ≠ w := fun z => by rw [z] at h; rw [z] at hb; rw [gf _ _ hb h] at nw; cases nw
            have hbp : b ≠ p := fun z => by rw [z, np] at h; cases h
            rw [upd_ne hbw]
            exact f5 _ _ hbw hbp (e24 _ _ (gf b o hb h))
          · by_cases c : i' = i
            · rw [c, hs] at hkey
              cases hkey
              by_cases c0 : n = 0
              · -- the walk is empty: the start stands among the targets
                subst c0
                have hst : (getI sd s).isSome = true := by
                  have hb : (nopF im s && (!decide (s ∈ ([] : List Int)) && !(getI sd s).isSome)) = false := hb
                  rw [hnop] at hb
                  cases c1 : (getI sd s).isSome with
                  | true => rfl
                  | false => rw [c1] at hb; simp at hb
                exact m5 s hst
              · exact d5 0 (by omega)
            · exact m5 k (gk i' (by omega) k hkey hnop)
    · rintro σ' G ⟨sd, y2, y3, y4, y5, y6, rfl, gt, gf, gp, gT, gv, gk, gl⟩
      rw [hkk] at gk
      refine s_ret (ev_var rfl) fun G1 e1 => k sd ⟨gv, fun k hk => ?_⟩ p G1 np (fun b o h => e1 _ _ ?_) (e1 _ _ (by rw [upd_ne hpt]; exact gp))
      · obtain ⟨i', hi'⟩ := List.mem_iff_getElem?.mp (nop_key hk)
        exact gk i' (List.getElem?_eq_some_iff.mp hi').1 k hi' hk
      · by_cases c : b = t
        · rw [c] at h ⊢
          rw [hT] at h
          cases h
          exact upd_same
        · rw [upd_ne c]
          exact gf b o c h


end
end K32

set_option Elab.async false
set_option linter.all false
set_option maxRecDepth 100000
set_option maxHeartbeats 4000000
set_option exponentiation.threshold 600
namespace K32
open PySem PySem.Spec PyProof.Rows L2 Evl Gd
/-! ### how expressions are evaluated, without a word of ours -/
local macro_rules | `(tactic| walk_at "ev") => `(tactic| exact ev_c)
local macro_rules | `(tactic| walk_at "ev") => `(tactic| exact ev_var rfl)
local macro_rules | `(tactic| walk_at "ev") => `(tactic| (refine' ev_op ?k1 ?k2 ?k3; (case k1 => walk_at "ev"); (case k2 => walk_at "ev"); (case k3 => walk_at "rv")))
local macro_rules | `(tactic| walk_at "ev") => `(tactic| (refine' ev_cb ?k1 ?k2; (case k1 => walk_at "ea"); (case k2 => walk_at "rc")))
local macro_rules | `(tactic| walk_at "ev") => `(tactic| (refine' ev_call ?k1 ?k2; (case k1 => walk_at "ea"); (case k2 => walk_at "sp")))
local macro_rules | `(tactic| walk_at "ev") => `(tactic| (refine' ev_chain ?k1 ?k2 ?k3 (fun _ => ?k4) (fun _ => ?k5); (case k1 => walk_at "ev"); (case k2 => walk_at "ev"); (case k3 => walk_at "rv"); (case k4 => walk_at "ev"); (case k5 => walk_at "rv")))
local macro_rules | `(tactic| walk_at "ev") => `(tactic| (refine' ev_orV ?k1 (fun _ => ?k2); (case k1 => walk_at "ev"); (case k2 => walk_at "ev")))
local macro_rules | `(tactic| walk_at "ev") => `(tactic| (refine' ev_andV ?k1 (fun _ => ?k2); (case k1 => walk_at "ev"); (case k2 => walk_at "ev")))
local macro_rules | `(tactic| walk_at "ev") => `(tactic| (refine' ev_notV ?k1; (case k1 => walk_at "ev")))
local macro_rules | `(tactic| walk_at "ea") => `(tactic| exact ea_nil)
local macro_rules | `(tactic| walk_at "ea") => `(tactic| (refine' ea_cons ?k1 ?k2; (case k1 => walk_at "ev"); (case k2 => walk_at "ea")))
local macro_rules | `(tactic| walk_at "rv") => `(tactic| exact rv_I0)
local macro_rules | `(tactic| walk_at "rv") => `(tactic| exact rv_eqI)
local macro_rules | `(tactic| walk_at "rv") => `(tactic| exact rv_neI)
local macro_rules | `(tactic| walk_at "rv") => `(tactic| exact rv_eqS)
local macro_rules | `(tactic| walk_at "rv") => `(tactic| exact rv_neS)
local macro_rules | `(tactic| walk_at "rv") => `(tactic| exact rv_mod (by decide))
local macro_rules | `(tactic| walk_at "rv") => `(tactic| exact rv_fdiv (by decide) (by decide))
local macro_rules | `(tactic| walk_at "rv") => `(tactic| exact rv_mulR (by decide))
local macro_rules | `(tactic| walk_at "rv") => `(tactic| exact rv_pow (by decide))
local macro_rules | `(tactic| walk_at "rc") => `(tactic| exact rc_int)
local macro_rules | `(tactic| walk_at "rc") => `(tactic| exact rc_ord)
local macro_rules | `(tactic| walk_at "et") => `(tactic| (refine' et_test ?k1; (case k1 => walk_at "ev")))
local macro_rules | `(tactic| walk_at "et") => `(tactic| (refine' et_B ?k1; (case k1 => walk_at "ev")))
local macro_rules | `(tactic| walk_at "et") => `(tactic| (refine' et_not ?k1; (case k1 => walk_at "et")))
local macro_rules | `(tactic| walk_at "et") => `(tactic| (refine' et_or ?k1 (fun _ => ?k2); (case k1 => walk_at "et"); (case k2 => walk_at "et")))
local macro_rules | `(tactic| walk_at "et") => `(tactic| (refine' et_and ?k1 (fun _ => ?k2); (case k1 => walk_at "et"); (case k2 => walk_at "et")))
section
variable {P : Program} {w : World} {K : PySem.W.Frag} {mg : Str → Option Value} {base : Heap}
/-! ### the law's draws -/
theorem drwNe {p q : Addr} {H H1 : Hp} (h : Drw p H) (n : H q = none) : q ≠ p := fun e => by
  obtain ⟨ds, hd, _⟩ := h
  rw [e, hd] at n
  cases n
theorem drwUpd {p q : Addr} {H : Hp} {o : HO} (h : Drw p H) (n : q ≠ p) : Drw p (upd H q o) := by
  obtain ⟨ds, hd, hs⟩ := h
  exact ⟨ds, by rw [upd_ne n.symm]; exact hd, hs⟩
theorem butNew {p q : Addr} {H H' : Hp} {o : HO} (b : But p H H') (n : H q = none) : But p H (upd H' q o) := fun a u ha h => by
  rw [upd_ne (ne_of_none h n)]
  exact b a u ha h
theorem ep_ixV {σ : L2.St} {H : Hp} {ms : List Int} {p q : Addr} {j : Nat} {tb : TE} (hj : σ[j]? = some (some (.ref q))) (hq : H q = some (.lst (ms.map V.int))) (hqp : q ≠ p) (hb : EvP tb σ H (DP p H fun d => 0 ≤ d ∧ d < (ms.length : Int))) : EvP (tOp (rIxL K) (tVar j) tb) σ H (DP p H fun _ => True) := fun Q qq => ⟨_, hj, hb _ fun v H2 hv => by
  obtain ⟨d, rfl, hd, hD2, b⟩ := hv
  have hlt : d.toNat < ms.length := by omega
  exact ⟨q, ms.map V.int, d, .int ms[d.toNat], rfl, rfl, sq_of (b _ _ hqp hq), at_of (j := d.toNat) (by omega) (by rw [List.getElem?_map, List.getElem?_eq_getElem hlt]; rfl), qq _ _ ⟨_, rfl, trivial, hD2, b⟩⟩⟩
def AnyP (p : Addr) (H : Hp) (Q : VK) : Prop := ∀ v H', DP p H (fun _ => True) v H' → Q v H'
def sp_law_number_of (K : PySem.W.Frag) : Sp := fun vs H Q _ => ∃ p : Addr, vs = [.ref p] ∧ Drw p H ∧ AnyP p H Q
theorem ok_law_number_of (T : Txt K mg) : FnOk P w K mg base CX0 3 T.f_law_number_of T.d_law_number_of ["draws"] (sp_law_number_of K) := by
  refine T.F_law_number_of.ok sc_law_number_of (fun vs H Q E h => ?_) (fun cdv A outer s H vs Q E hr h => ?_)
  · obtain ⟨p, rfl, _⟩ := h
    rfl
  · obtain ⟨p, rfl, hD, k⟩ := h
    refine ⟨_, (pss_cons (ps_set (i := 1) sc_law_number_of.nd rfl (Or.inl rfl) (pe_lst (pa_cons pe_int (pa_cons pe_int (pa_cons pe_int (pa_cons pe_int (pa_cons pe_int (pa_cons pe_int (pa_cons pe_int (pa_cons pe_int (pa_cons pe_int (pa_cons pe_int (pa_cons pe_int (pa_cons pe_int (pa_cons pe_int (pa_cons pe_int (pa_cons (pe_un un_neg pe_int) (pa_cons (pe_un un_neg pe_int) pa_nil))))))))))))))))))
        (pss_one (ps_ret (pe_ix ix_list (pv 1) (pe_call (ok_law_pick T) (hr.mono (by decide)) (by rfl) T.g_law_pick T.F_law_pick.kp T.b_law_pick .nil pass0 (pa_cons (pv 0) (pa_cons pe_int pa_nil))) (fun _ _ => rfl))))), ?_⟩
    refine q_asgL (xs := ([0, 1, 36, 65, 66, 90, 199, 200, 201, 202, 203, 250, 300, 1000, -1, -7] : List Int).map V.int) (el_lst (ea_cons ev_c (ea_cons ev_c (ea_cons ev_c (ea_cons ev_c (ea_cons ev_c (ea_cons ev_c (ea_cons ev_c (ea_cons ev_c (ea_cons ev_c (ea_cons ev_c (ea_cons ev_c (ea_cons ev_c (ea_cons ev_c (ea_cons ev_c (ea_cons (ev_un ev_c ru_neg) (ea_cons (ev_un ev_c ru_neg) ea_nil)))))))))))))))) (by show 16 ≤ 100000; decide)) (fun q H1 nq e1 hq => ?_)
    exact s_retP (ep_ixV rfl hq (drwNe (H1 := H) hD nq) (ep_pick rfl (hD.ex e1) ev_c (by decide))) fun v H2 hv => k v H2 (by
      obtain ⟨d, h1, h2, h3, h4⟩ := hv
      exact ⟨d, h1, h2, h3, (ex_but e1).trans h4⟩)
theorem ep_numberOf {p : Addr} {i : Nat} {σ : L2.St} {H : Hp} (hi : σ[i]? = some (some (.ref p))) (hD : Drw p H) : EvP (tCall (sp_law_number_of K) [] E0 (tCons (tVar i) tNil)) σ H (DP p H fun _ => True) := fun Q q => ⟨_, hi, p, rfl, hD, q⟩
def sp_law_op (K : PySem.W.Frag) : Sp := fun vs H Q _ => ∃ (p : Addr) (s : Int), vs = [.ref p, .int s] ∧ Drw p H ∧ AnyP p H Q
theorem dpm {p : Addr} {H H1 : Hp} {C : Int → Prop} {v : V} {H2 : Hp} (b : But p H H1) (h : DP p H1 C v H2) : DP p H (fun _ => True) v H2 := by
  obtain ⟨d, h1, h2, h3, h4⟩ := h
  exact ⟨d, h1, trivial, h3, b.trans h4⟩
theorem ok_law_op (T : Txt K mg) : FnOk P w K mg base CX0 3 T.f_law_op T.d_law_op ["draws", "share"] (sp_law_op K) := by
  refine T.F_law_op.ok sc_law_op (fun vs H Q E h => ?_) (fun cdv A outer s H vs Q E hr h => ?_)
  · obtain ⟨p, s, rfl, _⟩ := h
    rfl
  · obtain ⟨p, s, rfl, hD, k⟩ := h
    refine ⟨_, (pss_cons (ps_if (PW.pt (pw_and (pt_cmpR op_gt (pv 1) pe_int (nomark _)) (pw_and1 (pt_cmpR op_eq (pe_call (ok_law_pick T) (hr.mono (by decide)) (by rfl) T.g_law_pick T.F_law_pick.kp T.b_law_pick .nil pass0 (pa_cons (pv 0) (pa_cons (pv 1) pa_nil))) pe_int (nomark _))))) (pss_one (ps_ret (pe_ix ix_list (pe_lst (pa_cons pe_int (pa_cons pe_int pa_nil))) (pe_call (ok_law_pick T) (hr.mono (by decide)) (by rfl) T.g_law_pick T.F_law_pick.kp T.b_law_pick .nil pass0 (pa_cons (pv 0) (pa_cons pe_int pa_nil))) (fun _ _ => rfl)))) pss_nil)
        (pss_cons (ps_set (i := 2) sc_law_op.nd rfl (Or.inl rfl) (pe_lst (pa_cons pe_int (pa_cons pe_int (pa_cons pe_int (pa_cons pe_int (pa_cons pe_int (pa_cons pe_int (pa_cons pe_int (pa_cons pe_int (pa_cons pe_int (pa_cons pe_int (pa_cons pe_int (pa_cons pe_int (pa_cons pe_int (pa_cons pe_int (pa_cons pe_int (pa_cons pe_int (pa_cons pe_int (pa_cons pe_int (pa_cons pe_int (pa_cons pe_int (pa_cons pe_int (pa_cons pe_int (pa_cons pe_int (pa_cons pe_int pa_nil))))))))))))))))))))))))))
        (pss_cons (ps_set (i := 2) sc_law_op.nd rfl (Or.inl rfl) (pe_op op_cat (pv 2) (pe_lst (pa_cons pe_int (pa_cons pe_int (pa_cons pe_int (pa_cons pe_int (pa_cons pe_int (pa_cons pe_int (pa_cons pe_int (pa_cons pe_int (pa_cons pe_int (pa_cons pe_int (pa_cons pe_int (pa_cons pe_int (pa_cons pe_int (pa_cons pe_int (pa_cons (pe_un un_neg pe_int) pa_nil))))))))))))))))))
        (pss_one (ps_ret (pe_ix ix_list (pv 2) (pe_call (ok_law_pick T) (hr.mono (by decide)) (by rfl) T.g_law_pick T.F_law_pick.kp T.b_law_pick .nil pass0 (pa_cons (pv 0) (pa_cons pe_int pa_nil))) (fun _ _ => rfl))))))), ?_⟩
    refine s_whenP (D := _) (P2 := fun _ H' => Drw p H' ∧ But p H H') (etp_and (P1 := fun b H' => b = decide (s > 0) ∧ Ex H H') (etp_of (et_test (ev_op (ev_var rfl) ev_c rv_I0))) (fun H' hb => ?_) (fun H' hb => ⟨hD.ex hb.2, ex_but hb.2⟩)) (fun H1 hb => ?_) (fun H1 hb => ?_)
    · have h0 := of_decide_eq_true hb.1.symm
      exact etp_cmpD (ep_pick rfl (hD.ex hb.2) (ev_var rfl) h0) (fun _ => ev_c) (fun d H2 Q _ q => ⟨rfl, q _⟩) (fun b H2 h1 h2 => ⟨h1, (ex_but hb.2).trans h2⟩)
    · exact s_retP (ep_ixD (K := K) (ms := [38, 40]) (C1 := fun _ => True) (el_lst (ea_cons ev_c (ea_cons ev_c ea_nil)) (by decide)) hb.1 (fun H4 e4 => ep_pick rfl (hb.1.ex e4) ev_c (by decide)) (fun _ _ => trivial)) fun v H2 hv => k v H2 (dpm hb.2 hv)
    · refine q_asgL (xs := ([35, 35, 35, 35, 35, 43, 45, 42, 60, 126, 64, 33, 61, 97, 98, 44, 44, 94, 46, 46, 46, 95, 34, 92] : List Int).map V.int) (el_lst (ea_cons ev_c (ea_cons ev_c (ea_cons ev_c (ea_cons ev_c (ea_cons ev_c (ea_cons ev_c (ea_cons ev_c (ea_cons ev_c (ea_cons ev_c (ea_cons ev_c (ea_cons ev_c (ea_cons ev_c (ea_cons ev_c (ea_cons ev_c (ea_cons ev_c (ea_cons ev_c (ea_cons ev_c (ea_cons ev_c (ea_cons ev_c (ea_cons ev_c (ea_cons ev_c (ea_cons ev_c (ea_cons ev_c (ea_cons ev_c ea_nil)))))))))))))))))))))))) (by show 24 ≤ 100000; decide)) (fun q H2 nq e2 hq => ?_)
      refine q_asgL (xs := ([35, 35, 35, 35, 35, 43, 45, 42, 60, 126, 64, 33, 61, 97, 98, 44, 44, 94, 46, 46, 46, 95, 34, 92, 63, 63, 63, 65, 66, 36, 41, 41, 32, 32, 32, 0, 10, 200, -5] : List Int).map V.int) (el_cat (xs := ([35, 35, 35, 35, 35, 43, 45, 42, 60, 126, 64, 33, 61, 97, 98, 44, 44, 94, 46, 46, 46, 95, 34, 92] : List Int).map V.int) (ys := ([63, 63, 63, 65, 66, 36, 41, 41, 32, 32, 32, 0, 10, 200, -5] : List Int).map V.int) (ev_var rfl) hq (el_lst (ea_cons ev_c (ea_cons ev_c (ea_cons ev_c (ea_cons ev_c (ea_cons ev_c (ea_cons ev_c (ea_cons ev_c (ea_cons ev_c (ea_cons ev_c (ea_cons ev_c (ea_cons ev_c (ea_cons ev_c (ea_cons ev_c (ea_cons ev_c (ea_cons (ev_un ev_c ru_neg) ea_nil))))))))))))))) (by show 15 ≤ 100000; decide)) (by show 24 + 15 ≤ 100000; decide)) (fun q2 H3 nq2 e3 hq2 => ?_)
      have hD3 := hb.1.ex (e2.trans e3)
      exact s_retP (ep_ixV rfl hq2 (drwNe (H1 := H2) (hb.1.ex e2) nq2) (ep_pick rfl hD3 ev_c (by decide))) fun v H4 hv => k v H4 (dpm (hb.2.trans (ex_but (e2.trans e3))) hv)
theorem ep_op' {p : Addr} {i j : Nat} {s : Int} {σ : L2.St} {H : Hp} (hi : σ[i]? = some (some (.ref p))) (hj : σ[j]? = some (some (.int s))) (hD : Drw p H) : EvP (tCall (sp_law_op K) [] E0 (tCons (tVar i) (tCons (tVar j) tNil))) σ H (DP p H fun _ => True) := fun Q q => ⟨_, hi, _, hj, p, s, rfl, hD, q⟩
def sp_law_arg (K : PySem.W.Frag) : Sp := fun vs H Q _ => ∃ (p : Addr) (s : Int), vs = [.ref p, .int s] ∧ Drw p H ∧ AnyP p H Q
theorem ok_law_arg (T : Txt K mg) : FnOk P w K mg base CX0 4 T.f_law_arg T.d_law_arg ["draws", "op"] (sp_law_arg K) := by
  refine T.F_law_arg.ok sc_law_arg (fun vs H Q E h => ?_) (fun cdv A outer s H vs Q E hr h => ?_)
  · obtain ⟨p, s, rfl, _⟩ := h
    rfl
  · obtain ⟨p, s, rfl, hD, k⟩ := h
    refine ⟨_, (pss_cons (ps_if (pt_cmpR op_eq (pv 1) pe_int (nomark _)) (pss_one (ps_ret (pe_call (ok_law_number_of T) (hr.mono (by decide)) (by rfl) T.g_law_number_of T.F_law_number_of.kp T.b_law_number_of .nil pass0 (pa_cons (pv 0) pa_nil)))) pss_nil)
        (pss_cons (ps_if (pt_cmpR op_eq (pv 1) pe_int (nomark _)) (pss_one (ps_ret (pe_op op_add pe_int (pe_call (ok_law_pick T) (hr.mono (by decide)) (by rfl) T.g_law_pick T.F_law_pick.kp T.b_law_pick .nil pass0 (pa_cons (pv 0) (pa_cons pe_int pa_nil)))))) pss_nil)
        (pss_cons (ps_if (PW.pt (pw_and (pt_cmpR op_eq (pv 1) pe_int (nomark _)) (pw_and1 (pt_cmpR op_eq (pe_call (ok_law_pick T) (hr.mono (by decide)) (by rfl) T.g_law_pick T.F_law_pick.kp T.b_law_pick .nil pass0 (pa_cons (pv 0) (pa_cons pe_int pa_nil))) pe_int (nomark _))))) (pss_one (ps_ret (pe_ix ix_list (pe_lst (pa_cons pe_int (pa_cons pe_int (pa_cons pe_int (pa_cons pe_int (pa_cons pe_int (pa_cons pe_int (pa_cons pe_int (pa_cons pe_int pa_nil))))))))) (pe_call (ok_law_pick T) (hr.mono (by decide)) (by rfl) T.g_law_pick T.F_law_pick.kp T.b_law_pick .nil pass0 (pa_cons (pv 0) (pa_cons pe_int pa_nil))) (fun _ _ => rfl)))) pss_nil)
        (pss_one (ps_ret (pe_op op_sub (pe_call (ok_law_pick T) (hr.mono (by decide)) (by rfl) T.g_law_pick T.F_law_pick.kp T.b_law_pick .nil pass0 (pa_cons (pv 0) (pa_cons pe_int pa_nil))) pe_int)))))), ?_⟩
    refine q_when (b := decide (s = 63)) (et_test (ev_op (ev_var rfl) ev_c rv_eqI)) (fun hb H1 e1 => ?_) (fun hb H1 e1 => ?_)
    · exact s_retP (ep_numberOf rfl (hD.ex e1)) fun v H2 hv => k v H2 (dpm (ex_but e1) hv)
    refine q_when (b := decide (s = 61)) (et_test (ev_op (ev_var rfl) ev_c rv_eqI)) (fun hb H2 e2 => ?_) (fun hb H2 e2 => ?_)
    · exact s_retP (ep_opD (C := fun d => 0 ≤ d ∧ d < 3) (C1 := fun _ => True) (g := fun d => 97 + d) ev_c (fun G eG => ep_pick rfl (hD.ex ((e1.trans e2).trans eG)) ev_c (by decide)) (fun d G Q _ q => ⟨_, _, rfl, rfl, q⟩) (fun _ _ => trivial)) fun v H3 hv => k v H3 (dpm (ex_but (e1.trans e2)) hv)
    have e12 := e1.trans e2
    refine s_whenP (D := _) (P2 := fun _ H' => Drw p H' ∧ But p H H') (etp_and (P1 := fun b H' => b = decide (s = 35) ∧ Ex H2 H') (etp_of (et_test (ev_op (ev_var rfl) ev_c rv_eqI))) (fun H' hb => ?_) (fun H' hb => ⟨hD.ex (e12.trans hb.2), ex_but (e12.trans hb.2)⟩)) (fun H3 hb => ?_) (fun H3 hb => ?_)
    · exact etp_cmpD (ep_pick rfl (hD.ex (e12.trans hb.2)) ev_c (by decide)) (fun _ => ev_c) (fun d H2 Q _ q => ⟨rfl, q _⟩) (fun b H2 h1 h2 => ⟨h1, (ex_but (e12.trans hb.2)).trans h2⟩)
    · exact s_retP (ep_ixD (K := K) (ms := [36, 65, 66, 97, 98, 199, 200, 0]) (C1 := fun _ => True) (el_lst (ea_cons ev_c (ea_cons ev_c (ea_cons ev_c (ea_cons ev_c (ea_cons ev_c (ea_cons ev_c (ea_cons ev_c (ea_cons ev_c ea_nil)))))))) (by show 8 ≤ 100000; decide)) hb.1 (fun H4 e4 => ep_pick rfl (hb.1.ex e4) ev_c (by decide)) (fun _ _ => trivial)) fun v H4 hv => k v H4 (dpm hb.2 hv)
    · exact s_retP (ep_opL (g := fun d => d - 2) (C1 := fun _ => True) (ep_pick rfl hb.1 ev_c (by decide)) (fun _ => ev_c) (fun d G Q _ q => ⟨d, 2, rfl, rfl, q⟩) (fun _ _ => trivial)) fun v H4 hv => k v H4 (dpm hb.2 hv)
theorem ep_arg {p : Addr} {i j : Nat} {s : Int} {σ : L2.St} {H : Hp} (hi : σ[i]? = some (some (.ref p))) (hj : σ[j]? = some (some (.int s))) (hD : Drw p H) : EvP (tCall (sp_law_arg K) [] E0 (tCons (tVar i) (tCons (tVar j) tNil))) σ H (DP p H fun _ => True) := fun Q q => ⟨_, hi, _, hj, p, s, rfl, hD, q⟩
def NewIm (p : Addr) (H : Hp) : V → Hp → Prop := fun v H' => ∃ (q : Addr) (cs : List Int), v = .ref q ∧ H q = none ∧ But p H H' ∧ Drw p H' ∧ H' q = some (.lst (cs.map V.int)) ∧ cs.length ≤ 68
def sp_law_image (K : PySem.W.Frag) : Sp := fun vs H Q _ => ∃ (p : Addr) (s : Int), vs = [.ref p, .int 17, .int s] ∧ Drw p H ∧ ∀ v H', NewIm p H v H' → Q v H'
theorem ok_law_image (T : Txt K mg) : FnOk P w K mg base CX0 5 T.f_law_image T.d_law_image ["draws", "many", "share"] (sp_law_image K) := by
  refine T.F_law_image.ok sc_law_image (fun vs H Q E h => ?_) (fun cdv A outer s H vs Q E hr h => ?_)
  · obtain ⟨p, s, rfl, _⟩ := h
    rfl
  · obtain ⟨p, s, rfl, hD, k⟩ := h
    refine ⟨_, (pss_cons (ps_set (i := 3) sc_law_image.nd rfl (Or.inl rfl) (pe_lst (pa_cons pe_int pa_nil)))
        (pss_cons (ps_for PassesOwn.never rfl (pi_range1 (by rfl) T.n_range (pa_cons (pe_call (ok_law_pick T) (hr.mono (by decide)) (by rfl) T.g_law_pick T.F_law_pick.kp T.b_law_pick .nil pass0 (pa_cons (pv 0) (pa_cons (pv 1) pa_nil))) pa_nil)) (pg_name (i := 4) sc_law_image.nd rfl (Or.inl rfl)) (pss_one (ps_expr (pe_bm PySem.F.plainAttrs_list PySem.F.slot_list_append PySem.F.type_list_append mt_append (pv 3) (pa_cons (pe_call (ok_law_number_of T) (hr.mono (by decide)) (by rfl) T.g_law_number_of T.F_law_number_of.kp T.b_law_number_of .nil pass0 (pa_cons (pv 0) pa_nil)) pa_nil)))))
        (pss_cons (ps_expr (pe_bm PySem.F.plainAttrs_list PySem.F.slot_list_append PySem.F.type_list_append mt_append (pv 3) (pa_cons (pe_call (ok_law_number_of T) (hr.mono (by decide)) (by rfl) T.g_law_number_of T.F_law_number_of.kp T.b_law_number_of .nil pass0 (pa_cons (pv 0) pa_nil)) pa_nil)))
        (pss_cons (ps_set (i := 5) sc_law_image.nd rfl (Or.inl rfl) (pe_lst pa_nil))
        (pss_cons (ps_for PassesOwn.never rfl (pi_range1 (by rfl) T.n_range (pa_cons (pe_op op_sub (pe_callB call_len_seq (by rfl) T.n_len (by decide +kernel) (pa_cons (pv 3) pa_nil)) pe_int) pa_nil)) (pg_name (i := 4) sc_law_image.nd rfl (Or.inl rfl)) (pss_cons (ps_set (i := 6) sc_law_image.nd rfl (Or.inl rfl) (pe_call (ok_law_op T) (hr.mono (by decide)) (by rfl) T.g_law_op T.F_law_op.kp T.b_law_op .nil pass0 (pa_cons (pv 0) (pa_cons (pv 2) pa_nil))))
        (pss_cons (ps_set (i := 7) sc_law_image.nd rfl (Or.inl rfl) (pe_ix ix_list (pv 3) (pe_op op_add (pv 4) pe_int) (fun _ _ => rfl)))
        (pss_cut (ps_if (pt_cmpR op_eq (pe_call (ok_law_pick T) (hr.mono (by decide)) (by rfl) T.g_law_pick T.F_law_pick.kp T.b_law_pick .nil pass0 (pa_cons (pv 0) (pa_cons pe_int pa_nil))) pe_int (nomark _)) (pss_one (ps_set (i := 7) sc_law_image.nd rfl (Or.inl rfl) (pe_call (ok_law_number_of T) (hr.mono (by decide)) (by rfl) T.g_law_number_of T.F_law_number_of.kp T.b_law_number_of .nil pass0 (pa_cons (pv 0) pa_nil)))) pss_nil)
        (pss_one (ps_expr (pe_bm PySem.F.plainAttrs_list PySem.F.slot_list_extend PySem.F.type_list_extend mt_extend (pv 5) (pa_cons (pe_lst (pa_cons (pe_ix ix_list (pv 3) (pv 4) (fun _ _ => rfl)) (pa_cons (pv 6) (pa_cons (pe_call (ok_law_arg T) (hr.mono (by decide)) (by rfl) T.g_law_arg T.F_law_arg.kp T.b_law_arg .nil pass0 (pa_cons (pv 0) (pa_cons (pv 6) pa_nil))) (pa_cons (pv 7) pa_nil))))) pa_nil))))))))
        (pss_cons (ps_if (pt_cmpR op_eq (pe_call (ok_law_pick T) (hr.mono (by decide)) (by rfl) T.g_law_pick T.F_law_pick.kp T.b_law_pick .nil pass0 (pa_cons (pv 0) (pa_cons pe_int pa_nil))) pe_int (nomark _)) (pss_one (ps_ret (pe_slice sl_list (pv 5) (po_some pe_int) po_none))) pss_nil)
        (pss_one (ps_ret (pv 5))))))))), ?_⟩
    refine q_asgL (xs := ([0] : List Int).map V.int) (el_lst (ea_cons ev_c ea_nil) (by show 1 ≤ 100000; decide)) (fun q H1 nq e1 hq1 => ?_)
    have hqp : q ≠ p := drwNe (H1 := H) hD nq
    refine q_forRP (ep_pick (p := p) rfl (hD.ex e1) (ev_var rfl) (by decide)) (fun v H2 hv => ?_)
    obtain ⟨d, rfl, hd, hD2, b2⟩ := hv
    refine ⟨d.toNat, by rw [Int.toNat_of_nonneg hd.1], by omega, fun i σ' H' => ∃ (ns : List Int) (y : Option V), H' q = some (.lst (ns.map V.int)) ∧ ns.length = i + 1 ∧ Drw p H' ∧ But p H H' ∧ σ' = [some (.ref p), some (.int 17), some (.int s), some (.ref q), y, none, none, none], ⟨[0], none, b2 _ _ hqp hq1, rfl, hD2, (ex_but e1).trans b2, rfl⟩, ?_⟩
    have back : ∀ {c : Addr} {G : Hp}, But p H G → Drw p G → G c = none → H c = none := fun {c G} b hG nc => by
      cases h0 : H c with
      | none => rfl
      | some o =>
        have := b _ _ (drwNe (H1 := G) hG nc) h0
        rw [nc] at this
        cases this
    constructor
    · rintro i σ' H' hi ⟨ns, y, hq, hnl, hD', b, rfl⟩
      refine s_appP (P := DP p H' fun _ => True) (ev_var rfl) hq (by rw [List.length_map]; omega) (fun H3 e3 => (ep_numberOf rfl (hD'.ex e3)).imp fun v H4 hv => dpm (ex_but e3) hv) (fun v H3 hv => ?_)
      obtain ⟨x, rfl, _, hD3, b3⟩ := hv
      exact ⟨b3 _ _ hqp hq, ns ++ [x], _, by rw [upd_same, List.map_append]; rfl, by rw [List.length_append, hnl]; rfl, drwUpd hD3 hqp, butNew (b.trans b3) nq, rfl⟩
    rintro σ' H3 ⟨ns, y, hq, hnl, hD3, b3, rfl⟩
    refine s_appP (D := _) (P := DP p H3 fun _ => True) (ev_var rfl) hq (by rw [List.length_map]; omega) (fun H4 e4 => (ep_numberOf rfl (hD3.ex e4)).imp fun v H5 hv => dpm (ex_but e4) hv) (fun v H4 hv => ?_)
    obtain ⟨x, rfl, _, hD4, b4⟩ := hv
    refine ⟨b4 _ _ hqp hq, ?_⟩
    have hm : ns.map V.int ++ [.int x] = (ns ++ [x]).map V.int := by rw [List.map_append]; rfl
    rw [hm]
    have hN : (ns ++ [x]).length = d.toNat + 2 := by rw [List.length_append, hnl]; rfl
    generalize ns ++ [x] = ns at hN
    have hq5 : (upd H4 q (.lst (ns.map V.int))) q = _ := upd_same
    have hD5 : Drw p (upd H4 q (.lst (ns.map V.int))) := drwUpd hD4 hqp
    have b5 : But p H (upd H4 q (.lst (ns.map V.int))) := butNew (b3.trans b4) nq
    show tSeq _ _ _ [some (.ref p), some (.int 17), some (.int s), some (.ref q), y, none, none, none] (upd H4 q (.lst (ns.map V.int)))
    generalize upd H4 q (.lst (ns.map V.int)) = H5 at hq5 hD5 b5
    refine q_asgL (el_lst ea_nil (by decide)) (fun c H6 nc e6 hc => ?_)
    have hcp : c ≠ p := drwNe (H1 := H5) hD5 nc
    have hcq : c ≠ q := fun z => by rw [z, hq5] at nc; cases nc
    have ncH := back b5 hD5 nc
    have hlen := ev_len (K := K) (H := H6) (ta := tVar 3) (σ := [some (.ref p), some (.int 17), some (.int s), some (.ref q), y, some (.ref c), none, none]) (ev_var rfl) (sq_of (e6 _ _ hq5))
    rw [List.length_map, hN] at hlen
    refine q_forR1 (n := ((d.toNat + 1 : Nat) : Int)) (ea_cons (by
      have := ev_op (r := rI0 fun i j => .int (i - j)) hlen (ev_c (v := .int 1)) rv_I0
      rw [show ((d.toNat + 2 : Nat) : Int) - 1 = ((d.toNat + 1 : Nat) : Int) by omega] at this
      exact this) ea_nil) (by omega) (fun i σ' H' => ∃ (cs : List Int) (y4 y6 y7 : Option V), H' q = some (.lst (ns.map V.int)) ∧ H' c = some (.lst (cs.map V.int)) ∧ cs.length = 4 * i ∧ Drw p H' ∧ But p H H' ∧ σ' = [some (.ref p), some (.int 17), some (.int s), some (.ref q), y4, some (.ref c), y6, y7]) ?_ ?_ ?_
    · intro H7 e7
      exact ⟨[], _, _, _, e7 _ _ (e6 _ _ hq5), e7 _ _ hc, rfl, (hD5.ex e6).ex e7, b5.trans (ex_but (e6.trans e7)), rfl⟩
    · rintro i σ' H' hi ⟨cs, y4, y6, y7, hq', hc', hcl, hD', b', rfl⟩
      have hi2 : i < d.toNat + 1 := by omega
      have cell : ∀ (j : Nat), j < d.toNat + 2 → ∃ z, ns[j]? = some z := fun j hj => ⟨_, List.getElem?_eq_getElem (by omega)⟩
      refine q_asgP (ep_op' (p := p) rfl rfl hD') (fun v H7 hv => ?_)
      obtain ⟨o, rfl, _, hD7, b7⟩ := hv
      obtain ⟨z1, hz1⟩ := cell (i + 1) (by omega)
      obtain ⟨z0, hz0⟩ := cell i (by omega)
      have hq7 := b7 _ _ hqp hq'
      refine q_asg (v := .int z1) (ev_op (ev_var rfl) (ev_op (ev_var rfl) ev_c rv_I0) (rv_ixL (sq_of hq7) (at_of (j := i + 1) (by omega) (by rw [List.getElem?_map, hz1]; rfl)))) (fun H8 e8 => ?_)
      refine q_cut (M := fun σ' H' => ∃ z : Int, Drw p H' ∧ But p H8 H' ∧ σ' = [some (.ref p), some (.int 17), some (.int s), some (.ref q), some (.int (i : Int)), some (.ref c), some (.int o), some (.int z)]) ?_ ?_
      · refine s_whenP (P2 := fun _ H' => Drw p H' ∧ But p H8 H') (etp_cmpD (ep_pick rfl (hD7.ex e8) ev_c (by decide)) (fun _ => ev_c) (fun d H2 Q _ q => ⟨rfl, q _⟩) (fun b H2 h1 h2 => ⟨h1, h2⟩)) (fun H9 hb => ?_) (fun H9 hb => ⟨z1, hb.1, hb.2, rfl⟩)
        refine s_asgP (ep_numberOf rfl hb.1) (fun v H10 hv => ?_)
        obtain ⟨z, rfl, _, hD10, b10⟩ := hv
        exact ⟨z, hD10, hb.2.trans b10, rfl⟩
      rintro σ' H9 ⟨z, hD9, b9, rfl⟩
      have hq9 := b9 _ _ hqp (e8 _ _ hq7)
      have hc9 := b9 _ _ hcp (e8 _ _ (b7 _ _ hcp hc'))
      have bb : But p H H9 := ((b'.trans b7).trans (ex_but e8)).trans b9
      refine s_extP (K := K) (P := fun vs G => ∃ x : Int, vs = ([z0, o, x, z] : List Int).map V.int ∧ Drw p G ∧ But p H9 G) (ev_var rfl) hc9 (fun G e Q qq => (ev_op (ev_var rfl) (ev_var rfl) (rv_ixL (sq_of (e _ _ hq9)) (at_of (j := i) rfl (by rw [List.getElem?_map, hz0]; rfl))) : Ev (tOp (rIxL K) (tVar 3) (tVar 4)) [some (.ref p), some (.int 17), some (.int s), some (.ref q), some (.int (i : Int)), some (.ref c), some (.int o), some (.int z)] G (.int z0)) G (Ex.refl G) _ fun G1 e1 => ⟨_, rfl, ep_arg rfl rfl (hD9.ex (e.trans e1)) _ fun v G2 hv => ⟨_, rfl, ?_⟩⟩) (fun vs G hv => ?_)
      · obtain ⟨x, rfl, _, hDx, bx⟩ := hv
        exact qq _ _ ⟨x, rfl, hDx, (ex_but (e.trans e1)).trans bx⟩
      · obtain ⟨x, rfl, hDG, bG⟩ := hv
        refine ⟨by show 4 ≤ 100000; decide, by rw [List.length_map, hcl]; show 4 * i + 4 ≤ 100000; omega, bG _ _ hcp hc9, fun G2 eG => ?_⟩
        exact ⟨cs ++ [z0, o, x, z], _, _, _, by rw [upd_ne hcq.symm]; exact eG _ _ (bG _ _ hqp hq9), by rw [upd_same, List.map_append], by rw [List.length_append, hcl]; show 4 * i + 4 = _; omega, drwUpd (hDG.ex eG) hcp, butNew ((bb.trans bG).trans (ex_but eG)) ncH, rfl⟩
    · rintro σ' H7 ⟨cs, y4, y6, y7, hq7, hc7, hcl, hD7, b7, rfl⟩
      refine s_whenP (D := _) (P2 := fun _ H' => Drw p H' ∧ But p H7 H') (etp_cmpD (ep_pick rfl hD7 ev_c (by decide)) (fun _ => ev_c) (fun d H2 Q _ q => ⟨rfl, q _⟩) (fun b H2 h1 h2 => ⟨h1, h2⟩)) (fun H8 hb => ?_) (fun H8 hb => ?_)
      · have hc8 := hb.2 _ _ hcp hc7
        exact s_retL (el_slI (ev_var rfl) (sq_of hc8) (eo_some ev_c) eo_none) fun r H9 nr e9 hr => k _ H9 ⟨r, _, rfl, back (b7.trans hb.2) hb.1 nr, (b7.trans hb.2).trans (ex_but e9), hb.1.ex e9, hr, by have := cutZ_len cs (some 4) none; omega⟩
      · exact s_ret (ev_var rfl) fun H9 e9 => k _ H9 ⟨c, cs, rfl, ncH, (b7.trans hb.2).trans (ex_but e9), hb.1.ex e9, e9 _ _ (hb.2 _ _ hcp hc7), by omega⟩


end
end K32

set_option Elab.async false
set_option linter.all false
set_option maxRecDepth 100000
set_option maxHeartbeats 4000000
set_option exponentiation.threshold 600
namespace K32
open PySem PySem.Spec PyProof.Rows L2 Evl Gd
/-! ### how expressions are evaluated, without a word of ours -/
local macro_rules | `(tactic| walk_at "ev") => `(tactic| exact ev_c)
local macro_rules | `(tactic| walk_at "ev") => `(tactic| exact ev_var rfl)
local macro_rules | `(tactic| walk_at "ev") => `(tactic| (refine' ev_op ?k1 ?k2 ?k3; (case k1 => walk_at "ev"); (case k2 => walk_at "ev"); (case k3 => walk_at "rv")))
local macro_rules | `(tactic| walk_at "ev") => `(tactic| (refine' ev_cb ?k1 ?k2; (case k1 => walk_at "ea"); (case k2 => walk_at "rc")))
local macro_rules | `(tactic| walk_at "ev") => `(tactic| (refine' ev_call ?k1 ?k2; (case k1 => walk_at "ea"); (case k2 => walk_at "sp")))
local macro_rules | `(tactic| walk_at "ev") => `(tactic| (refine' ev_chain ?k1 ?k2 ?k3 (fun _ => ?k4) (fun _ => ?k5); (case k1 => walk_at "ev"); (case k2 => walk_at "ev"); (case k3 => walk_at "rv"); (case k4 => walk_at "ev"); (case k5 => walk_at "rv")))
local macro_rules | `(tactic| walk_at "ev") => `(tactic| (refine' ev_orV ?k1 (fun _ => ?k2); (case k1 => walk_at "ev"); (case k2 => walk_at "ev")))
local macro_rules | `(tactic| walk_at "ev") => `(tactic| (refine' ev_andV ?k1 (fun _ => ?k2); (case k1 => walk_at "ev"); (case k2 => walk_at "ev")))
local macro_rules | `(tactic| walk_at "ev") => `(tactic| (refine' ev_notV ?k1; (case k1 => walk_at "ev")))
local macro_rules | `(tactic| walk_at "ea") => `(tactic| exact ea_nil)
local macro_rules | `(tactic| walk_at "ea") => `(tactic| (refine' ea_cons ?k1 ?k2; (case k1 => walk_at "ev"); (case k2 => walk_at "ea")))
local macro_rules | `(tactic| walk_at "rv") => `(tactic| exact rv_I0)
local macro_rules | `(tactic| walk_at "rv") => `(tactic| exact rv_eqI)
local macro_rules | `(tactic| walk_at "rv") => `(tactic| exact rv_neI)
local macro_rules | `(tactic| walk_at "rv") => `(tactic| exact rv_eqS)
local macro_rules | `(tactic| walk_at "rv") => `(tactic| exact rv_neS)
local macro_rules | `(tactic| walk_at "rv") => `(tactic| exact rv_mod (by decide))
local macro_rules | `(tactic| walk_at "rv") => `(tactic| exact rv_fdiv (by decide) (by decide))
local macro_rules | `(tactic| walk_at "rv") => `(tactic| exact rv_mulR (by decide))
local macro_rules | `(tactic| walk_at "rv") => `(tactic| exact rv_pow (by decide))
local macro_rules | `(tactic| walk_at "rc") => `(tactic| exact rc_int)
local macro_rules | `(tactic| walk_at "rc") => `(tactic| exact rc_ord)
local macro_rules | `(tactic| walk_at "et") => `(tactic| (refine' et_test ?k1; (case k1 => walk_at "ev")))
local macro_rules | `(tactic| walk_at "et") => `(tactic| (refine' et_B ?k1; (case k1 => walk_at "ev")))
local macro_rules | `(tactic| walk_at "et") => `(tactic| (refine' et_not ?k1; (case k1 => walk_at "et")))
local macro_rules | `(tactic| walk_at "et") => `(tactic| (refine' et_or ?k1 (fun _ => ?k2); (case k1 => walk_at "et"); (case k2 => walk_at "et")))
local macro_rules | `(tactic| walk_at "et") => `(tactic| (refine' et_and ?k1 (fun _ => ?k2); (case k1 => walk_at "et"); (case k2 => walk_at "et")))
section
variable {P : Program} {w : World} {K : PySem.W.Frag} {mg : Str → Option Value} {base : Heap}
theorem cellR {im : List Int} {i c : Nat} {r : Int × Nd} {y : Int} (hr : (rowsOf im)[i]? = some r) (hc : c < 4) (hy : (rowL r)[c]? = some y) : im[4 * i + c]? = some y := by
  have h2 := congrArg (fun l => l[c]?) (rows_at im i r hr)
  simp only [List.getElem?_take, List.getElem?_drop] at h2
  rw [if_pos hc] at h2
  rw [h2, hy]
def sp_law_table (K : PySem.W.Frag) : Sp := fun vs H Q _ => ∃ (a : Addr) (im : List Int), vs = [.ref a] ∧ SqL K H a (im.map V.int) ∧ im.length ≤ 100 ∧ ∀ t kvs H2, H t = none → Ex H H2 → H2 t = some (.dK kvs) → TabT K H2 kvs (nodeAt im) → kvs.map (·.1) = (keysOf (rowsOf im)).map Sum.inl → Q (.ref t) H2
theorem ok_law_table (T : Txt K mg) : FnOk P w K mg base CX0 1 T.f_law_table T.d_law_table ["cells"] (sp_law_table K) := by
  refine T.F_law_table.ok sc_law_table (fun vs H Q E h => ?_) (fun cdv A outer s H vs Q E hr h => ?_)
  · obtain ⟨a, im, rfl, _⟩ := h
    rfl
  · obtain ⟨a, im, rfl, hS, hl, k⟩ := h
    refine ⟨_, (pss_cons (ps_set (i := 1) sc_law_table.nd rfl (Or.inl rfl) pe_dnewK)
        (pss_cons (ps_for PassesOwn.never rfl (pi_range3 (by rfl) T.n_range (pa_cons pe_int (pa_cons (pe_op op_sub (pe_callB call_len_seq (by rfl) T.n_len (by decide +kernel) (pa_cons (pv 0) pa_nil)) pe_int) (pa_cons pe_int pa_nil)))) (pg_name (i := 2) sc_law_table.nd rfl (Or.inl rfl)) (pss_one (ps_dput (hu_of hr) (pv 1) (pe_ix ix_list (pv 0) (pv 2) (fun _ _ => rfl)) (pe_tup (pa_cons (pe_ix ix_list (pv 0) (pe_op op_add (pv 2) pe_int) (fun _ _ => rfl)) (pa_cons (pe_ix ix_list (pv 0) (pe_op op_add (pv 2) pe_int) (fun _ _ => rfl)) (pa_cons (pe_ix ix_list (pv 0) (pe_op op_add (pv 2) pe_int) (fun _ _ => rfl)) pa_nil)))) rfl)))
        (pss_one (ps_ret (pv 1))))), ?_⟩
    refine q_dnew (fun t nt => ?_)
    have x1 : Ex H (upd H t (.dK [])) := Ex.new nt
    have t1 : (upd H t (.dK [])) t = some (.dK []) := upd_same
    show tSeq _ _ _ [some (.ref a), some (.ref t), none] (upd H t (.dK []))
    generalize upd H t (.dK []) = H1 at x1 t1
    have hlen := ev_len (K := K) (H := H1) (ta := tVar 0) (σ := [some (.ref a), some (.ref t), none]) (ev_var rfl) (ex_l x1 hS)
    rw [List.length_map] at hlen
    have hrl := rows_len im
    refine q_forR3 (n := im.length / 4) (ea_cons ev_c (ea_cons (ev_op hlen ev_c (rv_I0 (g := fun i j => .int (i - j)))) (ea_cons ev_c ea_nil))) (rgC4 _ (by omega)) (fun i σ' H' => Ex H H' ∧ ∃ (kvs : List (Key × V)) (y : Option V), σ' = [some (.ref a), some (.ref t), y] ∧ H' t = some (.dK kvs) ∧ kvs.length ≤ i ∧ TabT K H' kvs (nodeIn ((rowsOf im).take i)) ∧ kvs.map (·.1) = (keysOf ((rowsOf im).take i)).map Sum.inl) ?_ ?_ ?_
    · intro H2 e2
      exact ⟨x1.trans e2, [], none, rfl, e2 _ _ t1, Nat.le_refl _, fun k => rfl, rfl⟩
    · rintro i σ' H' hi ⟨e, kvs, y, rfl, ht, hkl, hT, hK⟩
      have hi1 : i < (rowsOf im).length := by omega
      obtain ⟨r, hr⟩ : ∃ r, (rowsOf im)[i]? = some r := ⟨_, List.getElem?_eq_getElem hi1⟩
      rw [show (0 : Int) + (i : Int) * 4 = ((4 * i : Nat) : Int) by omega]
      have i3 : ∀ {G : Hp} {σ : L2.St} (c : Nat) {z : Int}, z = (c : Int) → σ[2]? = some (some (.int ((4 * i : Nat) : Int))) → Ev (tOp (rI0 fun x y => .int (x + y)) (tVar 2) (tC (.int z))) σ G (.int ((4 * i + c : Nat) : Int)) := fun {G σ} c {z} hz h3 => by
        rw [show ((4 * i + c : Nat) : Int) = ((4 * i : Nat) : Int) + z by omega]
        exact ev_op (ev_var h3) ev_c rv_I0
      have cx : ∀ {G : Hp} {σ : L2.St} {te : TE} {y : Int} (c : Nat), Ex H G → σ[0]? = some (some (.ref a)) → c < 4 → (rowL r)[c]? = some y → Ev te σ G (.int ((4 * i + c : Nat) : Int)) → Ev (tOp (rIxL K) (tVar 0) te) σ G (.int y) := fun {G σ te y} c e h0 hc hy hte =>
        ev_op (ev_var h0) hte (rv_ixL (ex_l e hS) (at_of (j := 4 * i + c) rfl (by rw [List.getElem?_map, cellR hr hc hy]; rfl)))
      refine s_dputI (a := t) (k := r.1) (P := fun v H2 => ∃ t2, v = .ref t2 ∧ Ex H' H2 ∧ H2 t2 = some (.tup ((ndL r.2).map V.int))) (fun Q q => (eu_tup (vs := (ndL r.2).map V.int) (ea_cons (cx 1 e rfl (by decide) rfl (i3 1 rfl rfl)) (ea_cons (cx 2 e rfl (by decide) rfl (i3 2 rfl rfl)) (ea_cons (cx 3 e rfl (by decide) rfl (i3 3 rfl rfl)) ea_nil))) (by show 3 ≤ 100000; decide)) H' (Ex.refl _) _ fun p G np eG hp => q _ _ ⟨p, rfl, eG, hp⟩) (fun v H2 hv => ?_)
      obtain ⟨t2, rfl, e2, ht2⟩ := hv
      refine ⟨kvs, e2 _ _ ht, fun _ _ => ev_var rfl, fun H3 e3 => cx 0 (e.trans (e2.trans e3)) rfl (by decide) rfl (ev_var rfl), by omega, fun H3 e3 => ⟨Ex.mut (e.trans (e2.trans e3)) nt, _, _, rfl, upd_same, ?_, ?_, ?_⟩⟩
      · have := length_putK kvs (Sum.inl r.1) (V.ref t2)
        omega
      · exact (tab_step (hT.ex (e2.trans e3)) hr (st_of (e3 _ _ ht2))).mut (e3 _ _ (e2 _ _ ht)) nt_dK
      · rw [keys_snoc hr]
        exact putK_keys hK r.1 _
    · rintro σ' H' ⟨e, kvs, y, rfl, ht, hkl, hT, hK⟩
      rw [← hrl, List.take_length] at hT hK
      exact s_ret (ev_var rfl) fun G eG => k t kvs G nt (e.trans eG) (eG _ _ ht) (hT.ex eG) hK
theorem ops_eq (c : Int) : decide (c ∈ ([33, 34, 35, 36, 38, 40, 41, 42, 43, 44, 45, 46, 60, 61, 63, 64, 92, 94, 95, 126] : List Int)) = decide (c ∈ ACTC) := by
  refine decide_eq_decide.mpr ?_
  unfold ACTC
  simp only [List.mem_cons, List.not_mem_nil, or_false]
  constructor <;> intro h <;> omega
def sp_law_is_nop (K : PySem.W.Frag) : Sp := fun vs H Q _ => ∃ c : Int, vs = [.int c] ∧ RetV (.bl (!opB c)) H Q
theorem v_law_is_nop {c : Int} {H : Hp} : SpV (sp_law_is_nop K) [.int c] H (.bl (!opB c)) := fun _ _ _ q _ => ⟨c, rfl, q⟩
theorem ok_law_is_nop (T : Txt K mg) : FnOk P w K mg base CX0 1 T.f_law_is_nop T.d_law_is_nop ["op"] (sp_law_is_nop K) := by
  refine T.F_law_is_nop.ok sc_law_is_nop (fun vs H Q E h => ?_) (fun cdv A outer s H vs Q E hr h => ?_)
  · obtain ⟨c, rfl, _⟩ := h
    rfl
  · obtain ⟨c, rfl, k⟩ := h
    refine ⟨_, (pss_cons (ps_if (PW.pt (pw_or (pt_chain op_le op_le pe_int (pv 0) pe_int) (pw_or1 (pt_chain op_le op_le pe_int (pv 0) pe_int)))) (pss_one (ps_ret pe_bl)) pss_nil)
        (pss_one (ps_ret (pe_cmpR op_notIn_seq (pv 0) (pe_lst (pa_cons pe_int (pa_cons pe_int (pa_cons pe_int (pa_cons pe_int (pa_cons pe_int (pa_cons pe_int (pa_cons pe_int (pa_cons pe_int (pa_cons pe_int (pa_cons pe_int (pa_cons pe_int (pa_cons pe_int (pa_cons pe_int (pa_cons pe_int (pa_cons pe_int (pa_cons pe_int (pa_cons pe_int (pa_cons pe_int (pa_cons pe_int (pa_cons pe_int pa_nil))))))))))))))))))))) (by rfl))))), ?_⟩
    have c1 : Ev (tChain (rI0 fun i j => .bl (decide (i ≤ j))) (rI0 fun i j => .bl (decide (i ≤ j))) (tC (.int 65)) (tVar 0) (tC (.int 90))) (L2.start N_law_is_nop [.int c]) H (.bl (isCp c)) := ev_chain ev_c (ev_var rfl) rv_I0 (fun _ => ev_c) (fun _ => rv_I0)
    have c2 : Ev (tChain (rI0 fun i j => .bl (decide (i ≤ j))) (rI0 fun i j => .bl (decide (i ≤ j))) (tC (.int 97)) (tVar 0) (tC (.int 122))) (L2.start N_law_is_nop [.int c]) H (.bl (isSm c)) := ev_chain ev_c (ev_var rfl) rv_I0 (fun _ => ev_c) (fun _ => rv_I0)
    refine q_when (b := isCp c || isSm c) (et_or (et_test c1) (fun _ => et_test c2)) (fun hb H1 e1 => ?_) (fun hb H1 e1 => ?_)
    · have : (!opB c) = false := by
        unfold opB
        rw [Bool.or_comm (isSm c), hb, Bool.or_true]
        rfl
      rw [this] at k
      exact s_ret ev_c fun H2 e2 => k H2 (e1.trans e2)
    · have : (!opB c) = !decide (c ∈ ACTC) := by
        unfold opB
        rw [Bool.or_comm (isSm c), hb, Bool.or_false]
      rw [this, ← ops_eq] at k
      have hin : inV (.int c) (([33, 34, 35, 36, 38, 40, 41, 42, 43, 44, 45, 46, 60, 61, 63, 64, 92, 94, 95, 126] : List Int).map V.int) = decide (c ∈ ([33, 34, 35, 36, 38, 40, 41, 42, 43, 44, 45, 46, 60, 61, 63, 64, 92, 94, 95, 126] : List Int)) := inV_ints _ _
      rw [← hin] at k
      exact s_ret (ev_opL (x := .int c) (xs := ([33, 34, 35, 36, 38, 40, 41, 42, 43, 44, 45, 46, 60, 61, 63, 64, 92, 94, 95, 126] : List Int).map V.int) (ev_var rfl) (el_lst (by walk_at "ea") (by show 20 ≤ 100000; decide)) (fun p H2 h2 _ => rv_inL (neg := true) (sq_of h2) rfl (by simp [flatV]))) fun H2 e2 => k H2 (e1.trans e2)
def sp_law_ring (K : PySem.W.Frag) : Sp := fun vs H Q _ => ∃ (a : Addr) (ns : List Int) (v : Int), vs = [.ref a] ∧ SqL K H a (ns.map V.int) ∧ ns.length ≤ 40000 ∧ Least fixI (fun y => y ∈ ns) v ∧ RetV (.int v) H Q
theorem ok_law_ring (T : Txt K mg) : FnOk P w K mg base CX0 1 T.f_law_ring T.d_law_ring ["ring"] (sp_law_ring K) := by
  refine T.F_law_ring.ok sc_law_ring (fun vs H Q E h => ?_) (fun cdv A outer s H vs Q E hr h => ?_)
  · obtain ⟨a, ns, v, rfl, _⟩ := h
    rfl
  · obtain ⟨a, ns, v, rfl, hS, hl, hv, k⟩ := h
    refine ⟨_, (pss_cons (ps_setLc (i := 1) (own := [("number", 2)]) (by rfl) sc_law_ring.nd rfl rfl (sw_true rfl rfl rfl (by decide +kernel)) (pi_list (pv 0)) (blkOk_by (own := [("number", 2)]) (N := N_law_ring) (sc := defScope s_law_ring) (by decide +kernel)) (fun _ _ _ _ _ => pg_name (i := 2) sc_law_ring.nd rfl (Or.inl rfl)) (fun _ _ _ _ _ => (pts_one (pt_chain op_le op_lt pe_int (pv 2) pe_int))) (fun _ _ _ _ _ => (pv 2)))
        (pss_cons (ps_if (pt_truth (pv 1) (by intro _; rfl)) (pss_one (ps_ret (pe_callB (cr_min rfl) (by rfl) T.n_min (by decide +kernel) (pa_cons (pv 1) pa_nil)))) pss_nil)
        (pss_one (ps_ret (pe_callB (cr_min rfl) (by rfl) T.n_min (by decide +kernel) (pa_cons (pv 0) pa_nil)))))), ?_⟩
    refine q_asgL (xs := (ns.filter fixI).map V.int) ?_ (fun q H1 nq e1 hq => ?_)
    · rw [← given_filter]
      have := el_lcL (K := K) (σ := L2.start N_law_ring [.ref a]) (H := H) (j := 2) (vs := [2]) (te := tVar 2) (tl := tVar 0) (t := tTest (tChain (rI0 fun i j => .bl (decide (i ≤ j))) (rI0 fun i j => .bl (decide (i < j))) (tC (.int 0)) (tVar 2) (tC (.int 200)))) (fun i => fixI (ns.getD i 0)) (fun i => V.int (ns.getD i 0)) (ev_var rfl) hS (by rw [List.length_map]; exact hl) (fun _ => rfl) (fun i x H1 e hx => ?_) (fun i x H1 e hx _ => ?_)
      · rw [List.length_map] at this
        exact this
      · obtain ⟨y, hy, rfl⟩ := map_at hx
        have hg : ns.getD i 0 = y := by rw [List.getD_eq_getElem?_getD, hy]; rfl
        rw [hg]
        exact et_test (ev_chain ev_c (ev_var rfl) rv_I0 (fun _ => ev_c) (fun _ => rv_I0))
      · obtain ⟨y, hy, rfl⟩ := map_at hx
        have hg : ns.getD i 0 = y := by rw [List.getD_eq_getElem?_getD, hy]; rfl
        rw [hg]
        exact ev_var rfl
    have hS1 := ex_l e1 hS
    by_cases c : ∃ y, y ∈ ns ∧ fixI y = true
    · obtain ⟨h1, h2, h3⟩ := hv.1 c
      have hm : v ∈ ns.filter fixI := List.mem_filter.mpr ⟨h1, h2⟩
      refine q_when (b := true) (et_is (et_truL (K := K) (ev_var rfl) (sq_of hq)) ?_) (fun _ H2 e2 => ?_) (fun hb => nomatch hb)
      · cases z : ns.filter fixI with
        | nil => rw [z] at hm; cases hm
        | cons a l => rfl
      · exact s_ret (ev_min (ns := ns.filter fixI) (ev_var rfl) (sq_of (e2 _ _ hq)) hm (fun y hy => h3 y (List.mem_filter.mp hy).1 (List.mem_filter.mp hy).2)) fun H3 e3 => k H3 (e1.trans (e2.trans e3))
    · obtain ⟨h1, h2⟩ := hv.2 c
      have z : ns.filter fixI = [] := List.filter_eq_nil_iff.mpr fun y hy hf => c ⟨y, hy, hf⟩
      rw [z] at hq
      refine q_when (b := false) (et_is (et_truL (K := K) (xs := []) (ev_var rfl) (sq_of hq)) rfl) (fun hb => nomatch hb) (fun _ H2 e2 => ?_)
      exact s_ret (ev_min (ns := ns) (ev_var rfl) (ex_l e2 hS1) h1 h2) fun H3 e3 => k H3 (e1.trans (e2.trans e3))
def sp_law_target (K : PySem.W.Frag) : Sp := fun vs H Q _ => ∃ (t : Addr) (im : List Int) (x v : Int), vs = [.ref t, .int x] ∧ Tb K H t im ∧ (rowsOf im).length ≤ 20 ∧ Tg im x v ∧ RetV (.int v) H Q
theorem ok_law_target (T : Txt K mg) : FnOk P w K mg base CX0 2 T.f_law_target T.d_law_target ["table", "number"] (sp_law_target K) := by
  refine T.F_law_target.ok sc_law_target (fun vs H Q E h => ?_) (fun cdv A outer s H vs Q E hr h => ?_)
  · obtain ⟨t, im, x, v, rfl, _⟩ := h
    rfl
  · obtain ⟨t, im, x, v, rfl, hTb, hrw, hv, k⟩ := h
    refine ⟨_, (pss_cons (ps_set (i := 2) sc_law_target.nd rfl (Or.inl rfl) (pe_lst pa_nil))
        (pss_cons (ps_for PassesOwn.never rfl (pi_range1 (by rfl) T.n_range (pa_cons pe_int pa_nil)) (pg_name (i := 3) sc_law_target.nd rfl (Or.inl rfl)) (pss_cons (ps_if (PW.pt (pw_or (pt_cmp (pc_dnotin (hu_of hr) (pv 1) (pv 0))) (pw_or1 (pt_not (pt_val (pe_call (ok_law_is_nop T) (hr.mono (by decide)) (by rfl) T.g_law_is_nop T.F_law_is_nop.kp T.b_law_is_nop .nil pass0 (pa_cons (pe_ix ix_tup (pe_dget (hu_of hr) (pv 0) (pv 1) (fun _ _ => rfl)) pe_int (fun _ _ => rfl)) pa_nil))))))) (pss_one (ps_ret (pv 1))) pss_nil)
        (pss_cons (ps_if (pt_cmpR op_in_seq (pv 1) (pv 2) (by rfl)) (pss_one (ps_ret (pe_call (ok_law_ring T) (hr.mono (by decide)) (by rfl) T.g_law_ring T.F_law_ring.kp T.b_law_ring .nil pass0 (pa_cons (pe_slice sl_list (pv 2) (po_some (pe_bm PySem.F.plainAttrs_list PySem.F.slot_list_index PySem.F.type_list_index mt_index (pv 2) (pa_cons (pv 1) pa_nil))) po_none) pa_nil)))) pss_nil)
        (pss_cons (ps_expr (pe_bm PySem.F.plainAttrs_list PySem.F.slot_list_append PySem.F.type_list_append mt_append (pv 2) (pa_cons (pv 1) pa_nil)))
        (pss_one (ps_set (i := 1) sc_law_target.nd rfl (Or.inl rfl) (pe_ix ix_tup (pe_dget (hu_of hr) (pv 0) (pv 1) (fun _ _ => rfl)) pe_int (fun _ _ => rfl))))))))
        (pss_one (ps_ret (pv 1))))), ?_⟩
    have hkl := keys_len (rowsOf im)
    refine q_asgL (el_lst ea_nil (by decide)) (fun q H1 nq e1 hq => ?_)
    have bnd : ∀ n, (∀ i, i < n → nopF im (itI im i x) = true) → (walkL im x n).Nodup → n ≤ 20 := fun n h1 h2 => by
      have := nodup_sub_len _ (keysOf (rowsOf im)) h2 fun y hx => by
        obtain ⟨i, hi, rfl⟩ := walk_mem.mp hx
        exact nop_key (h1 i hi)
      rw [walk_len] at this
      omega
    refine q_forR1 (n := 100) (ea_cons ev_c ea_nil) (by decide) (fun i σ' H' => Ex H H' ∧ ∃ y : Option V, σ' = [some (.ref t), some (.int (itI im i x)), some (.ref q), y] ∧ H' q = some (.lst ((walkL im x i).map V.int)) ∧ (∀ j, j < i → nopF im (itI im j x) = true) ∧ (walkL im x i).Nodup) ?_ ?_ ?_
    · intro H2 e2
      exact ⟨e1.trans e2, none, rfl, e2 _ _ hq, fun j h => absurd h (Nat.not_lt_zero _), List.nodup_nil⟩
    · rintro i σ' H' hi ⟨e, y, rfl, hq', hn, hnd⟩
      have hi20 := bnd i hn hnd
      have hT' := hTb.up e
      have hnop : nopF im (itI im i x) = match nodeAt im (itI im i x) with | none => false | some n => !opB n.1 := rfl
      have hin := ev_notTb (K := K) (H := H') (σ := [some (.ref t), some (.int (itI im i x)), some (.ref q), some (.int (i : Int))]) (td := tVar 0) (ty := tVar 1) (ev_var rfl) (fun _ _ => ev_var rfl) hT'
      refine q_when (b := !nopF im (itI im i x)) ?_ (fun hb H2 e2 => ?_) (fun hb H2 e2 => ?_)
      · cases hnn : nodeAt im (itI im i x) with
        | none =>
          rw [hnn] at hin hnop
          rw [hnop]
          exact et_is (et_or (a := true) (b := true) (et_test hin) (fun h => nomatch h)) rfl
        | some nd =>
          rw [hnn] at hin hnop
          rw [hnop]
          refine et_is (et_or (a := false) (b := !!opB nd.1) (et_test hin) (fun _ => et_not (et_B (ev_call (ea_cons (ev_tbI 0 rfl (ev_var rfl) (fun _ _ => ev_var rfl) hT' hnn) ea_nil) v_law_is_nop)))) ?_
          simp
      · have hnf : nopF im (itI im i x) = false := by simpa using hb
        have hend : v = itI im i x := tg_uniq hv (by
          have := tg_back i hn (tg_non hnf) 0 (Nat.zero_le _)
          exact this)
        rw [hend] at k
        exact s_ret (ev_var rfl) fun H3 e3 => k H3 (e.trans (e2.trans e3))
      have hnt : nopF im (itI im i x) = true := by simpa using hb
      have hmem := ev_op (r := rIn K false) (H := H2) (σ := [some (.ref t), some (.int (itI im i x)), some (.ref q), some (.int (i : Int))]) (ta := tVar 1) (tb := tVar 2) (ev_var rfl) (ev_var rfl) (rv_inL (neg := false) (sq_of (e2 _ _ hq')) rfl (by simp [flatV]))
      rw [show inV (.int (itI im i x)) ((walkL im x i).map V.int) = decide (itI im i x ∈ walkL im x i) from inV_ints _ _] at hmem
      refine q_when (b := decide (itI im i x ∈ walkL im x i)) (et_test hmem) (fun hb2 H3 e3 => ?_) (fun hb2 H3 e3 => ?_)
      · obtain ⟨j, hj, h1, h2, h3, u, h4, h5⟩ := walk_ring hn (of_decide_eq_true hb2)
        have hend : v = u := tg_uniq hv (tg_back i hn h5 0 (Nat.zero_le _))
        rw [hend] at k
        have hq3 := e3 _ _ (e2 _ _ hq')
        have hix := ev_indexI (K := K) (H := H3) (σ := [some (.ref t), some (.int (itI im i x)), some (.ref q), some (.int (i : Int))]) (ta := tVar 2) (tb := tVar 1) (ev_var rfl) (fun _ _ => ev_var rfl) (sq_of hq3) h1 h2 (fun G2 e2 => .inl ⟨rfl, _, sq_of (e2 _ _ hq3)⟩)
        have hs := el_slI (K := K) (lo := tPart (tBM K "list" (rIndex K) (tVar 2) (tCons (tVar 1) tNil))) (hi := tNoPart) (σ := [some (.ref t), some (.int (itI im i x)), some (.ref q), some (.int (i : Int))]) (te := tVar 2) (ev_var rfl) (sq_of hq3) (eo_some hix) eo_none
        rw [cutZ_drop _ (by rw [walk_len]; omega)] at hs
        exact hs H3 (Ex.refl H3) _ fun p G1 np e1 hp => ⟨p, (walkL im x i).drop j, u, rfl, sq_of hp, by rw [List.length_drop, walk_len]; omega, h4, fun G2 eg2 => k G2 (e.trans (e2.trans (e3.trans (e1.trans eg2))))⟩
      have hnm := of_decide_eq_false hb2
      refine q_app (e3 _ _ (e2 _ _ hq')) (ev_var rfl) (ev_var rfl) (by rw [List.length_map, walk_len]; omega) (fun H4 e4 => ?_)
      have hm : (walkL im x i).map V.int ++ [V.int (itI im i x)] = (walkL im x (i + 1)).map V.int := by rw [walk_snoc, List.map_append]; rfl
      rw [hm]
      have x5 := Ex.mut (o := .lst ((walkL im x (i + 1)).map V.int)) (e.trans (e2.trans (e3.trans e4))) nq
      have q5 : (upd H4 q (.lst ((walkL im x (i + 1)).map V.int))) q = _ := upd_same
      generalize upd H4 q (.lst ((walkL im x (i + 1)).map V.int)) = H5 at x5 q5
      obtain ⟨nd, hnn⟩ : ∃ nd, nodeAt im (itI im i x) = some nd := by
        unfold nopF at hnt
        cases c : nodeAt im (itI im i x) with
        | none => rw [c] at hnt; cases hnt
        | some nd => exact ⟨nd, rfl⟩
      have hsc : itI im (i + 1) x = nd.2.2 := by rw [it_last]; unfold scI; rw [hnn]
      refine s_asg (v := .int nd.2.2) (ev_tbI 2 rfl (ev_var rfl) (fun _ _ => ev_var rfl) (hTb.up x5) hnn) (fun H6 e6 => ⟨x5.trans e6, _, by rw [hsc]; rfl, e6 _ _ q5, fun j hj => ?_, ?_⟩)
      · by_cases c : j = i
        · rw [c]; exact hnt
        · exact hn j (by omega)
      · rw [walk_snoc]
        exact List.nodup_append.mpr ⟨hnd, (by simp), fun a ha b hb e => hnm (by rw [← List.mem_singleton.mp hb, ← e]; exact ha)⟩
    · rintro σ' H' ⟨e, y, rfl, hq', hn, hnd⟩
      have := bnd _ hn hnd
      exact absurd this (by decide)


end
end K32

set_option Elab.async false
set_option linter.all false
set_option maxRecDepth 100000
set_option maxHeartbeats 4000000
set_option exponentiation.threshold 600
namespace K32
open PySem PySem.Spec PyProof.Rows L2 Evl Gd
/-! ### how expressions are evaluated, without a word of ours -/
local macro_rules | `(tactic| walk_at "ev") => `(tactic| exact ev_c)
local macro_rules | `(tactic| walk_at "ev") => `(tactic| exact ev_var rfl)
local macro_rules | `(tactic| walk_at "ev") => `(tactic| (refine' ev_op ?k1 ?k2 ?k3; (case k1 => walk_at "ev"); (case k2 => walk_at "ev"); (case k3 => walk_at "rv")))
local macro_rules | `(tactic| walk_at "ev") => `(tactic| (refine' ev_cb ?k1 ?k2; (case k1 => walk_at "ea"); (case k2 => walk_at "rc")))
local macro_rules | `(tactic| walk_at "ev") => `(tactic| (refine' ev_call ?k1 ?k2; (case k1 => walk_at "ea"); (case k2 => walk_at "sp")))
local macro_rules | `(tactic| walk_at "ev") => `(tactic| (refine' ev_chain ?k1 ?k2 ?k3 (fun _ => ?k4) (fun _ => ?k5); (case k1 => walk_at "ev"); (case k2 => walk_at "ev"); (case k3 => walk_at "rv"); (case k4 => walk_at "ev"); (case k5 => walk_at "rv")))
local macro_rules | `(tactic| walk_at "ev") => `(tactic| (refine' ev_orV ?k1 (fun _ => ?k2); (case k1 => walk_at "ev"); (case k2 => walk_at "ev")))
local macro_rules | `(tactic| walk_at "ev") => `(tactic| (refine' ev_andV ?k1 (fun _ => ?k2); (case k1 => walk_at "ev"); (case k2 => walk_at "ev")))
local macro_rules | `(tactic| walk_at "ev") => `(tactic| (refine' ev_notV ?k1; (case k1 => walk_at "ev")))
local macro_rules | `(tactic| walk_at "ea") => `(tactic| exact ea_nil)
local macro_rules | `(tactic| walk_at "ea") => `(tactic| (refine' ea_cons ?k1 ?k2; (case k1 => walk_at "ev"); (case k2 => walk_at "ea")))
local macro_rules | `(tactic| walk_at "rv") => `(tactic| exact rv_I0)
local macro_rules | `(tactic| walk_at "rv") => `(tactic| exact rv_eqI)
local macro_rules | `(tactic| walk_at "rv") => `(tactic| exact rv_neI)
local macro_rules | `(tactic| walk_at "rv") => `(tactic| exact rv_eqS)
local macro_rules | `(tactic| walk_at "rv") => `(tactic| exact rv_neS)
local macro_rules | `(tactic| walk_at "rv") => `(tactic| exact rv_mod (by decide))
local macro_rules | `(tactic| walk_at "rv") => `(tactic| exact rv_fdiv (by decide) (by decide))
local macro_rules | `(tactic| walk_at "rv") => `(tactic| exact rv_mulR (by decide))
local macro_rules | `(tactic| walk_at "rv") => `(tactic| exact rv_pow (by decide))
local macro_rules | `(tactic| walk_at "rc") => `(tactic| exact rc_int)
local macro_rules | `(tactic| walk_at "rc") => `(tactic| exact rc_ord)
local macro_rules | `(tactic| walk_at "et") => `(tactic| (refine' et_test ?k1; (case k1 => walk_at "ev")))
local macro_rules | `(tactic| walk_at "et") => `(tactic| (refine' et_B ?k1; (case k1 => walk_at "ev")))
local macro_rules | `(tactic| walk_at "et") => `(tactic| (refine' et_not ?k1; (case k1 => walk_at "et")))
local macro_rules | `(tactic| walk_at "et") => `(tactic| (refine' et_or ?k1 (fun _ => ?k2); (case k1 => walk_at "et"); (case k2 => walk_at "et")))
local macro_rules | `(tactic| walk_at "et") => `(tactic| (refine' et_and ?k1 (fun _ => ?k2); (case k1 => walk_at "et"); (case k2 => walk_at "et")))
section
variable {P : Program} {w : World} {K : PySem.W.Frag} {mg : Str → Option Value} {base : Heap}
theorem call_take (im : List Int) (i : Nat) : ((List.range (i + 1)).filter fun (j : Nat) => (nodeAt im ((j : Int) + 1)).isSome).map (fun (j : Nat) => (j : Int) + 1) = ((List.range i).filter fun (j : Nat) => (nodeAt im ((j : Int) + 1)).isSome).map (fun (j : Nat) => (j : Int) + 1) ++ if (nodeAt im ((i : Int) + 1)).isSome = true then [(i : Int) + 1] else [] := by
  rw [List.range_succ, List.filter_append, List.map_append]
  congr 1
  by_cases c : (nodeAt im ((i : Int) + 1)).isSome = true
  · rw [if_pos c, List.filter_cons, if_pos c]; rfl
  · rw [if_neg c, List.filter_cons, if_neg c]; rfl
theorem ways_eq {im : List Int} {k : Int} {n : Nd} (h : nodeAt im k = some n) : nextM im k = (([n.2.2] ++ if n.1 = 63 then [n.2.1] else []) ++ if isCp n.1 = true then [n.1] else []) ++ if n.1 = 36 then callM im else [] := by
  unfold nextM
  rw [h]
  dsimp only
  by_cases c1 : n.1 = 63
  · have h2 : ¬ isCp n.1 = true := by rw [c1]; decide
    have h3 : ¬ n.1 = 36 := by omega
    rw [if_pos c1, if_pos c1, if_neg h2, if_neg h3]
    rfl
  · rw [if_neg c1, if_neg c1]
    by_cases c2 : n.1 = 36
    · have h2 : ¬ isCp n.1 = true := by rw [c2]; decide
      rw [if_pos c2, if_pos c2, if_neg h2]
      rfl
    · rw [if_neg c2, if_neg c2]
      by_cases c3 : isCp n.1 = true
      · rw [if_pos c3, if_pos c3]; rfl
      · rw [if_neg c3, if_neg c3]; rfl
def sp_law_ways (K : PySem.W.Frag) : Sp := fun vs H Q _ => ∃ (t : Addr) (im : List Int) (x : Int), vs = [.ref t, .int x] ∧ Tb K H t im ∧ RetL ((nextM im x).map V.int) H Q
theorem ok_law_ways (T : Txt K mg) : FnOk P w K mg base CX0 1 T.f_law_ways T.d_law_ways ["table", "number"] (sp_law_ways K) := by
  refine T.F_law_ways.ok sc_law_ways (fun vs H Q E h => ?_) (fun cdv A outer s H vs Q E hr h => ?_)
  · obtain ⟨t, im, x, rfl, _⟩ := h
    rfl
  · obtain ⟨t, im, x, rfl, hT, k⟩ := h
    refine ⟨_, (pss_cons (ps_if (pt_cmp (pc_dnotin (hu_of hr) (pv 1) (pv 0))) (pss_one (ps_ret (pe_lst pa_nil))) pss_nil)
        (pss_cons (ps_asg (pe_dget (hu_of hr) (pv 0) (pv 1) (fun _ _ => rfl)) (pg_tup (by rfl) (pgs_cons (pg_name (i := 2) sc_law_ways.nd rfl (Or.inl rfl)) (pgs_cons (pg_name (i := 3) sc_law_ways.nd rfl (Or.inl rfl)) (pgs_cons (pg_name (i := 4) sc_law_ways.nd rfl (Or.inl rfl)) pgs_nil)))))
        (pss_cons (ps_set (i := 5) sc_law_ways.nd rfl (Or.inl rfl) (pe_lst (pa_cons (pv 4) pa_nil)))
        (pss_cut (ps_if (pt_cmpR op_eq (pv 2) pe_int (nomark _)) (pss_one (ps_expr (pe_bm PySem.F.plainAttrs_list PySem.F.slot_list_append PySem.F.type_list_append mt_append (pv 5) (pa_cons (pv 3) pa_nil)))) pss_nil)
        (pss_cut (ps_if (pt_chain op_le op_le pe_int (pv 2) pe_int) (pss_one (ps_expr (pe_bm PySem.F.plainAttrs_list PySem.F.slot_list_append PySem.F.type_list_append mt_append (pv 5) (pa_cons (pv 2) pa_nil)))) pss_nil)
        (pss_cut (ps_if (pt_cmpR op_eq (pv 2) pe_int (nomark _)) (pss_one (ps_for PassesOwn.never rfl (pi_range2 (by rfl) T.n_range (pa_cons pe_int (pa_cons pe_int pa_nil))) (pg_name (i := 6) sc_law_ways.nd rfl (Or.inl rfl)) (pss_one (ps_if (pt_cmp (pc_din (hu_of hr) (pv 6) (pv 0))) (pss_one (ps_expr (pe_bm PySem.F.plainAttrs_list PySem.F.slot_list_append PySem.F.type_list_append mt_append (pv 5) (pa_cons (pv 6) pa_nil)))) pss_nil)))) pss_nil)
        (pss_one (ps_ret (pv 5))))))))), ?_⟩
    cases hn : nodeAt im x with
    | none =>
      have h0 : nextM im x = [] := by unfold nextM; rw [hn]
      rw [h0] at k
      refine q_when (b := true) (et_is (et_test (ev_notTb (ev_var rfl) (fun _ _ => ev_var rfl) hT)) (by rw [hn]; rfl)) (fun _ H1 e1 => ?_) (fun hb => nomatch hb)
      exact s_retL (el_lst ea_nil (by decide)) fun p H2 np e2 hp => k p H2 (fresh_back e1 np) (e1.trans e2) hp
    | some n =>
      rw [ways_eq hn] at k
      refine q_when (b := false) (et_is (et_test (ev_notTb (ev_var rfl) (fun _ _ => ev_var rfl) hT)) (by rw [hn]; rfl)) (fun hb => nomatch hb) (fun _ H1 e1 => ?_)
      obtain ⟨p, hp, he⟩ := ev_tb (K := K) (H := H1) (σ := L2.start N_law_ways [.ref t, .int x]) (td := tVar 0) (ty := tVar 1) (ev_var rfl) (fun _ _ => ev_var rfl) (hT.up e1) hn
      refine q_unpD (K := K) (ed_ev he (dp_intsT hp)) (fun v H2 e2 hv => ?_)
      obtain ⟨p2, rfl, hp2⟩ := dp_intsT_inv (ns := ndL n) hv
      refine g_tup3 hp2 ?_
      have e12 := e1.trans e2
      refine q_asgL (xs := ([n.2.2] : List Int).map V.int) (el_lst (ea_cons (ev_var rfl) ea_nil) (by show 1 ≤ 100000; decide)) (fun q H3 nq e3 hq => ?_)
      have nqH : H q = none := fresh_back e12 nq
      have x3 := e12.trans e3
      have app : ∀ {G G2 : Hp} {l : List Int} (y : Int), Ex H G → Ex G G2 → Ex H (upd G2 q (.lst (l.map V.int ++ [.int y]))) ∧ (upd G2 q (.lst (l.map V.int ++ [.int y]))) q = some (.lst ((l ++ [y]).map V.int)) := fun {G G2 l} y h1 h2 => ⟨Ex.mut (h1.trans h2) nqH, by rw [upd_same, List.map_append]; rfl⟩
      refine q_cut (M := fun σ' H' => Ex H H' ∧ H' q = some (.lst (([n.2.2] ++ if n.1 = 63 then [n.2.1] else []).map V.int)) ∧ σ' = [some (.ref t), some (.int x), some (.int n.1), some (.int n.2.1), some (.int n.2.2), some (.ref q), none]) ?_ ?_
      · refine s_when (b := decide (n.1 = 63)) (et_test (ev_op (ev_var rfl) ev_c rv_eqI)) (fun hb H4 e4 => ?_) (fun hb H4 e4 => ?_)
        · rw [if_pos (of_decide_eq_true hb)]
          exact s_app (e4 _ _ hq) (ev_var rfl) (ev_var rfl) (by show 1 < 100000; decide) (fun H5 e5 => ⟨(app (l := [n.2.2]) n.2.1 (x3.trans e4) e5).1, (app (l := [n.2.2]) n.2.1 (x3.trans e4) e5).2, rfl⟩)
        · rw [if_neg (of_decide_eq_false hb)]
          exact ⟨x3.trans e4, by rw [List.append_nil]; exact e4 _ _ hq, rfl⟩
      rintro σ' H4 ⟨x4, q4, rfl⟩
      have l4 : (([n.2.2] ++ if n.1 = 63 then [n.2.1] else []) : List Int).length ≤ 2 := by split <;> simp
      generalize ([n.2.2] ++ if n.1 = 63 then [n.2.1] else [] : List Int) = w4 at q4 l4 k
      refine q_cut (M := fun σ' H' => Ex H H' ∧ H' q = some (.lst ((w4 ++ if isCp n.1 = true then [n.1] else []).map V.int)) ∧ σ' = [some (.ref t), some (.int x), some (.int n.1), some (.int n.2.1), some (.int n.2.2), some (.ref q), none]) ?_ ?_
      · have c1 : Ev (tChain (rI0 fun i j => .bl (decide (i ≤ j))) (rI0 fun i j => .bl (decide (i ≤ j))) (tC (.int 65)) (tVar 2) (tC (.int 90))) [some (.ref t), some (.int x), some (.int n.1), some (.int n.2.1), some (.int n.2.2), some (.ref q), none] H4 (.bl (isCp n.1)) := ev_chain ev_c (ev_var rfl) rv_I0 (fun _ => ev_c) (fun _ => rv_I0)
        refine s_when (b := isCp n.1) (et_test c1) (fun hb H5 e5 => ?_) (fun hb H5 e5 => ?_)
        · rw [if_pos hb]
          exact s_app (e5 _ _ q4) (ev_var rfl) (ev_var rfl) (by rw [List.length_map]; omega) (fun H6 e6 => ⟨(app (l := w4) n.1 (x4.trans e5) e6).1, (app (l := w4) n.1 (x4.trans e5) e6).2, rfl⟩)
        · rw [if_neg (by rw [hb]; exact Bool.false_ne_true)]
          exact ⟨x4.trans e5, by rw [List.append_nil]; exact e5 _ _ q4, rfl⟩
      rintro σ' H5 ⟨x5, q5, rfl⟩
      have l5 : (w4 ++ if isCp n.1 = true then [n.1] else [] : List Int).length ≤ 3 := by rw [List.length_append]; split <;> simp <;> omega
      generalize (w4 ++ if isCp n.1 = true then [n.1] else [] : List Int) = w5 at q5 l5 k
      refine q_cut (M := fun σ' H' => Ex H H' ∧ H' q = some (.lst ((w5 ++ if n.1 = 36 then callM im else []).map V.int)) ∧ ∃ y, σ' = [some (.ref t), some (.int x), some (.int n.1), some (.int n.2.1), some (.int n.2.2), some (.ref q), y]) ?_ ?_
      · refine s_when (b := decide (n.1 = 36)) (et_test (ev_op (ev_var rfl) ev_c rv_eqI)) (fun hb H6 e6 => ?_) (fun hb H6 e6 => ?_)
        · rw [if_pos (of_decide_eq_true hb)]
          refine s_forR2 (lo := 1) (n := 200) (ea_cons ev_c (ea_cons ev_c ea_nil)) (by decide) (fun i σ' H' => Ex H H' ∧ H' q = some (.lst ((w5 ++ ((List.range i).filter fun (j : Nat) => (nodeAt im ((j : Int) + 1)).isSome).map (fun (j : Nat) => (j : Int) + 1)).map V.int)) ∧ ∃ y, σ' = [some (.ref t), some (.int x), some (.int n.1), some (.int n.2.1), some (.int n.2.2), some (.ref q), y]) ?_ ?_ ?_
          · intro H7 e7
            exact ⟨x5.trans (e6.trans e7), by show _ = some (HO.lst ((w5 ++ []).map V.int)); rw [List.append_nil]; exact e7 _ _ (e6 _ _ q5), _, rfl⟩
          · rintro i σ' H7 hi ⟨x7, q7, y, rfl⟩
            have hll : (w5 ++ ((List.range i).filter fun (j : Nat) => (nodeAt im ((j : Int) + 1)).isSome).map (fun (j : Nat) => (j : Int) + 1)).length < 100000 := by
              rw [List.length_append, List.length_map]
              have h := List.length_filter_le (fun (j : Nat) => (nodeAt im ((j : Int) + 1)).isSome) (List.range i)
              rw [List.length_range] at h
              omega
            rw [call_take, ← List.append_assoc]
            generalize (w5 ++ ((List.range i).filter fun (j : Nat) => (nodeAt im ((j : Int) + 1)).isSome).map (fun (j : Nat) => (j : Int) + 1)) = w7 at q7 hll
            rw [Int.add_comm 1 (i : Int)]
            refine s_when (b := (nodeAt im ((i : Int) + 1)).isSome) (et_test (ev_inTb (ev_var rfl) (fun _ _ => ev_var rfl) (hT.up x7))) (fun hb H8 e8 => ?_) (fun hb H8 e8 => ?_)
            · rw [if_pos hb]
              exact s_app (e8 _ _ q7) (ev_var rfl) (ev_var rfl) (by rw [List.length_map]; exact hll) (fun H9 e9 => ⟨(app (l := w7) ((i : Int) + 1) (x7.trans e8) e9).1, (app (l := w7) ((i : Int) + 1) (x7.trans e8) e9).2, _, rfl⟩)
            · rw [if_neg (by rw [hb]; exact Bool.false_ne_true)]
              exact ⟨x7.trans e8, by rw [List.append_nil]; exact e8 _ _ q7, _, rfl⟩
          · rintro σ' H7 ⟨x7, q7, y, rfl⟩
            exact ⟨x7, q7, _, rfl⟩
        · rw [if_neg (of_decide_eq_false hb)]
          exact ⟨x5.trans e6, by rw [List.append_nil]; exact e6 _ _ q5, _, rfl⟩
      rintro σ' H6 ⟨x6, q6, y, rfl⟩
      exact s_ret (ev_var rfl) fun H7 e7 => k q H7 nqH (x6.trans e7) (e7 _ _ q6)
theorem s_forLP {K : PySem.W.Frag} {H : Hp} {σ : L2.St} {tl : TE} {tu : TS} {D : Ends} {P : V → Hp → Prop} {j : Nat} (h : EvP tl σ H P) (k : ∀ v H1, P v H1 → ∃ a xs, v = .ref a ∧ SqL K H1 a xs ∧ ∃ Pv : Nat → L2.St → Hp → Prop, Pv 0 σ H1 ∧ (∀ i σ' H', i ≤ xs.length → Pv i σ' H' → SqL K H' a xs) ∧
    (∀ i x σ' H', xs[i]? = some x → Pv i σ' H' → tu { D with nx := Pv (i + 1), ct := Pv (i + 1), bk := D.nx } (σ'.set j (some x)) H') ∧ (∀ σ' H', Pv xs.length σ' H' → D.nx σ' H')) : tFor (iList K tl) (gName j) tu D σ H :=
  h _ fun v H1 hv => by
    obtain ⟨a, xs, rfl, hx, Pv, h0, hl, hs, hd⟩ := k v H1 hv
    exact ⟨a, rfl, ⟨xs, hx⟩, for_list (g := gName j) Pv h0 hl hs hd⟩
def sp_law_reached (K : PySem.W.Frag) : Sp := fun vs H Q _ => ∃ (t : Addr) (im ks : List Int), vs = [.ref t] ∧ Tb K H t im ∧ (rowsOf im).length ≤ 20 ∧ CL im ks ∧ RetL ((Gd.srt ks).map V.int) H Q
theorem l_law_reached {t : Addr} {im ks : List Int} {H : Hp} (h : Tb K H t im) (hl : (rowsOf im).length ≤ 20) (hc : CL im ks) : SpL (sp_law_reached K) [.ref t] H ((Gd.srt ks).map V.int) := fun _ e _ q _ => ⟨t, im, ks, rfl, h.up e, hl, hc, q⟩
theorem ok_law_reached (T : Txt K mg) : FnOk P w K mg base CX0 2 T.f_law_reached T.d_law_reached ["table"] (sp_law_reached K) := by
  refine T.F_law_reached.ok sc_law_reached (fun vs H Q E h => ?_) (fun cdv A outer s H vs Q E hr h => ?_)
  · obtain ⟨t, im, ks, rfl, _⟩ := h
    rfl
  · obtain ⟨t, im, ks, rfl, hT, hl, hC, k⟩ := h
    refine ⟨_, (pss_cons (ps_set (i := 1) sc_law_reached.nd rfl (Or.inl rfl) (pe_disp (pps_cons pe_int pe_bl pps_nil) (by rfl) (by rfl) (fun z => by cases z) (by decide)))
        (pss_cons (ps_set (i := 2) sc_law_reached.nd rfl (Or.inl rfl) (pe_lst (pa_cons pe_int pa_nil)))
        (pss_cons (ps_for PassesOwn.never rfl (pi_range1 (by rfl) T.n_range (pa_cons pe_int pa_nil)) (pg_name (i := 3) sc_law_reached.nd rfl (Or.inl rfl)) (pss_cons (ps_if (pt_not (pt_truth (pv 2) (by intro _; rfl))) (pss_one ps_break) pss_nil)
        (pss_one (ps_for PassesOwn.never rfl (pi_list (pe_call (ok_law_ways T) (hr.mono (by decide)) (by rfl) T.g_law_ways T.F_law_ways.kp T.b_law_ways .nil pass0 (pa_cons (pv 0) (pa_cons (pe_bm0 PySem.F.plainAttrs_list PySem.F.slot_list_pop PySem.F.type_list_pop mt_pop (pv 2)) pa_nil)))) (pg_name (i := 4) sc_law_reached.nd rfl (Or.inl rfl)) (pss_one (ps_if (pt_cmp (pc_dnotin (hu_of hr) (pv 4) (pv 1))) (pss_cons (ps_dput (hu_of hr) (pv 1) (pv 4) pe_bl rfl)
        (pss_one (ps_expr (pe_bm PySem.F.plainAttrs_list PySem.F.slot_list_append PySem.F.type_list_append mt_append (pv 2) (pa_cons (pv 4) pa_nil))))) pss_nil))))))
        (pss_one (ps_ret (pe_callB (call_sortedDI rfl) (by rfl) T.n_sorted (by decide +kernel) (pa_cons (pv 1) pa_nil))))))), ?_⟩
    have hU := uni_len im
    refine fun f hf => ⟨upd_same, [(Sum.inl 0, .bl true)], rfl, by show 1 ≤ 15; decide, ?_⟩
    have hm : mergeK [] [((Sum.inl 0 : Key), V.bl true)] = kvB [0] := rfl
    rw [hm]
    have x1 : Ex H (upd (upd H f (.dK [])) f (.dK (kvB [0]))) := Ex.mut (Ex.new hf) hf
    have f1 : (upd (upd H f (.dK [])) f (.dK (kvB [0]))) f = some (.dK (kvB [0])) := upd_same
    generalize upd (upd H f (.dK [])) f (.dK (kvB [0])) = H1 at x1 f1
    refine q_asgL (xs := ([0] : List Int).map V.int) (el_lst (ea_cons ev_c ea_nil) (by show 1 ≤ 100000; decide)) (fun w H2 nw e2 hw => ?_)
    have hfw : f ≠ w := fun z => by rw [← z, f1] at nw; cases nw
    have nwH : H w = none := fresh_back x1 nw
    have fin : ∀ {G : Hp} {fs : List Int} {y3 y4 : Option V}, Ex H G → G f = some (.dK (kvB fs)) → WkI im fs [] → tRet (tCB rSrtDI (tCons (tVar 1) tNil)) { nx := fun x H' => Q V.non H', rt := Q } [some (.ref t), some (.ref f), some (.ref w), y3, y4] G := fun {G fs y3 y4} e hf' hI => by
      have hcl := hI.stop
      have hl3 := hcl.len
      refine s_retL (xs := (Gd.srt ks).map V.int) (fun G1 eG Q q => ⟨_, rfl, f, kvB fs, fs, rfl, .inl (eG _ _ hf'), kvB_keys fs, by omega, fun ys p hp hs hn => ?_⟩) fun p H4 np e4 hp => k p H4 (fresh_back e np) (e.trans e4) hp
      rw [hC.srt hcl hp hs]
      exact q p _ hn (Ex.new hn) upd_same
    refine q_forR1 (n := 1000) (ea_cons ev_c ea_nil) (by decide) (fun i σ' H' => ∃ fs ws y3 y4, σ' = [some (.ref t), some (.ref f), some (.ref w), y3, y4] ∧ Ex H H' ∧ H' f = some (.dK (kvB fs)) ∧ H' w = some (.lst (ws.map V.int)) ∧ WkI im fs ws ∧ (ws = [] ∨ 2 * ((uni im).length - fs.length) + ws.length + i ≤ 200)) ?_ ?_ ?_
    · intro H3 e3
      refine ⟨[0], [0], none, none, rfl, x1.trans (e2.trans e3), e3 _ _ (e2 _ _ f1), e3 _ _ hw, WkI.start im, .inr ?_⟩
      show 2 * ((uni im).length - 1) + 1 + 0 ≤ 200
      omega
    · rintro i σ' H' hi ⟨fs, ws, y3, y4, rfl, e, hf', hw', hI, hm⟩
      refine q_when (b := !(!(ws.map V.int).isEmpty)) (et_not (et_truL (K := K) (ev_var rfl) (sq_of hw'))) (fun hb H3 e3 => ?_) (fun hb H3 e3 => ?_)
      · have hne : ws = [] := by
          cases ws with
          | nil => rfl
          | cons a l => cases hb
        subst hne
        exact fin (e.trans e3) (e3 _ _ hf') hI
      · have hne : ws ≠ [] := by intro z; subst z; cases hb
        have hm := hm.resolve_left hne
        obtain ⟨wr, x, rfl⟩ : ∃ wr x, ws = wr ++ [x] := ⟨ws.dropLast, ws.getLast hne, (List.dropLast_concat_getLast hne).symm⟩
        rw [List.length_append] at hm
        have hm : 2 * ((uni im).length - fs.length) + (wr.length + 1) + i ≤ 200 := hm
        refine s_forLP (K := K) (P := fun v H4 => ∃ a, v = .ref a ∧ H3 a = none ∧ H4 a = some (.lst ((nextM im x).map V.int)) ∧ Ex H H4 ∧ H4 f = some (.dK (kvB fs)) ∧ H4 w = some (.lst (wr.map V.int))) (fun Q q => ⟨_, rfl, (ep_pop (ns := wr ++ [x]) (ev_var rfl) (e3 _ _ hw') (by simp)) _ fun v G hv => ?_⟩) (fun v H4 hv => ?_)
        · obtain ⟨rfl, G', eG, rfl⟩ := hv
          rw [List.dropLast_concat, List.getLast?_concat]
          have xx := Ex.mut (o := .lst (wr.map V.int)) ((e.trans e3).trans eG) nwH
          refine ⟨t, im, x, rfl, hT.up xx, fun a G2 na e4 ha => q _ _ ⟨a, rfl, ?_, ha, xx.trans e4, e4 _ _ (by rw [upd_ne hfw]; exact eG _ _ (e3 _ _ hf')), e4 _ _ upd_same⟩⟩
          cases c : H3 a with
          | none => rfl
          | some o =>
            by_cases z : a = w
            · rw [z, upd_same] at na; cases na
            · rw [upd_ne z, eG _ _ c] at na; cases na
        obtain ⟨p, rfl, np3, hp, x4, f4, w4⟩ := hv
        have hpf : p ≠ f := fun z => by rw [z, e3 _ _ hf'] at np3; cases np3
        have hpw : p ≠ w := fun z => by rw [z, e3 _ _ hw'] at np3; cases np3
        refine ⟨p, _, rfl, sq_of hp, fun j σ' H' => H' p = some (.lst ((nextM im x).map V.int)) ∧ ∃ fs' ws' y4, σ' = [some (.ref t), some (.ref f), some (.ref w), some (.int (i : Int)), y4] ∧ Ex H H' ∧ H' f = some (.dK (kvB fs')) ∧ H' w = some (.lst (ws'.map V.int)) ∧ WkJ im x j fs' ws' ∧ 2 * ((uni im).length - fs'.length) + ws'.length + (i + 1) ≤ 200, ⟨hp, fs, wr, y4, rfl, x4, f4, w4, hI.pop, by omega⟩, fun j σ' H' _ q => sq_of q.1, ?_, ?_⟩
        · rintro j v σ' H5 hv ⟨hp, fs', ws', y4, rfl, e5, f5, w5, hJ, hme⟩
          obtain ⟨g, hj, rfl⟩ := map_at hv
          show tIfS _ _ _ _ [some (.ref t), some (.ref f), some (.ref w), some (.int (i : Int)), some (.int g)] H5
          refine s_when (b := !decide (g ∈ fs')) (et_test (ev_notB (ev_var rfl) (fun _ _ => ev_var rfl) f5)) (fun hb H6 e6 => ?_) (fun hb H6 e6 => ?_)
          · have hj2 : g ∉ fs' := by simpa using hb
            have hJ2 := hJ.add hj hj2
            have hl2 := hJ2.len
            rw [List.length_append] at hl2
            have hl2 : fs'.length + 1 ≤ (uni im).length := hl2
            refine q_dput (k := Sum.inl g) (ev_c (v := .bl true)) (ev_var rfl) (ev_var rfl) (e6 _ _ f5) (by rw [kvB_len]; omega) (fun H7 e7 => ?_)
            rw [kvB_put hj2]
            have x7 := Ex.mut (o := .dK (kvB (fs' ++ [g]))) (e5.trans (e6.trans e7)) hf
            have f7 : (upd H7 f (.dK (kvB (fs' ++ [g])))) f = _ := upd_same
            have w7 : (upd H7 f (.dK (kvB (fs' ++ [g])))) w = some (.lst (ws'.map V.int)) := by rw [upd_ne hfw.symm]; exact e7 _ _ (e6 _ _ w5)
            have p7 : (upd H7 f (.dK (kvB (fs' ++ [g])))) p = some (.lst ((nextM im x).map V.int)) := by rw [upd_ne hpf]; exact e7 _ _ (e6 _ _ hp)
            generalize upd H7 f (.dK (kvB (fs' ++ [g]))) = G7 at x7 f7 w7 p7
            refine s_app w7 (ev_var rfl) (ev_var rfl) (by rw [List.length_map]; omega) (fun H8 e8 => ?_)
            refine ⟨by rw [upd_ne hpw]; exact e8 _ _ p7, fs' ++ [g], ws' ++ [g], _, rfl, Ex.mut (x7.trans e8) nwH, by rw [upd_ne hfw]; exact e8 _ _ f7, by rw [upd_same, List.map_append]; rfl, hJ2, ?_⟩
            rw [List.length_append, List.length_append]
            show 2 * ((uni im).length - (fs'.length + 1)) + (ws'.length + 1) + (i + 1) ≤ 200
            omega
          · have hj2 : g ∈ fs' := by simpa using hb
            exact ⟨e6 _ _ hp, fs', ws', _, rfl, e5.trans e6, e6 _ _ f5, e6 _ _ w5, hJ.skip hj hj2, hme⟩
        · rintro σ' H5 ⟨hp, fs', ws', y4, rfl, e5, f5, w5, hJ, hme⟩
          rw [List.length_map] at hJ
          exact ⟨fs', ws', _, _, rfl, e5, f5, w5, hJ.fin, .inr hme⟩
    · rintro σ' H' ⟨fs, ws, y3, y4, rfl, e, hf', hw', hI, hm⟩
      have hne : ws = [] := by
        rcases hm with hm | hm
        · exact hm
        · have : ((1000 : Int).toNat) = 1000 := rfl
          omega
      subst hne
      exact fin e hf' hI
def sp_law_is_closed (K : PySem.W.Frag) : Sp := fun vs H Q _ => ∃ (t : Addr) (im ks : List Int), vs = [.ref t] ∧ Tb K H t im ∧ (rowsOf im).length ≤ 20 ∧ CL im ks ∧ RetV (.bl (clB im (Gd.srt ks))) H Q
theorem v_law_is_closed {t : Addr} {im ks : List Int} {H : Hp} (h : Tb K H t im) (hl : (rowsOf im).length ≤ 20) (hc : CL im ks) : SpV (sp_law_is_closed K) [.ref t] H (.bl (clB im (Gd.srt ks))) := fun _ e _ q _ => ⟨t, im, ks, rfl, h.up e, hl, hc, q⟩
theorem ops_mem {im ys : List Int} {c : Int} : c ∈ opsM im ys ↔ ∃ k ∈ ys, ∃ n, nodeAt im k = some n ∧ n.1 = c := by
  unfold opsM
  rw [List.mem_filterMap]
  constructor
  · rintro ⟨k, hk, e⟩
    cases hn : nodeAt im k with
    | none => rw [hn] at e; cases e
    | some n => rw [hn] at e; exact ⟨k, hk, n, hn, Option.some.inj e⟩
  · rintro ⟨k, hk, n, hn, rfl⟩
    exact ⟨k, hk, by rw [hn]; rfl⟩
theorem ok_law_is_closed (T : Txt K mg) : FnOk P w K mg base CX0 3 T.f_law_is_closed T.d_law_is_closed ["table"] (sp_law_is_closed K) := by
  refine T.F_law_is_closed.ok sc_law_is_closed (fun vs H Q E h => ?_) (fun cdv A outer s H vs Q E hr h => ?_)
  · obtain ⟨t, im, ks, rfl, _⟩ := h
    rfl
  · obtain ⟨t, im, ks, rfl, hT, hl, hC, k⟩ := h
    refine ⟨_, (pss_cons (ps_for PassesOwn.never rfl (pi_list (pe_call (ok_law_reached T) (hr.mono (by decide)) (by rfl) T.g_law_reached T.F_law_reached.kp T.b_law_reached .nil pass0 (pa_cons (pv 0) pa_nil))) (pg_name (i := 1) sc_law_is_closed.nd rfl (Or.inl rfl)) (pss_one (ps_if (PW.pt (pw_and (pt_cmp (pc_din (hu_of hr) (pv 1) (pv 0))) (pw_and1 (pt_cmpR op_in_seq (pe_ix ix_tup (pe_dget (hu_of hr) (pv 0) (pv 1) (fun _ _ => rfl)) pe_int (fun _ _ => rfl)) (pe_lst (pa_cons pe_int (pa_cons pe_int pa_nil))) (by rfl))))) (pss_one (ps_ret pe_bl)) pss_nil)))
        (pss_one (ps_ret pe_bl))), ?_⟩
    refine q_forNLn (el_call (ea_cons (ev_var rfl) ea_nil) (l_law_reached hT hl hC)) (fun p i σ' H' => Ex H H' ∧ H' p = some (.lst ((Gd.srt ks).map V.int)) ∧ ∃ y, σ' = [some (.ref t), y] ∧ ∀ j, j < i → ∀ z, (Gd.srt ks)[j]? = some z → ∀ n, nodeAt im z = some n → n.1 ≠ 38 ∧ n.1 ≠ 40) ?_ ?_ ?_ ?_
    · intro p H1 np e1 hp
      exact ⟨e1, hp, none, rfl, fun j h => absurd h (Nat.not_lt_zero _)⟩
    · rintro p i σ' H' _ ⟨_, hp, _⟩
      exact sq_of hp
    · rintro p i v σ' H' hx ⟨e, hp, y, rfl, hall⟩
      obtain ⟨z, hz, rfl⟩ := map_at hx
      have hT' := hT.up e
      have hin := ev_inTb (K := K) (H := H') (σ := [some (.ref t), some (.int z)]) (td := tVar 0) (ty := tVar 1) (ev_var rfl) (fun _ _ => ev_var rfl) hT'
      cases hn : nodeAt im z with
      | none =>
        rw [hn] at hin
        refine s_when (b := false) (et_is (et_and (a := false) (b := false) (et_test hin) (fun h => nomatch h)) rfl) (fun hb => nomatch hb) (fun _ H2 e2 => ⟨e.trans e2, e2 _ _ hp, _, rfl, fun j hj z' hz' n hn' => ?_⟩)
        by_cases c : j = i
        · rw [c, hz] at hz'
          cases hz'
          rw [hn] at hn'
          cases hn'
        · exact hall j (by omega) z' hz' n hn'
      | some nd =>
        rw [hn] at hin
        have hin2 : inV (.int nd.1) ([V.int 38, .int 40]) = decide (nd.1 ∈ ([38, 40] : List Int)) := inV_ints _ [38, 40]
        refine s_when (b := decide (nd.1 ∈ ([38, 40] : List Int))) (et_is (et_and (a := true) (b := decide (nd.1 ∈ ([38, 40] : List Int))) (et_test hin) (fun _ => ?_)) (by simp)) (fun hb H2 e2 => ?_) (fun hb H2 e2 => ⟨e.trans e2, e2 _ _ hp, _, rfl, fun j hj z' hz' n hn' => ?_⟩)
        · rw [← hin2]
          exact et_test (ev_opL (xs := [V.int 38, .int 40]) (x := .int nd.1) (ev_tbI 0 rfl (ev_var rfl) (fun _ _ => ev_var rfl) hT' hn) (el_lst (ea_cons ev_c (ea_cons ev_c ea_nil)) (by show 2 ≤ 100000; decide)) (fun p2 H2 h2 _ => rv_inL (neg := false) (sq_of h2) rfl rfl))
        · have hf : clB im (Gd.srt ks) = false := by
            have hmem : nd.1 ∈ opsM im (Gd.srt ks) := ops_mem.mpr ⟨z, List.mem_of_getElem? hz, nd, hn, rfl⟩
            have hb := of_decide_eq_true hb
            unfold clB
            rcases List.mem_cons.mp hb with c | c
            · rw [c] at hmem
              rw [decide_eq_true hmem]
              rfl
            · rw [List.mem_singleton.mp c] at hmem
              rw [decide_eq_true hmem, Bool.not_true, Bool.and_false]
          rw [hf] at k
          exact s_ret ev_c fun H3 e3 => k H3 (e.trans (e2.trans e3))
        · by_cases c : j = i
          · rw [c, hz] at hz'
            cases hz'
            rw [hn] at hn'
            cases hn'
            have hb := of_decide_eq_false hb
            exact ⟨fun z => hb (by rw [z]; exact List.mem_cons_self), fun z => hb (by rw [z]; exact List.mem_cons_of_mem _ List.mem_cons_self)⟩
          · exact hall j (by omega) z' hz' n hn'
    · rintro p σ' H' ⟨e, hp, y, rfl, hall⟩
      rw [List.length_map] at hall
      have hno : ∀ c, c = 38 ∨ c = 40 → c ∉ opsM im (Gd.srt ks) := fun c hc hm => by
        obtain ⟨z, hz, n, hn, rfl⟩ := ops_mem.mp hm
        obtain ⟨j, hj⟩ := List.mem_iff_getElem?.mp hz
        have := hall j (List.getElem?_eq_some_iff.mp hj).1 z hj n hn
        rcases hc with hc | hc
        · exact this.1 hc
        · exact this.2 hc
      have hf : clB im (Gd.srt ks) = true := by
        unfold clB
        rw [decide_eq_false (hno 38 (.inl rfl)), decide_eq_false (hno 40 (.inr rfl))]
        rfl
      rw [hf] at k
      exact s_ret ev_c fun H3 e3 => k H3 (e.trans e3)


end
end K32

set_option Elab.async false
set_option linter.all false
set_option maxRecDepth 100000
set_option maxHeartbeats 4000000
set_option exponentiation.threshold 600
namespace K32
open PySem PySem.Spec PyProof.Rows L2 Evl Gd
/-! ### how expressions are evaluated, without a word of ours -/
local macro_rules | `(tactic| walk_at "ev") => `(tactic| exact ev_c)
local macro_rules | `(tactic| walk_at "ev") => `(tactic| exact ev_var rfl)
local macro_rules | `(tactic| walk_at "ev") => `(tactic| (refine' ev_op ?k1 ?k2 ?k3; (case k1 => walk_at "ev"); (case k2 => walk_at "ev"); (case k3 => walk_at "rv")))
local macro_rules | `(tactic| walk_at "ev") => `(tactic| (refine' ev_cb ?k1 ?k2; (case k1 => walk_at "ea"); (case k2 => walk_at "rc")))
local macro_rules | `(tactic| walk_at "ev") => `(tactic| (refine' ev_call ?k1 ?k2; (case k1 => walk_at "ea"); (case k2 => walk_at "sp")))
local macro_rules | `(tactic| walk_at "ev") => `(tactic| (refine' ev_chain ?k1 ?k2 ?k3 (fun _ => ?k4) (fun _ => ?k5); (case k1 => walk_at "ev"); (case k2 => walk_at "ev"); (case k3 => walk_at "rv"); (case k4 => walk_at "ev"); (case k5 => walk_at "rv")))
local macro_rules | `(tactic| walk_at "ev") => `(tactic| (refine' ev_orV ?k1 (fun _ => ?k2); (case k1 => walk_at "ev"); (case k2 => walk_at "ev")))
local macro_rules | `(tactic| walk_at "ev") => `(tactic| (refine' ev_andV ?k1 (fun _ => ?k2); (case k1 => walk_at "ev"); (case k2 => walk_at "ev")))
local macro_rules | `(tactic| walk_at "ev") => `(tactic| (refine' ev_notV ?k1; (case k1 => walk_at "ev")))
local macro_rules | `(tactic| walk_at "ea") => `(tactic| exact ea_nil)
local macro_rules | `(tactic| walk_at "ea") => `(tactic| (refine' ea_cons ?k1 ?k2; (case k1 => walk_at "ev"); (case k2 => walk_at "ea")))
local macro_rules | `(tactic| walk_at "rv") => `(tactic| exact rv_I0)
local macro_rules | `(tactic| walk_at "rv") => `(tactic| exact rv_eqI)
local macro_rules | `(tactic| walk_at "rv") => `(tactic| exact rv_neI)
local macro_rules | `(tactic| walk_at "rv") => `(tactic| exact rv_eqS)
local macro_rules | `(tactic| walk_at "rv") => `(tactic| exact rv_neS)
local macro_rules | `(tactic| walk_at "rv") => `(tactic| exact rv_mod (by decide))
local macro_rules | `(tactic| walk_at "rv") => `(tactic| exact rv_fdiv (by decide) (by decide))
local macro_rules | `(tactic| walk_at "rv") => `(tactic| exact rv_mulR (by decide))
local macro_rules | `(tactic| walk_at "rv") => `(tactic| exact rv_pow (by decide))
local macro_rules | `(tactic| walk_at "rc") => `(tactic| exact rc_int)
local macro_rules | `(tactic| walk_at "rc") => `(tactic| exact rc_ord)
local macro_rules | `(tactic| walk_at "et") => `(tactic| (refine' et_test ?k1; (case k1 => walk_at "ev")))
local macro_rules | `(tactic| walk_at "et") => `(tactic| (refine' et_B ?k1; (case k1 => walk_at "ev")))
local macro_rules | `(tactic| walk_at "et") => `(tactic| (refine' et_not ?k1; (case k1 => walk_at "et")))
local macro_rules | `(tactic| walk_at "et") => `(tactic| (refine' et_or ?k1 (fun _ => ?k2); (case k1 => walk_at "et"); (case k2 => walk_at "et")))
local macro_rules | `(tactic| walk_at "et") => `(tactic| (refine' et_and ?k1 (fun _ => ?k2); (case k1 => walk_at "et"); (case k2 => walk_at "et")))
section
variable {P : Program} {w : World} {K : PySem.W.Frag} {mg : Str → Option Value} {base : Heap}
def sp_image_of (K : PySem.W.Frag) : Sp := fun vs H Q _ => ∃ (a : Addr) (xs : List V) (rows : List (List Int)), vs = [.ref a] ∧ SqL K H a xs ∧ DpAll K H xs (rows.map rowT) ∧ rows.flatten.length ≤ 90000 ∧ RetL (rows.flatten.map V.int) H Q
theorem ok_image_of (T : Txt K mg) : FnOk P w K mg base CX0 1 T.f_image_of T.d_image_of ["nodes"] (sp_image_of K) := by
  refine T.F_image_of.ok sc_image_of (fun vs H Q E h => ?_) (fun cdv A outer s H vs Q E hr h => ?_)
  · obtain ⟨a, xs, rows, rfl, _⟩ := h
    rfl
  · obtain ⟨a, xs, rows, rfl, hS, hd, hz, k⟩ := h
    refine ⟨_, (pss_one (ps_ret (pe_lc2 (own := [("node", 1), ("cell", 2)]) (vs1 := [2]) (by rfl) sc_image_of.nd (pi_list (pv 0)) (blkOk_by (own := [("node", 1), ("cell", 2)]) (N := N_image_of) (sc := defScope s_image_of) (by decide +kernel)) (by decide) (fun _ _ _ _ _ => pg_name (i := 1) sc_image_of.nd rfl (Or.inl rfl)) (fun _ _ _ _ _ => pts_nil) (fun _ _ _ _ _ => (Gd.pi_tupK (K := K) rfl (pv 1))) (fun _ _ _ _ _ => pg_name (i := 2) sc_image_of.nd rfl (Or.inl rfl)) (fun _ _ _ _ _ => pts_nil) (fun _ _ _ _ _ => (pv 2))))), ?_⟩
    exact s_retL (el_lc2L (ev_var rfl) hS hd hz (fun _ => rfl) (fun _ _ => rfl) (fun _ => rfl) (fun _ _ => rfl)) k

/-! ### a table of nodes, written by its numbers -/
theorem rowT_tup (l : List Int) : tupO (rowT l) = true := by
  unfold rowT
  rw [tupO]
  exact tupOs_at fun d m => by
    obtain ⟨z, _, rfl⟩ := List.mem_map.mp m
    rfl
structure Tf (K : PySem.W.Frag) (H : Hp) (t : Addr) (f : Int → Option Nd) (ks : List Int) : Prop where
  ex : ∃ kvs, Rd H t (.dK kvs) ∧ TabT K H kvs f ∧ kvs.map (·.1) = ks.map Sum.inl
theorem Tf.up {H H' : Hp} {t : Addr} {f : Int → Option Nd} {ks : List Int} (h : Tf K H t f ks) (e : Ex H H') : Tf K H' t f ks := by
  obtain ⟨kvs, h1, h2, h3⟩ := h.ex
  exact ⟨kvs, rd_ex e h1, h2.ex e, h3⟩
theorem ev_tf {H : Hp} {σ : L2.St} {td ty : TE} {t : Addr} {f : Int → Option Nd} {ks : List Int} {k : Int} {n : Nd} (h : Ev td σ H (.ref t)) (hk : ∀ H2, Ex H H2 → Ev ty σ H2 (.int k)) (hd : Tf K H t f ks) (hn : f k = some n) : ∃ p, SqT K H p ((ndL n).map V.int) ∧ Ev (tDGet td ty) σ H (.ref p) := by
  obtain ⟨kvs, h1, h2, h3⟩ := hd.ex
  have := h2 k
  rw [hn] at this
  obtain ⟨p, hp, hs⟩ := this
  exact ⟨p, hs, fun H1 e Q q => h H1 e _ fun H2 e2 => hk H2 (e.trans e2) H2 (Ex.refl H2) _ fun H3 e3 => ⟨t, _, rfl, .inl ⟨kvs, Sum.inl k, rd_ex (e.trans (e2.trans e3)) h1, rfl, by rw [hp]⟩, q H3 (e2.trans e3)⟩⟩
theorem el_sortedTf {H : Hp} {σ : L2.St} {td : TE} {t : Addr} {f : Int → Option Nd} {ks : List Int} (h : Ev td σ H (.ref t)) (hd : Tf K H t f ks) (hl : ks.length < 64) : EvL (tCB rSrtDI (tCons td tNil)) σ H ((Gd.srt ks).map V.int) := fun H1 e Q q =>
  h H1 e _ fun H2 e2 => by
    obtain ⟨kvs, h1, h2, h3⟩ := (hd.up (e.trans e2)).ex
    exact ⟨t, kvs, ks, rfl, h1, h3, hl, fun ys p hp hs hn => by
      rw [srt_uniq hp hs]
      exact q p _ (fresh_back e2 hn) (e2.trans (Ex.new hn)) upd_same⟩
def rowK (f : Int → Option Nd) (k : Int) : List Int := [k] ++ match f k with | some n => ndL n | none => []
def wrK (f : Int → Option Nd) (ks : List Int) : List Int := ((Gd.srt ks).map (rowK f)).flatten
theorem rowK_len (f : Int → Option Nd) (k : Int) : (rowK f k).length ≤ 4 := by
  unfold rowK
  cases f k with
  | none => show 1 ≤ 4; decide
  | some n => exact Nat.le_refl _
theorem wrK_len (f : Int → Option Nd) (ks : List Int) : (wrK f ks).length ≤ 4 * ks.length := by
  rw [← srt_len ks]
  unfold wrK
  generalize Gd.srt ks = l
  induction l with
  | nil => exact Nat.le_refl _
  | cons a l ih =>
    rw [List.map_cons, List.flatten_cons, List.length_append, List.length_cons]
    have := rowK_len f a
    omega
def sp_image_of_table (K : PySem.W.Frag) : Sp := fun vs H Q _ => ∃ (t : Addr) (f : Int → Option Nd) (ks : List Int), vs = [.ref t] ∧ Tf K H t f ks ∧ ks.length < 64 ∧ (∀ k ∈ ks, (f k).isSome = true) ∧ RetL ((wrK f ks).map V.int) H Q
theorem l_image_of_table {t : Addr} {f : Int → Option Nd} {ks : List Int} {H : Hp} (h : Tf K H t f ks) (hl : ks.length < 64) (hf : ∀ k ∈ ks, (f k).isSome = true) : SpL (sp_image_of_table K) [.ref t] H ((wrK f ks).map V.int) := fun _ e _ q _ => ⟨t, f, ks, rfl, h.up e, hl, hf, q⟩
theorem ok_image_of_table (T : Txt K mg) : FnOk P w K mg base CX0 2 T.f_image_of_table T.d_image_of_table ["table"] (sp_image_of_table K) := by
  refine T.F_image_of_table.ok sc_image_of_table (fun vs H Q E h => ?_) (fun cdv A outer s H vs Q E hr h => ?_)
  · obtain ⟨t, f, ks, rfl, _⟩ := h
    rfl
  · obtain ⟨t, f, ks, rfl, hT, hl, hf, k⟩ := h
    refine ⟨_, (pss_one (ps_ret (pe_call (ok_image_of T) (hr.mono (by decide)) (by rfl) T.g_image_of T.F_image_of.kp T.b_image_of .nil pass0 (pa_cons (pe_lc (own := [("number", 1)]) (by rfl) sc_image_of_table.nd (pi_list (pe_callB (call_sortedDI rfl) (by rfl) T.n_sorted (by decide +kernel) (pa_cons (pv 0) pa_nil))) (blkOk_by (own := [("number", 1)]) (N := N_image_of_table) (sc := defScope s_image_of_table) (by decide +kernel)) (fun _ _ _ _ _ => pg_name (i := 1) sc_image_of_table.nd rfl (Or.inl rfl)) (fun _ _ _ _ _ => pts_nil) (fun _ _ _ _ _ => (pe_op (Gd.op_catAK (K := K) rfl) (pe_tup (pa_cons (pv 1) pa_nil)) (pe_dget (hu_of hr) (pv 0) (pv 1) (fun _ _ => rfl))))) pa_nil)))), ?_⟩
    have hsl := srt_len ks
    have hmem : ∀ x, x ∈ Gd.srt ks → x ∈ ks := fun x hx => (srt_perm ks).mem_iff.mp hx
    have hgiv : givD ((Gd.srt ks).map V.int).length (fun _ => true) (fun i => rowT (rowK f ((Gd.srt ks).getD i 0))) = ((Gd.srt ks).map (rowK f)).map rowT := by
      have := filter_range_map (Gd.srt ks) (fun _ => true) (fun k => rowT (rowK f k)) 0
      rw [List.length_map, this, List.map_map]
      congr 1
      exact List.filter_eq_self.mpr fun _ _ => rfl
    refine s_retL (xs := (wrK f ks).map V.int) (fun G e Q q => ?_) k
    have hE := eld_lcNL (K := K) (H := G) (σ := L2.start N_image_of_table [.ref t]) (vs := [1]) (j := 1) (tl := tCB rSrtDI (tCons (tVar 0) tNil)) (te := tOp (rCatA K) (tTup (tCons (tVar 1) tNil)) (tDGet (tVar 0) (tVar 1))) (tt := tYes) (xs := (Gd.srt ks).map V.int) (b := fun _ => true) (g := fun i => rowT (rowK f ((Gd.srt ks).getD i 0))) (el_sortedTf (ev_var rfl) (hT.up e) hl) (by rw [List.length_map]; omega) (fun _ => rfl) (fun i hi => rowT_tup _) (fun i x hx H' e' => fun H1 e1 Q q => q H1 (Ex.refl H1)) (fun i x hx _ H' e' => ?_)
    · rw [hgiv] at hE
      refine hE G (Ex.refl G) (fun u G1 => sp_image_of K ([u] ++ []) G1 Q E0) fun a xs G1 na e1 ha hd => ⟨a, xs, (Gd.srt ks).map (rowK f), rfl, sq_of ha, hd, by have := wrK_len f ks; unfold wrK at this; omega, fun p G2 np e2 hp => q p G2 (fresh_back e1 np) (e1.trans e2) hp⟩
    · obtain ⟨y, hy, rfl⟩ := map_at hx
      have hg : (Gd.srt ks).getD i 0 = y := by rw [List.getD_eq_getElem?_getD, hy]; rfl
      rw [hg]
      have hyk := hf y (hmem y (List.mem_of_getElem? hy))
      cases hn : f y with
      | none => rw [hn] at hyk; cases hyk
      | some n =>
        obtain ⟨p, hs, he⟩ := ev_tf (K := K) (H := H') (σ := (wipe (L2.start N_image_of_table [.ref t]) [1]).set 1 (some (.int y))) (td := tVar 0) (ty := tVar 1) (ev_var rfl) (fun _ _ => ev_var rfl) ((hT.up e).up e') hn
        have := ed_catA (K := K) (ed_tup (ds := [PyData.int y]) (eda_cons (ed_int (ev_var (i := 1) (σ := (wipe (L2.start N_image_of_table [.ref t]) [1]).set 1 (some (.int y))) (H := H') rfl)) eda_nil) (by show 1 ≤ 100000; decide)) (ed_ev he (dp_intsT hs)) (by show 1 + 3 ≤ 100000; decide)
        have hr : rowT (rowK f y) = .tuple ([PyData.int y] ++ (ndL n).map PyData.int) := by unfold rowT rowK; rw [hn]; rfl
        rw [hr]
        exact this
def sp_law_written (K : PySem.W.Frag) : Sp := fun vs H Q _ => ∃ (t : Addr) (f : Int → Option Nd) (ks : List Int), vs = [.ref t] ∧ Tf K H t f ks ∧ ks.length < 64 ∧ (∀ k ∈ ks, (f k).isSome = true) ∧ RetL ((wrK f ks).map V.int) H Q
theorem l_law_written {t : Addr} {f : Int → Option Nd} {ks : List Int} {H : Hp} (h : Tf K H t f ks) (hl : ks.length < 64) (hf : ∀ k ∈ ks, (f k).isSome = true) : SpL (sp_law_written K) [.ref t] H ((wrK f ks).map V.int) := fun _ e _ q _ => ⟨t, f, ks, rfl, h.up e, hl, hf, q⟩
theorem ok_law_written (T : Txt K mg) : FnOk P w K mg base CX0 1 T.f_law_written T.d_law_written ["table"] (sp_law_written K) := by
  refine T.F_law_written.ok sc_law_written (fun vs H Q E h => ?_) (fun cdv A outer s H vs Q E hr h => ?_)
  · obtain ⟨t, f, ks, rfl, _⟩ := h
    rfl
  · obtain ⟨t, f, ks, rfl, hT, hl, hf, k⟩ := h
    refine ⟨_, (pss_cons (ps_set (i := 1) sc_law_written.nd rfl (Or.inl rfl) (pe_lst pa_nil))
        (pss_cons (ps_for PassesOwn.never rfl (pi_list (pe_callB (call_sortedDI rfl) (by rfl) T.n_sorted (by decide +kernel) (pa_cons (pv 0) pa_nil))) (pg_name (i := 2) sc_law_written.nd rfl (Or.inl rfl)) (pss_cons (ps_asg (pe_dget (hu_of hr) (pv 0) (pv 2) (fun _ _ => rfl)) (pg_tup (by rfl) (pgs_cons (pg_name (i := 3) sc_law_written.nd rfl (Or.inl rfl)) (pgs_cons (pg_name (i := 4) sc_law_written.nd rfl (Or.inl rfl)) (pgs_cons (pg_name (i := 5) sc_law_written.nd rfl (Or.inl rfl)) pgs_nil)))))
        (pss_one (ps_expr (pe_bm PySem.F.plainAttrs_list PySem.F.slot_list_extend PySem.F.type_list_extend mt_extend (pv 1) (pa_cons (pe_lst (pa_cons (pv 2) (pa_cons (pv 3) (pa_cons (pv 4) (pa_cons (pv 5) pa_nil))))) pa_nil))))))
        (pss_one (ps_ret (pv 1))))), ?_⟩
    have hsl := srt_len ks
    have hmem : ∀ x, x ∈ Gd.srt ks → x ∈ ks := fun x hx => (srt_perm ks).mem_iff.mp hx
    refine q_asgL (el_lst ea_nil (by decide)) (fun c H1 nc e1 hc => ?_)
    refine q_forNLn (el_sortedTf (ev_var rfl) (hT.up e1) hl) (fun l i σ' H' => Ex H H' ∧ H1 l = none ∧ H' l = some (.lst ((Gd.srt ks).map V.int)) ∧ H' c = some (.lst ((((Gd.srt ks).take i).map (rowK f)).flatten.map V.int)) ∧ (((Gd.srt ks).take i).map (rowK f)).flatten.length ≤ 4 * i ∧ ∃ y2 y3 y4 y5, σ' = [some (.ref t), some (.ref c), y2, y3, y4, y5]) ?_ ?_ ?_ ?_
    · intro l H2 nl e2 hl2
      exact ⟨e1.trans e2, nl, hl2, e2 _ _ hc, Nat.le_refl _, _, _, _, _, rfl⟩
    · rintro l i σ' H' _ ⟨_, _, h, _⟩
      exact sq_of h
    · rintro l i v σ' H' hx ⟨e, nl, hl2, hc', hcl, y2, y3, y4, y5, rfl⟩
      obtain ⟨x, hx2, rfl⟩ := map_at hx
      have hi : i < 64 := by have := (List.getElem?_eq_some_iff.mp hx2).1; omega
      have hlc : l ≠ c := fun z => by rw [z, hc] at nl; cases nl
      have hxk := hf x (hmem x (List.mem_of_getElem? hx2))
      obtain ⟨n, hn⟩ : ∃ n, f x = some n := by
        cases h : f x with
        | none => rw [h] at hxk; cases hxk
        | some n => exact ⟨n, rfl⟩
      have hrow : rowK f x = [x, n.1, n.2.1, n.2.2] := by unfold rowK; rw [hn]; rfl
      have hsn : (((Gd.srt ks).take (i + 1)).map (rowK f)).flatten = (((Gd.srt ks).take i).map (rowK f)).flatten ++ [x, n.1, n.2.1, n.2.2] := by
        rw [take_snoc hx2, List.map_append, List.flatten_append, List.map_cons, List.map_nil, hrow]
        simp
      obtain ⟨p, hp, he⟩ := ev_tf (K := K) (H := H') (σ := [some (.ref t), some (.ref c), some (.int x), y3, y4, y5]) (td := tVar 0) (ty := tVar 2) (ev_var rfl) (fun _ _ => ev_var rfl) (hT.up e) hn
      refine q_unpD (K := K) (ed_ev he (dp_intsT hp)) (fun v H2 e2 hv => ?_)
      obtain ⟨p2, rfl, hp2⟩ := dp_intsT_inv (ns := ndL n) hv
      refine g_tup3 hp2 ?_
      refine s_ext (e2 _ _ hc') (ev_var rfl) (el_lst (vs := ([x, n.1, n.2.1, n.2.2] : List Int).map V.int) (ea_cons (ev_var rfl) (ea_cons (ev_var rfl) (ea_cons (ev_var rfl) (ea_cons (ev_var rfl) ea_nil)))) (by show 4 ≤ 100000; decide)) (by rw [List.length_map]; show _ + 4 ≤ 100000; omega) (fun H3 e3 => ?_)
      refine ⟨Ex.mut (e.trans (e2.trans e3)) (fresh_back (Ex.refl H) nc), nl, by rw [upd_ne hlc]; exact e3 _ _ (e2 _ _ hl2), by rw [upd_same, hsn, List.map_append], by rw [hsn, List.length_append]; show _ + 4 ≤ _; omega, _, _, _, _, rfl⟩
    · rintro l σ' H' ⟨e, nl, hl2, hc', hcl, y2, y3, y4, y5, rfl⟩
      rw [List.length_map, List.take_length] at hc'
      exact s_ret (ev_var rfl) fun H2 e2 => k c H2 nc (e.trans e2) (e2 _ _ hc')


end
end K32

set_option Elab.async false
set_option linter.all false
set_option maxRecDepth 100000
set_option maxHeartbeats 4000000
set_option exponentiation.threshold 600
namespace K32
open PySem PySem.Spec PyProof.Rows L2 Evl Gd
/-! ### how expressions are evaluated, without a word of ours -/
local macro_rules | `(tactic| walk_at "ev") => `(tactic| exact ev_c)
local macro_rules | `(tactic| walk_at "ev") => `(tactic| exact ev_var rfl)
local macro_rules | `(tactic| walk_at "ev") => `(tactic| (refine' ev_op ?k1 ?k2 ?k3; (case k1 => walk_at "ev"); (case k2 => walk_at "ev"); (case k3 => walk_at "rv")))
local macro_rules | `(tactic| walk_at "ev") => `(tactic| (refine' ev_cb ?k1 ?k2; (case k1 => walk_at "ea"); (case k2 => walk_at "rc")))
local macro_rules | `(tactic| walk_at "ev") => `(tactic| (refine' ev_call ?k1 ?k2; (case k1 => walk_at "ea"); (case k2 => walk_at "sp")))
local macro_rules | `(tactic| walk_at "ev") => `(tactic| (refine' ev_chain ?k1 ?k2 ?k3 (fun _ => ?k4) (fun _ => ?k5); (case k1 => walk_at "ev"); (case k2 => walk_at "ev"); (case k3 => walk_at "rv"); (case k4 => walk_at "ev"); (case k5 => walk_at "rv")))
local macro_rules | `(tactic| walk_at "ev") => `(tactic| (refine' ev_orV ?k1 (fun _ => ?k2); (case k1 => walk_at "ev"); (case k2 => walk_at "ev")))
local macro_rules | `(tactic| walk_at "ev") => `(tactic| (refine' ev_andV ?k1 (fun _ => ?k2); (case k1 => walk_at "ev"); (case k2 => walk_at "ev")))
local macro_rules | `(tactic| walk_at "ev") => `(tactic| (refine' ev_notV ?k1; (case k1 => walk_at "ev")))
local macro_rules | `(tactic| walk_at "ea") => `(tactic| exact ea_nil)
local macro_rules | `(tactic| walk_at "ea") => `(tactic| (refine' ea_cons ?k1 ?k2; (case k1 => walk_at "ev"); (case k2 => walk_at "ea")))
local macro_rules | `(tactic| walk_at "rv") => `(tactic| exact rv_I0)
local macro_rules | `(tactic| walk_at "rv") => `(tactic| exact rv_eqI)
local macro_rules | `(tactic| walk_at "rv") => `(tactic| exact rv_neI)
local macro_rules | `(tactic| walk_at "rv") => `(tactic| exact rv_eqS)
local macro_rules | `(tactic| walk_at "rv") => `(tactic| exact rv_neS)
local macro_rules | `(tactic| walk_at "rv") => `(tactic| exact rv_mod (by decide))
local macro_rules | `(tactic| walk_at "rv") => `(tactic| exact rv_fdiv (by decide) (by decide))
local macro_rules | `(tactic| walk_at "rv") => `(tactic| exact rv_mulR (by decide))
local macro_rules | `(tactic| walk_at "rv") => `(tactic| exact rv_pow (by decide))
local macro_rules | `(tactic| walk_at "rc") => `(tactic| exact rc_int)
local macro_rules | `(tactic| walk_at "rc") => `(tactic| exact rc_ord)
local macro_rules | `(tactic| walk_at "et") => `(tactic| (refine' et_test ?k1; (case k1 => walk_at "ev")))
local macro_rules | `(tactic| walk_at "et") => `(tactic| (refine' et_B ?k1; (case k1 => walk_at "ev")))
local macro_rules | `(tactic| walk_at "et") => `(tactic| (refine' et_not ?k1; (case k1 => walk_at "et")))
local macro_rules | `(tactic| walk_at "et") => `(tactic| (refine' et_or ?k1 (fun _ => ?k2); (case k1 => walk_at "et"); (case k2 => walk_at "et")))
local macro_rules | `(tactic| walk_at "et") => `(tactic| (refine' et_and ?k1 (fun _ => ?k2); (case k1 => walk_at "et"); (case k2 => walk_at "et")))
section
variable {P : Program} {w : World} {K : PySem.W.Frag} {mg : Str → Option Value} {base : Heap}
/-! ### nodes -/
def sp_combined (K : PySem.W.Frag) : Sp := fun vs H Q _ => ∃ op x y : Int, vs = [.int op, .int x, .int y] ∧ RetV (.int (combI op x y)) H Q
theorem v_combined {op x y : Int} {H : Hp} : SpV (sp_combined K) [.int op, .int x, .int y] H (.int (combI op x y)) := fun _ _ _ q _ => ⟨op, x, y, rfl, q⟩
theorem ok_combined (T : Txt K mg) : FnOk P w K mg base CX0 1 T.f_combined T.d_combined ["operation", "x", "y"] (sp_combined K) := by
  refine T.F_combined.ok sc_combined (fun vs H Q E h => ?_) (fun cdv A outer s H vs Q E hr h => ?_)
  · obtain ⟨op, x, y, rfl, _⟩ := h
    rfl
  · obtain ⟨op, x, y, rfl, k⟩ := h
    refine ⟨_, (pss_cons (ps_if (pt_cmpR op_eq (pv 0) pe_int (nomark _)) (pss_one (ps_ret (pe_op op_add (pv 1) (pv 2)))) pss_nil)
        (pss_cons (ps_if (pt_cmpR op_eq (pv 0) pe_int (nomark _)) (pss_one (ps_ret (pe_op op_sub (pv 1) (pv 2)))) pss_nil)
        (pss_cons (ps_if (pt_cmpR op_eq (pv 0) pe_int (nomark _)) (pss_one (ps_ret (pe_op op_add (pe_op op_mul pe_int (pv 1)) (pv 2)))) pss_nil)
        (pss_cons (ps_if (pt_cmpR op_eq (pv 0) pe_int (nomark _)) (pss_one (ps_ret (pe_callTy call_int1 (by rfl) T.n_int (by decide +kernel) (pa_cons (pe_cmpR op_lt (pv 1) (pv 2) (nomark _)) pa_nil)))) pss_nil)
        (pss_one (ps_ret (pe_callTy call_int1 (by rfl) T.n_int (by decide +kernel) (pa_cons (pe_cmpR op_eq (pv 1) (pv 2) (nomark _)) pa_nil)))))))), ?_⟩
    unfold combI at k
    refine q_when (b := decide (op = 43)) (by walk_at "et") (fun hb H1 e1 => ?_) (fun hb H1 e1 => ?_)
    · rw [if_pos (of_decide_eq_true hb)] at k
      exact s_ret (by walk_at "ev") fun H2 e2 => k H2 (e1.trans e2)
    rw [if_neg (of_decide_eq_false hb)] at k
    refine q_when (b := decide (op = 45)) (by walk_at "et") (fun hb H2 e2 => ?_) (fun hb H2 e2 => ?_)
    · rw [if_pos (of_decide_eq_true hb)] at k
      exact s_ret (by walk_at "ev") fun H3 e3 => k H3 (e1.trans (e2.trans e3))
    rw [if_neg (of_decide_eq_false hb)] at k
    refine q_when (b := decide (op = 42)) (by walk_at "et") (fun hb H3 e3 => ?_) (fun hb H3 e3 => ?_)
    · rw [if_pos (of_decide_eq_true hb)] at k
      exact s_ret (ev_op (ev_op ev_c (ev_var rfl) (rv_mulL (by decide))) (ev_var rfl) rv_I0) fun H4 e4 => k H4 (e1.trans (e2.trans (e3.trans e4)))
    rw [if_neg (of_decide_eq_false hb)] at k
    refine q_when (b := decide (op = 60)) (by walk_at "et") (fun hb H4 e4 => ?_) (fun hb H4 e4 => ?_)
    · rw [if_pos (of_decide_eq_true hb)] at k
      refine s_ret (ev_cb (ea_cons (ev_op (ev_var rfl) (ev_var rfl) rv_I0) ea_nil) rc_intB) fun H5 e5 => ?_
      have := k H5 (e1.trans (e2.trans (e3.trans (e4.trans e5))))
      simpa using this
    · rw [if_neg (of_decide_eq_false hb)] at k
      refine s_ret (ev_cb (ea_cons (ev_op (ev_var rfl) (ev_var rfl) rv_eqI) ea_nil) rc_intB) fun H5 e5 => ?_
      have := k H5 (e1.trans (e2.trans (e3.trans (e4.trans e5))))
      simpa using this

def sp_law_combined (K : PySem.W.Frag) : Sp := fun vs H Q _ => ∃ op x y : Int, vs = [.int op, .int x, .int y] ∧ RetV (.int (combI op x y)) H Q
theorem v_law_combined {op x y : Int} {H : Hp} : SpV (sp_law_combined K) [.int op, .int x, .int y] H (.int (combI op x y)) := fun _ _ _ q _ => ⟨op, x, y, rfl, q⟩
theorem ok_law_combined (T : Txt K mg) : FnOk P w K mg base CX0 1 T.f_law_combined T.d_law_combined ["op", "x", "y"] (sp_law_combined K) := by
  refine T.F_law_combined.ok sc_law_combined (fun vs H Q E h => ?_) (fun cdv A outer s H vs Q E hr h => ?_)
  · obtain ⟨op, x, y, rfl, _⟩ := h
    rfl
  · obtain ⟨op, x, y, rfl, k⟩ := h
    refine ⟨_, (pss_cons (ps_if (pt_cmpR op_eq (pv 0) pe_int (nomark _)) (pss_one (ps_ret (pe_op op_add (pv 1) (pv 2)))) pss_nil)
        (pss_cons (ps_if (pt_cmpR op_eq (pv 0) pe_int (nomark _)) (pss_one (ps_ret (pe_op op_sub (pv 1) (pv 2)))) pss_nil)
        (pss_cons (ps_if (pt_cmpR op_eq (pv 0) pe_int (nomark _)) (pss_one (ps_ret (pe_op op_add (pe_op op_mul pe_int (pv 1)) (pv 2)))) pss_nil)
        (pss_cons (ps_if (pt_cmpR op_eq (pv 0) pe_int (nomark _)) (pss_one (ps_ret (pe_callTy call_int1 (by rfl) T.n_int (by decide +kernel) (pa_cons (pe_cmpR op_lt (pv 1) (pv 2) (nomark _)) pa_nil)))) pss_nil)
        (pss_one (ps_ret (pe_callTy call_int1 (by rfl) T.n_int (by decide +kernel) (pa_cons (pe_cmpR op_eq (pv 1) (pv 2) (nomark _)) pa_nil)))))))), ?_⟩
    unfold combI at k
    refine q_when (b := decide (op = 43)) (by walk_at "et") (fun hb H1 e1 => ?_) (fun hb H1 e1 => ?_)
    · rw [if_pos (of_decide_eq_true hb)] at k
      exact s_ret (by walk_at "ev") fun H2 e2 => k H2 (e1.trans e2)
    rw [if_neg (of_decide_eq_false hb)] at k
    refine q_when (b := decide (op = 45)) (by walk_at "et") (fun hb H2 e2 => ?_) (fun hb H2 e2 => ?_)
    · rw [if_pos (of_decide_eq_true hb)] at k
      exact s_ret (by walk_at "ev") fun H3 e3 => k H3 (e1.trans (e2.trans e3))
    rw [if_neg (of_decide_eq_false hb)] at k
    refine q_when (b := decide (op = 42)) (by walk_at "et") (fun hb H3 e3 => ?_) (fun hb H3 e3 => ?_)
    · rw [if_pos (of_decide_eq_true hb)] at k
      exact s_ret (ev_op (ev_op ev_c (ev_var rfl) (rv_mulL (by decide))) (ev_var rfl) rv_I0) fun H4 e4 => k H4 (e1.trans (e2.trans (e3.trans e4)))
    rw [if_neg (of_decide_eq_false hb)] at k
    refine q_when (b := decide (op = 60)) (by walk_at "et") (fun hb H4 e4 => ?_) (fun hb H4 e4 => ?_)
    · rw [if_pos (of_decide_eq_true hb)] at k
      refine s_ret (ev_cb (ea_cons (ev_op (ev_var rfl) (ev_var rfl) rv_I0) ea_nil) rc_intB) fun H5 e5 => ?_
      have := k H5 (e1.trans (e2.trans (e3.trans (e4.trans e5))))
      simpa using this
    · rw [if_neg (of_decide_eq_false hb)] at k
      refine s_ret (ev_cb (ea_cons (ev_op (ev_var rfl) (ev_var rfl) rv_eqI) ea_nil) rc_intB) fun H5 e5 => ?_
      have := k H5 (e1.trans (e2.trans (e3.trans (e4.trans e5))))
      simpa using this


end
end K32

set_option Elab.async false
set_option linter.all false
set_option maxRecDepth 100000
set_option maxHeartbeats 4000000
set_option exponentiation.threshold 600
namespace K32
open PySem PySem.Spec PyProof.Rows L2 Evl Gd
/-! ### how expressions are evaluated, without a word of ours -/
local macro_rules | `(tactic| walk_at "ev") => `(tactic| exact ev_c)
local macro_rules | `(tactic| walk_at "ev") => `(tactic| exact ev_var rfl)
local macro_rules | `(tactic| walk_at "ev") => `(tactic| (refine' ev_op ?k1 ?k2 ?k3; (case k1 => walk_at "ev"); (case k2 => walk_at "ev"); (case k3 => walk_at "rv")))
local macro_rules | `(tactic| walk_at "ev") => `(tactic| (refine' ev_cb ?k1 ?k2; (case k1 => walk_at "ea"); (case k2 => walk_at "rc")))
local macro_rules | `(tactic| walk_at "ev") => `(tactic| (refine' ev_call ?k1 ?k2; (case k1 => walk_at "ea"); (case k2 => walk_at "sp")))
local macro_rules | `(tactic| walk_at "ev") => `(tactic| (refine' ev_chain ?k1 ?k2 ?k3 (fun _ => ?k4) (fun _ => ?k5); (case k1 => walk_at "ev"); (case k2 => walk_at "ev"); (case k3 => walk_at "rv"); (case k4 => walk_at "ev"); (case k5 => walk_at "rv")))
local macro_rules | `(tactic| walk_at "ev") => `(tactic| (refine' ev_orV ?k1 (fun _ => ?k2); (case k1 => walk_at "ev"); (case k2 => walk_at "ev")))
local macro_rules | `(tactic| walk_at "ev") => `(tactic| (refine' ev_andV ?k1 (fun _ => ?k2); (case k1 => walk_at "ev"); (case k2 => walk_at "ev")))
local macro_rules | `(tactic| walk_at "ev") => `(tactic| (refine' ev_notV ?k1; (case k1 => walk_at "ev")))
local macro_rules | `(tactic| walk_at "ea") => `(tactic| exact ea_nil)
local macro_rules | `(tactic| walk_at "ea") => `(tactic| (refine' ea_cons ?k1 ?k2; (case k1 => walk_at "ev"); (case k2 => walk_at "ea")))
local macro_rules | `(tactic| walk_at "rv") => `(tactic| exact rv_I0)
local macro_rules | `(tactic| walk_at "rv") => `(tactic| exact rv_eqI)
local macro_rules | `(tactic| walk_at "rv") => `(tactic| exact rv_neI)
local macro_rules | `(tactic| walk_at "rv") => `(tactic| exact rv_eqS)
local macro_rules | `(tactic| walk_at "rv") => `(tactic| exact rv_neS)
local macro_rules | `(tactic| walk_at "rv") => `(tactic| exact rv_mod (by decide))
local macro_rules | `(tactic| walk_at "rv") => `(tactic| exact rv_fdiv (by decide) (by decide))
local macro_rules | `(tactic| walk_at "rv") => `(tactic| exact rv_mulR (by decide))
local macro_rules | `(tactic| walk_at "rv") => `(tactic| exact rv_pow (by decide))
local macro_rules | `(tactic| walk_at "rc") => `(tactic| exact rc_int)
local macro_rules | `(tactic| walk_at "rc") => `(tactic| exact rc_ord)
local macro_rules | `(tactic| walk_at "et") => `(tactic| (refine' et_test ?k1; (case k1 => walk_at "ev")))
local macro_rules | `(tactic| walk_at "et") => `(tactic| (refine' et_B ?k1; (case k1 => walk_at "ev")))
local macro_rules | `(tactic| walk_at "et") => `(tactic| (refine' et_not ?k1; (case k1 => walk_at "et")))
local macro_rules | `(tactic| walk_at "et") => `(tactic| (refine' et_or ?k1 (fun _ => ?k2); (case k1 => walk_at "et"); (case k2 => walk_at "et")))
local macro_rules | `(tactic| walk_at "et") => `(tactic| (refine' et_and ?k1 (fun _ => ?k2); (case k1 => walk_at "et"); (case k2 => walk_at "et")))
section
variable {P : Program} {w : World} {K : PySem.W.Frag} {mg : Str → Option Value} {base : Heap}
def tgK (sd : List (Int × Int)) (k : Int) : Int := (getI sd k).getD k
theorem ev_getK {H : Hp} {σ : L2.St} {td ty tx : TE} {a : Addr} {sd : List (Int × Int)} {k : Int} (h : Ev td σ H (.ref a)) (hd : H a = some (.dK (kvI sd))) (hk : Ev ty σ H (.int k)) (hx : Ev tx σ H (.int k)) : Ev (tDGet2 td ty tx) σ H (.int (tgK sd k)) := by
  have e := ev_dget2 (k := Sum.inl k) h hd hk hx
  rw [kvI_get] at e
  unfold tgK
  cases q : getI sd k with
  | none => rw [q] at e; exact e
  | some v => rw [q] at e; exact e
def redM (sd : List (Int × Int)) (n : Nd) : Nd := (n.1, if n.1 = 63 then tgK sd n.2.1 else n.2.1, tgK sd n.2.2)
def sp_redirected (K : PySem.W.Frag) : Sp := fun vs H Q _ => ∃ (p d : Addr) (n : Nd) (sd : List (Int × Int)), vs = [.ref p, .ref d] ∧ SqT K H p ((ndL n).map V.int) ∧ H d = some (.dK (kvI sd)) ∧ ∀ q H2, H q = none → Ex H H2 → H2 q = some (.tup ((ndL (redM sd n)).map V.int)) → Q (.ref q) H2
theorem ok_redirected (T : Txt K mg) : FnOk P w K mg base CX0 1 T.f_redirected T.d_redirected ["node", "targets"] (sp_redirected K) := by
  refine T.F_redirected.ok sc_redirected (fun vs H Q E h => ?_) (fun cdv A outer s H vs Q E hr h => ?_)
  · obtain ⟨p, d, n, sd, rfl, _⟩ := h
    rfl
  · obtain ⟨p, d, n, sd, rfl, hp, hd, k⟩ := h
    refine ⟨_, (pss_cons (ps_asg (pv 0) (pg_tup (by rfl) (pgs_cons (pg_name (i := 2) sc_redirected.nd rfl (Or.inl rfl)) (pgs_cons (pg_name (i := 3) sc_redirected.nd rfl (Or.inl rfl)) (pgs_cons (pg_name (i := 4) sc_redirected.nd rfl (Or.inl rfl)) pgs_nil)))))
        (pss_cut (ps_if (pt_cmpR op_eq (pv 2) (pe_glob (v := .int 63) (by rfl) T.c_BRANCH ⟨_, rfl⟩) (nomark _)) (pss_one (ps_set (i := 3) sc_redirected.nd rfl (Or.inl rfl) (pe_dget2 (hu_of hr) (pv 1) (pv 3) (pv 3) ⟨by rfl, by rfl, by rfl, by rfl⟩))) pss_nil)
        (pss_one (ps_ret (pe_tup (pa_cons (pv 2) (pa_cons (pv 3) (pa_cons (pe_dget2 (hu_of hr) (pv 1) (pv 4) (pv 4) ⟨by rfl, by rfl, by rfl, by rfl⟩) pa_nil)))))))), ?_⟩
    refine q_unpD (K := K) (ed_ev (ev_var rfl) (dp_intsT hp)) (fun v H1 e1 hv => ?_)
    obtain ⟨p2, rfl, hp2⟩ := dp_intsT_inv (ns := ndL n) hv
    refine g_tup3 hp2 ?_
    have hd1 := e1 _ _ hd
    refine q_cut (M := fun σ' H' => Ex H H' ∧ σ' = [some (.ref p), some (.ref d), some (.int n.1), some (.int (if n.1 = 63 then tgK sd n.2.1 else n.2.1)), some (.int n.2.2)]) ?_ ?_
    · refine s_when (b := decide (n.1 = 63)) (et_test (ev_op (ev_var rfl) ev_c rv_eqI)) (fun hb H2 e2 => ?_) (fun hb H2 e2 => ?_)
      · rw [if_pos (of_decide_eq_true hb)]
        exact s_asg (v := .int (tgK sd n.2.1)) (ev_getK (ev_var rfl) (e2 _ _ hd1) (ev_var rfl) (ev_var rfl)) (fun H3 e3 => ⟨e1.trans (e2.trans e3), rfl⟩)
      · rw [if_neg (of_decide_eq_false hb)]
        exact ⟨e1.trans e2, rfl⟩
    rintro σ' H2 ⟨e2, rfl⟩
    exact (eu_tup (vs := (ndL (redM sd n)).map V.int) (ea_cons (ev_var rfl) (ea_cons (ev_var rfl) (ea_cons (ev_getK (ev_var rfl) (e2 _ _ hd) (ev_var rfl) (ev_var rfl)) ea_nil))) (by show 3 ≤ 100000; decide)) H2 (Ex.refl H2) _ fun q H3 nq e3 hq => k q H3 (fresh_back e2 nq) (e2.trans e3) hq


end
end K32

set_option Elab.async false
set_option linter.all false
set_option maxRecDepth 100000
set_option maxHeartbeats 4000000
set_option exponentiation.threshold 600
namespace K32
open PySem PySem.Spec PyProof.Rows L2 Evl Gd
/-! ### how expressions are evaluated, without a word of ours -/
local macro_rules | `(tactic| walk_at "ev") => `(tactic| exact ev_c)
local macro_rules | `(tactic| walk_at "ev") => `(tactic| exact ev_var rfl)
local macro_rules | `(tactic| walk_at "ev") => `(tactic| (refine' ev_op ?k1 ?k2 ?k3; (case k1 => walk_at "ev"); (case k2 => walk_at "ev"); (case k3 => walk_at "rv")))
local macro_rules | `(tactic| walk_at "ev") => `(tactic| (refine' ev_cb ?k1 ?k2; (case k1 => walk_at "ea"); (case k2 => walk_at "rc")))
local macro_rules | `(tactic| walk_at "ev") => `(tactic| (refine' ev_call ?k1 ?k2; (case k1 => walk_at "ea"); (case k2 => walk_at "sp")))
local macro_rules | `(tactic| walk_at "ev") => `(tactic| (refine' ev_chain ?k1 ?k2 ?k3 (fun _ => ?k4) (fun _ => ?k5); (case k1 => walk_at "ev"); (case k2 => walk_at "ev"); (case k3 => walk_at "rv"); (case k4 => walk_at "ev"); (case k5 => walk_at "rv")))
local macro_rules | `(tactic| walk_at "ev") => `(tactic| (refine' ev_orV ?k1 (fun _ => ?k2); (case k1 => walk_at "ev"); (case k2 => walk_at "ev")))
local macro_rules | `(tactic| walk_at "ev") => `(tactic| (refine' ev_andV ?k1 (fun _ => ?k2); (case k1 => walk_at "ev"); (case k2 => walk_at "ev")))
local macro_rules | `(tactic| walk_at "ev") => `(tactic| (refine' ev_notV ?k1; (case k1 => walk_at "ev")))
local macro_rules | `(tactic| walk_at "ea") => `(tactic| exact ea_nil)
local macro_rules | `(tactic| walk_at "ea") => `(tactic| (refine' ea_cons ?k1 ?k2; (case k1 => walk_at "ev"); (case k2 => walk_at "ea")))
local macro_rules | `(tactic| walk_at "rv") => `(tactic| exact rv_I0)
local macro_rules | `(tactic| walk_at "rv") => `(tactic| exact rv_eqI)
local macro_rules | `(tactic| walk_at "rv") => `(tactic| exact rv_neI)
local macro_rules | `(tactic| walk_at "rv") => `(tactic| exact rv_eqS)
local macro_rules | `(tactic| walk_at "rv") => `(tactic| exact rv_neS)
local macro_rules | `(tactic| walk_at "rv") => `(tactic| exact rv_mod (by decide))
local macro_rules | `(tactic| walk_at "rv") => `(tactic| exact rv_fdiv (by decide) (by decide))
local macro_rules | `(tactic| walk_at "rv") => `(tactic| exact rv_mulR (by decide))
local macro_rules | `(tactic| walk_at "rv") => `(tactic| exact rv_pow (by decide))
local macro_rules | `(tactic| walk_at "rc") => `(tactic| exact rc_int)
local macro_rules | `(tactic| walk_at "rc") => `(tactic| exact rc_ord)
local macro_rules | `(tactic| walk_at "et") => `(tactic| (refine' et_test ?k1; (case k1 => walk_at "ev")))
local macro_rules | `(tactic| walk_at "et") => `(tactic| (refine' et_B ?k1; (case k1 => walk_at "ev")))
local macro_rules | `(tactic| walk_at "et") => `(tactic| (refine' et_not ?k1; (case k1 => walk_at "et")))
local macro_rules | `(tactic| walk_at "et") => `(tactic| (refine' et_or ?k1 (fun _ => ?k2); (case k1 => walk_at "et"); (case k2 => walk_at "et")))
local macro_rules | `(tactic| walk_at "et") => `(tactic| (refine' et_and ?k1 (fun _ => ?k2); (case k1 => walk_at "et"); (case k2 => walk_at "et")))
section
variable {P : Program} {w : World} {K : PySem.W.Frag} {mg : Str → Option Value} {base : Heap}
def foldM (f : Int → Option Nd) (n : Nd) : Nd := if n.1 ≠ 35 then n else match f n.2.2 with
  | none => n
  | some s => if s.1 = 35 ∧ (∃ u, f s.2.2 = some u ∧ u.1 ∈ ([43, 45, 42, 60, 126] : List Int)) then (35, combI ((f s.2.2).getD s).1 n.2.1 s.2.1, ((f s.2.2).getD s).2.2)
    else if s.1 = 95 then (32, 0, s.2.2) else if s.1 = 63 then (32, 0, if n.2.1 = 0 then s.2.1 else s.2.2) else n
def sp_folded (K : PySem.W.Frag) : Sp := fun vs H Q _ => ∃ (t p : Addr) (im : List Int) (n : Nd), vs = [.ref t, .ref p] ∧ Tb K H t im ∧ SqT K H p ((ndL n).map V.int) ∧ ∀ q H2, Ex H H2 → SqT K H2 q ((ndL (foldM (nodeAt im) n)).map V.int) → Q (.ref q) H2
theorem ok_folded (T : Txt K mg) : FnOk P w K mg base CX0 2 T.f_folded T.d_folded ["table", "node"] (sp_folded K) := by
  refine T.F_folded.ok sc_folded (fun vs H Q E h => ?_) (fun cdv A outer s H vs Q E hr h => ?_)
  · obtain ⟨t, p, im, n, rfl, _⟩ := h
    rfl
  · obtain ⟨t, p, im, n, rfl, hT, hp, k⟩ := h
    refine ⟨_, (pss_cons (ps_asg (pv 1) (pg_tup (by rfl) (pgs_cons (pg_name (i := 2) sc_folded.nd rfl (Or.inl rfl)) (pgs_cons (pg_name (i := 3) sc_folded.nd rfl (Or.inl rfl)) (pgs_cons (pg_name (i := 4) sc_folded.nd rfl (Or.inl rfl)) pgs_nil)))))
        (pss_cons (ps_if (PW.pt (pw_or (pt_cmpR op_ne (pv 2) (pe_glob (v := .int 35) (by rfl) T.c_PUSH ⟨_, rfl⟩) (nomark _)) (pw_or1 (pt_cmp (pc_dnotin (hu_of hr) (pv 4) (pv 0)))))) (pss_one (ps_ret (pv 1))) pss_nil)
        (pss_cons (ps_set (i := 5) sc_folded.nd rfl (Or.inl rfl) (pe_dget (hu_of hr) (pv 0) (pv 4) (fun _ _ => rfl)))
        (pss_cut (ps_if (PW.pt (pw_and (pt_cmpR op_eq (pe_ix ix_tup (pv 5) pe_int (fun _ _ => rfl)) (pe_glob (v := .int 35) (by rfl) T.c_PUSH ⟨_, rfl⟩) (nomark _)) (pw_and1 (pt_cmp (pc_din (hu_of hr) (pe_ix ix_tup (pv 5) pe_int (fun _ _ => rfl)) (pv 0)))))) (pss_cons (ps_set (i := 6) sc_folded.nd rfl (Or.inl rfl) (pe_dget (hu_of hr) (pv 0) (pe_ix ix_tup (pv 5) pe_int (fun _ _ => rfl)) (fun _ _ => rfl)))
        (pss_one (ps_if (pt_cmpR op_in_seq (pe_ix ix_tup (pv 6) pe_int (fun _ _ => rfl)) (pe_glob (v := .ref T.D_COMBINING) (by rfl) T.g_COMBINING rfl) (by rfl)) (pss_one (ps_ret (pe_tup (pa_cons (pe_glob (v := .int 35) (by rfl) T.c_PUSH ⟨_, rfl⟩) (pa_cons (pe_call (ok_combined T) (hr.mono (by decide)) (by rfl) T.g_combined T.F_combined.kp T.b_combined .nil pass0 (pa_cons (pe_ix ix_tup (pv 6) pe_int (fun _ _ => rfl)) (pa_cons (pv 3) (pa_cons (pe_ix ix_tup (pv 5) pe_int (fun _ _ => rfl)) pa_nil)))) (pa_cons (pe_ix ix_tup (pv 6) pe_int (fun _ _ => rfl)) pa_nil)))))) pss_nil))) pss_nil)
        (pss_cons (ps_if (pt_cmpR op_eq (pe_ix ix_tup (pv 5) pe_int (fun _ _ => rfl)) (pe_glob (v := .int 95) (by rfl) T.c_DROP ⟨_, rfl⟩) (nomark _)) (pss_one (ps_ret (pe_tup (pa_cons (pe_glob (v := .int 32) (by rfl) T.c_NOP ⟨_, rfl⟩) (pa_cons pe_int (pa_cons (pe_ix ix_tup (pv 5) pe_int (fun _ _ => rfl)) pa_nil)))))) pss_nil)
        (pss_cons (ps_if (pt_cmpR op_eq (pe_ix ix_tup (pv 5) pe_int (fun _ _ => rfl)) (pe_glob (v := .int 63) (by rfl) T.c_BRANCH ⟨_, rfl⟩) (nomark _)) (pss_one (ps_ret (pe_tup (pa_cons (pe_glob (v := .int 32) (by rfl) T.c_NOP ⟨_, rfl⟩) (pa_cons pe_int (pa_cons (pe_ifExp (pt_cmpR op_eq (pv 3) pe_int (nomark _)) (pe_ix ix_tup (pv 5) pe_int (fun _ _ => rfl)) (pe_ix ix_tup (pv 5) pe_int (fun _ _ => rfl))) pa_nil)))))) pss_nil)
        (pss_one (ps_ret (pv 1))))))))), ?_⟩
    unfold foldM at k
    refine q_unpD (K := K) (ed_ev (ev_var rfl) (dp_intsT hp)) (fun v H1 e1 hv => ?_)
    obtain ⟨p2, rfl, hp2⟩ := dp_intsT_inv (ns := ndL n) hv
    refine g_tup3 hp2 ?_
    have ixs : ∀ {G : Hp} {σ : L2.St} {q : Addr} {m : Nd} {y : Int} (i j : Nat), σ[i]? = some (some (.ref q)) → SqT K G q ((ndL m).map V.int) → (ndL m)[j]? = some y → Ev (tOp (rIxT K) (tVar i) (tC (.int (j : Int)))) σ G (.int y) := fun {G σ q m y} i j hi hq hy => ev_op (ev_var hi) ev_c (rv_ixT hq (at_of (j := j) rfl (by rw [List.getElem?_map, hy]; rfl)))
    by_cases c : n.1 = 35
    · rw [if_neg (fun z => z c)] at k
      have hin := ev_notTb (K := K) (H := H1) (σ := [some (.ref t), some (.ref p), some (.int n.1), some (.int n.2.1), some (.int n.2.2), none, none]) (td := tVar 0) (ty := tVar 4) (ev_var rfl) (fun _ _ => ev_var rfl) (hT.up e1)
      cases hs : nodeAt im n.2.2 with
      | none =>
        rw [hs] at k hin
        refine q_when (b := true) (et_is (et_or (a := false) (b := true) (et_is (et_test (ev_op (ev_var rfl) ev_c rv_neI)) (by rw [decide_eq_true c]; rfl)) (fun _ => et_test hin)) rfl) (fun _ H2 e2 => ?_) (fun hb => nomatch hb)
        exact s_ret (ev_var rfl) fun H3 e3 => k p H3 (e1.trans (e2.trans e3)) (ex_t (e1.trans (e2.trans e3)) hp)
      | some s =>
        rw [hs] at k hin
        dsimp only at k
        refine q_when (b := false) (et_is (et_or (a := false) (b := false) (et_is (et_test (ev_op (ev_var rfl) ev_c rv_neI)) (by rw [decide_eq_true c]; rfl)) (fun _ => et_test hin)) rfl) (fun hb => nomatch hb) (fun _ H2 e2 => ?_)
        have e12 := e1.trans e2
        obtain ⟨p3, hp3, he3⟩ := ev_tb (K := K) (H := H2) (σ := [some (.ref t), some (.ref p), some (.int n.1), some (.int n.2.1), some (.int n.2.2), none, none]) (td := tVar 0) (ty := tVar 4) (ev_var rfl) (fun _ _ => ev_var rfl) (hT.up e12) hs
        refine q_asg (v := .ref p3) he3 (fun H3 e3 => ?_)
        have e13 := e12.trans e3
        have hp33 := ex_t e3 hp3
        refine q_cut (M := fun σ' H' => Ex H3 H' ∧ ¬ (s.1 = 35 ∧ (∃ u, nodeAt im s.2.2 = some u ∧ u.1 ∈ ([43, 45, 42, 60, 126] : List Int))) ∧ ∃ y6, σ' = [some (.ref t), some (.ref p), some (.int n.1), some (.int n.2.1), some (.int n.2.2), some (.ref p3), y6]) ?_ ?_
        · have hin2 := ev_inTb (K := K) (H := H3) (σ := [some (.ref t), some (.ref p), some (.int n.1), some (.int n.2.1), some (.int n.2.2), some (.ref p3), none]) (td := tVar 0) (ty := tOp (rIxT K) (tVar 5) (tC (.int 2))) (k := s.2.2) (ixs 5 2 rfl hp33 rfl) (fun _ _ => ev_var rfl) (hT.up e13)
          refine s_when (b := decide (s.1 = 35) && (nodeAt im s.2.2).isSome) (et_and (et_test (ev_op (ixs 5 0 rfl hp33 rfl) ev_c rv_eqI)) (fun _ => et_test hin2)) (fun hb H4 e4 => ?_) (fun hb H4 e4 => ⟨e4, fun ⟨z, u, hu, _⟩ => ?_, none, rfl⟩)
          · simp only [Bool.and_eq_true, decide_eq_true_eq] at hb
            obtain ⟨u, hu⟩ : ∃ u, nodeAt im s.2.2 = some u := Option.isSome_iff_exists.mp hb.2
            have hp34 := ex_t e4 hp33
            obtain ⟨p6, hp6, he6⟩ := ev_tb (K := K) (H := H4) (σ := [some (.ref t), some (.ref p), some (.int n.1), some (.int n.2.1), some (.int n.2.2), some (.ref p3), none]) (td := tVar 0) (ty := tOp (rIxT K) (tVar 5) (tC (.int 2))) (k := s.2.2) (ev_var rfl) (fun _ e => ixs 5 2 rfl (ex_t e hp34) rfl) (hT.up (e13.trans e4)) hu
            refine q_asg (v := .ref p6) he6 (fun H5 e5 => ?_)
            have hp65 := ex_t e5 hp6
            have hp35 := ex_t e5 hp34
            have hin6 := ev_op (r := rIn K false) (H := H5) (σ := [some (.ref t), some (.ref p), some (.int n.1), some (.int n.2.1), some (.int n.2.2), some (.ref p3), some (.ref p6)]) (ta := tOp (rIxT K) (tVar 6) (tC (.int 0))) (tb := tC (.ref T.D_COMBINING)) (ixs 6 0 rfl hp65 rfl) ev_c (rv_inT (neg := false) (T.tup_COMBINING.sq H5) rfl (by simp [flatV]))
            rw [show inV (.int u.1) (([43, 45, 42, 60, 126] : List Int).map V.int) = decide (u.1 ∈ ([43, 45, 42, 60, 126] : List Int)) from inV_ints _ _] at hin6
            refine s_when (b := decide (u.1 ∈ ([43, 45, 42, 60, 126] : List Int))) (et_test hin6) (fun hb2 H6 e6 => ?_) (fun hb2 H6 e6 => ⟨e4.trans (e5.trans e6), fun ⟨z, w, hw, hm⟩ => ?_, _, rfl⟩)
            · rw [if_pos ⟨hb.1, u, hu, of_decide_eq_true hb2⟩, hu] at k
              exact s_retU (xs := ([35, combI u.1 n.2.1 s.2.1, u.2.2] : List Int).map V.int) (eu_tup (ea_cons ev_c (ea_cons (ev_call (ea_cons (ixs 6 0 rfl (ex_t e6 hp65) rfl) (ea_cons (ev_var rfl) (ea_cons (ixs 5 1 rfl (ex_t e6 hp35) rfl) ea_nil))) v_combined) (ea_cons (ixs 6 2 rfl (ex_t e6 hp65) rfl) ea_nil))) (by show 3 ≤ 100000; decide)) fun q H7 nq e7 hq => k q H7 (e13.trans (e4.trans (e5.trans (e6.trans e7)))) (st_of hq)
            · rw [hu] at hw
              cases hw
              exact of_decide_eq_false hb2 hm
          · rw [decide_eq_true z, hu] at hb
            cases hb
        rintro σ' H4 ⟨e4, hno, y6, rfl⟩
        rw [if_neg hno] at k
        have hp34 := ex_t e4 hp33
        have e14 := e13.trans e4
        refine q_when (b := decide (s.1 = 95)) (et_test (ev_op (ixs 5 0 rfl hp34 rfl) ev_c rv_eqI)) (fun hb H5 e5 => ?_) (fun hb H5 e5 => ?_)
        · rw [if_pos (of_decide_eq_true hb)] at k
          exact s_retU (xs := ([32, 0, s.2.2] : List Int).map V.int) (eu_tup (ea_cons ev_c (ea_cons ev_c (ea_cons (ixs 5 2 rfl (ex_t e5 hp34) rfl) ea_nil))) (by show 3 ≤ 100000; decide)) fun q H7 nq e7 hq => k q H7 (e14.trans (e5.trans e7)) (st_of hq)
        rw [if_neg (of_decide_eq_false hb)] at k
        have hp35 := ex_t e5 hp34
        refine q_when (b := decide (s.1 = 63)) (et_test (ev_op (ixs 5 0 rfl hp35 rfl) ev_c rv_eqI)) (fun hb H6 e6 => ?_) (fun hb H6 e6 => ?_)
        · rw [if_pos (of_decide_eq_true hb)] at k
          have hp36 := ex_t e6 hp35
          refine s_retU (xs := ([32, 0, if n.2.1 = 0 then s.2.1 else s.2.2] : List Int).map V.int) (eu_tup (ea_cons ev_c (ea_cons ev_c (ea_cons (ev_if (b := decide (n.2.1 = 0)) (et_test (ev_op (ev_var rfl) ev_c rv_eqI)) (fun hb => ?_) (fun hb => ?_)) ea_nil))) (by show 3 ≤ 100000; decide)) fun q H7 nq e7 hq => k q H7 (e14.trans (e5.trans (e6.trans e7))) (st_of hq)
          · rw [if_pos (of_decide_eq_true hb)]
            exact ixs 5 1 rfl hp36 rfl
          · rw [if_neg (of_decide_eq_false hb)]
            exact ixs 5 2 rfl hp36 rfl
        · rw [if_neg (of_decide_eq_false hb)] at k
          exact s_ret (ev_var rfl) fun H7 e7 => k p H7 (e14.trans (e5.trans (e6.trans e7))) (ex_t (e14.trans (e5.trans (e6.trans e7))) hp)
    · rw [if_pos c] at k
      refine q_when (b := true) (et_is (et_or (a := true) (b := true) (et_is (et_test (ev_op (ev_var rfl) ev_c rv_neI)) (by rw [decide_eq_false c]; rfl)) (fun h => nomatch h)) rfl) (fun _ H2 e2 => ?_) (fun hb => nomatch hb)
      exact s_ret (ev_var rfl) fun H3 e3 => k p H3 (e1.trans (e2.trans e3)) (ex_t (e1.trans (e2.trans e3)) hp)


end
end K32

set_option Elab.async false
set_option linter.all false
set_option maxRecDepth 100000
set_option maxHeartbeats 4000000
set_option exponentiation.threshold 600
namespace K32
open PySem PySem.Spec PyProof.Rows L2 Evl Gd
/-! ### how expressions are evaluated, without a word of ours -/
local macro_rules | `(tactic| walk_at "ev") => `(tactic| exact ev_c)
local macro_rules | `(tactic| walk_at "ev") => `(tactic| exact ev_var rfl)
local macro_rules | `(tactic| walk_at "ev") => `(tactic| (refine' ev_op ?k1 ?k2 ?k3; (case k1 => walk_at "ev"); (case k2 => walk_at "ev"); (case k3 => walk_at "rv")))
local macro_rules | `(tactic| walk_at "ev") => `(tactic| (refine' ev_cb ?k1 ?k2; (case k1 => walk_at "ea"); (case k2 => walk_at "rc")))
local macro_rules | `(tactic| walk_at "ev") => `(tactic| (refine' ev_call ?k1 ?k2; (case k1 => walk_at "ea"); (case k2 => walk_at "sp")))
local macro_rules | `(tactic| walk_at "ev") => `(tactic| (refine' ev_chain ?k1 ?k2 ?k3 (fun _ => ?k4) (fun _ => ?k5); (case k1 => walk_at "ev"); (case k2 => walk_at "ev"); (case k3 => walk_at "rv"); (case k4 => walk_at "ev"); (case k5 => walk_at "rv")))
local macro_rules | `(tactic| walk_at "ev") => `(tactic| (refine' ev_orV ?k1 (fun _ => ?k2); (case k1 => walk_at "ev"); (case k2 => walk_at "ev")))
local macro_rules | `(tactic| walk_at "ev") => `(tactic| (refine' ev_andV ?k1 (fun _ => ?k2); (case k1 => walk_at "ev"); (case k2 => walk_at "ev")))
local macro_rules | `(tactic| walk_at "ev") => `(tactic| (refine' ev_notV ?k1; (case k1 => walk_at "ev")))
local macro_rules | `(tactic| walk_at "ea") => `(tactic| exact ea_nil)
local macro_rules | `(tactic| walk_at "ea") => `(tactic| (refine' ea_cons ?k1 ?k2; (case k1 => walk_at "ev"); (case k2 => walk_at "ea")))
local macro_rules | `(tactic| walk_at "rv") => `(tactic| exact rv_I0)
local macro_rules | `(tactic| walk_at "rv") => `(tactic| exact rv_eqI)
local macro_rules | `(tactic| walk_at "rv") => `(tactic| exact rv_neI)
local macro_rules | `(tactic| walk_at "rv") => `(tactic| exact rv_eqS)
local macro_rules | `(tactic| walk_at "rv") => `(tactic| exact rv_neS)
local macro_rules | `(tactic| walk_at "rv") => `(tactic| exact rv_mod (by decide))
local macro_rules | `(tactic| walk_at "rv") => `(tactic| exact rv_fdiv (by decide) (by decide))
local macro_rules | `(tactic| walk_at "rv") => `(tactic| exact rv_mulR (by decide))
local macro_rules | `(tactic| walk_at "rv") => `(tactic| exact rv_pow (by decide))
local macro_rules | `(tactic| walk_at "rc") => `(tactic| exact rc_int)
local macro_rules | `(tactic| walk_at "rc") => `(tactic| exact rc_ord)
local macro_rules | `(tactic| walk_at "et") => `(tactic| (refine' et_test ?k1; (case k1 => walk_at "ev")))
local macro_rules | `(tactic| walk_at "et") => `(tactic| (refine' et_B ?k1; (case k1 => walk_at "ev")))
local macro_rules | `(tactic| walk_at "et") => `(tactic| (refine' et_not ?k1; (case k1 => walk_at "et")))
local macro_rules | `(tactic| walk_at "et") => `(tactic| (refine' et_or ?k1 (fun _ => ?k2); (case k1 => walk_at "et"); (case k2 => walk_at "et")))
local macro_rules | `(tactic| walk_at "et") => `(tactic| (refine' et_and ?k1 (fun _ => ?k2); (case k1 => walk_at "et"); (case k2 => walk_at "et")))
section
variable {P : Program} {w : World} {K : PySem.W.Frag} {mg : Str → Option Value} {base : Heap}
theorem tg_ex {im : List Int} (hrw : (rowsOf im).length ≤ 20) (x : Int) : ∃ v, Tg im x v := by
  have hkl := keys_len (rowsOf im)
  have key : ∀ n, (∃ v, Tg im x v) ∨ ((∀ i, i < n → nopF im (itI im i x) = true) ∧ (walkL im x n).Nodup) := by
    intro n
    induction n with
    | zero => exact .inr ⟨fun i h => absurd h (Nat.not_lt_zero _), List.nodup_nil⟩
    | succ n ih =>
      rcases ih with h | ⟨hn, hnd⟩
      · exact .inl h
      · cases hnf : nopF im (itI im n x) with
        | false => exact .inl ⟨_, tg_back n hn (tg_non hnf) 0 (Nat.zero_le _)⟩
        | true =>
          by_cases hm : itI im n x ∈ walkL im x n
          · obtain ⟨_, _, _, _, _, v, _, h5⟩ := walk_ring hn hm
            exact .inl ⟨v, tg_back n hn h5 0 (Nat.zero_le _)⟩
          · refine .inr ⟨fun i hi => ?_, ?_⟩
            · by_cases c : i = n
              · rw [c]; exact hnf
              · exact hn i (by omega)
            · rw [walk_snoc]
              exact List.nodup_append.mpr ⟨hnd, (by simp), fun a ha b hb e => hm (by rw [← List.mem_singleton.mp hb, ← e]; exact ha)⟩
  rcases key 21 with h | ⟨hn, hnd⟩
  · exact h
  · have := nodup_sub_len _ (keysOf (rowsOf im)) hnd fun y hx => by
      obtain ⟨i, hi, rfl⟩ := walk_mem.mp hx
      exact nop_key (hn i hi)
    rw [walk_len] at this
    omega
theorem v_law_target {t : Addr} {im : List Int} {x v : Int} {H : Hp} (h : Tb K H t im) (hr : (rowsOf im).length ≤ 20) (hv : Tg im x v) : SpV (sp_law_target K) [.ref t, .int x] H (.int v) := fun _ e _ q _ => ⟨t, im, x, v, rfl, h.up e, hr, hv, q⟩
theorem s_extG {σ : L2.St} {H : Hp} {D : Ends} {l : Addr} {xs : List V} {ta te : TE} {P : V → Hp → Prop} (ha : Ev ta σ H (.ref l)) (hl : H l = some (.lst xs)) (h : ∀ H1, Ex H H1 → EvP te σ H1 P)
    (k : ∀ v H2, P v H2 → ∃ p ys, v = .ref p ∧ H2 p = some (.lst ys) ∧ H2 l = some (.lst xs) ∧ xs.length + ys.length ≤ 100000 ∧ D.nx σ (upd H2 l (.lst (xs ++ ys)))) : tDrop (tBM K "list" rExtend ta (tCons te tNil)) D σ H := ha H (Ex.refl H) _ fun H1 e1 =>
  ⟨Or.inl ⟨rfl, xs, sq_of (e1 l _ hl)⟩, h H1 e1 _ fun v H2 hv => by
    obtain ⟨p, ys, rfl, h1, h2, hz, kk⟩ := k v H2 hv
    exact ⟨l, p, xs, ys, rfl, rfl, h2, h1, sz_of hz, kk⟩⟩
open Classical in
noncomputable def tgI (im : List Int) (k : Int) : Int := if h : ∃ v, Tg im k v then h.choose else k
theorem tgI_at {im : List Int} {k v : Int} (h : Tg im k v) : tgI im k = v := by
  have hx : ∃ v, Tg im k v := ⟨v, h⟩
  unfold tgI
  rw [dif_pos hx]
  exact tg_uniq hx.choose_spec h
theorem tgI_tg {im : List Int} (hrw : (rowsOf im).length ≤ 20) (k : Int) : Tg im k (tgI im k) := by
  obtain ⟨v, h⟩ := tg_ex hrw k
  rw [tgI_at h]
  exact h
theorem tgI_non {im : List Int} {k : Int} (h : nopF im k = false) : tgI im k = k := tgI_at (tg_non h)
theorem tgK_tgI {im : List Int} {sd : List (Int × Int)} (hs : TgD im sd) (k : Int) : tgK sd k = tgI im k := by
  unfold tgK
  cases c : getI sd k with
  | some v => exact (tgI_at (hs.1 k v c)).symm
  | none =>
    have : nopF im k = false := by
      cases d : nopF im k with
      | false => rfl
      | true => have := hs.2 k d; rw [c] at this; cases this
    exact (tgI_non this).symm
noncomputable def redT (im : List Int) (n : Nd) : Nd := (n.1, if n.1 = 63 then tgI im n.2.1 else n.2.1, tgI im n.2.2)
noncomputable def thrE (im : List Int) (e : Int) : Nd := match nodeAt im e with
  | some n => if opB n.1 = true then redT im n else (32, 0, e)
  | none => (32, 0, e)
noncomputable def thrN (im : List Int) (k : Int) : Nd := thrE im (tgI im k)
theorem thrE_some {im : List Int} {e : Int} {n : Nd} (h : nodeAt im e = some n) (ho : opB n.1 = true) : thrE im e = redT im n := by
  unfold thrE
  rw [h]
  exact if_pos ho
theorem thrE_nop {im : List Int} {e : Int} (h : ¬ ∃ n, nodeAt im e = some n ∧ opB n.1 = true) : thrE im e = (32, 0, e) := by
  unfold thrE
  cases c : nodeAt im e with
  | none => rfl
  | some n => exact if_neg fun z => h ⟨n, c, z⟩
theorem nop_iff {im : List Int} {k : Int} {n : Nd} (h : nodeAt im k = some n) : nopF im k = !opB n.1 := by
  unfold nopF
  rw [h]
def foldS (f : Int → Option Nd) (n s : Nd) : Nd := if s.1 = 35 ∧ (∃ u, f s.2.2 = some u ∧ u.1 ∈ ([43, 45, 42, 60, 126] : List Int)) then (35, combI ((f s.2.2).getD s).1 n.2.1 s.2.1, ((f s.2.2).getD s).2.2)
    else if s.1 = 95 then (32, 0, s.2.2) else if s.1 = 63 then (32, 0, if n.2.1 = 0 then s.2.1 else s.2.2) else n
theorem fold_S {f : Int → Option Nd} {n s : Nd} (h : n.1 = 35) (hs : f n.2.2 = some s) : foldM f n = foldS f n s := by
  unfold foldM foldS
  rw [if_neg (fun z => z h), hs]
theorem fold_no {f : Int → Option Nd} {n : Nd} (h : ¬ (n.1 = 35 ∧ (f n.2.2).isSome = true)) : foldM f n = n := by
  unfold foldM
  by_cases c : n.1 = 35
  · rw [if_neg (fun z => z c)]
    cases d : f n.2.2 with
    | none => rfl
    | some s => rw [d] at h; exact absurd ⟨c, rfl⟩ h
  · rw [if_pos c]
def nodeD (im : List Int) (k : Int) : Nd := (nodeAt im k).getD (0, 0, 0)
def foldN (im : List Int) (k : Int) : Nd := foldM (nodeAt im) (nodeD im k)
theorem nodeD_at {im : List Int} {k : Int} {n : Nd} (h : nodeAt im k = some n) : nodeD im k = n := by unfold nodeD; rw [h]; rfl
def wrN (F : Int → Nd) (ks : List Int) : List Int := wrK (fun k => some (F k)) ks
theorem wrK_rs (F : Int → Nd) (ks : List Int) : wrK (rsF F ks) ks = wrN F ks := by
  unfold wrN wrK
  congr 1
  refine List.map_congr_left fun k hk => ?_
  have : rsF F ks k = some (F k) := if_pos ((srt_perm ks).mem_iff.mp hk)
  unfold rowK
  rw [this]
theorem wrN_perm {F : Int → Nd} {ks ls : List Int} (h : ls.Perm ks) : wrN F ls = wrN F ks := by
  unfold wrN wrK
  rw [srt_uniq ((srt_perm ls).trans h) (srt_sorted ls)]
theorem wrN_len (F : Int → Nd) (ks : List Int) : (wrN F ks).length ≤ 4 * ks.length := wrK_len _ _
theorem rs_some {F : Int → Nd} {ks : List Int} : ∀ k ∈ ks, (rsF F ks k).isSome = true := fun k hk => by unfold rsF; rw [if_pos hk]; rfl
theorem key_at {kvs : List (Key × V)} {ks : List Int} {i : Nat} {kv : Key × V} (hK : kvs.map (·.1) = ks.map Sum.inl) (h : kvs[i]? = some kv) : ∃ s, ks[i]? = some s ∧ kv.1 = Sum.inl s := by
  have h1 : (kvs.map (·.1))[i]? = some kv.1 := by rw [List.getElem?_map, h]; rfl
  rw [hK, List.getElem?_map] at h1
  cases c : ks[i]? with
  | none => rw [c] at h1; cases h1
  | some s => rw [c] at h1; exact ⟨s, rfl, (Option.some.inj h1).symm⟩
theorem key_node {im : List Int} {i : Nat} {s : Int} (h : (keysOf (rowsOf im))[i]? = some s) : ∃ n, nodeAt im s = some n := Option.isSome_iff_exists.mp (keys_mem.mp (List.mem_of_getElem? h))


end
end K32

set_option Elab.async false
set_option linter.all false
set_option maxRecDepth 100000
set_option maxHeartbeats 4000000
set_option exponentiation.threshold 600
namespace K32
open PySem PySem.Spec PyProof.Rows L2 Evl Gd
/-! ### how expressions are evaluated, without a word of ours -/
local macro_rules | `(tactic| walk_at "ev") => `(tactic| exact ev_c)
local macro_rules | `(tactic| walk_at "ev") => `(tactic| exact ev_var rfl)
local macro_rules | `(tactic| walk_at "ev") => `(tactic| (refine' ev_op ?k1 ?k2 ?k3; (case k1 => walk_at "ev"); (case k2 => walk_at "ev"); (case k3 => walk_at "rv")))
local macro_rules | `(tactic| walk_at "ev") => `(tactic| (refine' ev_cb ?k1 ?k2; (case k1 => walk_at "ea"); (case k2 => walk_at "rc")))
local macro_rules | `(tactic| walk_at "ev") => `(tactic| (refine' ev_call ?k1 ?k2; (case k1 => walk_at "ea"); (case k2 => walk_at "sp")))
local macro_rules | `(tactic| walk_at "ev") => `(tactic| (refine' ev_chain ?k1 ?k2 ?k3 (fun _ => ?k4) (fun _ => ?k5); (case k1 => walk_at "ev"); (case k2 => walk_at "ev"); (case k3 => walk_at "rv"); (case k4 => walk_at "ev"); (case k5 => walk_at "rv")))
local macro_rules | `(tactic| walk_at "ev") => `(tactic| (refine' ev_orV ?k1 (fun _ => ?k2); (case k1 => walk_at "ev"); (case k2 => walk_at "ev")))
local macro_rules | `(tactic| walk_at "ev") => `(tactic| (refine' ev_andV ?k1 (fun _ => ?k2); (case k1 => walk_at "ev"); (case k2 => walk_at "ev")))
local macro_rules | `(tactic| walk_at "ev") => `(tactic| (refine' ev_notV ?k1; (case k1 => walk_at "ev")))
local macro_rules | `(tactic| walk_at "ea") => `(tactic| exact ea_nil)
local macro_rules | `(tactic| walk_at "ea") => `(tactic| (refine' ea_cons ?k1 ?k2; (case k1 => walk_at "ev"); (case k2 => walk_at "ea")))
local macro_rules | `(tactic| walk_at "rv") => `(tactic| exact rv_I0)
local macro_rules | `(tactic| walk_at "rv") => `(tactic| exact rv_eqI)
local macro_rules | `(tactic| walk_at "rv") => `(tactic| exact rv_neI)
local macro_rules | `(tactic| walk_at "rv") => `(tactic| exact rv_eqS)
local macro_rules | `(tactic| walk_at "rv") => `(tactic| exact rv_neS)
local macro_rules | `(tactic| walk_at "rv") => `(tactic| exact rv_mod (by decide))
local macro_rules | `(tactic| walk_at "rv") => `(tactic| exact rv_fdiv (by decide) (by decide))
local macro_rules | `(tactic| walk_at "rv") => `(tactic| exact rv_mulR (by decide))
local macro_rules | `(tactic| walk_at "rv") => `(tactic| exact rv_pow (by decide))
local macro_rules | `(tactic| walk_at "rc") => `(tactic| exact rc_int)
local macro_rules | `(tactic| walk_at "rc") => `(tactic| exact rc_ord)
local macro_rules | `(tactic| walk_at "et") => `(tactic| (refine' et_test ?k1; (case k1 => walk_at "ev")))
local macro_rules | `(tactic| walk_at "et") => `(tactic| (refine' et_B ?k1; (case k1 => walk_at "ev")))
local macro_rules | `(tactic| walk_at "et") => `(tactic| (refine' et_not ?k1; (case k1 => walk_at "et")))
local macro_rules | `(tactic| walk_at "et") => `(tactic| (refine' et_or ?k1 (fun _ => ?k2); (case k1 => walk_at "et"); (case k2 => walk_at "et")))
local macro_rules | `(tactic| walk_at "et") => `(tactic| (refine' et_and ?k1 (fun _ => ?k2); (case k1 => walk_at "et"); (case k2 => walk_at "et")))
section
variable {P : Program} {w : World} {K : PySem.W.Frag} {mg : Str → Option Value} {base : Heap}
def DictOf (K : PySem.W.Frag) (im : List Int) (H : Hp) (t : Addr) (kvs : List (Key × V)) : Prop := H t = some (.dK kvs) ∧ TabT K H kvs (nodeAt im) ∧ kvs.map (·.1) = (keysOf (rowsOf im)).map Sum.inl
theorem DictOf.up {im : List Int} {H H' : Hp} {t : Addr} {kvs : List (Key × V)} (h : DictOf K im H t kvs) (e : Ex H H') : DictOf K im H' t kvs := ⟨e _ _ h.1, h.2.1.ex e, h.2.2⟩
theorem DictOf.tb {im : List Int} {H : Hp} {t : Addr} {kvs : List (Key × V)} (h : DictOf K im H t kvs) : Tb K H t im := ⟨kvs, .inl h.1, h.2.1, h.2.2⟩
theorem DictOf.len {im : List Int} {H : Hp} {t : Addr} {kvs : List (Key × V)} (h : DictOf K im H t kvs) : kvs.length = (keysOf (rowsOf im)).length := by have := congrArg List.length h.2.2; rwa [List.length_map, List.length_map] at this
/-- a new dict, that tells F over ks -/
def MadeT (K : PySem.W.Frag) (F : Int → Nd) (ks : List Int) (H : Hp) (Q : VK) : Prop := ∀ c kc H2, H c = none → Ex H H2 → H2 c = some (.dK kc) → TabT K H2 kc (rsF F ks) → kc.map (·.1) = ks.map Sum.inl → Q (.ref c) H2
theorem nt_of {o : Obj} {xs : List (Key × V)} : NoTup (.frz o (.dK xs)) := nt_frz
def sp_threaded (K : PySem.W.Frag) : Sp := fun vs H Q _ => ∃ (t : Addr) (kvs : List (Key × V)) (im : List Int), vs = [.ref t] ∧ DictOf K im H t kvs ∧ (rowsOf im).length ≤ 20 ∧ MadeT K (thrN im) (keysOf (rowsOf im)) H Q
theorem ok_threaded (T : Txt K mg) : FnOk P w K mg base CX0 5 T.f_threaded T.d_threaded ["table"] (sp_threaded K) := by
  refine T.F_threaded.ok sc_threaded (fun vs H Q E h => ?_) (fun cdv A outer s H vs Q E hr h => ?_)
  · obtain ⟨t, kvs, im, rfl, _⟩ := h
    rfl
  · obtain ⟨t, kvs, im, rfl, hD, hrw, k⟩ := h
    refine ⟨_, (pss_cons (ps_set (i := 1) sc_threaded.nd rfl (Or.inl rfl) (pe_call (ok_targets_of T) (hr.mono (by decide)) (by rfl) T.g_targets_of T.F_targets_of.kp T.b_targets_of .nil pass0 (pa_cons (pv 0) pa_nil)))
        (pss_cons (ps_set (i := 2) sc_threaded.nd rfl (Or.inl rfl) pe_dnewK)
        (pss_cons (ps_lock (ps_for PassesOwn.never rfl (pi_keys (pv 0)) (pg_name (i := 3) sc_threaded.nd rfl (Or.inl rfl)) (pss_cons (ps_set (i := 4) sc_threaded.nd rfl (Or.inl rfl) (pe_dget2 (hu_of hr) (pv 1) (pv 3) (pv 3) ⟨by rfl, by rfl, by rfl, by rfl⟩))
        (pss_one (ps_if (PW.pt (pw_and (pt_cmp (pc_din (hu_of hr) (pv 4) (pv 0))) (pw_and1 (pt_not (pt_val (pe_call (ok_is_nop T) (hr.mono (by decide)) (by rfl) T.g_is_nop T.F_is_nop.kp T.b_is_nop .nil pass0 (pa_cons (pv 0) (pa_cons (pv 4) pa_nil)))))))) (pss_one (ps_dput (hu_of hr) (pv 2) (pv 3) (pe_call (ok_redirected T) (hr.mono (by decide)) (by rfl) T.g_redirected T.F_redirected.kp T.b_redirected .nil pass0 (pa_cons (pe_dget (hu_of hr) (pv 0) (pv 4) (fun _ _ => rfl)) (pa_cons (pv 1) pa_nil))) rfl)) (pss_one (ps_dput (hu_of hr) (pv 2) (pv 3) (pe_tup (pa_cons (pe_glob (v := .int 32) (by rfl) T.c_NOP ⟨_, rfl⟩) (pa_cons pe_int (pa_cons (pv 4) pa_nil)))) rfl)))))))
        (pss_one (ps_ret (pv 2)))))), ?_⟩
    have hkk := hD.len
    have hkl := keys_len (rowsOf im)
    obtain ⟨hT, hTab, hKeys⟩ := hD
    have hnd := keys_nodup (rowsOf im)
    refine q_asgP (P := fun v H' => ∃ p sd, v = .ref p ∧ H p = none ∧ Ex H H' ∧ H' p = some (.dK (kvI sd)) ∧ TgD im sd) (ep_call (ea_cons (ev_var rfl) ea_nil) fun H1 e1 Q q => ⟨t, kvs, im, rfl, e1 _ _ hT, hTab.ex e1, hKeys, hrw, fun sd hs p H2 np e2 hp => q _ _ ⟨p, sd, rfl, fresh_back e1 np, e1.trans e2, hp, hs⟩⟩) (fun v H1 hv => ?_)
    obtain ⟨p, sd, rfl, np, e1, hp, hs⟩ := hv
    have hpt : p ≠ t := fun z => by rw [z, hT] at np; cases np
    refine q_dnew (fun c nc => ?_)
    have hT1 := e1 _ _ hT
    have hct : c ≠ t := fun z => by rw [z, hT1] at nc; cases nc
    have hcp : c ≠ p := fun z => by rw [z, hp] at nc; cases nc
    refine q_forDg (d := t) (kvs := kvs) (by rw [upd_ne hct.symm]; exact hT1) (fun G => ev_var rfl) (fun od => ⟨fun i σ' G => ∃ (kc : List (Key × V)) (y3 y4 : Option V), σ' = [some (.ref t), some (.ref p), some (.ref c), y3, y4] ∧ G t = some (.frz od (.dK kvs)) ∧ (∀ b o, b ≠ t → H1 b = some o → G b = some o) ∧ G c = some (.dK kc) ∧ TabT K G kvs (nodeAt im) ∧ TabT K G kc (rsF (thrN im) ((keysOf (rowsOf im)).take i)) ∧ kc.map (·.1) = ((keysOf (rowsOf im)).take i).map Sum.inl, ?_, ?_, ?_, ?_⟩)
    · intro G eG
      refine ⟨[], none, none, rfl, eG _ _ upd_same, fun b o hb h => eG _ _ (by rw [upd_ne hb, upd_ne (ne_of_none h nc)]; exact h), eG _ _ (by rw [upd_ne hct]; exact upd_same), ?_, by rw [List.take_zero]; exact tab_nil _, rfl⟩
      exact (((hTab.ex e1).ex (Ex.new nc)).mut (p := t) (o := .dK kvs) (by rw [upd_ne hct.symm]; exact hT1) nt_dK).ex eG
    · rintro i σ' G ⟨kc, _, _, rfl, h, _⟩
      exact h
    · rintro i kv σ' G D' hkv ⟨kc, y3, y4, rfl, gt, gf, gc, gT, gC, gK⟩ hk
      obtain ⟨s, hs1, hkv1⟩ := key_at hKeys hkv
      have hi20 : i < 20 := by have := (List.getElem?_eq_some_iff.mp hs1).1; omega
      rw [hkv1]
      show tSeq _ _ _ [some (.ref t), some (.ref p), some (.ref c), some (.int s), y4] G
      have gp := gf _ _ hpt hp
      have hTb : Tb K G t im := ⟨kvs, .inr ⟨od, gt⟩, gT, hKeys⟩
      have hkc : kc.length < 100000 := by
        have := congrArg List.length gK
        rw [List.length_map, List.length_map, List.length_take] at this
        omega
      refine q_asg (v := .int (tgI im s)) (by rw [← tgK_tgI hs s]; exact ev_getK (ev_var rfl) gp (ev_var rfl) (ev_var rfl)) (fun G1 x1 => ?_)
      have fin : ∀ {G2 G3 : Hp} {q : Addr} {y : Option V}, Ex G G2 → SqT K G2 q ((ndL (thrN im s)).map V.int) → Ex G2 G3 → D'.nx [some (.ref t), some (.ref p), some (.ref c), some (.int s), y] (upd G3 c (.dK (putK kc (Sum.inl s) (.ref q)))) := fun {G2 G3 q y} e2 hq e3 => by
        refine hk _ _ ⟨putK kc (Sum.inl s) (.ref q), _, _, rfl, by rw [upd_ne hct.symm]; exact e3 _ _ (e2 _ _ gt), fun b o hb h => ?_, upd_same, ?_, ?_, ?_⟩
        · rw [upd_ne (ne_of_none h nc)]
          exact e3 _ _ (e2 _ _ (gf b o hb h))
        · exact (gT.ex (e2.trans e3)).mut (e3 _ _ (e2 _ _ gc)) nt_dK
        · refine TabT.mut ?_ (e3 _ _ (e2 _ _ gc)) nt_dK
          refine tab_put (n := thrN im s) (gC.ex (e2.trans e3)) (ex_t e3 hq) ?_
          rw [← addK_take hnd hs1]
          exact rsF_add _ _ _
        · rw [← addK_take hnd hs1]
          exact putK_keys gK s _
      refine s_if (b := (nodeAt im (tgI im s)).isSome && !nopF im (tgI im s)) (et_and (et_test (ev_inTb (ev_var rfl) (fun _ _ => ev_var rfl) (hTb.up x1))) (fun _ => et_not (et_B (ev_call (ea_cons (ev_var rfl) (ea_cons (ev_var rfl) ea_nil)) (v_is_nop (hTb.up x1)))))) (fun hb G2 e2 => ?_) (fun hb G2 e2 => ?_)
      · rw [Bool.and_eq_true] at hb
        obtain ⟨n, hn⟩ := Option.isSome_iff_exists.mp hb.1
        have ho : opB n.1 = true := by
          have := hb.2
          rw [nop_iff hn] at this
          simpa using this
        have hth : redM sd n = thrN im s := by
          unfold thrN
          rw [thrE_some hn ho]
          unfold redM redT
          rw [tgK_tgI hs, tgK_tgI hs]
        have x2 := x1.trans e2
        obtain ⟨pn, hpn, hen⟩ := ev_tb (K := K) (H := G2) (σ := [some (.ref t), some (.ref p), some (.ref c), some (.int s), some (.int (tgI im s))]) (td := tVar 0) (ty := tVar 4) (ev_var rfl) (fun _ _ => ev_var rfl) (hTb.up x2) hn
        refine s_dputI (a := c) (k := s) (P := fun v G3 => ∃ q, v = .ref q ∧ Ex G2 G3 ∧ G3 q = some (.tup ((ndL (redM sd n)).map V.int))) (ep_call (ea_cons hen (ea_cons (ev_var rfl) ea_nil)) fun G3 e3 Q q => ⟨pn, p, n, sd, rfl, ex_t e3 hpn, e3 _ _ (x2 _ _ gp), fun q' G4 nq e4 hq => q _ _ ⟨q', rfl, e3.trans e4, hq⟩⟩) (fun v G3 hv => ?_)
        obtain ⟨q, rfl, e3, hq⟩ := hv
        rw [hth] at hq
        exact ⟨kc, e3 _ _ (x2 _ _ gc), fun _ _ => ev_var rfl, fun _ _ => ev_var rfl, hkc, fun G4 e4 => fin (x2.trans e3) (st_of hq) e4⟩
      · have hth : thrN im s = (32, 0, tgI im s) := thrE_nop fun ⟨n, hn, ho⟩ => by
          rw [nop_iff hn, hn, ho] at hb
          cases hb
        have x2 := x1.trans e2
        refine s_dputI (a := c) (k := s) (P := fun v G3 => ∃ q, v = .ref q ∧ Ex G2 G3 ∧ G3 q = some (.tup ((ndL (thrN im s)).map V.int))) (fun Q q => ?_) (fun v G3 hv => ?_)
        · rw [hth] at q
          exact (eu_tup (vs := ([32, 0, tgI im s] : List Int).map V.int) (ea_cons ev_c (ea_cons ev_c (ea_cons (ev_var rfl) ea_nil))) (by show 3 ≤ 100000; decide)) G2 (Ex.refl _) _ fun q' G4 nq e4 hq => q _ _ ⟨q', rfl, e4, hq⟩
        obtain ⟨q, rfl, e3, hq⟩ := hv
        exact ⟨kc, e3 _ _ (x2 _ _ gc), fun _ _ => ev_var rfl, fun _ _ => ev_var rfl, hkc, fun G4 e4 => fin (x2.trans e3) (st_of hq) e4⟩
    · rintro σ' G ⟨kc, y3, y4, rfl, gt, gf, gc, gT, gC, gK⟩
      rw [hkk, List.take_length] at gC gK
      refine s_ret (ev_var rfl) fun G1 eg => k c kc G1 (fresh_back e1 nc) (fun b o h => eg _ _ ?_) (eg _ _ (by rw [upd_ne hct]; exact gc)) ((gC.mut gt nt_frz).ex eg) gK
      by_cases z : b = t
      · rw [z] at h ⊢
        rw [hT] at h
        cases h
        exact upd_same
      · rw [upd_ne z]
        exact gf b o z (e1 _ _ h)
theorem ep_tableD {H : Hp} {σ : L2.St} {te : TE} {a : Addr} {im : List Int} (h : Ev te σ H (.ref a)) (hS : SqL K H a (im.map V.int)) (hl : im.length ≤ 60000) : EvP (tCall (sp_table_of K) [] E0 (tCons te tNil)) σ H (fun v H' => ∃ t kvs, v = .ref t ∧ H t = none ∧ Ex H H' ∧ DictOf K im H' t kvs) :=
  (ep_tab h hS hl).imp fun v H' hv => by
    obtain ⟨t, kvs, rfl, nt, e, h1, h2, h3⟩ := hv
    exact ⟨t, kvs, rfl, nt, e, h1, h2, h3⟩
theorem el_written {H : Hp} {σ : L2.St} {te : TE} {F : Int → Nd} {ks : List Int} {sp : Sp} (hsp : ∀ {t : Addr} {f : Int → Option Nd} {ks : List Int} {H : Hp}, Tf K H t f ks → ks.length < 64 → (∀ k ∈ ks, (f k).isSome = true) → SpL sp [.ref t] H ((wrK f ks).map V.int)) (hl : ks.length < 64)
    (h : ∀ G, Ex H G → EvP te σ G (fun v G' => ∃ c kc, v = .ref c ∧ Ex G G' ∧ G' c = some (.dK kc) ∧ TabT K G' kc (rsF F ks) ∧ kc.map (·.1) = ks.map Sum.inl)) : EvL (tCall sp [] E0 (tCons te tNil)) σ H ((wrN F ks).map V.int) := fun H1 e Q q => h H1 e _ fun v H2 hv => by
  obtain ⟨c, kc, rfl, e2, hc, hT, hK⟩ := hv
  have := hsp (t := c) (f := rsF F ks) (ks := ks) (H := H2) ⟨kc, .inl hc, hT, hK⟩ hl rs_some H2 (Ex.refl H2) Q (fun p H3 np e3 hp => q p H3 (fresh_back e2 np) (e2.trans e3) (by rw [← wrK_rs]; exact hp)) E0
  exact this
noncomputable def thrL (im ks : List Int) : List Int := if clB im (Gd.srt ks) = true then wrN (thrN im) (keysOf (rowsOf im)) else im
def sp_thread (K : PySem.W.Frag) : Sp := fun vs H Q _ => ∃ (a : Addr) (im ks : List Int), vs = [.ref a] ∧ SqL K H a (im.map V.int) ∧ im.length ≤ 60000 ∧ (rowsOf im).length ≤ 20 ∧ CL im ks ∧ RetL ((thrL im ks).map V.int) H Q
theorem l_thread {a : Addr} {im ks : List Int} {H : Hp} (hS : SqL K H a (im.map V.int)) (hl : im.length ≤ 60000) (hr : (rowsOf im).length ≤ 20) (hc : CL im ks) : SpL (sp_thread K) [.ref a] H ((thrL im ks).map V.int) := fun _ e _ q _ => ⟨a, im, ks, rfl, ex_l e hS, hl, hr, hc, q⟩
theorem ok_thread (T : Txt K mg) : FnOk P w K mg base CX0 6 T.f_thread T.d_thread ["image"] (sp_thread K) := by
  refine T.F_thread.ok sc_thread (fun vs H Q E h => ?_) (fun cdv A outer s H vs Q E hr h => ?_)
  · obtain ⟨a, im, ks, rfl, _⟩ := h
    rfl
  · obtain ⟨a, im, ks, rfl, hS, hl, hrw, hC, k⟩ := h
    refine ⟨_, (pss_cons (ps_if (pt_not (pt_val (pe_call (ok_is_closed T) (hr.mono (by decide)) (by rfl) T.g_is_closed T.F_is_closed.kp T.b_is_closed .nil pass0 (pa_cons (pv 0) pa_nil)))) (pss_one (ps_ret (pe_callTy call_list_of (by rfl) T.n_list (by decide +kernel) (pa_cons (pv 0) pa_nil)))) pss_nil)
        (pss_one (ps_ret (pe_call (ok_image_of_table T) (hr.mono (by decide)) (by rfl) T.g_image_of_table T.F_image_of_table.kp T.b_image_of_table .nil pass0 (pa_cons (pe_call (ok_threaded T) (hr.mono (by decide)) (by rfl) T.g_threaded T.F_threaded.kp T.b_threaded .nil pass0 (pa_cons (pe_call (ok_table_of T) (hr.mono (by decide)) (by rfl) T.g_table_of T.F_table_of.kp T.b_table_of .nil pass0 (pa_cons (pv 0) pa_nil)) pa_nil)) pa_nil))))), ?_⟩
    have hkl := keys_len (rowsOf im)
    unfold thrL at k
    refine q_when (b := !clB im (Gd.srt ks)) (et_not (et_B (ev_call (ea_cons (ev_var rfl) ea_nil) (v_is_closed hS hl hrw hC)))) (fun hb H1 e1 => ?_) (fun hb H1 e1 => ?_)
    · rw [if_neg (by simpa using hb)] at k
      exact s_retL (el_list (ev_var rfl) (ex_l e1 hS)) fun p H2 np e2 hp => k p H2 (fresh_back e1 np) (e1.trans e2) hp
    · rw [if_pos (by simpa using hb)] at k
      refine s_retL (el_written (F := thrN im) l_image_of_table (by omega) (fun G e => ep_callP1 (ep_tableD (ev_var rfl) (ex_l (e1.trans e) hS) hl) (fun v G1 hv Q q => ?_))) fun p H2 np e2 hp => k p H2 (fresh_back e1 np) (e1.trans e2) hp
      obtain ⟨t, kvs, rfl, nt, eg, hd⟩ := hv
      exact ⟨t, kvs, im, rfl, hd, hrw, fun c kc G2 nc e2 hc hT hK => q _ _ ⟨c, kc, rfl, eg.trans e2, hc, hT, hK⟩⟩
def foldL (im ks : List Int) : List Int := if clB im (Gd.srt ks) = true then wrN (foldN im) (keysOf (rowsOf im)) else im
def sp_fold (K : PySem.W.Frag) : Sp := fun vs H Q _ => ∃ (a : Addr) (im ks : List Int), vs = [.ref a] ∧ SqL K H a (im.map V.int) ∧ im.length ≤ 60000 ∧ (rowsOf im).length ≤ 20 ∧ CL im ks ∧ RetL ((foldL im ks).map V.int) H Q
theorem l_fold {a : Addr} {im ks : List Int} {H : Hp} (hS : SqL K H a (im.map V.int)) (hl : im.length ≤ 60000) (hr : (rowsOf im).length ≤ 20) (hc : CL im ks) : SpL (sp_fold K) [.ref a] H ((foldL im ks).map V.int) := fun _ e _ q _ => ⟨a, im, ks, rfl, ex_l e hS, hl, hr, hc, q⟩
theorem ok_fold (T : Txt K mg) : FnOk P w K mg base CX0 5 T.f_fold T.d_fold ["image"] (sp_fold K) := by
  refine T.F_fold.ok sc_fold (fun vs H Q E h => ?_) (fun cdv A outer s H vs Q E hr h => ?_)
  · obtain ⟨a, im, ks, rfl, _⟩ := h
    rfl
  · obtain ⟨a, im, ks, rfl, hS, hl, hrw, hC, k⟩ := h
    refine ⟨_, (pss_cons (ps_if (pt_not (pt_val (pe_call (ok_is_closed T) (hr.mono (by decide)) (by rfl) T.g_is_closed T.F_is_closed.kp T.b_is_closed .nil pass0 (pa_cons (pv 0) pa_nil)))) (pss_one (ps_ret (pe_callTy call_list_of (by rfl) T.n_list (by decide +kernel) (pa_cons (pv 0) pa_nil)))) pss_nil)
        (pss_cons (ps_set (i := 1) sc_fold.nd rfl (Or.inr rfl) (pe_call (ok_table_of T) (hr.mono (by decide)) (by rfl) T.g_table_of T.F_table_of.kp T.b_table_of .nil pass0 (pa_cons (pv 0) pa_nil)))
        (pss_one (ps_ret (pe_call (ok_image_of_table T) (hr.mono (by decide)) (by rfl) T.g_image_of_table T.F_image_of_table.kp T.b_image_of_table .nil pass0 (pa_cons (pe_lock (pe_dc (own := [("number", 2)]) (by rfl) sc_fold.nd (pi_keys (pv 1)) (blkOk_by (own := [("number", 2)]) (N := N_fold) (sc := defScope s_fold) (by decide +kernel)) (fun _ _ _ _ _ => pg_name (i := 2) sc_fold.nd rfl (Or.inl rfl)) (fun _ _ _ _ _ => pts_nil) (fun _ _ _ _ _ => (pv 2)) (fun _ _ _ _ _ => (pe_call (ok_folded T) (hr.mono (by decide)) (by rfl) T.g_folded T.F_folded.kp T.b_folded .nil pass0 (pa_cons (pv 1) (pa_cons (pe_dget (hu_of hr) (pv 1) (pv 2) (fun _ _ => rfl)) pa_nil)))))) pa_nil)))))), ?_⟩
    have hkl := keys_len (rowsOf im)
    have hnd := keys_nodup (rowsOf im)
    unfold foldL at k
    refine q_when (b := !clB im (Gd.srt ks)) (et_not (et_B (ev_call (ea_cons (ev_var rfl) ea_nil) (v_is_closed hS hl hrw hC)))) (fun hb H1 e1 => ?_) (fun hb H1 e1 => ?_)
    · rw [if_neg (by simpa using hb)] at k
      exact s_retL (el_list (ev_var rfl) (ex_l e1 hS)) fun p H2 np e2 hp => k p H2 (fresh_back e1 np) (e1.trans e2) hp
    · rw [if_pos (by simpa using hb)] at k
      refine q_asgP (ep_tableD (ev_var rfl) (ex_l e1 hS) hl) (fun v H2 hv => ?_)
      obtain ⟨t, kvs, rfl, nt, e2, hd⟩ := hv
      refine s_retL (el_written (F := foldN im) l_image_of_table (by omega) (fun G e => ?_)) fun p H3 np e3 hp => k p H3 (fresh_back (e1.trans e2) np) (e1.trans (e2.trans e3)) hp
      have hdG := hd.up e
      have hkk := hdG.len
      obtain ⟨hT, hTab, hKeys⟩ := hdG
      refine ep_dcKy (d := t) (kvs := kvs) hT (fun _ => ev_var rfl) (fun od G1 eG c nc => ?_)
      have gt1 := eG _ _ (upd_same (o := HO.frz od (.dK kvs)))
      have hct : c ≠ t := fun z => by rw [z, gt1] at nc; cases nc
      have gTab1 : TabT K G1 kvs (nodeAt im) := (hTab.mut hT nt_dK).ex eG
      refine ⟨fun i G' => ∃ kc, G' t = some (.frz od (.dK kvs)) ∧ (∀ b o, b ≠ t → G b = some o → G' b = some o) ∧ G' c = some (.dK kc) ∧ TabT K G' kvs (nodeAt im) ∧ TabT K G' kc (rsF (foldN im) ((keysOf (rowsOf im)).take i)) ∧ kc.map (·.1) = ((keysOf (rowsOf im)).take i).map Sum.inl, ⟨[], by rw [upd_ne hct.symm]; exact gt1, fun b o hb h => ?_, upd_same, gTab1.ex (Ex.new nc), by rw [List.take_zero]; exact tab_nil _, rfl⟩, fun i G' h => ?_, fun i kv G' hkv h => ?_, fun G' h => ?_⟩
      · have := eG b o (by rw [upd_ne hb]; exact h)
        rw [upd_ne (ne_of_none this nc)]
        exact this
      · obtain ⟨kc, h, _⟩ := h
        exact h
      · obtain ⟨kc, gt, gf, gc, gT, gC, gK⟩ := h
        obtain ⟨s, hs1, hkv1⟩ := key_at hKeys hkv
        have hi20 : i < 20 := by have := (List.getElem?_eq_some_iff.mp hs1).1; omega
        have hkc : kc.length < 100000 := by
          have := congrArg List.length gK
          rw [List.length_map, List.length_map, List.length_take] at this
          omega
        rw [hkv1]
        obtain ⟨n, hn⟩ := key_node hs1
        have hTb : Tb K G' t im := ⟨kvs, .inr ⟨od, gt⟩, gT, hKeys⟩
        refine ⟨rfl, ?_⟩
        dsimp only [tYes]
        rw [if_pos rfl]
        refine go_ev (v := .int s) (ev_var rfl) fun G2 x2 => ?_
        obtain ⟨pn, hpn, hen⟩ := ev_tb (K := K) (H := G2) (σ := (wipe [some (.ref a), some (.ref t), none] [2]).set 2 (some (.int s))) (td := tVar 1) (ty := tVar 2) (ev_var rfl) (fun _ _ => ev_var rfl) (hTb.up x2) hn
        refine (ep_call (sp := sp_folded K) (E := E0) (P := fun v G3 => ∃ q, v = .ref q ∧ Ex G2 G3 ∧ SqT K G3 q ((ndL (foldN im s)).map V.int)) (ea_cons (ev_var (i := 1) rfl) (ea_cons hen ea_nil)) fun G3 x3 Q q => ⟨t, pn, im, n, rfl, hTb.up (x2.trans x3), ex_t x3 hpn, fun q' G4 x4 hq => q _ _ ⟨q', rfl, x3.trans x4, by unfold foldN; rw [nodeD_at hn]; exact hq⟩⟩) _ fun v G3 hv => ?_
        obtain ⟨q, rfl, x3, hq⟩ := hv
        have x23 := x2.trans x3
        refine ⟨kc, Sum.inl s, rfl, x23 _ _ gc, sz_lt hkc, putK kc (Sum.inl s) (.ref q), by rw [upd_ne hct.symm]; exact x23 _ _ gt, fun b o hb h => ?_, upd_same, (gT.ex x23).mut (x23 _ _ gc) nt_dK, ?_, ?_⟩
        · have hbc : b ≠ c := fun z => by
            have := eG b o (by rw [upd_ne hb]; exact h)
            rw [z, nc] at this
            cases this
          rw [upd_ne hbc]
          exact x23 _ _ (gf b o hb h)
        · refine TabT.mut ?_ (x23 _ _ gc) nt_dK
          refine tab_put (n := foldN im s) (gC.ex x23) hq ?_
          rw [← addK_take hnd hs1]
          exact rsF_add _ _ _
        · rw [← addK_take hnd hs1]
          exact putK_keys gK s _
      · obtain ⟨kc, gt, gf, gc, gT, gC, gK⟩ := h
        rw [hkk, List.take_length] at gC gK
        refine ⟨c, kc, rfl, fun b o h => ?_, by rw [upd_ne hct]; exact gc, gC.mut gt nt_frz, gK⟩
        by_cases z : b = t
        · rw [z] at h ⊢
          rw [hT] at h
          cases h
          exact upd_same
        · rw [upd_ne z]
          exact gf b o z h
def pruK (im ks : List Int) : List Int := (Gd.srt ks).filter fun k => (nodeAt im k).isSome
def pruL (im ks : List Int) : List Int := if clB im (Gd.srt ks) = true then wrN (nodeD im) (pruK im ks) else im
theorem pruK_len (im ks : List Int) : (pruK im ks).length ≤ ks.length := by
  rw [← srt_len ks]
  exact List.length_filter_le _ _
theorem filter_snoc {α : Type} {l : List α} {i : Nat} {x : α} (p : α → Bool) (h : l[i]? = some x) : (l.take (i + 1)).filter p = (l.take i).filter p ++ if p x = true then [x] else [] := by
  rw [take_snoc h, List.filter_append]
  congr 1
  by_cases c : p x = true
  · rw [if_pos c, List.filter_cons, if_pos c]; rfl
  · rw [if_neg c, List.filter_cons, if_neg c]; rfl
theorem CL.snd {im ks : List Int} (h : CL im ks) : (Gd.srt ks).Nodup := (srt_perm ks).nodup_iff.mpr h.nd
theorem filter_new {l : List Int} {i : Nat} {x : Int} (p : Int → Bool) (hn : l.Nodup) (h : l[i]? = some x) : x ∉ (l.take i).filter p := fun m => nodup_take_new hn h (List.mem_filter.mp m).1
def sp_prune (K : PySem.W.Frag) : Sp := fun vs H Q _ => ∃ (a : Addr) (im ks : List Int), vs = [.ref a] ∧ SqL K H a (im.map V.int) ∧ im.length ≤ 60000 ∧ (rowsOf im).length ≤ 20 ∧ CL im ks ∧ RetL ((pruL im ks).map V.int) H Q
theorem l_prune {a : Addr} {im ks : List Int} {H : Hp} (hS : SqL K H a (im.map V.int)) (hl : im.length ≤ 60000) (hr : (rowsOf im).length ≤ 20) (hc : CL im ks) : SpL (sp_prune K) [.ref a] H ((pruL im ks).map V.int) := fun _ e _ q _ => ⟨a, im, ks, rfl, ex_l e hS, hl, hr, hc, q⟩
theorem ok_prune (T : Txt K mg) : FnOk P w K mg base CX0 5 T.f_prune T.d_prune ["image"] (sp_prune K) := by
  refine T.F_prune.ok sc_prune (fun vs H Q E h => ?_) (fun cdv A outer s H vs Q E hr h => ?_)
  · obtain ⟨a, im, ks, rfl, _⟩ := h
    rfl
  · obtain ⟨a, im, ks, rfl, hS, hl, hrw, hC, k⟩ := h
    refine ⟨_, (pss_cons (ps_if (pt_not (pt_val (pe_call (ok_is_closed T) (hr.mono (by decide)) (by rfl) T.g_is_closed T.F_is_closed.kp T.b_is_closed .nil pass0 (pa_cons (pv 0) pa_nil)))) (pss_one (ps_ret (pe_callTy call_list_of (by rfl) T.n_list (by decide +kernel) (pa_cons (pv 0) pa_nil)))) pss_nil)
        (pss_cons (ps_set (i := 1) sc_prune.nd rfl (Or.inr rfl) (pe_call (ok_table_of T) (hr.mono (by decide)) (by rfl) T.g_table_of T.F_table_of.kp T.b_table_of .nil pass0 (pa_cons (pv 0) pa_nil)))
        (pss_one (ps_ret (pe_call (ok_image_of_table T) (hr.mono (by decide)) (by rfl) T.g_image_of_table T.F_image_of_table.kp T.b_image_of_table .nil pass0 (pa_cons (pe_dc (own := [("number", 2)]) (by rfl) sc_prune.nd (pi_list (pe_call (ok_reachable_in T) (hr.mono (by decide)) (by rfl) T.g_reachable_in T.F_reachable_in.kp T.b_reachable_in .nil pass0 (pa_cons (pv 1) pa_nil))) (blkOk_by (own := [("number", 2)]) (N := N_prune) (sc := defScope s_prune) (by decide +kernel)) (fun _ _ _ _ _ => pg_name (i := 2) sc_prune.nd rfl (Or.inl rfl)) (fun _ _ _ _ _ => (pts_one (pt_cmp (pc_din (hu_of hr) (pv 2) (pv 1))))) (fun _ _ _ _ _ => (pv 2)) (fun _ _ _ _ _ => (pe_dget (hu_of hr) (pv 1) (pv 2) (fun _ _ => rfl)))) pa_nil)))))), ?_⟩
    have hlen := hC.len
    have hpl := pruK_len im ks
    have hsl := srt_len ks
    unfold pruL at k
    refine q_when (b := !clB im (Gd.srt ks)) (et_not (et_B (ev_call (ea_cons (ev_var rfl) ea_nil) (v_is_closed hS hl hrw hC)))) (fun hb H1 e1 => ?_) (fun hb H1 e1 => ?_)
    · rw [if_neg (by simpa using hb)] at k
      exact s_retL (el_list (ev_var rfl) (ex_l e1 hS)) fun p H2 np e2 hp => k p H2 (fresh_back e1 np) (e1.trans e2) hp
    · rw [if_pos (by simpa using hb)] at k
      refine q_asgP (ep_tableD (ev_var rfl) (ex_l e1 hS) hl) (fun v H2 hv => ?_)
      obtain ⟨t, kvs, rfl, nt, e2, hd⟩ := hv
      refine s_retL (el_written (F := nodeD im) (ks := pruK im ks) l_image_of_table (by omega) (fun G e => ?_)) fun p H3 np e3 hp => k p H3 (fresh_back (e1.trans e2) np) (e1.trans (e2.trans e3)) hp
      have hTb := hd.tb.up e
      refine ep_dcLD (K := K) (ds := (Gd.srt ks).map PyData.int) (eld_L (el_call (ea_cons (ev_var rfl) ea_nil) (l_reachable_in hTb hrw hC)) (dpAll_ints _)) (fun l xs G1 nl e1' hl1 hdp c nc => ?_)
      obtain rfl : xs = (Gd.srt ks).map V.int := dpAll_ints_inv hdp
      have hTb1 := hTb.up e1'
      have hlc : l ≠ c := fun z => by rw [← z, hl1] at nc; cases nc
      refine ⟨fun i G' => ∃ kc, Ex G1 G' ∧ G' c = some (.dK kc) ∧ TabT K G' kc (rsF (nodeD im) (((Gd.srt ks).take i).filter fun k => (nodeAt im k).isSome)) ∧ kc.map (·.1) = (((Gd.srt ks).take i).filter fun k => (nodeAt im k).isSome).map Sum.inl, ⟨[], Ex.new nc, upd_same, by rw [List.take_zero]; exact tab_nil _, rfl⟩, fun i G' _ h => ?_, fun i v G' hv h => ?_, fun G' h => ?_⟩
      · obtain ⟨kc, h, _⟩ := h
        exact sq_of (h _ _ hl1)
      · obtain ⟨kc, x1, gc, gC, gK⟩ := h
        obtain ⟨s, hs1, rfl⟩ := map_at hv
        have hi : i < 64 := by have := (List.getElem?_eq_some_iff.mp hs1).1; omega
        have hkc : kc.length < 100000 := by
          have := congrArg List.length gK
          have h2 := List.length_filter_le (fun k => (nodeAt im k).isSome) ((Gd.srt ks).take i)
          rw [List.length_map, List.length_map] at this
          rw [List.length_take] at h2
          omega
        refine ⟨rfl, ?_⟩
        have hin := ev_inTb (K := K) (H := G') (σ := (wipe [some (.ref a), some (.ref t), none] [2]).set 2 (some (.int s))) (td := tVar 1) (ty := tVar 2) (ev_var rfl) (fun _ _ => ev_var rfl) (hTb1.up x1)
        refine (et_test hin) G' (Ex.refl _) _ fun G2 x2 => ?_
        have hfs := filter_snoc (fun k => (nodeAt im k).isSome) hs1
        cases hn : nodeAt im s with
        | none =>
          rw [hn, if_neg (by rw [Option.isSome_none]; exact Bool.false_ne_true), List.append_nil] at hfs
          rw [if_neg (by rw [Option.isSome_none]; exact Bool.false_ne_true)]
          exact ⟨kc, x1.trans x2, x2 _ _ gc, by rw [hfs]; exact gC.ex x2, by rw [hfs]; exact gK⟩
        | some n =>
          rw [hn, if_pos (by rfl), ← addK_new (filter_new _ hC.snd hs1)] at hfs
          rw [if_pos (by rfl)]
          refine go_ev (v := .int s) (ev_var rfl) fun G3 x3 => ?_
          have x13 := x1.trans (x2.trans x3)
          obtain ⟨pn, hpn, hen⟩ := ev_tb (K := K) (H := G3) (σ := (wipe [some (.ref a), some (.ref t), none] [2]).set 2 (some (.int s))) (td := tVar 1) (ty := tVar 2) (ev_var rfl) (fun _ _ => ev_var rfl) (hTb1.up x13) hn
          refine go_ev (v := .ref pn) hen fun G4 x4 => ?_
          have x24 := x2.trans (x3.trans x4)
          refine ⟨kc, Sum.inl s, rfl, x24 _ _ gc, sz_lt hkc, putK kc (Sum.inl s) (.ref pn), Ex.mut (x13.trans x4) nc, upd_same, ?_, ?_⟩
          · refine TabT.mut ?_ (x24 _ _ gc) nt_dK
            refine tab_put (n := nodeD im s) (gC.ex x24) (by rw [nodeD_at hn]; exact ex_t x4 hpn) ?_
            rw [hfs]
            exact rsF_add _ _ _
          · rw [hfs]
            exact putK_keys gK s _
      · obtain ⟨kc, x1, gc, gC, gK⟩ := h
        rw [List.length_map, List.take_length] at gC gK
        exact ⟨c, kc, rfl, e1'.trans x1, gc, gC, gK⟩


end
end K32

set_option Elab.async false
set_option linter.all false
set_option maxRecDepth 100000
set_option maxHeartbeats 4000000
set_option exponentiation.threshold 600
namespace K32
open PySem PySem.Spec PyProof.Rows L2 Evl Gd
/-! ### how expressions are evaluated, without a word of ours -/
local macro_rules | `(tactic| walk_at "ev") => `(tactic| exact ev_c)
local macro_rules | `(tactic| walk_at "ev") => `(tactic| exact ev_var rfl)
local macro_rules | `(tactic| walk_at "ev") => `(tactic| (refine' ev_op ?k1 ?k2 ?k3; (case k1 => walk_at "ev"); (case k2 => walk_at "ev"); (case k3 => walk_at "rv")))
local macro_rules | `(tactic| walk_at "ev") => `(tactic| (refine' ev_cb ?k1 ?k2; (case k1 => walk_at "ea"); (case k2 => walk_at "rc")))
local macro_rules | `(tactic| walk_at "ev") => `(tactic| (refine' ev_call ?k1 ?k2; (case k1 => walk_at "ea"); (case k2 => walk_at "sp")))
local macro_rules | `(tactic| walk_at "ev") => `(tactic| (refine' ev_chain ?k1 ?k2 ?k3 (fun _ => ?k4) (fun _ => ?k5); (case k1 => walk_at "ev"); (case k2 => walk_at "ev"); (case k3 => walk_at "rv"); (case k4 => walk_at "ev"); (case k5 => walk_at "rv")))
local macro_rules | `(tactic| walk_at "ev") => `(tactic| (refine' ev_orV ?k1 (fun _ => ?k2); (case k1 => walk_at "ev"); (case k2 => walk_at "ev")))
local macro_rules | `(tactic| walk_at "ev") => `(tactic| (refine' ev_andV ?k1 (fun _ => ?k2); (case k1 => walk_at "ev"); (case k2 => walk_at "ev")))
local macro_rules | `(tactic| walk_at "ev") => `(tactic| (refine' ev_notV ?k1; (case k1 => walk_at "ev")))
local macro_rules | `(tactic| walk_at "ea") => `(tactic| exact ea_nil)
local macro_rules | `(tactic| walk_at "ea") => `(tactic| (refine' ea_cons ?k1 ?k2; (case k1 => walk_at "ev"); (case k2 => walk_at "ea")))
local macro_rules | `(tactic| walk_at "rv") => `(tactic| exact rv_I0)
local macro_rules | `(tactic| walk_at "rv") => `(tactic| exact rv_eqI)
local macro_rules | `(tactic| walk_at "rv") => `(tactic| exact rv_neI)
local macro_rules | `(tactic| walk_at "rv") => `(tactic| exact rv_eqS)
local macro_rules | `(tactic| walk_at "rv") => `(tactic| exact rv_neS)
local macro_rules | `(tactic| walk_at "rv") => `(tactic| exact rv_mod (by decide))
local macro_rules | `(tactic| walk_at "rv") => `(tactic| exact rv_fdiv (by decide) (by decide))
local macro_rules | `(tactic| walk_at "rv") => `(tactic| exact rv_mulR (by decide))
local macro_rules | `(tactic| walk_at "rv") => `(tactic| exact rv_pow (by decide))
local macro_rules | `(tactic| walk_at "rc") => `(tactic| exact rc_int)
local macro_rules | `(tactic| walk_at "rc") => `(tactic| exact rc_ord)
local macro_rules | `(tactic| walk_at "et") => `(tactic| (refine' et_test ?k1; (case k1 => walk_at "ev")))
local macro_rules | `(tactic| walk_at "et") => `(tactic| (refine' et_B ?k1; (case k1 => walk_at "ev")))
local macro_rules | `(tactic| walk_at "et") => `(tactic| (refine' et_not ?k1; (case k1 => walk_at "et")))
local macro_rules | `(tactic| walk_at "et") => `(tactic| (refine' et_or ?k1 (fun _ => ?k2); (case k1 => walk_at "et"); (case k2 => walk_at "et")))
local macro_rules | `(tactic| walk_at "et") => `(tactic| (refine' et_and ?k1 (fun _ => ?k2); (case k1 => walk_at "et"); (case k2 => walk_at "et")))
section
variable {P : Program} {w : World} {K : PySem.W.Frag} {mg : Str → Option Value} {base : Heap}
/-! ### what the law makes -/
def thK (im : List Int) (i j : Nat) : List Int := ((keysOf (rowsOf im)).take i).filter (fun k => !nopF im k) ++ ((keysOf (rowsOf im)).take j).filter (fun k => nopF im k)
theorem thK_perm (im : List Int) : (thK im (keysOf (rowsOf im)).length (keysOf (rowsOf im)).length).Perm (keysOf (rowsOf im)) := by
  unfold thK
  rw [List.take_length]
  have := List.filter_append_perm (fun k => !nopF im k) (keysOf (rowsOf im))
  simpa using this
theorem made_perm {F : Int → Nd} {H : Hp} {kc : List (Key × V)} {ks ls : List Int} (hp : ls.Perm ks) (h : TabT K H kc (rsF F ls)) : TabT K H kc (rsF F ks) := by
  have : rsF F ls = rsF F ks := funext fun k => by
    unfold rsF
    by_cases c : k ∈ ls
    · rw [if_pos c, if_pos (hp.mem_iff.mp c)]
    · rw [if_neg c, if_neg (fun z => c (hp.mem_iff.mpr z))]
  rw [← this]
  exact h
/-- a new dict of numbers that stand in any order -/
def MadeA (K : PySem.W.Frag) (F : Int → Nd) (ks : List Int) (H : Hp) (Q : VK) : Prop := ∀ c kc ls H2, ls.Perm ks → H c = none → Ex H H2 → H2 c = some (.dK kc) → TabT K H2 kc (rsF F ls) → kc.map (·.1) = ls.map Sum.inl → Q (.ref c) H2
def sp_law_threaded (K : PySem.W.Frag) : Sp := fun vs H Q _ => ∃ (t : Addr) (kvs : List (Key × V)) (im : List Int), vs = [.ref t] ∧ DictOf K im H t kvs ∧ (rowsOf im).length ≤ 20 ∧ MadeA K (thrN im) (keysOf (rowsOf im)) H Q
theorem opB_nop {im : List Int} {k : Int} {n : Nd} (h : nodeAt im k = some n) : (!opB n.1) = nopF im k := (nop_iff h).symm
theorem ok_law_threaded (T : Txt K mg) : FnOk P w K mg base CX0 3 T.f_law_threaded T.d_law_threaded ["table"] (sp_law_threaded K) := by
  refine T.F_law_threaded.ok sc_law_threaded (fun vs H Q E h => ?_) (fun cdv A outer s H vs Q E hr h => ?_)
  · obtain ⟨t, kvs, im, rfl, _⟩ := h
    rfl
  · obtain ⟨t, kvs, im, rfl, hD, hrw, k⟩ := h
    refine ⟨_, (pss_cons (ps_set (i := 1) sc_law_threaded.nd rfl (Or.inl rfl) pe_dnewK)
        (pss_cons (ps_lock (ps_for PassesOwn.never rfl (pi_keys (pv 0)) (pg_name (i := 2) sc_law_threaded.nd rfl (Or.inl rfl)) (pss_cons (ps_asg (pe_dget (hu_of hr) (pv 0) (pv 2) (fun _ _ => rfl)) (pg_tup (by rfl) (pgs_cons (pg_name (i := 3) sc_law_threaded.nd rfl (Or.inl rfl)) (pgs_cons (pg_name (i := 4) sc_law_threaded.nd rfl (Or.inl rfl)) (pgs_cons (pg_name (i := 5) sc_law_threaded.nd rfl (Or.inl rfl)) pgs_nil)))))
        (pss_one (ps_if (pt_not (pt_val (pe_call (ok_law_is_nop T) (hr.mono (by decide)) (by rfl) T.g_law_is_nop T.F_law_is_nop.kp T.b_law_is_nop .nil pass0 (pa_cons (pv 3) pa_nil)))) (pss_cut (ps_if (pt_cmpR op_eq (pv 3) pe_int (nomark _)) (pss_one (ps_set (i := 4) sc_law_threaded.nd rfl (Or.inl rfl) (pe_call (ok_law_target T) (hr.mono (by decide)) (by rfl) T.g_law_target T.F_law_target.kp T.b_law_target .nil pass0 (pa_cons (pv 0) (pa_cons (pv 4) pa_nil))))) pss_nil)
        (pss_one (ps_dput (hu_of hr) (pv 1) (pv 2) (pe_tup (pa_cons (pv 3) (pa_cons (pv 4) (pa_cons (pe_call (ok_law_target T) (hr.mono (by decide)) (by rfl) T.g_law_target T.F_law_target.kp T.b_law_target .nil pass0 (pa_cons (pv 0) (pa_cons (pv 5) pa_nil))) pa_nil)))) rfl))) pss_nil)))))
        (pss_cons (ps_lock (ps_for PassesOwn.never rfl (pi_keys (pv 0)) (pg_name (i := 2) sc_law_threaded.nd rfl (Or.inl rfl)) (pss_one (ps_if (pt_val (pe_call (ok_law_is_nop T) (hr.mono (by decide)) (by rfl) T.g_law_is_nop T.F_law_is_nop.kp T.b_law_is_nop .nil pass0 (pa_cons (pe_ix ix_tup (pe_dget (hu_of hr) (pv 0) (pv 2) (fun _ _ => rfl)) pe_int (fun _ _ => rfl)) pa_nil))) (pss_cons (ps_set (i := 6) sc_law_threaded.nd rfl (Or.inl rfl) (pe_call (ok_law_target T) (hr.mono (by decide)) (by rfl) T.g_law_target T.F_law_target.kp T.b_law_target .nil pass0 (pa_cons (pv 0) (pa_cons (pv 2) pa_nil))))
        (pss_one (ps_if (PW.pt (pw_and (pt_cmp (pc_din (hu_of hr) (pv 6) (pv 0))) (pw_and1 (pt_not (pt_val (pe_call (ok_law_is_nop T) (hr.mono (by decide)) (by rfl) T.g_law_is_nop T.F_law_is_nop.kp T.b_law_is_nop .nil pass0 (pa_cons (pe_ix ix_tup (pe_dget (hu_of hr) (pv 0) (pv 6) (fun _ _ => rfl)) pe_int (fun _ _ => rfl)) pa_nil))))))) (pss_one (ps_dput (hu_of hr) (pv 1) (pv 2) (pe_dget (hu_of hr) (pv 1) (pv 6) (fun _ _ => rfl)) rfl)) (pss_one (ps_dput (hu_of hr) (pv 1) (pv 2) (pe_tup (pa_cons pe_int (pa_cons pe_int (pa_cons (pv 6) pa_nil)))) rfl))))) pss_nil))))
        (pss_one (ps_ret (pv 1)))))), ?_⟩
    have hkk := hD.len
    have hkl := keys_len (rowsOf im)
    obtain ⟨hT, hTab, hKeys⟩ := hD
    have hnd := keys_nodup (rowsOf im)
    refine q_dnew (fun c nc => ?_)
    have hct : c ≠ t := fun z => by rw [z, hT] at nc; cases nc
    have put : ∀ {od : Obj} {G2 G3 : Hp} {q : Addr} {kc : List (Key × V)} {ls : List Int} {s : Int}, G2 t = some (.frz od (.dK kvs)) → (∀ b o, b ≠ t → H b = some o → G2 b = some o) → G2 c = some (.dK kc) → TabT K G2 kvs (nodeAt im) → TabT K G2 kc (rsF (thrN im) ls) → kc.map (·.1) = ls.map Sum.inl → s ∉ ls → SqT K G2 q ((ndL (thrN im s)).map V.int) → Ex G2 G3 →
        (upd G3 c (.dK (putK kc (Sum.inl s) (.ref q)))) t = some (.frz od (.dK kvs)) ∧ (∀ b o, b ≠ t → H b = some o → (upd G3 c (.dK (putK kc (Sum.inl s) (.ref q)))) b = some o) ∧ (upd G3 c (.dK (putK kc (Sum.inl s) (.ref q)))) c = some (.dK (putK kc (Sum.inl s) (.ref q))) ∧ TabT K (upd G3 c (.dK (putK kc (Sum.inl s) (.ref q)))) kvs (nodeAt im) ∧
        TabT K (upd G3 c (.dK (putK kc (Sum.inl s) (.ref q)))) (putK kc (Sum.inl s) (.ref q)) (rsF (thrN im) (ls ++ [s])) ∧ (putK kc (Sum.inl s) (V.ref q)).map (·.1) = (ls ++ [s]).map Sum.inl := fun {od G2 G3 q kc ls s} gt gf gc gT gC gK hs hq e => by
      refine ⟨by rw [upd_ne hct.symm]; exact e _ _ gt, fun b o hb h => by rw [upd_ne (ne_of_none h nc)]; exact e _ _ (gf b o hb h), upd_same, (gT.ex e).mut (e _ _ gc) nt_dK, ?_, ?_⟩
      · refine TabT.mut ?_ (e _ _ gc) nt_dK
        refine tab_put (n := thrN im s) (gC.ex e) (ex_t e hq) ?_
        rw [← addK_new hs]
        exact rsF_add _ _ _
      · rw [← addK_new hs]
        exact putK_keys gK s _
    have klen : ∀ {kc : List (Key × V)} {i j : Nat}, kc.map (·.1) = (thK im i j).map Sum.inl → kc.length < 100000 := fun {kc i j} gK => by
      have h1 := congrArg List.length gK
      have h2 := List.length_filter_le (fun k => !nopF im k) ((keysOf (rowsOf im)).take i)
      have h3 := List.length_filter_le (fun k => nopF im k) ((keysOf (rowsOf im)).take j)
      rw [List.length_map, List.length_map] at h1
      unfold thK at h1
      rw [List.length_append] at h1
      rw [List.length_take] at h2 h3
      omega
    refine q_forDg (d := t) (kvs := kvs) (by rw [upd_ne hct.symm]; exact hT) (fun G => ev_var rfl) (fun od => ⟨fun i σ' G => ∃ (kc : List (Key × V)) (y2 y3 y4 y5 y6 : Option V), σ' = [some (.ref t), some (.ref c), y2, y3, y4, y5, y6] ∧ G t = some (.frz od (.dK kvs)) ∧ (∀ b o, b ≠ t → H b = some o → G b = some o) ∧ G c = some (.dK kc) ∧ TabT K G kvs (nodeAt im) ∧ TabT K G kc (rsF (thrN im) (thK im i 0)) ∧ kc.map (·.1) = (thK im i 0).map Sum.inl, ?_, ?_, ?_, ?_⟩)
    · intro G eG
      refine ⟨[], none, none, none, none, none, rfl, eG _ _ upd_same, fun b o hb h => eG _ _ (by rw [upd_ne hb, upd_ne (ne_of_none h nc)]; exact h), eG _ _ (by rw [upd_ne hct]; exact upd_same), ?_, by unfold thK; rw [List.take_zero]; exact tab_nil _, rfl⟩
      exact ((hTab.ex (Ex.new nc)).mut (p := t) (o := .dK kvs) (by rw [upd_ne hct.symm]; exact hT) nt_dK).ex eG
    · rintro i σ' G ⟨kc, _, _, _, _, _, rfl, h, _⟩
      exact h
    · rintro i kv σ' G D' hkv ⟨kc, y2, y3, y4, y5, y6, rfl, gt, gf, gc, gT, gC, gK⟩ hk
      obtain ⟨s, hs1, hkv1⟩ := key_at hKeys hkv
      rw [hkv1]
      show tSeq _ _ _ [some (.ref t), some (.ref c), some (.int s), y3, y4, y5, y6] G
      obtain ⟨n, hn⟩ := key_node hs1
      have hTb : Tb K G t im := ⟨kvs, .inr ⟨od, gt⟩, gT, hKeys⟩
      obtain ⟨pn, hpn, hen⟩ := ev_tb (K := K) (H := G) (σ := [some (.ref t), some (.ref c), some (.int s), y3, y4, y5, y6]) (td := tVar 0) (ty := tVar 2) (ev_var rfl) (fun _ _ => ev_var rfl) hTb hn
      refine q_unpD (K := K) (ed_ev hen (dp_intsT hpn)) (fun v G1 e1 hv => ?_)
      obtain ⟨p2, rfl, hp2⟩ := dp_intsT_inv (ns := ndL n) hv
      refine g_tup3 hp2 ?_
      have hth : thK im (i + 1) 0 = if nopF im s = true then thK im i 0 else thK im i 0 ++ [s] := by
        unfold thK
        rw [filter_snoc _ hs1, List.take_zero, List.filter_nil, List.append_nil, List.append_nil]
        cases nopF im s with
        | true => simp
        | false => simp
      refine s_when (b := !!opB n.1) (et_not (et_B (ev_call (ea_cons (ev_var rfl) ea_nil) v_law_is_nop))) (fun hb G2 e2 => ?_) (fun hb G2 e2 => ?_)
      · have ho : opB n.1 = true := by simpa using hb
        have hnf : nopF im s = false := by rw [nop_iff hn, ho]; rfl
        rw [hnf, if_neg Bool.false_ne_true] at hth
        have x2 := e1.trans e2
        refine q_cut (M := fun σ' G' => Ex G2 G' ∧ σ' = [some (.ref t), some (.ref c), some (.int s), some (.int n.1), some (.int (if n.1 = 63 then tgI im n.2.1 else n.2.1)), some (.int n.2.2), y6]) ?_ ?_
        · refine s_when (b := decide (n.1 = 63)) (et_test (ev_op (ev_var rfl) ev_c rv_eqI)) (fun hb G3 e3 => ?_) (fun hb G3 e3 => ?_)
          · rw [if_pos (of_decide_eq_true hb)]
            exact s_asg (v := .int (tgI im n.2.1)) (ev_call (ea_cons (ev_var rfl) (ea_cons (ev_var rfl) ea_nil)) (v_law_target (hTb.up (x2.trans e3)) hrw (tgI_tg hrw _))) (fun G4 e4 => ⟨e3.trans e4, rfl⟩)
          · rw [if_neg (of_decide_eq_false hb)]
            exact ⟨e3, rfl⟩
        rintro σ' G3 ⟨e3, rfl⟩
        have x3 := x2.trans e3
        refine s_dputI (a := c) (k := s) (P := fun v G4 => ∃ q, v = .ref q ∧ Ex G3 G4 ∧ G4 q = some (.tup ((ndL (thrN im s)).map V.int))) (fun Q q => ?_) (fun v G4 hv => ?_)
        · have hth2 : thrN im s = redT im n := by unfold thrN; rw [tgI_non hnf]; exact thrE_some hn ho
          rw [hth2] at q
          exact (eu_tup (vs := (ndL (redT im n)).map V.int) (ea_cons (ev_var rfl) (ea_cons (ev_var rfl) (ea_cons (ev_call (ea_cons (ev_var rfl) (ea_cons (ev_var rfl) ea_nil)) (v_law_target (hTb.up x3) hrw (tgI_tg hrw _))) ea_nil))) (by show 3 ≤ 100000; decide)) G3 (Ex.refl _) _ fun q' G4 nq e4 hq => q _ _ ⟨q', rfl, e4, hq⟩
        obtain ⟨q, rfl, e4, hq⟩ := hv
        have x4 := x3.trans e4
        refine ⟨kc, x4 _ _ gc, fun _ _ => ev_var rfl, fun _ _ => ev_var rfl, klen gK, fun G5 e5 => hk _ _ ?_⟩
        obtain ⟨a1, a2, a3, a4, a5, a6⟩ := put (s := s) (x4 _ _ gt) (fun b o hb h => x4 _ _ (gf b o hb h)) (x4 _ _ gc) (gT.ex x4) (gC.ex x4) gK (by unfold thK; rw [List.take_zero, List.filter_nil, List.append_nil]; exact filter_new _ hnd hs1) (st_of hq) e5
        exact ⟨_, _, _, _, _, _, rfl, a1, a2, a3, a4, by rw [hth]; exact a5, by rw [hth]; exact a6⟩
      · have ho : opB n.1 = false := by simpa using hb
        have hnf : nopF im s = true := by rw [nop_iff hn, ho]; rfl
        rw [hnf, if_pos rfl] at hth
        have x2 := e1.trans e2
        exact hk _ _ ⟨kc, _, _, _, _, _, rfl, x2 _ _ gt, fun b o hb h => x2 _ _ (gf b o hb h), x2 _ _ gc, gT.ex x2, by rw [hth]; exact gC.ex x2, by rw [hth]; exact gK⟩
    · rintro σ' G ⟨kc, y2, y3, y4, y5, y6, rfl, gt, gf, gc, gT, gC, gK⟩
      rw [hkk] at gC gK
      have xH : Ex H (upd G t (.dK kvs)) := fun b o h => by
        by_cases z : b = t
        · rw [z] at h ⊢
          rw [hT] at h
          cases h
          exact upd_same
        · rw [upd_ne z]
          exact gf b o z h
      have g1t : (upd G t (.dK kvs)) t = some (.dK kvs) := upd_same
      have g1c : (upd G t (.dK kvs)) c = some (.dK kc) := by rw [upd_ne hct]; exact gc
      have g1T : TabT K (upd G t (.dK kvs)) kvs (nodeAt im) := gT.mut gt nt_frz
      have g1C := gC.mut (u := .dK kvs) gt nt_frz
      generalize upd G t (.dK kvs) = G1 at xH g1t g1c g1T g1C
      clear gt gf gc gT gC
      refine q_forDg (d := t) (kvs := kvs) g1t (fun G => ev_var rfl) (fun od => ⟨fun i σ' G => ∃ (kc : List (Key × V)) (y2 y3 y4 y5 y6 : Option V), σ' = [some (.ref t), some (.ref c), y2, y3, y4, y5, y6] ∧ G t = some (.frz od (.dK kvs)) ∧ (∀ b o, b ≠ t → H b = some o → G b = some o) ∧ G c = some (.dK kc) ∧ TabT K G kvs (nodeAt im) ∧ TabT K G kc (rsF (thrN im) (thK im (keysOf (rowsOf im)).length i)) ∧ kc.map (·.1) = (thK im (keysOf (rowsOf im)).length i).map Sum.inl, ?_, ?_, ?_, ?_⟩)
      · intro G eG
        refine ⟨kc, _, _, _, _, _, rfl, eG _ _ upd_same, fun b o hb h => eG _ _ (by rw [upd_ne hb]; exact xH _ _ h), eG _ _ (by rw [upd_ne hct]; exact g1c), (g1T.mut g1t nt_dK).ex eG, (g1C.mut g1t nt_dK).ex eG, gK⟩
      · rintro i σ' G ⟨kc, _, _, _, _, _, rfl, h, _⟩
        exact h
      · clear xH g1t g1c g1T g1C gK
        rintro i kv σ' G D' hkv ⟨kc, y2, y3, y4, y5, y6, rfl, gt, gf, gc, gT, gC, gK⟩ hk
        obtain ⟨s, hs1, hkv1⟩ := key_at hKeys hkv
        rw [hkv1]
        show tIfS _ _ _ _ [some (.ref t), some (.ref c), some (.int s), y3, y4, y5, y6] G
        obtain ⟨n, hn⟩ := key_node hs1
        have hTb : Tb K G t im := ⟨kvs, .inr ⟨od, gt⟩, gT, hKeys⟩
        have hth : thK im (keysOf (rowsOf im)).length (i + 1) = if nopF im s = true then thK im (keysOf (rowsOf im)).length i ++ [s] else thK im (keysOf (rowsOf im)).length i := by
          unfold thK
          rw [filter_snoc _ hs1]
          cases nopF im s with
          | true => simp
          | false => simp
        refine s_when (b := !opB n.1) (et_B (ev_call (ea_cons (ev_tbI 0 rfl (ev_var rfl) (fun _ _ => ev_var rfl) hTb hn) ea_nil) v_law_is_nop)) (fun hb G2 e2 => ?_) (fun hb G2 e2 => ?_)
        · have ho : opB n.1 = false := by simpa using hb
          have hnf : nopF im s = true := by rw [nop_iff hn, ho]; rfl
          rw [hnf, if_pos rfl] at hth
          have hsn : s ∉ thK im (keysOf (rowsOf im)).length i := by
            unfold thK
            intro m
            rcases List.mem_append.mp m with m | m
            · have := (List.mem_filter.mp m).2
              rw [hnf] at this
              cases this
            · exact filter_new _ hnd hs1 m
          refine q_asg (v := .int (tgI im s)) (ev_call (ea_cons (ev_var rfl) (ea_cons (ev_var rfl) ea_nil)) (v_law_target (hTb.up e2) hrw (tgI_tg hrw _))) (fun G3 e3 => ?_)
          have x3 := e2.trans e3
          have hin := ev_inTb (K := K) (H := G3) (σ := [some (.ref t), some (.ref c), some (.int s), y3, y4, y5, some (.int (tgI im s))]) (td := tVar 0) (ty := tVar 6) (ev_var rfl) (fun _ _ => ev_var rfl) (hTb.up x3)
          have fin : ∀ {G4 G5 : Hp} {q : Addr}, Ex G G4 → SqT K G4 q ((ndL (thrN im s)).map V.int) → Ex G4 G5 → D'.nx [some (.ref t), some (.ref c), some (.int s), y3, y4, y5, some (.int (tgI im s))] (upd G5 c (.dK (putK kc (Sum.inl s) (.ref q)))) := fun {G4 G5 q} x4 hq e5 => by
            obtain ⟨a1, a2, a3, a4, a5, a6⟩ := put (s := s) (x4 _ _ gt) (fun b o hb h => x4 _ _ (gf b o hb h)) (x4 _ _ gc) (gT.ex x4) (gC.ex x4) gK hsn hq e5
            exact hk _ _ ⟨_, _, _, _, _, _, rfl, a1, a2, a3, a4, by rw [hth]; exact a5, by rw [hth]; exact a6⟩
          by_cases hE : ∃ u, nodeAt im (tgI im s) = some u ∧ opB u.1 = true
          · obtain ⟨u, hu, huo⟩ := hE
            rw [hu] at hin
            refine s_if (b := true) (et_is (et_and (a := true) (b := !!opB u.1) (et_test hin) (fun _ => et_not (et_B (ev_call (ea_cons (ev_tbI 0 rfl (ev_var rfl) (fun _ _ => ev_var rfl) (hTb.up x3) hu) ea_nil) v_law_is_nop)))) (by rw [huo]; rfl)) (fun _ G4 e4 => ?_) (fun hb => nomatch hb)
            have x4 := x3.trans e4
            have hnu : nopF im (tgI im s) = false := by rw [nop_iff hu, huo]; rfl
            have hmem : tgI im s ∈ thK im (keysOf (rowsOf im)).length i := by
              unfold thK
              rw [List.take_length]
              refine List.mem_append_left _ (List.mem_filter.mpr ⟨keys_mem.mpr (by rw [hu]; rfl), by rw [hnu]; rfl⟩)
            obtain ⟨q, hq1, hq2⟩ : ∃ q, valV kc (Sum.inl (tgI im s)) = some (.ref q) ∧ SqT K G q ((ndL (thrN im s)).map V.int) := by
              have := gC (tgI im s)
              have e : rsF (thrN im) (thK im (keysOf (rowsOf im)).length i) (tgI im s) = some (thrN im (tgI im s)) := if_pos hmem
              rw [e] at this
              have e2 : thrN im (tgI im s) = thrN im s := by
                show thrE im (tgI im (tgI im s)) = thrE im (tgI im s)
                rw [tgI_non hnu]
              rw [e2] at this
              exact this
            have hget : Ev (tDGet (tVar 1) (tVar 6)) [some (.ref t), some (.ref c), some (.int s), y3, y4, y5, some (.int (tgI im s))] G4 (.ref q) := fun H1 e Q qq => ⟨_, rfl, _, rfl, c, _, rfl, .inl ⟨kc, Sum.inl (tgI im s), .inl (e _ _ (x4 _ _ gc)), rfl, by rw [hq1]⟩, qq H1 (Ex.refl H1)⟩
            refine s_dputI (a := c) (k := s) (ep_of hget) (fun v G5 hv => ?_)
            obtain ⟨rfl, e5⟩ := hv
            have x5 := x4.trans e5
            exact ⟨kc, x5 _ _ gc, fun _ _ => ev_var rfl, fun _ _ => ev_var rfl, klen gK, fun G6 e6 => fin x5 (ex_t x5 hq2) e6⟩
          · refine s_if (b := false) (et_is (et_and (a := (nodeAt im (tgI im s)).isSome) (b := false) (et_test hin) (fun h => ?_)) (by rw [Bool.and_false])) (fun hb => nomatch hb) (fun _ G4 e4 => ?_)
            · obtain ⟨u, hu⟩ := Option.isSome_iff_exists.mp h
              have huo : opB u.1 = false := by
                cases c : opB u.1 with
                | false => rfl
                | true => exact absurd ⟨u, hu, c⟩ hE
              exact et_is (et_not (et_B (ev_call (ea_cons (ev_tbI 0 rfl (ev_var rfl) (fun _ _ => ev_var rfl) (hTb.up x3) hu) ea_nil) v_law_is_nop))) (by rw [huo]; rfl)
            · have x4 := x3.trans e4
              have hth2 : thrN im s = (32, 0, tgI im s) := thrE_nop hE
              refine s_dputI (a := c) (k := s) (P := fun v G5 => ∃ q, v = .ref q ∧ Ex G4 G5 ∧ G5 q = some (.tup ((ndL (thrN im s)).map V.int))) (fun Q q => ?_) (fun v G5 hv => ?_)
              · rw [hth2] at q
                exact (eu_tup (vs := ([32, 0, tgI im s] : List Int).map V.int) (ea_cons ev_c (ea_cons ev_c (ea_cons (ev_var rfl) ea_nil))) (by show 3 ≤ 100000; decide)) G4 (Ex.refl _) _ fun q' G5 nq e5 hq => q _ _ ⟨q', rfl, e5, hq⟩
              obtain ⟨q, rfl, e5, hq⟩ := hv
              have x5 := x4.trans e5
              exact ⟨kc, x5 _ _ gc, fun _ _ => ev_var rfl, fun _ _ => ev_var rfl, klen gK, fun G6 e6 => fin x5 (st_of hq) e6⟩
        · have ho : opB n.1 = true := by simpa using hb
          have hnf : nopF im s = false := by rw [nop_iff hn, ho]; rfl
          rw [hnf, if_neg Bool.false_ne_true] at hth
          exact hk _ _ ⟨kc, _, _, _, _, _, rfl, e2 _ _ gt, fun b o hb h => e2 _ _ (gf b o hb h), e2 _ _ gc, gT.ex e2, by rw [hth]; exact gC.ex e2, by rw [hth]; exact gK⟩
      · rintro σ' G ⟨kc, y2, y3, y4, y5, y6, rfl, gt, gf, gc, gT, gC, gK⟩
        rw [hkk] at gC gK
        refine s_ret (ev_var rfl) fun G1 eg => k c kc _ G1 (thK_perm im) nc (fun b o h => eg _ _ ?_) (eg _ _ (by rw [upd_ne hct]; exact gc)) ((gC.mut gt nt_frz).ex eg) gK
        by_cases z : b = t
        · rw [z] at h ⊢
          rw [hT] at h
          cases h
          exact upd_same
        · rw [upd_ne z]
          exact gf b o z h


end
end K32

set_option Elab.async false
set_option linter.all false
set_option maxRecDepth 100000
set_option maxHeartbeats 4000000
set_option exponentiation.threshold 600
namespace K32
open PySem PySem.Spec PyProof.Rows L2 Evl Gd
/-! ### how expressions are evaluated, without a word of ours -/
local macro_rules | `(tactic| walk_at "ev") => `(tactic| exact ev_c)
local macro_rules | `(tactic| walk_at "ev") => `(tactic| exact ev_var rfl)
local macro_rules | `(tactic| walk_at "ev") => `(tactic| (refine' ev_op ?k1 ?k2 ?k3; (case k1 => walk_at "ev"); (case k2 => walk_at "ev"); (case k3 => walk_at "rv")))
local macro_rules | `(tactic| walk_at "ev") => `(tactic| (refine' ev_cb ?k1 ?k2; (case k1 => walk_at "ea"); (case k2 => walk_at "rc")))
local macro_rules | `(tactic| walk_at "ev") => `(tactic| (refine' ev_call ?k1 ?k2; (case k1 => walk_at "ea"); (case k2 => walk_at "sp")))
local macro_rules | `(tactic| walk_at "ev") => `(tactic| (refine' ev_chain ?k1 ?k2 ?k3 (fun _ => ?k4) (fun _ => ?k5); (case k1 => walk_at "ev"); (case k2 => walk_at "ev"); (case k3 => walk_at "rv"); (case k4 => walk_at "ev"); (case k5 => walk_at "rv")))
local macro_rules | `(tactic| walk_at "ev") => `(tactic| (refine' ev_orV ?k1 (fun _ => ?k2); (case k1 => walk_at "ev"); (case k2 => walk_at "ev")))
local macro_rules | `(tactic| walk_at "ev") => `(tactic| (refine' ev_andV ?k1 (fun _ => ?k2); (case k1 => walk_at "ev"); (case k2 => walk_at "ev")))
local macro_rules | `(tactic| walk_at "ev") => `(tactic| (refine' ev_notV ?k1; (case k1 => walk_at "ev")))
local macro_rules | `(tactic| walk_at "ea") => `(tactic| exact ea_nil)
local macro_rules | `(tactic| walk_at "ea") => `(tactic| (refine' ea_cons ?k1 ?k2; (case k1 => walk_at "ev"); (case k2 => walk_at "ea")))
local macro_rules | `(tactic| walk_at "rv") => `(tactic| exact rv_I0)
local macro_rules | `(tactic| walk_at "rv") => `(tactic| exact rv_eqI)
local macro_rules | `(tactic| walk_at "rv") => `(tactic| exact rv_neI)
local macro_rules | `(tactic| walk_at "rv") => `(tactic| exact rv_eqS)
local macro_rules | `(tactic| walk_at "rv") => `(tactic| exact rv_neS)
local macro_rules | `(tactic| walk_at "rv") => `(tactic| exact rv_mod (by decide))
local macro_rules | `(tactic| walk_at "rv") => `(tactic| exact rv_fdiv (by decide) (by decide))
local macro_rules | `(tactic| walk_at "rv") => `(tactic| exact rv_mulR (by decide))
local macro_rules | `(tactic| walk_at "rv") => `(tactic| exact rv_pow (by decide))
local macro_rules | `(tactic| walk_at "rc") => `(tactic| exact rc_int)
local macro_rules | `(tactic| walk_at "rc") => `(tactic| exact rc_ord)
local macro_rules | `(tactic| walk_at "et") => `(tactic| (refine' et_test ?k1; (case k1 => walk_at "ev")))
local macro_rules | `(tactic| walk_at "et") => `(tactic| (refine' et_B ?k1; (case k1 => walk_at "ev")))
local macro_rules | `(tactic| walk_at "et") => `(tactic| (refine' et_not ?k1; (case k1 => walk_at "et")))
local macro_rules | `(tactic| walk_at "et") => `(tactic| (refine' et_or ?k1 (fun _ => ?k2); (case k1 => walk_at "et"); (case k2 => walk_at "et")))
local macro_rules | `(tactic| walk_at "et") => `(tactic| (refine' et_and ?k1 (fun _ => ?k2); (case k1 => walk_at "et"); (case k2 => walk_at "et")))
section
variable {P : Program} {w : World} {K : PySem.W.Frag} {mg : Str → Option Value} {base : Heap}
def sp_law_folded_node (K : PySem.W.Frag) : Sp := fun vs H Q _ => ∃ (t p a : Addr) (im : List Int) (n s : Nd), vs = [.ref t, .ref p, .ref a] ∧ Tb K H t im ∧ SqT K H p ((ndL n).map V.int) ∧ SqT K H a ((ndL s).map V.int) ∧ ∀ q H2, Ex H H2 → SqT K H2 q ((ndL (foldS (nodeAt im) n s)).map V.int) → Q (.ref q) H2
theorem comb_eq (c : Int) : decide (c ∈ ([42, 43, 45, 60, 126] : List Int)) = decide (c ∈ ([43, 45, 42, 60, 126] : List Int)) := by
  refine decide_eq_decide.mpr ?_
  simp only [List.mem_cons, List.not_mem_nil, or_false]
  constructor <;> intro h <;> omega
theorem ok_law_folded_node (T : Txt K mg) : FnOk P w K mg base CX0 2 T.f_law_folded_node T.d_law_folded_node ["table", "node", "after"] (sp_law_folded_node K) := by
  refine T.F_law_folded_node.ok sc_law_folded_node (fun vs H Q E h => ?_) (fun cdv A outer s H vs Q E hr h => ?_)
  · obtain ⟨t, p, a, im, n, s, rfl, _⟩ := h
    rfl
  · obtain ⟨t, p, a, im, n, s, rfl, hT, hp, ha, k⟩ := h
    refine ⟨_, (pss_cut (ps_if (PW.pt (pw_and (pt_cmpR op_eq (pe_ix ix_tup (pv 2) pe_int (fun _ _ => rfl)) pe_int (nomark _)) (pw_and (pt_cmp (pc_din (hu_of hr) (pe_ix ix_tup (pv 2) pe_int (fun _ _ => rfl)) (pv 0))) (pw_and1 (pt_cmpR op_in_seq (pe_ix ix_tup (pe_dget (hu_of hr) (pv 0) (pe_ix ix_tup (pv 2) pe_int (fun _ _ => rfl)) (fun _ _ => rfl)) pe_int (fun _ _ => rfl)) (pe_lst (pa_cons pe_int (pa_cons pe_int (pa_cons pe_int (pa_cons pe_int (pa_cons pe_int pa_nil)))))) (by rfl)))))) (pss_cons (ps_set (i := 3) sc_law_folded_node.nd rfl (Or.inl rfl) (pe_dget (hu_of hr) (pv 0) (pe_ix ix_tup (pv 2) pe_int (fun _ _ => rfl)) (fun _ _ => rfl)))
        (pss_one (ps_ret (pe_tup (pa_cons pe_int (pa_cons (pe_call (ok_law_combined T) (hr.mono (by decide)) (by rfl) T.g_law_combined T.F_law_combined.kp T.b_law_combined .nil pass0 (pa_cons (pe_ix ix_tup (pv 3) pe_int (fun _ _ => rfl)) (pa_cons (pe_ix ix_tup (pv 1) pe_int (fun _ _ => rfl)) (pa_cons (pe_ix ix_tup (pv 2) pe_int (fun _ _ => rfl)) pa_nil)))) (pa_cons (pe_ix ix_tup (pv 3) pe_int (fun _ _ => rfl)) pa_nil))))))) pss_nil)
        (pss_cons (ps_if (pt_cmpR op_eq (pe_ix ix_tup (pv 2) pe_int (fun _ _ => rfl)) pe_int (nomark _)) (pss_one (ps_ret (pe_tup (pa_cons pe_int (pa_cons pe_int (pa_cons (pe_ix ix_tup (pv 2) pe_int (fun _ _ => rfl)) pa_nil)))))) pss_nil)
        (pss_cons (ps_if (PW.pt (pw_and (pt_cmpR op_eq (pe_ix ix_tup (pv 2) pe_int (fun _ _ => rfl)) pe_int (nomark _)) (pw_and1 (pt_cmpR op_eq (pe_ix ix_tup (pv 1) pe_int (fun _ _ => rfl)) pe_int (nomark _))))) (pss_one (ps_ret (pe_tup (pa_cons pe_int (pa_cons pe_int (pa_cons (pe_ix ix_tup (pv 2) pe_int (fun _ _ => rfl)) pa_nil)))))) pss_nil)
        (pss_cons (ps_if (pt_cmpR op_eq (pe_ix ix_tup (pv 2) pe_int (fun _ _ => rfl)) pe_int (nomark _)) (pss_one (ps_ret (pe_tup (pa_cons pe_int (pa_cons pe_int (pa_cons (pe_ix ix_tup (pv 2) pe_int (fun _ _ => rfl)) pa_nil)))))) pss_nil)
        (pss_one (ps_ret (pv 1))))))), ?_⟩
    unfold foldS at k
    have ixs : ∀ {G : Hp} {σ : L2.St} {q : Addr} {m : Nd} {y : Int} (i j : Nat), σ[i]? = some (some (.ref q)) → SqT K G q ((ndL m).map V.int) → (ndL m)[j]? = some y → Ev (tOp (rIxT K) (tVar i) (tC (.int (j : Int)))) σ G (.int y) := fun {G σ q m y} i j hi hq hy => ev_op (ev_var hi) ev_c (rv_ixT hq (at_of (j := j) rfl (by rw [List.getElem?_map, hy]; rfl)))
    have hin := ev_inTb (K := K) (H := H) (σ := L2.start N_law_folded_node [.ref t, .ref p, .ref a]) (td := tVar 0) (ty := tOp (rIxT K) (tVar 2) (tC (.int 2))) (k := s.2.2) (ixs 2 2 rfl ha rfl) (fun _ _ => ev_var rfl) hT
    refine q_cut (M := fun σ' H1 => Ex H H1 ∧ ¬ (s.1 = 35 ∧ (∃ u, nodeAt im s.2.2 = some u ∧ u.1 ∈ ([43, 45, 42, 60, 126] : List Int))) ∧ ∃ y, σ' = [some (.ref t), some (.ref p), some (.ref a), y]) ?_ ?_
    · by_cases c : s.1 = 35
      · cases hu : nodeAt im s.2.2 with
        | none =>
          rw [hu] at hin
          refine s_when (b := false) (et_is (et_and (a := true) (b := false) (et_is (et_test (ev_op (ixs 2 0 rfl ha rfl) ev_c rv_eqI)) (decide_eq_true c)) (fun _ => et_is (et_and (a := false) (b := false) (et_test hin) (fun h => nomatch h)) rfl)) rfl) (fun hb => nomatch hb) (fun _ H1 e1 => ⟨e1, (fun ⟨_, u, h, _⟩ => by cases h), _, rfl⟩)
        | some u =>
          rw [hu] at hin
          have hin2 : EvT (tTest (tOp (rIn K false) (tOp (rIxT K) (tDGet (tVar 0) (tOp (rIxT K) (tVar 2) (tC (.int 2)))) (tC (.int 0))) (tLst (tCons (tC (.int 42)) (tCons (tC (.int 43)) (tCons (tC (.int 45)) (tCons (tC (.int 60)) (tCons (tC (.int 126)) tNil)))))))) (L2.start N_law_folded_node [.ref t, .ref p, .ref a]) H (decide (u.1 ∈ ([43, 45, 42, 60, 126] : List Int))) := by
            have := ev_opL (r := rIn K false) (H := H) (σ := L2.start N_law_folded_node [.ref t, .ref p, .ref a]) (x := .int u.1) (xs := ([42, 43, 45, 60, 126] : List Int).map V.int) (ta := tOp (rIxT K) (tDGet (tVar 0) (tOp (rIxT K) (tVar 2) (tC (.int 2)))) (tC (.int 0))) (tb := tLst (tCons (tC (.int 42)) (tCons (tC (.int 43)) (tCons (tC (.int 45)) (tCons (tC (.int 60)) (tCons (tC (.int 126)) tNil)))))) (ev_tbI 0 rfl (ev_var rfl) (fun G e => ixs 2 2 rfl (ex_t e ha) rfl) hT hu) (el_lst (ea_cons ev_c (ea_cons ev_c (ea_cons ev_c (ea_cons ev_c (ea_cons ev_c ea_nil))))) (by show 5 ≤ 100000; decide)) (fun q H1 hq _ => rv_inL (neg := false) (sq_of hq) rfl (by simp [flatV]))
            rw [show inV (.int u.1) (([42, 43, 45, 60, 126] : List Int).map V.int) = decide (u.1 ∈ ([42, 43, 45, 60, 126] : List Int)) from inV_ints _ _, comb_eq] at this
            exact et_test this
          refine s_when (b := decide (u.1 ∈ ([43, 45, 42, 60, 126] : List Int))) (et_is (et_and (a := true) (b := decide (u.1 ∈ ([43, 45, 42, 60, 126] : List Int))) (et_is (et_test (ev_op (ixs 2 0 rfl ha rfl) ev_c rv_eqI)) (decide_eq_true c)) (fun _ => et_is (et_and (a := true) (b := decide (u.1 ∈ ([43, 45, 42, 60, 126] : List Int))) (et_test hin) (fun _ => hin2)) rfl)) rfl) (fun hb H1 e1 => ?_) (fun hb H1 e1 => ⟨e1, (fun ⟨_, w, h, hm⟩ => by cases h; exact of_decide_eq_false hb hm), _, rfl⟩)
          rw [if_pos ⟨c, u, hu, of_decide_eq_true hb⟩, hu] at k
          obtain ⟨pu, hpu, heu⟩ := ev_tb (K := K) (H := H1) (σ := L2.start N_law_folded_node [.ref t, .ref p, .ref a]) (td := tVar 0) (ty := tOp (rIxT K) (tVar 2) (tC (.int 2))) (k := s.2.2) (ev_var rfl) (fun _ e => ixs 2 2 rfl (ex_t (e1.trans e) ha) rfl) (hT.up e1) hu
          refine q_asg (v := .ref pu) heu (fun H2 e2 => ?_)
          have hpu2 := ex_t e2 hpu
          have e12 := e1.trans e2
          exact s_retU (xs := ([35, combI u.1 n.2.1 s.2.1, u.2.2] : List Int).map V.int) (eu_tup (ea_cons ev_c (ea_cons (ev_call (ea_cons (ixs 3 0 rfl hpu2 rfl) (ea_cons (ixs 1 1 rfl (ex_t e12 hp) rfl) (ea_cons (ixs 2 1 rfl (ex_t e12 ha) rfl) ea_nil))) v_law_combined) (ea_cons (ixs 3 2 rfl hpu2 rfl) ea_nil))) (by show 3 ≤ 100000; decide)) fun q H7 nq e7 hq => k q H7 (e12.trans e7) (st_of hq)
      · refine s_when (b := false) (et_is (et_and (a := false) (b := false) (et_is (et_test (ev_op (ixs 2 0 rfl ha rfl) ev_c rv_eqI)) (decide_eq_false c)) (fun h => nomatch h)) rfl) (fun hb => nomatch hb) (fun _ H1 e1 => ⟨e1, (fun ⟨h, _⟩ => c h), _, rfl⟩)
    rintro σ' H1 ⟨e1, hno, y, rfl⟩
    rw [if_neg hno] at k
    have ha1 := ex_t e1 ha
    have hp1 := ex_t e1 hp
    refine q_when (b := decide (s.1 = 95)) (et_test (ev_op (ixs 2 0 rfl ha1 rfl) ev_c rv_eqI)) (fun hb H5 e5 => ?_) (fun hb H5 e5 => ?_)
    · rw [if_pos (of_decide_eq_true hb)] at k
      exact s_retU (xs := ([32, 0, s.2.2] : List Int).map V.int) (eu_tup (ea_cons ev_c (ea_cons ev_c (ea_cons (ixs 2 2 rfl (ex_t e5 ha1) rfl) ea_nil))) (by show 3 ≤ 100000; decide)) fun q H7 nq e7 hq => k q H7 (e1.trans (e5.trans e7)) (st_of hq)
    rw [if_neg (of_decide_eq_false hb)] at k
    have ha5 := ex_t e5 ha1
    have hp5 := ex_t e5 hp1
    refine q_when (b := decide (s.1 = 63) && decide (n.2.1 = 0)) (et_and (et_test (ev_op (ixs 2 0 rfl ha5 rfl) ev_c rv_eqI)) (fun _ => et_test (ev_op (ixs 1 1 rfl hp5 rfl) ev_c rv_eqI))) (fun hb H6 e6 => ?_) (fun hb H6 e6 => ?_)
    · simp only [Bool.and_eq_true, decide_eq_true_eq] at hb
      rw [if_pos hb.1, if_pos hb.2] at k
      exact s_retU (xs := ([32, 0, s.2.1] : List Int).map V.int) (eu_tup (ea_cons ev_c (ea_cons ev_c (ea_cons (ixs 2 1 rfl (ex_t e6 ha5) rfl) ea_nil))) (by show 3 ≤ 100000; decide)) fun q H7 nq e7 hq => k q H7 (e1.trans (e5.trans (e6.trans e7))) (st_of hq)
    have ha6 := ex_t e6 ha5
    refine q_when (b := decide (s.1 = 63)) (et_test (ev_op (ixs 2 0 rfl ha6 rfl) ev_c rv_eqI)) (fun hb2 H7 e7 => ?_) (fun hb2 H7 e7 => ?_)
    · rw [if_pos (of_decide_eq_true hb2), if_neg (fun z => by rw [decide_eq_true z, hb2] at hb; cases hb)] at k
      exact s_retU (xs := ([32, 0, s.2.2] : List Int).map V.int) (eu_tup (ea_cons ev_c (ea_cons ev_c (ea_cons (ixs 2 2 rfl (ex_t e7 ha6) rfl) ea_nil))) (by show 3 ≤ 100000; decide)) fun q H8 nq e8 hq => k q H8 (e1.trans (e5.trans (e6.trans (e7.trans e8)))) (st_of hq)
    · rw [if_neg (of_decide_eq_false hb2)] at k
      have ee := e1.trans (e5.trans (e6.trans e7))
      exact s_ret (ev_var rfl) fun H8 e8 => k p H8 (ee.trans e8) (ex_t (ee.trans e8) hp)
def sp_law_folded (K : PySem.W.Frag) : Sp := fun vs H Q _ => ∃ (t : Addr) (kvs : List (Key × V)) (im : List Int), vs = [.ref t] ∧ DictOf K im H t kvs ∧ (rowsOf im).length ≤ 20 ∧ MadeA K (foldN im) (keysOf (rowsOf im)) H Q
theorem ok_law_folded (T : Txt K mg) : FnOk P w K mg base CX0 3 T.f_law_folded T.d_law_folded ["table"] (sp_law_folded K) := by
  refine T.F_law_folded.ok sc_law_folded (fun vs H Q E h => ?_) (fun cdv A outer s H vs Q E hr h => ?_)
  · obtain ⟨t, kvs, im, rfl, _⟩ := h
    rfl
  · obtain ⟨t, kvs, im, rfl, hD, hrw, k⟩ := h
    refine ⟨_, (pss_cons (ps_set (i := 1) sc_law_folded.nd rfl (Or.inl rfl) pe_dnewK)
        (pss_cons (ps_lock (ps_for PassesOwn.never rfl (pi_keys (pv 0)) (pg_name (i := 2) sc_law_folded.nd rfl (Or.inl rfl)) (pss_cons (ps_set (i := 3) sc_law_folded.nd rfl (Or.inl rfl) (pe_dget (hu_of hr) (pv 0) (pv 2) (fun _ _ => rfl)))
        (pss_cons (ps_dput (hu_of hr) (pv 1) (pv 2) (pv 3) rfl)
        (pss_one (ps_if (PW.pt (pw_and (pt_cmpR op_eq (pe_ix ix_tup (pv 3) pe_int (fun _ _ => rfl)) pe_int (nomark _)) (pw_and1 (pt_cmp (pc_din (hu_of hr) (pe_ix ix_tup (pv 3) pe_int (fun _ _ => rfl)) (pv 0)))))) (pss_one (ps_dput (hu_of hr) (pv 1) (pv 2) (pe_call (ok_law_folded_node T) (hr.mono (by decide)) (by rfl) T.g_law_folded_node T.F_law_folded_node.kp T.b_law_folded_node .nil pass0 (pa_cons (pv 0) (pa_cons (pv 3) (pa_cons (pe_dget (hu_of hr) (pv 0) (pe_ix ix_tup (pv 3) pe_int (fun _ _ => rfl)) (fun _ _ => rfl)) pa_nil)))) rfl)) pss_nil))))))
        (pss_one (ps_ret (pv 1))))), ?_⟩
    have hkk := hD.len
    have hkl := keys_len (rowsOf im)
    obtain ⟨hT, hTab, hKeys⟩ := hD
    have hnd := keys_nodup (rowsOf im)
    refine q_dnew (fun c nc => ?_)
    have hct : c ≠ t := fun z => by rw [z, hT] at nc; cases nc
    refine q_forDg (d := t) (kvs := kvs) (by rw [upd_ne hct.symm]; exact hT) (fun G => ev_var rfl) (fun od => ⟨fun i σ' G => ∃ (kc : List (Key × V)) (y2 y3 : Option V), σ' = [some (.ref t), some (.ref c), y2, y3] ∧ G t = some (.frz od (.dK kvs)) ∧ (∀ b o, b ≠ t → H b = some o → G b = some o) ∧ G c = some (.dK kc) ∧ TabT K G kvs (nodeAt im) ∧ TabT K G kc (rsF (foldN im) ((keysOf (rowsOf im)).take i)) ∧ kc.map (·.1) = ((keysOf (rowsOf im)).take i).map Sum.inl, ?_, ?_, ?_, ?_⟩)
    · intro G eG
      refine ⟨[], none, none, rfl, eG _ _ upd_same, fun b o hb h => eG _ _ (by rw [upd_ne hb, upd_ne (ne_of_none h nc)]; exact h), eG _ _ (by rw [upd_ne hct]; exact upd_same), ?_, by rw [List.take_zero]; exact tab_nil _, rfl⟩
      exact ((hTab.ex (Ex.new nc)).mut (p := t) (o := .dK kvs) (by rw [upd_ne hct.symm]; exact hT) nt_dK).ex eG
    · rintro i σ' G ⟨kc, _, _, rfl, h, _⟩
      exact h
    · rintro i kv σ' G D' hkv ⟨kc, y2, y3, rfl, gt, gf, gc, gT, gC, gK⟩ hk
      obtain ⟨s, hs1, hkv1⟩ := key_at hKeys hkv
      rw [hkv1]
      have hi20 : i < 20 := by have := (List.getElem?_eq_some_iff.mp hs1).1; omega
      have hkc : kc.length < 100 := by
        have := congrArg List.length gK
        rw [List.length_map, List.length_map, List.length_take] at this
        omega
      show tSeq _ _ _ [some (.ref t), some (.ref c), some (.int s), y3] G
      obtain ⟨n, hn⟩ := key_node hs1
      have hTb : Tb K G t im := ⟨kvs, .inr ⟨od, gt⟩, gT, hKeys⟩
      obtain ⟨pn, hpn, hen⟩ := ev_tb (K := K) (H := G) (σ := [some (.ref t), some (.ref c), some (.int s), y3]) (td := tVar 0) (ty := tVar 2) (ev_var rfl) (fun _ _ => ev_var rfl) hTb hn
      refine q_asg (v := .ref pn) hen (fun G1 e1 => ?_)
      refine q_dputI (a := c) (k := s) (ep_of (v := .ref pn) (ev_var rfl)) (fun v G2 hv => ?_)
      obtain ⟨rfl, e2⟩ := hv
      have x2 := e1.trans e2
      refine ⟨kc, x2 _ _ gc, fun _ _ => ev_var rfl, fun _ _ => ev_var rfl, by omega, fun G3 e3 => ?_⟩
      have x3 := x2.trans e3
      have hg1 : TabT K (upd G3 c (.dK (putK kc (Sum.inl s) (.ref pn)))) (putK kc (Sum.inl s) (.ref pn)) (fun x => if x = s then some n else rsF (foldN im) ((keysOf (rowsOf im)).take i) x) := TabT.mut (tab_put (n := n) (gC.ex x3) (ex_t x3 hpn) (fun _ => rfl)) (x3 _ _ gc) nt_dK
      have hgK : (putK kc (Sum.inl s) (V.ref pn)).map (·.1) = ((keysOf (rowsOf im)).take (i + 1)).map Sum.inl := by
        rw [← addK_take hnd hs1]
        exact putK_keys gK s _
      have hgT : TabT K (upd G3 c (.dK (putK kc (Sum.inl s) (.ref pn)))) kvs (nodeAt im) := (gT.ex x3).mut (x3 _ _ gc) nt_dK
      have hgt : (upd G3 c (.dK (putK kc (Sum.inl s) (.ref pn)))) t = some (.frz od (.dK kvs)) := by rw [upd_ne hct.symm]; exact x3 _ _ gt
      have hgf : ∀ b o, b ≠ t → H b = some o → (upd G3 c (.dK (putK kc (Sum.inl s) (.ref pn)))) b = some o := fun b o hb h => by rw [upd_ne (ne_of_none h nc)]; exact x3 _ _ (gf b o hb h)
      have hgc : (upd G3 c (.dK (putK kc (Sum.inl s) (.ref pn)))) c = some (.dK (putK kc (Sum.inl s) (.ref pn))) := upd_same
      have hgp : SqT K (upd G3 c (.dK (putK kc (Sum.inl s) (.ref pn)))) pn ((ndL n).map V.int) := sqT_bu (Bu.refl.upd (.inl (List.mem_singleton.mpr rfl))) (fun c2 m => by rw [List.mem_singleton.mp m]; exact ⟨_, x3 _ _ gc, nt_dK⟩) (ex_t x3 hpn)
      have hlen2 : (putK kc (Sum.inl s) (V.ref pn)).length < 100000 := by have := length_putK kc (Sum.inl s) (V.ref pn); omega
      generalize putK kc (Sum.inl s) (V.ref pn) = kc2 at hg1 hgK hgT hgt hgf hgc hgp hlen2
      generalize upd G3 c (.dK kc2) = G4 at hg1 hgT hgt hgf hgc hgp
      have hTb4 : Tb K G4 t im := ⟨kvs, .inr ⟨od, hgt⟩, hgT, hKeys⟩
      have ixs : ∀ {G : Hp} {y : Int} (j : Nat), Ex G4 G → (ndL n)[j]? = some y → Ev (tOp (rIxT K) (tVar 3) (tC (.int (j : Int)))) [some (.ref t), some (.ref c), some (.int s), some (.ref pn)] G (.int y) := fun {G y} j e hy => ev_op (ev_var rfl) ev_c (rv_ixT (ex_t e hgp) (at_of (j := j) rfl (by rw [List.getElem?_map, hy]; rfl)))
      have hF : foldN im s = foldM (nodeAt im) n := by unfold foldN; rw [nodeD_at hn]
      have hin := ev_inTb (K := K) (H := G4) (σ := [some (.ref t), some (.ref c), some (.int s), some (.ref pn)]) (td := tVar 0) (ty := tOp (rIxT K) (tVar 3) (tC (.int 2))) (k := n.2.2) (ixs 2 (Ex.refl _) rfl) (fun _ _ => ev_var rfl) hTb4
      refine s_when (b := decide (n.1 = 35) && (nodeAt im n.2.2).isSome) (et_and (et_test (ev_op (ixs 0 (Ex.refl _) rfl) ev_c rv_eqI)) (fun _ => et_test hin)) (fun hb G5 e5 => ?_) (fun hb G5 e5 => ?_)
      · simp only [Bool.and_eq_true, decide_eq_true_eq] at hb
        obtain ⟨m, hm⟩ := Option.isSome_iff_exists.mp hb.2
        obtain ⟨pm, hpm, hem⟩ := ev_tb (K := K) (H := G5) (σ := [some (.ref t), some (.ref c), some (.int s), some (.ref pn)]) (td := tVar 0) (ty := tOp (rIxT K) (tVar 3) (tC (.int 2))) (k := n.2.2) (ev_var rfl) (fun _ e => ixs 2 (e5.trans e) rfl) (hTb4.up e5) hm
        rw [fold_S hb.1 hm] at hF
        refine s_dputI (a := c) (k := s) (P := fun v G6 => ∃ q, v = .ref q ∧ Ex G5 G6 ∧ SqT K G6 q ((ndL (foldN im s)).map V.int)) (ep_call (ea_cons (ev_var rfl) (ea_cons (ev_var rfl) (ea_cons hem ea_nil))) fun G6 e6 Q q => ⟨t, pn, pm, im, n, m, rfl, hTb4.up (e5.trans e6), ex_t (e5.trans e6) hgp, ex_t e6 hpm, fun q' G7 e7 hq => q _ _ ⟨q', rfl, e6.trans e7, by rw [hF]; exact hq⟩⟩) (fun v G6 hv => ?_)
        obtain ⟨q, rfl, e6, hq⟩ := hv
        have x6 := e5.trans e6
        refine ⟨kc2, x6 _ _ hgc, fun _ _ => ev_var rfl, fun _ _ => ev_var rfl, hlen2, fun G7 e7 => hk _ _ ?_⟩
        have x7 := x6.trans e7
        refine ⟨_, _, _, rfl, by rw [upd_ne hct.symm]; exact x7 _ _ hgt, fun b o hb h => by rw [upd_ne (ne_of_none h nc)]; exact x7 _ _ (hgf b o hb h), upd_same, (hgT.ex x7).mut (x7 _ _ hgc) nt_dK, TabT.mut (tab_put (n := foldN im s) (hg1.ex x7) (ex_t e7 hq) (fun x => ?_)) (x7 _ _ hgc) nt_dK, ?_⟩
        · rw [← addK_take hnd hs1, rsF_add]
          by_cases z : x = s
          · rw [if_pos z, if_pos z]
          · rw [if_neg z, if_neg z, if_neg z]
        · have := putK_keys hgK s (V.ref q)
          rw [addK_old (by rw [take_snoc hs1]; exact List.mem_append_right _ (List.mem_singleton.mpr rfl))] at this
          exact this
      · have hno : ¬ (n.1 = 35 ∧ (nodeAt im n.2.2).isSome = true) := fun ⟨h1, h2⟩ => by
          rw [decide_eq_true h1, h2] at hb
          cases hb
        rw [fold_no hno] at hF
        refine hk _ _ ⟨kc2, _, _, rfl, e5 _ _ hgt, fun b o hb h => e5 _ _ (hgf b o hb h), e5 _ _ hgc, hgT.ex e5, ?_, hgK⟩
        have he : rsF (foldN im) ((keysOf (rowsOf im)).take (i + 1)) = fun x => if x = s then some n else rsF (foldN im) ((keysOf (rowsOf im)).take i) x := funext fun x => by
          rw [← addK_take hnd hs1, rsF_add, hF]
        rw [he]
        exact hg1.ex e5
    · rintro σ' G ⟨kc, y2, y3, rfl, gt, gf, gc, gT, gC, gK⟩
      rw [hkk, List.take_length] at gC gK
      refine s_ret (ev_var rfl) fun G1 eg => k c kc _ G1 (List.Perm.refl _) nc (fun b o h => eg _ _ ?_) (eg _ _ (by rw [upd_ne hct]; exact gc)) ((gC.mut gt nt_frz).ex eg) gK
      by_cases z : b = t
      · rw [z] at h ⊢
        rw [hT] at h
        cases h
        exact upd_same
      · rw [upd_ne z]
        exact gf b o z h
def sp_law_pruned (K : PySem.W.Frag) : Sp := fun vs H Q _ => ∃ (t : Addr) (im ks : List Int), vs = [.ref t] ∧ Tb K H t im ∧ (rowsOf im).length ≤ 20 ∧ CL im ks ∧ MadeA K (nodeD im) (pruK im ks) H Q
theorem ok_law_pruned (T : Txt K mg) : FnOk P w K mg base CX0 3 T.f_law_pruned T.d_law_pruned ["table"] (sp_law_pruned K) := by
  refine T.F_law_pruned.ok sc_law_pruned (fun vs H Q E h => ?_) (fun cdv A outer s H vs Q E hr h => ?_)
  · obtain ⟨t, im, ks, rfl, _⟩ := h
    rfl
  · obtain ⟨t, im, ks, rfl, hTb, hrw, hC, k⟩ := h
    refine ⟨_, (pss_cons (ps_set (i := 1) sc_law_pruned.nd rfl (Or.inl rfl) pe_dnewK)
        (pss_cons (ps_for PassesOwn.never rfl (pi_list (pe_call (ok_law_reached T) (hr.mono (by decide)) (by rfl) T.g_law_reached T.F_law_reached.kp T.b_law_reached .nil pass0 (pa_cons (pv 0) pa_nil))) (pg_name (i := 2) sc_law_pruned.nd rfl (Or.inl rfl)) (pss_one (ps_if (pt_cmp (pc_din (hu_of hr) (pv 2) (pv 0))) (pss_one (ps_dput (hu_of hr) (pv 1) (pv 2) (pe_dget (hu_of hr) (pv 0) (pv 2) (fun _ _ => rfl)) rfl)) pss_nil)))
        (pss_one (ps_ret (pv 1))))), ?_⟩
    have hlen := hC.len
    have hsl := srt_len ks
    refine q_dnew (fun c nc => ?_)
    have x0 : Ex H (upd H c (.dK [])) := Ex.new nc
    have c0 : (upd H c (.dK [])) c = some (.dK []) := upd_same
    show tSeq _ _ _ [some (.ref t), some (.ref c), none] (upd H c (.dK []))
    generalize upd H c (.dK []) = H0 at x0 c0
    refine q_forNLn (el_call (ea_cons (ev_var rfl) ea_nil) (l_law_reached (hTb.up x0) hrw hC)) (fun l i σ' G => H0 l = none ∧ G l = some (.lst ((Gd.srt ks).map V.int)) ∧ Ex H G ∧ ∃ (kc : List (Key × V)) (y2 : Option V), σ' = [some (.ref t), some (.ref c), y2] ∧ G c = some (.dK kc) ∧ TabT K G kc (rsF (nodeD im) (((Gd.srt ks).take i).filter fun k => (nodeAt im k).isSome)) ∧ kc.map (·.1) = (((Gd.srt ks).take i).filter fun k => (nodeAt im k).isSome).map Sum.inl) ?_ ?_ ?_ ?_
    · intro l G nl e hl
      exact ⟨nl, hl, x0.trans e, [], none, rfl, e _ _ c0, by rw [List.take_zero]; exact tab_nil _, rfl⟩
    · rintro l i σ' G _ ⟨_, h, _⟩
      exact sq_of h
    · rintro l i v σ' G hv ⟨nl, hl, x1, kc, y2, rfl, gc, gC, gK⟩
      obtain ⟨s, hs1, rfl⟩ := map_at hv
      have hi : i < 64 := by have := (List.getElem?_eq_some_iff.mp hs1).1; omega
      have hlc : l ≠ c := fun z => by rw [z, c0] at nl; cases nl
      have hkc : kc.length < 100000 := by
        have := congrArg List.length gK
        have h2 := List.length_filter_le (fun k => (nodeAt im k).isSome) ((Gd.srt ks).take i)
        rw [List.length_map, List.length_map] at this
        rw [List.length_take] at h2
        omega
      have hfs := filter_snoc (fun k => (nodeAt im k).isSome) hs1
      refine s_when (b := (nodeAt im s).isSome) (et_test (ev_inTb (ev_var rfl) (fun _ _ => ev_var rfl) (hTb.up x1))) (fun hb G2 x2 => ?_) (fun hb G2 x2 => ?_)
      · obtain ⟨n, hn⟩ := Option.isSome_iff_exists.mp hb
        rw [if_pos hb, ← addK_new (filter_new _ hC.snd hs1)] at hfs
        obtain ⟨pn, hpn, hen⟩ := ev_tb (K := K) (H := G2) (σ := [some (.ref t), some (.ref c), some (.int s)]) (td := tVar 0) (ty := tVar 2) (ev_var rfl) (fun _ _ => ev_var rfl) (hTb.up (x1.trans x2)) hn
        refine s_dputI (a := c) (k := s) (ep_of hen) (fun v G3 hv => ?_)
        obtain ⟨rfl, x3⟩ := hv
        have x23 := x2.trans x3
        refine ⟨kc, x23 _ _ gc, fun _ _ => ev_var rfl, fun _ _ => ev_var rfl, hkc, fun G4 x4 => ?_⟩
        have x24 := x23.trans x4
        refine ⟨nl, by rw [upd_ne hlc]; exact x24 _ _ hl, Ex.mut (x1.trans x24) nc, _, _, rfl, upd_same, ?_, ?_⟩
        · refine TabT.mut ?_ (x24 _ _ gc) nt_dK
          refine tab_put (n := nodeD im s) (gC.ex x24) (by rw [nodeD_at hn]; exact ex_t (x3.trans x4) hpn) ?_
          rw [hfs]
          exact rsF_add _ _ _
        · rw [hfs]
          exact putK_keys gK s _
      · rw [if_neg (by rw [hb]; exact Bool.false_ne_true), List.append_nil] at hfs
        exact ⟨nl, x2 _ _ hl, x1.trans x2, kc, _, rfl, x2 _ _ gc, by rw [hfs]; exact gC.ex x2, by rw [hfs]; exact gK⟩
    · rintro l σ' G ⟨nl, hl, x1, kc, y2, rfl, gc, gC, gK⟩
      rw [List.length_map, List.take_length] at gC gK
      exact s_ret (ev_var rfl) fun G1 eg => k c kc _ G1 (List.Perm.refl _) nc (x1.trans eg) (eg _ _ gc) (gC.ex eg) gK


end
end K32

set_option Elab.async false
set_option linter.all false
set_option maxRecDepth 100000
set_option maxHeartbeats 4000000
set_option exponentiation.threshold 600
namespace K32
open PySem PySem.Spec PyProof.Rows L2 Evl Gd
/-! ### how expressions are evaluated, without a word of ours -/
local macro_rules | `(tactic| walk_at "ev") => `(tactic| exact ev_c)
local macro_rules | `(tactic| walk_at "ev") => `(tactic| exact ev_var rfl)
local macro_rules | `(tactic| walk_at "ev") => `(tactic| (refine' ev_op ?k1 ?k2 ?k3; (case k1 => walk_at "ev"); (case k2 => walk_at "ev"); (case k3 => walk_at "rv")))
local macro_rules | `(tactic| walk_at "ev") => `(tactic| (refine' ev_cb ?k1 ?k2; (case k1 => walk_at "ea"); (case k2 => walk_at "rc")))
local macro_rules | `(tactic| walk_at "ev") => `(tactic| (refine' ev_call ?k1 ?k2; (case k1 => walk_at "ea"); (case k2 => walk_at "sp")))
local macro_rules | `(tactic| walk_at "ev") => `(tactic| (refine' ev_chain ?k1 ?k2 ?k3 (fun _ => ?k4) (fun _ => ?k5); (case k1 => walk_at "ev"); (case k2 => walk_at "ev"); (case k3 => walk_at "rv"); (case k4 => walk_at "ev"); (case k5 => walk_at "rv")))
local macro_rules | `(tactic| walk_at "ev") => `(tactic| (refine' ev_orV ?k1 (fun _ => ?k2); (case k1 => walk_at "ev"); (case k2 => walk_at "ev")))
local macro_rules | `(tactic| walk_at "ev") => `(tactic| (refine' ev_andV ?k1 (fun _ => ?k2); (case k1 => walk_at "ev"); (case k2 => walk_at "ev")))
local macro_rules | `(tactic| walk_at "ev") => `(tactic| (refine' ev_notV ?k1; (case k1 => walk_at "ev")))
local macro_rules | `(tactic| walk_at "ea") => `(tactic| exact ea_nil)
local macro_rules | `(tactic| walk_at "ea") => `(tactic| (refine' ea_cons ?k1 ?k2; (case k1 => walk_at "ev"); (case k2 => walk_at "ea")))
local macro_rules | `(tactic| walk_at "rv") => `(tactic| exact rv_I0)
local macro_rules | `(tactic| walk_at "rv") => `(tactic| exact rv_eqI)
local macro_rules | `(tactic| walk_at "rv") => `(tactic| exact rv_neI)
local macro_rules | `(tactic| walk_at "rv") => `(tactic| exact rv_eqS)
local macro_rules | `(tactic| walk_at "rv") => `(tactic| exact rv_neS)
local macro_rules | `(tactic| walk_at "rv") => `(tactic| exact rv_mod (by decide))
local macro_rules | `(tactic| walk_at "rv") => `(tactic| exact rv_fdiv (by decide) (by decide))
local macro_rules | `(tactic| walk_at "rv") => `(tactic| exact rv_mulR (by decide))
local macro_rules | `(tactic| walk_at "rv") => `(tactic| exact rv_pow (by decide))
local macro_rules | `(tactic| walk_at "rc") => `(tactic| exact rc_int)
local macro_rules | `(tactic| walk_at "rc") => `(tactic| exact rc_ord)
local macro_rules | `(tactic| walk_at "et") => `(tactic| (refine' et_test ?k1; (case k1 => walk_at "ev")))
local macro_rules | `(tactic| walk_at "et") => `(tactic| (refine' et_B ?k1; (case k1 => walk_at "ev")))
local macro_rules | `(tactic| walk_at "et") => `(tactic| (refine' et_not ?k1; (case k1 => walk_at "et")))
local macro_rules | `(tactic| walk_at "et") => `(tactic| (refine' et_or ?k1 (fun _ => ?k2); (case k1 => walk_at "et"); (case k2 => walk_at "et")))
local macro_rules | `(tactic| walk_at "et") => `(tactic| (refine' et_and ?k1 (fun _ => ?k2); (case k1 => walk_at "et"); (case k2 => walk_at "et")))
section
variable {P : Program} {w : World} {K : PySem.W.Frag} {mg : Str → Option Value} {base : Heap}
theorem ne_same {G : Hp} {σ : L2.St} {ta tb : TE} {im : List Int} (h1 : EvD K ta σ G (.list (im.map PyData.int))) (h2 : EvD K tb σ G (.list (im.map PyData.int))) : Ev (tOp (rNeD K) ta tb) σ G (.bl false) := by
  have := ev_neD h1 h2 (shaped_ints _) (shaped_ints _)
  rw [eqv_refl_ints, decide_eq_true rfl] at this
  exact this
theorem eq_same {G : Hp} {σ : L2.St} {ta tb : TE} {im : List Int} (h1 : EvD K ta σ G (.list (im.map PyData.int))) (h2 : EvD K tb σ G (.list (im.map PyData.int))) : Ev (tOp (rEqD K) ta tb) σ G (.bl true) := by
  have := ev_eqD h1 h2 (shaped_ints _) (shaped_ints _)
  rw [eqv_refl_ints, decide_eq_true rfl] at this
  exact this
def sp_law_is_due (K : PySem.W.Frag) : Sp := fun vs H Q _ => ∃ (a d p c : Addr) (ys im : List Int), vs = [.ref a, .ref d, .ref p, .ref c] ∧ H a = some (.lst (ys.map V.int)) ∧ ys.length < 100000 ∧ SqL K H d (ys.map V.int) ∧ SqL K H p (im.map V.int) ∧ SqL K H c (im.map V.int) ∧ p ≠ a ∧ c ≠ a ∧ ∀ H', But a H H' → Q (.bl true) H'
theorem ok_law_is_due (T : Txt K mg) : FnOk P w K mg base CX0 3 T.f_law_is_due T.d_law_is_due ["actual", "due", "passed", "cells"] (sp_law_is_due K) := by
  refine T.F_law_is_due.ok sc_law_is_due (fun vs H Q E h => ?_) (fun cdv A outer s H vs Q E hr h => ?_)
  · obtain ⟨a, d, p, c, ys, im, rfl, _⟩ := h
    rfl
  · obtain ⟨a, d, p, c, ys, im, rfl, ha, hz, hd, hp, hc, npa, nca, k⟩ := h
    refine ⟨_, (pss_cons (ps_if (PW.pt (pw_or (pt_not (pt_val (pe_call (ok_law_is_cells T) (hr.mono (by decide)) (by rfl) T.g_law_is_cells T.F_law_is_cells.kp T.b_law_is_cells .nil pass0 (pa_cons (pv 0) pa_nil)))) (pw_or (pt_cmpR (op_neD hr.units) (pv 0) (pv 1) (nomark _)) (pw_or1 (pt_cmpR (op_neD hr.units) (pv 2) (pv 3) (nomark _)))))) (pss_one (ps_ret pe_bl)) pss_nil)
        (pss_cons (ps_expr (pe_bm PySem.F.plainAttrs_list PySem.F.slot_list_append PySem.F.type_list_append mt_append (pv 0) (pa_cons pe_int pa_nil)))
        (pss_one (ps_ret (pe_cmpR (op_eqD hr.units) (pv 2) (pv 3) (nomark _)))))), ?_⟩
    refine q_when (b := false) (et_is (et_or (a := false) (b := false) (et_is (et_not (et_B (ev_call (ea_cons (ev_var rfl) ea_nil) (v_law_is_cells ha)))) rfl) (fun _ => et_is (et_or (a := false) (b := false) (et_test (ne_same (ed_ev (ev_var rfl) (dp_ints (sq_of ha))) (ed_ev (ev_var rfl) (dp_ints hd)))) (fun _ => et_test (ne_same (ed_ev (ev_var rfl) (dp_ints hp)) (ed_ev (ev_var rfl) (dp_ints hc))))) rfl)) rfl) (fun hb => nomatch hb) (fun _ H1 e1 => ?_)
    refine q_app (e1 _ _ ha) (ev_var rfl) ev_c (by rw [List.length_map]; exact hz) (fun H2 e2 => ?_)
    have b2 : But a H (upd H2 a (.lst (ys.map V.int ++ [.int 9]))) := (ex_but (e1.trans e2)).trans But.upd
    exact s_ret (eq_same (ed_ev (ev_var rfl) (dp_ints (b2.seq npa hp))) (ed_ev (ev_var rfl) (dp_ints (b2.seq nca hc)))) fun H3 e3 => k H3 (b2.trans (ex_but e3))
/-- _law_is_due(f(passed), due[i], passed, cells) -/
theorem due_at {H : Hp} {σ : L2.St} {spf : Sp} {a c d l pa ps ca : Addr} {ys im : List Int} {xs : List V} {i : Nat} {y : List (Option V)} (hf : SpL spf [.ref ps] H (ys.map V.int)) (hl : H l = some (.lst xs)) (hx : xs[i]? = some (.ref d)) (hd : H d = some (.lst (ys.map V.int))) (hps : H ps = some (.lst (im.map V.int))) (hca : H ca = some (.lst (im.map V.int))) (hz : ys.length < 100000)
    (h6 : σ[6]? = some (some (.ref ps))) (h5 : σ[5]? = some (some (.ref l))) (h3 : σ[3]? = some (some (.ref ca))) :
    EtP (tNot (tB (tCall (sp_law_is_due K) [] E0 (tCons (tCall spf [] E0 (tCons (tVar 6) tNil)) (tCons (tOp (rIxL K) (tVar 5) (tC (.int (i : Int)))) (tCons (tVar 6) (tCons (tVar 3) tNil))))))) σ H (fun b H' => b = false ∧ Ex H H') := fun Q q => by
  refine (el_call (ea_cons (ev_var h6) ea_nil) hf) H (Ex.refl H) _ fun p H1 np e1 hp => ?_
  refine (ev_op (ev_var h5) ev_c (rv_ixL (sq_of (e1 _ _ hl)) (at_of (j := i) rfl hx))) H1 (Ex.refl H1) _ fun H2 e2 => ?_
  have e12 := e1.trans e2
  refine ⟨_, h6, _, h3, p, d, ps, ca, ys, im, rfl, e2 _ _ hp, hz, sq_of (e12 _ _ hd), sq_of (e12 _ _ hps), sq_of (e12 _ _ hca), ne_of_none hps np, ne_of_none hca np, fun H3 b3 => ⟨true, rfl, q _ _ ⟨rfl, fun b o h => b3 _ _ (ne_of_none h np) (e12 _ _ h)⟩⟩⟩
theorem el_writtenA {H : Hp} {σ : L2.St} {te : TE} {F : Int → Nd} {ks : List Int} {sp : Sp} (hsp : ∀ {t : Addr} {f : Int → Option Nd} {ks : List Int} {H : Hp}, Tf K H t f ks → ks.length < 64 → (∀ k ∈ ks, (f k).isSome = true) → SpL sp [.ref t] H ((wrK f ks).map V.int)) (hl : ks.length < 64)
    (h : ∀ G, Ex H G → EvP te σ G (fun v G' => ∃ c kc ls, List.Perm ls ks ∧ v = .ref c ∧ Ex G G' ∧ G' c = some (.dK kc) ∧ TabT K G' kc (rsF F ls) ∧ kc.map (·.1) = ls.map Sum.inl)) : EvL (tCall sp [] E0 (tCons te tNil)) σ H ((wrN F ks).map V.int) := fun H1 e Q q => h H1 e _ fun v H2 hv => by
  obtain ⟨c, kc, ls, hp, rfl, e2, hc, hT, hK⟩ := hv
  have := hsp (t := c) (f := rsF F ls) (ks := ls) (H := H2) ⟨kc, .inl hc, hT, hK⟩ (by rw [hp.length_eq]; exact hl) rs_some H2 (Ex.refl H2) Q (fun p H3 np e3 hp2 => q p H3 (fresh_back e2 np) (e2.trans e3) (by rw [← wrN_perm hp, ← wrK_rs]; exact hp2)) E0
  exact this
def sp_law (K : PySem.W.Frag) : Sp := fun vs H Q _ => ∃ (a : Addr) (ns : List Int), vs = [.ref a] ∧ SqL K H a (ns.map V.int) ∧ ns.length ≤ 63 ∧ ∀ H', Q (.bl true) H'
theorem ok_law (T : Txt K mg) : FnOk P w K mg base CX0 7 T.f_law T.d_law ["script"] (sp_law K) := by
  refine T.F_law.ok sc_law (fun vs H Q E h => ?_) (fun cdv A outer s H vs Q E hr h => ?_)
  · obtain ⟨a, ns, rfl, _⟩ := h
    rfl
  · obtain ⟨a, ns, rfl, hS, hl, k⟩ := h
    refine ⟨_, (pss_cons (ps_set (i := 1) sc_law.nd rfl (Or.inl rfl) (pe_call (ok_law_draws T) (hr.mono (by decide)) (by rfl) T.g_law_draws T.F_law_draws.kp T.b_law_draws .nil pass0 (pa_cons (pv 0) pa_nil)))
        (pss_cons (ps_set (i := 2) sc_law.nd rfl (Or.inl rfl) pe_int)
        (pss_cut (ps_if (pt_cmpR op_eq (pe_call (ok_law_pick T) (hr.mono (by decide)) (by rfl) T.g_law_pick T.F_law_pick.kp T.b_law_pick .nil pass0 (pa_cons (pv 1) (pa_cons pe_int pa_nil))) pe_int (nomark _)) (pss_one (ps_set (i := 2) sc_law.nd rfl (Or.inl rfl) pe_int)) pss_nil)
        (pss_cons (ps_set (i := 3) sc_law.nd rfl (Or.inl rfl) (pe_call (ok_law_image T) (hr.mono (by decide)) (by rfl) T.g_law_image T.F_law_image.kp T.b_law_image .nil pass0 (pa_cons (pv 1) (pa_cons pe_int (pa_cons (pv 2) pa_nil)))))
        (pss_cut (ps_if (pt_cmpR op_eq (pe_call (ok_law_pick T) (hr.mono (by decide)) (by rfl) T.g_law_pick T.F_law_pick.kp T.b_law_pick .nil pass0 (pa_cons (pv 1) (pa_cons pe_int pa_nil))) pe_int (nomark _)) (pss_one (ps_expr (pe_bm PySem.F.plainAttrs_list PySem.F.slot_list_extend PySem.F.type_list_extend mt_extend (pv 3) (pa_cons (pe_slice sl_list (pe_lst (pa_cons pe_int (pa_cons pe_int (pa_cons pe_int pa_nil)))) po_none (po_some (pe_op op_add pe_int (pe_call (ok_law_pick T) (hr.mono (by decide)) (by rfl) T.g_law_pick T.F_law_pick.kp T.b_law_pick .nil pass0 (pa_cons (pv 1) (pa_cons pe_int pa_nil)))))) pa_nil)))) pss_nil)
        (pss_cons (ps_set (i := 4) sc_law.nd rfl (Or.inl rfl) (pe_call (ok_law_table T) (hr.mono (by decide)) (by rfl) T.g_law_table T.F_law_table.kp T.b_law_table .nil pass0 (pa_cons (pv 3) pa_nil)))
        (pss_cons (ps_set (i := 5) sc_law.nd rfl (Or.inl rfl) (pe_lst (pa_cons (pe_callTy call_list_of (by rfl) T.n_list (by decide +kernel) (pa_cons (pv 3) pa_nil)) (pa_cons (pe_callTy call_list_of (by rfl) T.n_list (by decide +kernel) (pa_cons (pv 3) pa_nil)) (pa_cons (pe_callTy call_list_of (by rfl) T.n_list (by decide +kernel) (pa_cons (pv 3) pa_nil)) pa_nil)))))
        (pss_cut (ps_if (pt_val (pe_call (ok_law_is_closed T) (hr.mono (by decide)) (by rfl) T.g_law_is_closed T.F_law_is_closed.kp T.b_law_is_closed .nil pass0 (pa_cons (pv 4) pa_nil))) (pss_one (ps_set (i := 5) sc_law.nd rfl (Or.inl rfl) (pe_lst (pa_cons (pe_call (ok_law_written T) (hr.mono (by decide)) (by rfl) T.g_law_written T.F_law_written.kp T.b_law_written .nil pass0 (pa_cons (pe_call (ok_law_threaded T) (hr.mono (by decide)) (by rfl) T.g_law_threaded T.F_law_threaded.kp T.b_law_threaded .nil pass0 (pa_cons (pv 4) pa_nil)) pa_nil)) (pa_cons (pe_call (ok_law_written T) (hr.mono (by decide)) (by rfl) T.g_law_written T.F_law_written.kp T.b_law_written .nil pass0 (pa_cons (pe_call (ok_law_folded T) (hr.mono (by decide)) (by rfl) T.g_law_folded T.F_law_folded.kp T.b_law_folded .nil pass0 (pa_cons (pv 4) pa_nil)) pa_nil)) (pa_cons (pe_call (ok_law_written T) (hr.mono (by decide)) (by rfl) T.g_law_written T.F_law_written.kp T.b_law_written .nil pass0 (pa_cons (pe_call (ok_law_pruned T) (hr.mono (by decide)) (by rfl) T.g_law_pruned T.F_law_pruned.kp T.b_law_pruned .nil pass0 (pa_cons (pv 4) pa_nil)) pa_nil)) pa_nil)))))) pss_nil)
        (pss_cons (ps_set (i := 6) sc_law.nd rfl (Or.inl rfl) (pe_callTy call_list_of (by rfl) T.n_list (by decide +kernel) (pa_cons (pv 3) pa_nil)))
        (pss_cons (ps_if (pt_not (pt_val (pe_call (ok_law_is_due T) (hr.mono (by decide)) (by rfl) T.g_law_is_due T.F_law_is_due.kp T.b_law_is_due .nil pass0 (pa_cons (pe_call (ok_thread T) (hr.mono (by decide)) (by rfl) T.g_thread T.F_thread.kp T.b_thread .nil pass0 (pa_cons (pv 6) pa_nil)) (pa_cons (pe_ix ix_list (pv 5) pe_int (fun _ _ => rfl)) (pa_cons (pv 6) (pa_cons (pv 3) pa_nil))))))) (pss_one (ps_ret pe_bl)) pss_nil)
        (pss_cons (ps_if (pt_not (pt_val (pe_call (ok_law_is_due T) (hr.mono (by decide)) (by rfl) T.g_law_is_due T.F_law_is_due.kp T.b_law_is_due .nil pass0 (pa_cons (pe_call (ok_fold T) (hr.mono (by decide)) (by rfl) T.g_fold T.F_fold.kp T.b_fold .nil pass0 (pa_cons (pv 6) pa_nil)) (pa_cons (pe_ix ix_list (pv 5) pe_int (fun _ _ => rfl)) (pa_cons (pv 6) (pa_cons (pv 3) pa_nil))))))) (pss_one (ps_ret pe_bl)) pss_nil)
        (pss_cons (ps_if (pt_not (pt_val (pe_call (ok_law_is_due T) (hr.mono (by decide)) (by rfl) T.g_law_is_due T.F_law_is_due.kp T.b_law_is_due .nil pass0 (pa_cons (pe_call (ok_prune T) (hr.mono (by decide)) (by rfl) T.g_prune T.F_prune.kp T.b_prune .nil pass0 (pa_cons (pv 6) pa_nil)) (pa_cons (pe_ix ix_list (pv 5) pe_int (fun _ _ => rfl)) (pa_cons (pv 6) (pa_cons (pv 3) pa_nil))))))) (pss_one (ps_ret pe_bl)) pss_nil)
        (pss_one (ps_ret (pe_cmpR (op_eqD hr.units) (pe_call (ok_thread T) (hr.mono (by decide)) (by rfl) T.g_thread T.F_thread.kp T.b_thread .nil pass0 (pa_cons (pv 6) pa_nil)) (pe_ix ix_list (pv 5) pe_int (fun _ _ => rfl)) (nomark _)))))))))))))))), ?_⟩
    refine ⟨_, rfl, a, ns, rfl, hS, hl, fun p H1 hp e1 hD1 => ?_⟩
    refine q_asg (v := .int 0) ev_c (fun H2 e2 => ?_)
    refine q_cut (M := fun σ' H' => ∃ s : Int, Drw p H' ∧ σ' = [some (.ref a), some (.ref p), some (.int s), none, none, none, none]) ?_ ?_
    · refine s_whenP (P2 := fun _ H' => Drw p H') (etp_cmpD (ep_pick rfl (hD1.ex e2) ev_c (by decide)) (fun _ => ev_c) (fun d H2 Q _ q => ⟨rfl, q _⟩) (fun b H2 h1 h2 => h1)) (fun H3 hb => ?_) (fun H3 hb => ⟨0, hb, rfl⟩)
      exact s_asg (v := .int 6) ev_c (fun H4 e4 => ⟨6, hb.ex e4, rfl⟩)
    rintro σ' H3 ⟨s, hD3, rfl⟩
    refine q_asgP (P := NewIm p H3) (fun Q q => ⟨_, rfl, _, rfl, p, s, rfl, hD3, q⟩) (fun v H4 hv => ?_)
    obtain ⟨c, im0, rfl, nc, b4, hD4, hc4, hl4⟩ := hv
    have hcp : c ≠ p := drwNe (H1 := H3) hD3 nc
    refine q_cut (M := fun σ' H' => ∃ im : List Int, H' c = some (.lst (im.map V.int)) ∧ im.length ≤ 71 ∧ σ' = [some (.ref a), some (.ref p), some (.int s), some (.ref c), none, none, none]) ?_ ?_
    · refine s_whenP (P2 := fun _ H' => Drw p H' ∧ But p H4 H') (etp_cmpD (ep_pick rfl hD4 ev_c (by decide)) (fun _ => ev_c) (fun d H2 Q _ q => ⟨rfl, q _⟩) (fun b H2 h1 h2 => ⟨h1, h2⟩)) (fun H5 hb => ?_) (fun H5 hb => ⟨im0, hb.2 _ _ hcp hc4, by omega, rfl⟩)
      have hc5 := hb.2 _ _ hcp hc4
      refine s_extG (P := fun v G => ∃ r ys, v = .ref r ∧ G r = some (.lst ((ys : List Int).map V.int)) ∧ ys.length ≤ 3 ∧ But p H5 G) (ev_var rfl) hc5 (fun G e Q q => (el_lst (vs := ([0, 35, 7] : List Int).map V.int) (ea_cons ev_c (ea_cons ev_c (ea_cons ev_c ea_nil))) (by show 3 ≤ 100000; decide)) G (Ex.refl G) _ fun l G1 nl e1 hl1 => (ep_opD (C := fun d => 0 ≤ d ∧ d < 3) (C1 := fun _ => True) (g := fun d => 1 + d) ev_c (fun G2 e2 => ep_pick rfl (hb.1.ex ((e.trans e1).trans e2)) ev_c (by decide)) (fun d G Q _ q => ⟨_, _, rfl, rfl, q⟩) (fun _ _ => trivial)) _ fun v G3 hv => ?_) (fun v G hv => ?_)
      · obtain ⟨d, rfl, _, hD6, b6⟩ := hv
        have hlp : l ≠ p := drwNe (H1 := G) (hb.1.ex e) nl
        refine ⟨d, rfl, l, ([0, 35, 7] : List Int).map V.int, rfl, sq_of (b6 _ _ hlp hl1), fun r nr => q _ _ ⟨r, cutZ [0, 35, 7] none (some d), rfl, ?_, ?_, ?_⟩⟩
        · rw [cutZ_map]
          exact upd_same
        · exact cutZ_len _ _ _
        · exact fun b o hb' h => by
            have h3 := b6 b o hb' (e1 _ _ (e _ _ h))
            rw [upd_ne (ne_of_none h3 nr)]
            exact h3
      · obtain ⟨r, ys, rfl, hr, hyl, b⟩ := hv
        refine ⟨r, ys.map V.int, rfl, hr, b _ _ hcp hc5, by rw [List.length_map, List.length_map]; omega, im0 ++ ys, ?_, by rw [List.length_append]; omega, rfl⟩
        rw [upd_same, List.map_append]
    rintro σ' H5 ⟨im, hc5, hil, rfl⟩
    have hrl := rows_len im
    have hrw : (rowsOf im).length ≤ 20 := by omega
    have hkl := keys_len (rowsOf im)
    obtain ⟨ks, hC⟩ := cl_ex im
    have hlen := hC.len
    have hpl := pruK_len im ks
    refine q_asgP (P := fun v H' => ∃ t kvs, v = .ref t ∧ Ex H5 H' ∧ DictOf K im H' t kvs) (ep_call (ea_cons (ev_var rfl) ea_nil) fun G e Q q => ⟨c, im, rfl, sq_of (e _ _ hc5), by omega, fun t kvs H2 nt e2 h2 hT hk => q _ _ ⟨t, kvs, rfl, e.trans e2, h2, hT, hk⟩⟩) (fun v H6 hv => ?_)
    obtain ⟨t, kvs, rfl, e6, hd6⟩ := hv
    have hc6 := e6 _ _ hc5
    have lst := el_list (K := K) (H := H6) (σ := [some (.ref a), some (.ref p), some (.int s), some (.ref c), some (.ref t), none, none]) (ta := tVar 3) (ev_var rfl) (sq_of hc6)
    refine q_asgP (ep_lst3 lst lst lst) (fun v H7 hv => ?_)
    obtain ⟨l0, a1, a2, a3, rfl, nl0, e7, hl0, h01, h02, h03⟩ := hv
    have hd7 := hd6.up e7
    have lz : ∀ {L : List Int}, (L = im ∨ L.length ≤ 300) → L.length < 100000 := fun {L} h => by rcases h with rfl | h <;> omega
    have z1 : (thrL im ks).length < 100000 := by
      have := wrN_len (thrN im) (keysOf (rowsOf im))
      unfold thrL
      split <;> omega
    have z2 : (foldL im ks).length < 100000 := by
      have := wrN_len (foldN im) (keysOf (rowsOf im))
      unfold foldL
      split <;> omega
    have z3 : (pruL im ks).length < 100000 := by
      have := wrN_len (nodeD im) (pruK im ks)
      unfold pruL
      split <;> omega
    refine q_cut (M := fun σ' H' => ∃ l a1 a2 a3, Ex H7 H' ∧ H' l = some (.lst [.ref a1, .ref a2, .ref a3]) ∧ H' a1 = some (.lst ((thrL im ks).map V.int)) ∧ H' a2 = some (.lst ((foldL im ks).map V.int)) ∧ H' a3 = some (.lst ((pruL im ks).map V.int)) ∧ σ' = [some (.ref a), some (.ref p), some (.int s), some (.ref c), some (.ref t), some (.ref l), none]) ?_ ?_
    · refine s_when (b := clB im (Gd.srt ks)) (et_B (ev_call (ea_cons (ev_var rfl) ea_nil) (v_law_is_closed hd7.tb hrw hC))) (fun hb H8 e8 => ?_) (fun hb H8 e8 => ?_)
      · have hd8 := hd7.up e8
        unfold thrL foldL pruL
        rw [if_pos hb, if_pos hb, if_pos hb]
        refine s_asgP (ep_lst3 (el_writtenA (F := thrN im) (ks := keysOf (rowsOf im)) l_law_written (by omega) (fun G e => ep_call (ea_cons (ev_var rfl) ea_nil) fun G1 e1 Q q => ⟨t, kvs, im, rfl, (hd8.up e).up e1, hrw, fun c kc ls H2 hp nc e2 h2 hT hk => q _ _ ⟨c, kc, ls, hp, rfl, e1.trans e2, h2, hT, hk⟩⟩)) (el_writtenA (F := foldN im) (ks := keysOf (rowsOf im)) l_law_written (by omega) (fun G e => ep_call (ea_cons (ev_var rfl) ea_nil) fun G1 e1 Q q => ⟨t, kvs, im, rfl, (hd8.up e).up e1, hrw, fun c kc ls H2 hp nc e2 h2 hT hk => q _ _ ⟨c, kc, ls, hp, rfl, e1.trans e2, h2, hT, hk⟩⟩)) (el_writtenA (F := nodeD im) (ks := pruK im ks) l_law_written (by omega) (fun G e => ep_call (ea_cons (ev_var rfl) ea_nil) fun G1 e1 Q q => ⟨t, im, ks, rfl, ((hd8.up e).up e1).tb, hrw, hC, fun c kc ls H2 hp nc e2 h2 hT hk => q _ _ ⟨c, kc, ls, hp, rfl, e1.trans e2, h2, hT, hk⟩⟩))) (fun v H9 hv => ?_)
        obtain ⟨l, b1, b2, b3, rfl, nl, e9, g0, g1, g2, g3⟩ := hv
        exact ⟨l, b1, b2, b3, e8.trans e9, g0, g1, g2, g3, rfl⟩
      · unfold thrL foldL pruL
        rw [hb, if_neg Bool.false_ne_true, if_neg Bool.false_ne_true, if_neg Bool.false_ne_true]
        exact ⟨l0, a1, a2, a3, e8, e8 _ _ hl0, e8 _ _ h01, e8 _ _ h02, e8 _ _ h03, rfl⟩
    rintro σ' H8 ⟨l, b1, b2, b3, e8, hl8, g1, g2, g3, rfl⟩
    have hc8 := e8 _ _ (e7 _ _ hc6)
    refine q_asgL (el_list (ev_var rfl) (sq_of hc8)) (fun pa H9 npa e9 hpa => ?_)
    have f9 := fun (b : Addr) (o : HO) (h : H8 b = some o) => e9 b o h
    refine q_whenP (due_at (K := K) (i := 0) (a := a) (c := c) (pa := pa) (y := []) (l_thread (sq_of hpa) (by omega) hrw hC) (f9 _ _ hl8) rfl (f9 _ _ g1) hpa (f9 _ _ hc8) z1 rfl rfl rfl) (fun Ha hb => nomatch hb.1) (fun Ha hb => ?_)
    have ea := hb.2
    refine q_whenP (due_at (K := K) (i := 1) (a := a) (c := c) (pa := pa) (y := []) (l_fold (sq_of (ea _ _ hpa)) (by omega) hrw hC) (ea _ _ (f9 _ _ hl8)) rfl (ea _ _ (f9 _ _ g2)) (ea _ _ hpa) (ea _ _ (f9 _ _ hc8)) z2 rfl rfl rfl) (fun Hb hb => nomatch hb.1) (fun Hb hb => ?_)
    have eb := ea.trans hb.2
    refine q_whenP (due_at (K := K) (i := 2) (a := a) (c := c) (pa := pa) (y := []) (l_prune (sq_of (eb _ _ hpa)) (by omega) hrw hC) (eb _ _ (f9 _ _ hl8)) rfl (eb _ _ (f9 _ _ g3)) (eb _ _ hpa) (eb _ _ (f9 _ _ hc8)) z3 rfl rfl rfl) (fun Hb hb => nomatch hb.1) (fun Hc hb => ?_)
    have ec := eb.trans hb.2
    refine s_ret (v := .bl true) (eq_same (ed_L (el_call (ea_cons (ev_var rfl) ea_nil) (l_thread (sq_of (ec _ _ hpa)) (by omega) hrw hC)) (dpAll_ints _)) (ed_ev (ev_op (ev_var rfl) ev_c (rv_ixL (sq_of (ec _ _ (f9 _ _ hl8))) (at_of (j := 0) rfl rfl))) (dp_ints (sq_of (ec _ _ (f9 _ _ g1)))))) fun Hm _ => k Hm
theorem law_at (K : PySem.W.Frag) (H : Hp) (a : Addr) (ns : List Int) (hl : ns.length ≤ 63) (hO : Only H) (hS : SqL K H a (ns.map V.int)) : sp_law K [.ref a] H (fun v _ => v = .bl true) fun _ _ _ => False := ⟨a, ns, rfl, hS, hl, fun _ => rfl⟩


end
end K32

set_option Elab.async false
set_option linter.all false
set_option maxRecDepth 100000
set_option maxHeartbeats 4000000
set_option exponentiation.threshold 600
namespace K32
open PySem PySem.Spec PyProof.Rows L2 Evl Gd
/-! ### the head's facts -/
theorem mk_txt {K : PySem.W.Frag} {h : Heap} {mg : Str → Option Value} {p1 p2 p3 p4 p5 p6 p7 p8 p9 p10 p11 p12 p13 p14 p15 p16 p17 p18 p19 p20 p21 p22 p23 p24 p25 p26 p27 p28 p29 p30 p31 p32 p33 p34 p35 p36 p37 p38 p39 p40 p41 p42 p43 p44 p45 p46 p47 p48 p49 p50 p51 p52 p53 p54 p55 p56 p57 p58 p59 p60 p61 p62 p63 p64 p65 D_ACTIONS D_COMBINING : Addr} (X : K.In h) (G : h.Ns mainGlobals mg)
    {t_BRANCH t_CALL t_CALL_IF_DEFINED t_CELL t_DROP t_FIRST_FREE t_NOP t_PUSH : Tok}
    {od1 an1 od2 an2 od3 an3 od4 an4 od5 an5 od6 an6 od7 an7 od8 an8 od9 an9 od10 an10 od11 an11 od12 an12 od13 an13 od14 an14 od15 an15 od16 an16 od17 an17 od18 an18 od19 an19 od20 an20 od21 an21 od22 an22 od23 an23 od24 an24 od25 an25 od26 an26 od27 an27 od28 an28 od29 an29 od30 an30 od31 an31 od32 an32 od33 an33 od34 an34 od35 an35 od36 an36 od37 an37 od38 an38 od39 an39 od40 an40 od41 an41 od42 an42 od43 an43 od44 an44 od45 an45 od46 an46 od47 an47 od48 an48 od49 an49 od50 an50 od51 an51 od52 an52 od53 an53 od54 an54 od55 an55 od56 an56 od57 an57 od58 an58 od59 an59 od60 an60 od61 an61 od62 an62 od63 an63 od64 an64 od65 an65 : Option Addr} {sl1 sl2 sl3 sl4 sl5 sl6 sl7 sl8 sl9 sl10 sl11 sl12 sl13 sl14 sl15 sl16 sl17 sl18 sl19 sl20 sl21 sl22 sl23 sl24 sl25 sl26 sl27 sl28 sl29 sl30 sl31 sl32 sl33 sl34 sl35 sl36 sl37 sl38 sl39 sl40 sl41 sl42 sl43 sl44 sl45 sl46 sl47 sl48 sl49 sl50 sl51 sl52 sl53 sl54 sl55 sl56 sl57 sl58 sl59 sl60 sl61 sl62 sl63 sl64 sl65 : Array (Option Value)}
    {es_ACTIONS : Array DictEntry} {nn_ACTIONS : Nat}
    {odCOMBINING : Option Addr} {itCOMBINING : Array Value} {nnCOMBINING : Nat} {slCOMBINING : Array (Option Value)}
    {oc1 kV1 dc1 pm1 cd1 ct1 oc2 kV2 dc2 pm2 cd2 ct2 oc3 kV3 dc3 pm3 cd3 ct3 oc4 kV4 dc4 pm4 cd4 ct4 oc5 kV5 dc5 pm5 cd5 ct5 oc6 kV6 dc6 pm6 cd6 ct6 oc7 kV7 dc7 pm7 cd7 ct7 oc8 kV8 dc8 pm8 cd8 ct8 oc9 kV9 dc9 pm9 cd9 ct9 oc10 kV10 dc10 pm10 cd10 ct10 oc11 kV11 dc11 pm11 cd11 ct11 oc12 kV12 dc12 pm12 cd12 ct12 oc13 kV13 dc13 pm13 cd13 ct13 oc14 kV14 dc14 pm14 cd14 ct14 oc15 kV15 dc15 pm15 cd15 ct15 oc16 kV16 dc16 pm16 cd16 ct16 oc17 kV17 dc17 pm17 cd17 ct17 oc18 kV18 dc18 pm18 cd18 ct18 oc19 kV19 dc19 pm19 cd19 ct19 oc20 kV20 dc20 pm20 cd20 ct20 oc21 kV21 dc21 pm21 cd21 ct21 oc22 kV22 dc22 pm22 cd22 ct22 oc23 kV23 dc23 pm23 cd23 ct23 oc24 kV24 dc24 pm24 cd24 ct24 oc25 kV25 dc25 pm25 cd25 ct25 oc26 kV26 dc26 pm26 cd26 ct26 oc27 kV27 dc27 pm27 cd27 ct27 oc28 kV28 dc28 pm28 cd28 ct28 oc29 kV29 dc29 pm29 cd29 ct29 oc30 kV30 dc30 pm30 cd30 ct30 oc31 kV31 dc31 pm31 cd31 ct31 oc32 kV32 dc32 pm32 cd32 ct32 oc33 kV33 dc33 pm33 cd33 ct33 oc34 kV34 dc34 pm34 cd34 ct34 oc35 kV35 dc35 pm35 cd35 ct35 oc36 kV36 dc36 pm36 cd36 ct36 oc37 kV37 dc37 pm37 cd37 ct37 oc38 kV38 dc38 pm38 cd38 ct38 oc39 kV39 dc39 pm39 cd39 ct39 oc40 kV40 dc40 pm40 cd40 ct40 oc41 kV41 dc41 pm41 cd41 ct41 oc42 kV42 dc42 pm42 cd42 ct42 oc43 kV43 dc43 pm43 cd43 ct43 oc44 kV44 dc44 pm44 cd44 ct44 oc45 kV45 dc45 pm45 cd45 ct45 oc46 kV46 dc46 pm46 cd46 ct46 oc47 kV47 dc47 pm47 cd47 ct47 oc48 kV48 dc48 pm48 cd48 ct48 oc49 kV49 dc49 pm49 cd49 ct49 oc50 kV50 dc50 pm50 cd50 ct50 oc51 kV51 dc51 pm51 cd51 ct51 oc52 kV52 dc52 pm52 cd52 ct52 oc53 kV53 dc53 pm53 cd53 ct53 oc54 kV54 dc54 pm54 cd54 ct54 oc55 kV55 dc55 pm55 cd55 ct55 oc56 kV56 dc56 pm56 cd56 ct56 oc57 kV57 dc57 pm57 cd57 ct57 oc58 kV58 dc58 pm58 cd58 ct58 oc59 kV59 dc59 pm59 cd59 ct59 oc60 kV60 dc60 pm60 cd60 ct60 oc61 kV61 dc61 pm61 cd61 ct61 oc62 kV62 dc62 pm62 cd62 ct62 oc63 kV63 dc63 pm63 cd63 ct63 oc64 kV64 dc64 pm64 cd64 ct64 oc65 kV65 dc65 pm65 cd65 ct65 : Value}
    (a1 : PySem.W.nsIn K mainGlobals "combined" = some (some (.ref p1)))
    (l1 : K.lookup p1 = some ⟨oc1, od1, .func (PySem.W.fnOf "combined" "combined" (defArgs s_combined) (defBody s_combined) (defScope s_combined) .none kV1 dc1 pm1 an1 cd1 ct1), sl1⟩)
    (c1 : PySem.W.codeIn K cd1 "combined" = true)
    (k1 : PySem.W.keepIn K (.ref p1) = true)
    (a2 : PySem.W.nsIn K mainGlobals "can_call" = some (some (.ref p2)))
    (l2 : K.lookup p2 = some ⟨oc2, od2, .func (PySem.W.fnOf "can_call" "can_call" (defArgs s_can_call) (defBody s_can_call) (defScope s_can_call) .none kV2 dc2 pm2 an2 cd2 ct2), sl2⟩)
    (c2 : PySem.W.codeIn K cd2 "can_call" = true)
    (k2 : PySem.W.keepIn K (.ref p2) = true)
    (a3 : PySem.W.nsIn K mainGlobals "nodes_of" = some (some (.ref p3)))
    (l3 : K.lookup p3 = some ⟨oc3, od3, .func (PySem.W.fnOf "nodes_of" "nodes_of" (defArgs s_nodes_of) (defBody s_nodes_of) (defScope s_nodes_of) .none kV3 dc3 pm3 an3 cd3 ct3), sl3⟩)
    (c3 : PySem.W.codeIn K cd3 "nodes_of" = true)
    (k3 : PySem.W.keepIn K (.ref p3) = true)
    (a4 : PySem.W.nsIn K mainGlobals "image_of" = some (some (.ref p4)))
    (l4 : K.lookup p4 = some ⟨oc4, od4, .func (PySem.W.fnOf "image_of" "image_of" (defArgs s_image_of) (defBody s_image_of) (defScope s_image_of) .none kV4 dc4 pm4 an4 cd4 ct4), sl4⟩)
    (c4 : PySem.W.codeIn K cd4 "image_of" = true)
    (k4 : PySem.W.keepIn K (.ref p4) = true)
    (a5 : PySem.W.nsIn K mainGlobals "is_capital" = some (some (.ref p5)))
    (l5 : K.lookup p5 = some ⟨oc5, od5, .func (PySem.W.fnOf "is_capital" "is_capital" (defArgs s_is_capital) (defBody s_is_capital) (defScope s_is_capital) .none kV5 dc5 pm5 an5 cd5 ct5), sl5⟩)
    (c5 : PySem.W.codeIn K cd5 "is_capital" = true)
    (k5 : PySem.W.keepIn K (.ref p5) = true)
    (a6 : PySem.W.nsIn K mainGlobals "is_small" = some (some (.ref p6)))
    (l6 : K.lookup p6 = some ⟨oc6, od6, .func (PySem.W.fnOf "is_small" "is_small" (defArgs s_is_small) (defBody s_is_small) (defScope s_is_small) .none kV6 dc6 pm6 an6 cd6 ct6), sl6⟩)
    (c6 : PySem.W.codeIn K cd6 "is_small" = true)
    (k6 : PySem.W.keepIn K (.ref p6) = true)
    (a7 : PySem.W.nsIn K mainGlobals "_push_argument" = some (some (.ref p7)))
    (l7 : K.lookup p7 = some ⟨oc7, od7, .func (PySem.W.fnOf "_push_argument" "_push_argument" (defArgs s_push_argument) (defBody s_push_argument) (defScope s_push_argument) .none kV7 dc7 pm7 an7 cd7 ct7), sl7⟩)
    (c7 : PySem.W.codeIn K cd7 "_push_argument" = true)
    (k7 : PySem.W.keepIn K (.ref p7) = true)
    (a8 : PySem.W.nsIn K mainGlobals "_combine" = some (some (.ref p8)))
    (l8 : K.lookup p8 = some ⟨oc8, od8, .func (PySem.W.fnOf "_combine" "_combine" (defArgs s_combine) (defBody s_combine) (defScope s_combine) .none kV8 dc8 pm8 an8 cd8 ct8), sl8⟩)
    (c8 : PySem.W.codeIn K cd8 "_combine" = true)
    (k8 : PySem.W.keepIn K (.ref p8) = true)
    (a9 : PySem.W.nsIn K mainGlobals "_get" = some (some (.ref p9)))
    (l9 : K.lookup p9 = some ⟨oc9, od9, .func (PySem.W.fnOf "_get" "_get" (defArgs s_get) (defBody s_get) (defScope s_get) .none kV9 dc9 pm9 an9 cd9 ct9), sl9⟩)
    (c9 : PySem.W.codeIn K cd9 "_get" = true)
    (k9 : PySem.W.keepIn K (.ref p9) = true)
    (a10 : PySem.W.nsIn K mainGlobals "_put" = some (some (.ref p10)))
    (l10 : K.lookup p10 = some ⟨oc10, od10, .func (PySem.W.fnOf "_put" "_put" (defArgs s_put) (defBody s_put) (defScope s_put) .none kV10 dc10 pm10 an10 cd10 ct10), sl10⟩)
    (c10 : PySem.W.codeIn K cd10 "_put" = true)
    (k10 : PySem.W.keepIn K (.ref p10) = true)
    (a11 : PySem.W.nsIn K mainGlobals "_set_argument" = some (some (.ref p11)))
    (l11 : K.lookup p11 = some ⟨oc11, od11, .func (PySem.W.fnOf "_set_argument" "_set_argument" (defArgs s_set_argument) (defBody s_set_argument) (defScope s_set_argument) .none kV11 dc11 pm11 an11 cd11 ct11), sl11⟩)
    (c11 : PySem.W.codeIn K cd11 "_set_argument" = true)
    (k11 : PySem.W.keepIn K (.ref p11) = true)
    (a12 : PySem.W.nsIn K mainGlobals "_take_number" = some (some (.ref p12)))
    (l12 : K.lookup p12 = some ⟨oc12, od12, .func (PySem.W.fnOf "_take_number" "_take_number" (defArgs s_take_number) (defBody s_take_number) (defScope s_take_number) .none kV12 dc12 pm12 an12 cd12 ct12), sl12⟩)
    (c12 : PySem.W.codeIn K cd12 "_take_number" = true)
    (k12 : PySem.W.keepIn K (.ref p12) = true)
    (a13 : PySem.W.nsIn K mainGlobals "_rewind" = some (some (.ref p13)))
    (l13 : K.lookup p13 = some ⟨oc13, od13, .func (PySem.W.fnOf "_rewind" "_rewind" (defArgs s_rewind) (defBody s_rewind) (defScope s_rewind) .none kV13 dc13 pm13 an13 cd13 ct13), sl13⟩)
    (c13 : PySem.W.codeIn K cd13 "_rewind" = true)
    (k13 : PySem.W.keepIn K (.ref p13) = true)
    (a14 : PySem.W.nsIn K mainGlobals "_write" = some (some (.ref p14)))
    (l14 : K.lookup p14 = some ⟨oc14, od14, .func (PySem.W.fnOf "_write" "_write" (defArgs s_write) (defBody s_write) (defScope s_write) .none kV14 dc14 pm14 an14 cd14 ct14), sl14⟩)
    (c14 : PySem.W.codeIn K cd14 "_write" = true)
    (k14 : PySem.W.keepIn K (.ref p14) = true)
    (a15 : PySem.W.nsIn K mainGlobals "_push_cell" = some (some (.ref p15)))
    (l15 : K.lookup p15 = some ⟨oc15, od15, .func (PySem.W.fnOf "_push_cell" "_push_cell" (defArgs s_push_cell) (defBody s_push_cell) (defScope s_push_cell) .none kV15 dc15 pm15 an15 cd15 ct15), sl15⟩)
    (c15 : PySem.W.codeIn K cd15 "_push_cell" = true)
    (k15 : PySem.W.keepIn K (.ref p15) = true)
    (a16 : PySem.W.nsIn K mainGlobals "_drop" = some (some (.ref p16)))
    (l16 : K.lookup p16 = some ⟨oc16, od16, .func (PySem.W.fnOf "_drop" "_drop" (defArgs s_drop) (defBody s_drop) (defScope s_drop) .none kV16 dc16 pm16 an16 cd16 ct16), sl16⟩)
    (c16 : PySem.W.codeIn K cd16 "_drop" = true)
    (k16 : PySem.W.keepIn K (.ref p16) = true)
    (a17 : PySem.W.nsIn K mainGlobals "_double" = some (some (.ref p17)))
    (l17 : K.lookup p17 = some ⟨oc17, od17, .func (PySem.W.fnOf "_double" "_double" (defArgs s_double) (defBody s_double) (defScope s_double) .none kV17 dc17 pm17 an17 cd17 ct17), sl17⟩)
    (c17 : PySem.W.codeIn K cd17 "_double" = true)
    (k17 : PySem.W.keepIn K (.ref p17) = true)
    (a18 : PySem.W.nsIn K mainGlobals "_exchange" = some (some (.ref p18)))
    (l18 : K.lookup p18 = some ⟨oc18, od18, .func (PySem.W.fnOf "_exchange" "_exchange" (defArgs s_exchange) (defBody s_exchange) (defScope s_exchange) .none kV18 dc18 pm18 an18 cd18 ct18), sl18⟩)
    (c18 : PySem.W.codeIn K cd18 "_exchange" = true)
    (k18 : PySem.W.keepIn K (.ref p18) = true)
    (a19 : PySem.W.nsIn K mainGlobals "_branch" = some (some (.ref p19)))
    (l19 : K.lookup p19 = some ⟨oc19, od19, .func (PySem.W.fnOf "_branch" "_branch" (defArgs s_branch) (defBody s_branch) (defScope s_branch) .none kV19 dc19 pm19 an19 cd19 ct19), sl19⟩)
    (c19 : PySem.W.codeIn K cd19 "_branch" = true)
    (k19 : PySem.W.keepIn K (.ref p19) = true)
    (a20 : PySem.W.nsIn K mainGlobals "_call_popped" = some (some (.ref p20)))
    (l20 : K.lookup p20 = some ⟨oc20, od20, .func (PySem.W.fnOf "_call_popped" "_call_popped" (defArgs s_call_popped) (defBody s_call_popped) (defScope s_call_popped) .none kV20 dc20 pm20 an20 cd20 ct20), sl20⟩)
    (c20 : PySem.W.codeIn K cd20 "_call_popped" = true)
    (k20 : PySem.W.keepIn K (.ref p20) = true)
    (a21 : PySem.W.nsIn K mainGlobals "_call_if_defined" = some (some (.ref p21)))
    (l21 : K.lookup p21 = some ⟨oc21, od21, .func (PySem.W.fnOf "_call_if_defined" "_call_if_defined" (defArgs s_call_if_defined) (defBody s_call_if_defined) (defScope s_call_if_defined) .none kV21 dc21 pm21 an21 cd21 ct21), sl21⟩)
    (c21 : PySem.W.codeIn K cd21 "_call_if_defined" = true)
    (k21 : PySem.W.keepIn K (.ref p21) = true)
    (a22 : PySem.W.nsIn K mainGlobals "_return" = some (some (.ref p22)))
    (l22 : K.lookup p22 = some ⟨oc22, od22, .func (PySem.W.fnOf "_return" "_return" (defArgs s_return) (defBody s_return) (defScope s_return) .none kV22 dc22 pm22 an22 cd22 ct22), sl22⟩)
    (c22 : PySem.W.codeIn K cd22 "_return" = true)
    (k22 : PySem.W.keepIn K (.ref p22) = true)
    (a23 : PySem.W.nsIn K mainGlobals "is_operation" = some (some (.ref p23)))
    (l23 : K.lookup p23 = some ⟨oc23, od23, .func (PySem.W.fnOf "is_operation" "is_operation" (defArgs s_is_operation) (defBody s_is_operation) (defScope s_is_operation) .none kV23 dc23 pm23 an23 cd23 ct23), sl23⟩)
    (c23 : PySem.W.codeIn K cd23 "is_operation" = true)
    (k23 : PySem.W.keepIn K (.ref p23) = true)
    (a24 : PySem.W.nsIn K mainGlobals "table_of" = some (some (.ref p24)))
    (l24 : K.lookup p24 = some ⟨oc24, od24, .func (PySem.W.fnOf "table_of" "table_of" (defArgs s_table_of) (defBody s_table_of) (defScope s_table_of) .none kV24 dc24 pm24 an24 cd24 ct24), sl24⟩)
    (c24 : PySem.W.codeIn K cd24 "table_of" = true)
    (k24 : PySem.W.keepIn K (.ref p24) = true)
    (a25 : PySem.W.nsIn K mainGlobals "image_of_table" = some (some (.ref p25)))
    (l25 : K.lookup p25 = some ⟨oc25, od25, .func (PySem.W.fnOf "image_of_table" "image_of_table" (defArgs s_image_of_table) (defBody s_image_of_table) (defScope s_image_of_table) .none kV25 dc25 pm25 an25 cd25 ct25), sl25⟩)
    (c25 : PySem.W.codeIn K cd25 "image_of_table" = true)
    (k25 : PySem.W.keepIn K (.ref p25) = true)
    (a26 : PySem.W.nsIn K mainGlobals "is_fixed" = some (some (.ref p26)))
    (l26 : K.lookup p26 = some ⟨oc26, od26, .func (PySem.W.fnOf "is_fixed" "is_fixed" (defArgs s_is_fixed) (defBody s_is_fixed) (defScope s_is_fixed) .none kV26 dc26 pm26 an26 cd26 ct26), sl26⟩)
    (c26 : PySem.W.codeIn K cd26 "is_fixed" = true)
    (k26 : PySem.W.keepIn K (.ref p26) = true)
    (a27 : PySem.W.nsIn K mainGlobals "is_nop" = some (some (.ref p27)))
    (l27 : K.lookup p27 = some ⟨oc27, od27, .func (PySem.W.fnOf "is_nop" "is_nop" (defArgs s_is_nop) (defBody s_is_nop) (defScope s_is_nop) .none kV27 dc27 pm27 an27 cd27 ct27), sl27⟩)
    (c27 : PySem.W.codeIn K cd27 "is_nop" = true)
    (k27 : PySem.W.keepIn K (.ref p27) = true)
    (a28 : PySem.W.nsIn K mainGlobals "least" = some (some (.ref p28)))
    (l28 : K.lookup p28 = some ⟨oc28, od28, .func (PySem.W.fnOf "least" "least" (defArgs s_least) (defBody s_least) (defScope s_least) .none kV28 dc28 pm28 an28 cd28 ct28), sl28⟩)
    (c28 : PySem.W.codeIn K cd28 "least" = true)
    (k28 : PySem.W.keepIn K (.ref p28) = true)
    (a29 : PySem.W.nsIn K mainGlobals "_callable" = some (some (.ref p29)))
    (l29 : K.lookup p29 = some ⟨oc29, od29, .func (PySem.W.fnOf "_callable" "_callable" (defArgs s_callable) (defBody s_callable) (defScope s_callable) .none kV29 dc29 pm29 an29 cd29 ct29), sl29⟩)
    (c29 : PySem.W.codeIn K cd29 "_callable" = true)
    (k29 : PySem.W.keepIn K (.ref p29) = true)
    (a30 : PySem.W.nsIn K mainGlobals "next_numbers" = some (some (.ref p30)))
    (l30 : K.lookup p30 = some ⟨oc30, od30, .func (PySem.W.fnOf "next_numbers" "next_numbers" (defArgs s_next_numbers) (defBody s_next_numbers) (defScope s_next_numbers) .none kV30 dc30 pm30 an30 cd30 ct30), sl30⟩)
    (c30 : PySem.W.codeIn K cd30 "next_numbers" = true)
    (k30 : PySem.W.keepIn K (.ref p30) = true)
    (a31 : PySem.W.nsIn K mainGlobals "reachable_in" = some (some (.ref p31)))
    (l31 : K.lookup p31 = some ⟨oc31, od31, .func (PySem.W.fnOf "reachable_in" "reachable_in" (defArgs s_reachable_in) (defBody s_reachable_in) (defScope s_reachable_in) .none kV31 dc31 pm31 an31 cd31 ct31), sl31⟩)
    (c31 : PySem.W.codeIn K cd31 "reachable_in" = true)
    (k31 : PySem.W.keepIn K (.ref p31) = true)
    (a32 : PySem.W.nsIn K mainGlobals "is_closed" = some (some (.ref p32)))
    (l32 : K.lookup p32 = some ⟨oc32, od32, .func (PySem.W.fnOf "is_closed" "is_closed" (defArgs s_is_closed) (defBody s_is_closed) (defScope s_is_closed) .none kV32 dc32 pm32 an32 cd32 ct32), sl32⟩)
    (c32 : PySem.W.codeIn K cd32 "is_closed" = true)
    (k32 : PySem.W.keepIn K (.ref p32) = true)
    (a33 : PySem.W.nsIn K mainGlobals "_end_of_walk" = some (some (.ref p33)))
    (l33 : K.lookup p33 = some ⟨oc33, od33, .func (PySem.W.fnOf "_end_of_walk" "_end_of_walk" (defArgs s_end_of_walk) (defBody s_end_of_walk) (defScope s_end_of_walk) .none kV33 dc33 pm33 an33 cd33 ct33), sl33⟩)
    (c33 : PySem.W.codeIn K cd33 "_end_of_walk" = true)
    (k33 : PySem.W.keepIn K (.ref p33) = true)
    (a34 : PySem.W.nsIn K mainGlobals "targets_of" = some (some (.ref p34)))
    (l34 : K.lookup p34 = some ⟨oc34, od34, .func (PySem.W.fnOf "targets_of" "targets_of" (defArgs s_targets_of) (defBody s_targets_of) (defScope s_targets_of) .none kV34 dc34 pm34 an34 cd34 ct34), sl34⟩)
    (c34 : PySem.W.codeIn K cd34 "targets_of" = true)
    (k34 : PySem.W.keepIn K (.ref p34) = true)
    (a35 : PySem.W.nsIn K mainGlobals "_redirected" = some (some (.ref p35)))
    (l35 : K.lookup p35 = some ⟨oc35, od35, .func (PySem.W.fnOf "_redirected" "_redirected" (defArgs s_redirected) (defBody s_redirected) (defScope s_redirected) .none kV35 dc35 pm35 an35 cd35 ct35), sl35⟩)
    (c35 : PySem.W.codeIn K cd35 "_redirected" = true)
    (k35 : PySem.W.keepIn K (.ref p35) = true)
    (a36 : PySem.W.nsIn K mainGlobals "_threaded" = some (some (.ref p36)))
    (l36 : K.lookup p36 = some ⟨oc36, od36, .func (PySem.W.fnOf "_threaded" "_threaded" (defArgs s_threaded) (defBody s_threaded) (defScope s_threaded) .none kV36 dc36 pm36 an36 cd36 ct36), sl36⟩)
    (c36 : PySem.W.codeIn K cd36 "_threaded" = true)
    (k36 : PySem.W.keepIn K (.ref p36) = true)
    (a37 : PySem.W.nsIn K mainGlobals "thread" = some (some (.ref p37)))
    (l37 : K.lookup p37 = some ⟨oc37, od37, .func (PySem.W.fnOf "thread" "thread" (defArgs s_thread) (defBody s_thread) (defScope s_thread) .none kV37 dc37 pm37 an37 cd37 ct37), sl37⟩)
    (c37 : PySem.W.codeIn K cd37 "thread" = true)
    (k37 : PySem.W.keepIn K (.ref p37) = true)
    (a38 : PySem.W.nsIn K mainGlobals "_folded" = some (some (.ref p38)))
    (l38 : K.lookup p38 = some ⟨oc38, od38, .func (PySem.W.fnOf "_folded" "_folded" (defArgs s_folded) (defBody s_folded) (defScope s_folded) .none kV38 dc38 pm38 an38 cd38 ct38), sl38⟩)
    (c38 : PySem.W.codeIn K cd38 "_folded" = true)
    (k38 : PySem.W.keepIn K (.ref p38) = true)
    (a39 : PySem.W.nsIn K mainGlobals "fold" = some (some (.ref p39)))
    (l39 : K.lookup p39 = some ⟨oc39, od39, .func (PySem.W.fnOf "fold" "fold" (defArgs s_fold) (defBody s_fold) (defScope s_fold) .none kV39 dc39 pm39 an39 cd39 ct39), sl39⟩)
    (c39 : PySem.W.codeIn K cd39 "fold" = true)
    (k39 : PySem.W.keepIn K (.ref p39) = true)
    (a40 : PySem.W.nsIn K mainGlobals "prune" = some (some (.ref p40)))
    (l40 : K.lookup p40 = some ⟨oc40, od40, .func (PySem.W.fnOf "prune" "prune" (defArgs s_prune) (defBody s_prune) (defScope s_prune) .none kV40 dc40 pm40 an40 cd40 ct40), sl40⟩)
    (c40 : PySem.W.codeIn K cd40 "prune" = true)
    (k40 : PySem.W.keepIn K (.ref p40) = true)
    (a41 : PySem.W.nsIn K mainGlobals "_law_number" = some (some (.ref p41)))
    (l41 : K.lookup p41 = some ⟨oc41, od41, .func (PySem.W.fnOf "_law_number" "_law_number" (defArgs s_law_number) (defBody s_law_number) (defScope s_law_number) .none kV41 dc41 pm41 an41 cd41 ct41), sl41⟩)
    (c41 : PySem.W.codeIn K cd41 "_law_number" = true)
    (k41 : PySem.W.keepIn K (.ref p41) = true)
    (a42 : PySem.W.nsIn K mainGlobals "_law_draws" = some (some (.ref p42)))
    (l42 : K.lookup p42 = some ⟨oc42, od42, .func (PySem.W.fnOf "_law_draws" "_law_draws" (defArgs s_law_draws) (defBody s_law_draws) (defScope s_law_draws) .none kV42 dc42 pm42 an42 cd42 ct42), sl42⟩)
    (c42 : PySem.W.codeIn K cd42 "_law_draws" = true)
    (k42 : PySem.W.keepIn K (.ref p42) = true)
    (a43 : PySem.W.nsIn K mainGlobals "_law_draw" = some (some (.ref p43)))
    (l43 : K.lookup p43 = some ⟨oc43, od43, .func (PySem.W.fnOf "_law_draw" "_law_draw" (defArgs s_law_draw) (defBody s_law_draw) (defScope s_law_draw) .none kV43 dc43 pm43 an43 cd43 ct43), sl43⟩)
    (c43 : PySem.W.codeIn K cd43 "_law_draw" = true)
    (k43 : PySem.W.keepIn K (.ref p43) = true)
    (a44 : PySem.W.nsIn K mainGlobals "_law_pick" = some (some (.ref p44)))
    (l44 : K.lookup p44 = some ⟨oc44, od44, .func (PySem.W.fnOf "_law_pick" "_law_pick" (defArgs s_law_pick) (defBody s_law_pick) (defScope s_law_pick) .none kV44 dc44 pm44 an44 cd44 ct44), sl44⟩)
    (c44 : PySem.W.codeIn K cd44 "_law_pick" = true)
    (k44 : PySem.W.keepIn K (.ref p44) = true)
    (a45 : PySem.W.nsIn K mainGlobals "_law_is_integer" = some (some (.ref p45)))
    (l45 : K.lookup p45 = some ⟨oc45, od45, .func (PySem.W.fnOf "_law_is_integer" "_law_is_integer" (defArgs s_law_is_integer) (defBody s_law_is_integer) (defScope s_law_is_integer) .none kV45 dc45 pm45 an45 cd45 ct45), sl45⟩)
    (c45 : PySem.W.codeIn K cd45 "_law_is_integer" = true)
    (k45 : PySem.W.keepIn K (.ref p45) = true)
    (a46 : PySem.W.nsIn K mainGlobals "_law_is_cells" = some (some (.ref p46)))
    (l46 : K.lookup p46 = some ⟨oc46, od46, .func (PySem.W.fnOf "_law_is_cells" "_law_is_cells" (defArgs s_law_is_cells) (defBody s_law_is_cells) (defScope s_law_is_cells) .none kV46 dc46 pm46 an46 cd46 ct46), sl46⟩)
    (c46 : PySem.W.codeIn K cd46 "_law_is_cells" = true)
    (k46 : PySem.W.keepIn K (.ref p46) = true)
    (a47 : PySem.W.nsIn K mainGlobals "_law_number_of" = some (some (.ref p47)))
    (l47 : K.lookup p47 = some ⟨oc47, od47, .func (PySem.W.fnOf "_law_number_of" "_law_number_of" (defArgs s_law_number_of) (defBody s_law_number_of) (defScope s_law_number_of) .none kV47 dc47 pm47 an47 cd47 ct47), sl47⟩)
    (c47 : PySem.W.codeIn K cd47 "_law_number_of" = true)
    (k47 : PySem.W.keepIn K (.ref p47) = true)
    (a48 : PySem.W.nsIn K mainGlobals "_law_op" = some (some (.ref p48)))
    (l48 : K.lookup p48 = some ⟨oc48, od48, .func (PySem.W.fnOf "_law_op" "_law_op" (defArgs s_law_op) (defBody s_law_op) (defScope s_law_op) .none kV48 dc48 pm48 an48 cd48 ct48), sl48⟩)
    (c48 : PySem.W.codeIn K cd48 "_law_op" = true)
    (k48 : PySem.W.keepIn K (.ref p48) = true)
    (a49 : PySem.W.nsIn K mainGlobals "_law_arg" = some (some (.ref p49)))
    (l49 : K.lookup p49 = some ⟨oc49, od49, .func (PySem.W.fnOf "_law_arg" "_law_arg" (defArgs s_law_arg) (defBody s_law_arg) (defScope s_law_arg) .none kV49 dc49 pm49 an49 cd49 ct49), sl49⟩)
    (c49 : PySem.W.codeIn K cd49 "_law_arg" = true)
    (k49 : PySem.W.keepIn K (.ref p49) = true)
    (a50 : PySem.W.nsIn K mainGlobals "_law_image" = some (some (.ref p50)))
    (l50 : K.lookup p50 = some ⟨oc50, od50, .func (PySem.W.fnOf "_law_image" "_law_image" (defArgs s_law_image) (defBody s_law_image) (defScope s_law_image) .none kV50 dc50 pm50 an50 cd50 ct50), sl50⟩)
    (c50 : PySem.W.codeIn K cd50 "_law_image" = true)
    (k50 : PySem.W.keepIn K (.ref p50) = true)
    (a51 : PySem.W.nsIn K mainGlobals "_law_table" = some (some (.ref p51)))
    (l51 : K.lookup p51 = some ⟨oc51, od51, .func (PySem.W.fnOf "_law_table" "_law_table" (defArgs s_law_table) (defBody s_law_table) (defScope s_law_table) .none kV51 dc51 pm51 an51 cd51 ct51), sl51⟩)
    (c51 : PySem.W.codeIn K cd51 "_law_table" = true)
    (k51 : PySem.W.keepIn K (.ref p51) = true)
    (a52 : PySem.W.nsIn K mainGlobals "_law_is_nop" = some (some (.ref p52)))
    (l52 : K.lookup p52 = some ⟨oc52, od52, .func (PySem.W.fnOf "_law_is_nop" "_law_is_nop" (defArgs s_law_is_nop) (defBody s_law_is_nop) (defScope s_law_is_nop) .none kV52 dc52 pm52 an52 cd52 ct52), sl52⟩)
    (c52 : PySem.W.codeIn K cd52 "_law_is_nop" = true)
    (k52 : PySem.W.keepIn K (.ref p52) = true)
    (a53 : PySem.W.nsIn K mainGlobals "_law_ways" = some (some (.ref p53)))
    (l53 : K.lookup p53 = some ⟨oc53, od53, .func (PySem.W.fnOf "_law_ways" "_law_ways" (defArgs s_law_ways) (defBody s_law_ways) (defScope s_law_ways) .none kV53 dc53 pm53 an53 cd53 ct53), sl53⟩)
    (c53 : PySem.W.codeIn K cd53 "_law_ways" = true)
    (k53 : PySem.W.keepIn K (.ref p53) = true)
    (a54 : PySem.W.nsIn K mainGlobals "_law_reached" = some (some (.ref p54)))
    (l54 : K.lookup p54 = some ⟨oc54, od54, .func (PySem.W.fnOf "_law_reached" "_law_reached" (defArgs s_law_reached) (defBody s_law_reached) (defScope s_law_reached) .none kV54 dc54 pm54 an54 cd54 ct54), sl54⟩)
    (c54 : PySem.W.codeIn K cd54 "_law_reached" = true)
    (k54 : PySem.W.keepIn K (.ref p54) = true)
    (a55 : PySem.W.nsIn K mainGlobals "_law_is_closed" = some (some (.ref p55)))
    (l55 : K.lookup p55 = some ⟨oc55, od55, .func (PySem.W.fnOf "_law_is_closed" "_law_is_closed" (defArgs s_law_is_closed) (defBody s_law_is_closed) (defScope s_law_is_closed) .none kV55 dc55 pm55 an55 cd55 ct55), sl55⟩)
    (c55 : PySem.W.codeIn K cd55 "_law_is_closed" = true)
    (k55 : PySem.W.keepIn K (.ref p55) = true)
    (a56 : PySem.W.nsIn K mainGlobals "_law_written" = some (some (.ref p56)))
    (l56 : K.lookup p56 = some ⟨oc56, od56, .func (PySem.W.fnOf "_law_written" "_law_written" (defArgs s_law_written) (defBody s_law_written) (defScope s_law_written) .none kV56 dc56 pm56 an56 cd56 ct56), sl56⟩)
    (c56 : PySem.W.codeIn K cd56 "_law_written" = true)
    (k56 : PySem.W.keepIn K (.ref p56) = true)
    (a57 : PySem.W.nsIn K mainGlobals "_law_ring" = some (some (.ref p57)))
    (l57 : K.lookup p57 = some ⟨oc57, od57, .func (PySem.W.fnOf "_law_ring" "_law_ring" (defArgs s_law_ring) (defBody s_law_ring) (defScope s_law_ring) .none kV57 dc57 pm57 an57 cd57 ct57), sl57⟩)
    (c57 : PySem.W.codeIn K cd57 "_law_ring" = true)
    (k57 : PySem.W.keepIn K (.ref p57) = true)
    (a58 : PySem.W.nsIn K mainGlobals "_law_target" = some (some (.ref p58)))
    (l58 : K.lookup p58 = some ⟨oc58, od58, .func (PySem.W.fnOf "_law_target" "_law_target" (defArgs s_law_target) (defBody s_law_target) (defScope s_law_target) .none kV58 dc58 pm58 an58 cd58 ct58), sl58⟩)
    (c58 : PySem.W.codeIn K cd58 "_law_target" = true)
    (k58 : PySem.W.keepIn K (.ref p58) = true)
    (a59 : PySem.W.nsIn K mainGlobals "_law_combined" = some (some (.ref p59)))
    (l59 : K.lookup p59 = some ⟨oc59, od59, .func (PySem.W.fnOf "_law_combined" "_law_combined" (defArgs s_law_combined) (defBody s_law_combined) (defScope s_law_combined) .none kV59 dc59 pm59 an59 cd59 ct59), sl59⟩)
    (c59 : PySem.W.codeIn K cd59 "_law_combined" = true)
    (k59 : PySem.W.keepIn K (.ref p59) = true)
    (a60 : PySem.W.nsIn K mainGlobals "_law_threaded" = some (some (.ref p60)))
    (l60 : K.lookup p60 = some ⟨oc60, od60, .func (PySem.W.fnOf "_law_threaded" "_law_threaded" (defArgs s_law_threaded) (defBody s_law_threaded) (defScope s_law_threaded) .none kV60 dc60 pm60 an60 cd60 ct60), sl60⟩)
    (c60 : PySem.W.codeIn K cd60 "_law_threaded" = true)
    (k60 : PySem.W.keepIn K (.ref p60) = true)
    (a61 : PySem.W.nsIn K mainGlobals "_law_folded" = some (some (.ref p61)))
    (l61 : K.lookup p61 = some ⟨oc61, od61, .func (PySem.W.fnOf "_law_folded" "_law_folded" (defArgs s_law_folded) (defBody s_law_folded) (defScope s_law_folded) .none kV61 dc61 pm61 an61 cd61 ct61), sl61⟩)
    (c61 : PySem.W.codeIn K cd61 "_law_folded" = true)
    (k61 : PySem.W.keepIn K (.ref p61) = true)
    (a62 : PySem.W.nsIn K mainGlobals "_law_folded_node" = some (some (.ref p62)))
    (l62 : K.lookup p62 = some ⟨oc62, od62, .func (PySem.W.fnOf "_law_folded_node" "_law_folded_node" (defArgs s_law_folded_node) (defBody s_law_folded_node) (defScope s_law_folded_node) .none kV62 dc62 pm62 an62 cd62 ct62), sl62⟩)
    (c62 : PySem.W.codeIn K cd62 "_law_folded_node" = true)
    (k62 : PySem.W.keepIn K (.ref p62) = true)
    (a63 : PySem.W.nsIn K mainGlobals "_law_pruned" = some (some (.ref p63)))
    (l63 : K.lookup p63 = some ⟨oc63, od63, .func (PySem.W.fnOf "_law_pruned" "_law_pruned" (defArgs s_law_pruned) (defBody s_law_pruned) (defScope s_law_pruned) .none kV63 dc63 pm63 an63 cd63 ct63), sl63⟩)
    (c63 : PySem.W.codeIn K cd63 "_law_pruned" = true)
    (k63 : PySem.W.keepIn K (.ref p63) = true)
    (a64 : PySem.W.nsIn K mainGlobals "_law_is_due" = some (some (.ref p64)))
    (l64 : K.lookup p64 = some ⟨oc64, od64, .func (PySem.W.fnOf "_law_is_due" "_law_is_due" (defArgs s_law_is_due) (defBody s_law_is_due) (defScope s_law_is_due) .none kV64 dc64 pm64 an64 cd64 ct64), sl64⟩)
    (c64 : PySem.W.codeIn K cd64 "_law_is_due" = true)
    (k64 : PySem.W.keepIn K (.ref p64) = true)
    (a65 : PySem.W.nsIn K mainGlobals "law" = some (some (.ref p65)))
    (l65 : K.lookup p65 = some ⟨oc65, od65, .func (PySem.W.fnOf "law" "law" (defArgs s_law) (defBody s_law) (defScope s_law) .none kV65 dc65 pm65 an65 cd65 ct65), sl65⟩)
    (c65 : PySem.W.codeIn K cd65 "law" = true)
    (k65 : PySem.W.keepIn K (.ref p65) = true)
    (g_ACTIONS : PySem.W.nsIn K mainGlobals "_ACTIONS" = some (some (.ref D_ACTIONS)))
    (tl_ACTIONS : K.lookup D_ACTIONS = some ⟨.type "dict", none, .dict es_ACTIONS nn_ACTIONS, #[]⟩)
    (tk_ACTIONS : ikeys es_ACTIONS.toList = some [(35, .ref p7), (43, .ref p8), (45, .ref p8), (42, .ref p8), (60, .ref p8), (126, .ref p8), (64, .ref p9), (33, .ref p10), (61, .ref p11), (44, .ref p12), (94, .ref p13), (46, .ref p14), (38, .ref p15), (95, .ref p16), (34, .ref p17), (92, .ref p18), (63, .ref p19), (40, .ref p20), (36, .ref p21), (41, .ref p22)])
    (tw_ACTIONS : (D_ACTIONS == sysModules) = false)
    (tn_ACTIONS : [p7, p8, p9, p10, p11, p12, p13, p14, p15, p16, p17, p18, p19, p20, p21, p22].Nodup)
    (g_COMBINING : PySem.W.nsIn K mainGlobals "COMBINING" = some (some (.ref D_COMBINING)))
    (tu_COMBINING : K.lookup D_COMBINING = some ⟨.type "tuple", odCOMBINING, .seq itCOMBINING nnCOMBINING, slCOMBINING⟩)
    (ti_COMBINING : intsV itCOMBINING.toList = some [43, 45, 42, 60, 126])
    (c_BRANCH : PySem.W.nsIn K mainGlobals "BRANCH" = some (some (.int 63 t_BRANCH)))
    (c_CALL : PySem.W.nsIn K mainGlobals "CALL" = some (some (.int 40 t_CALL)))
    (c_CALL_IF_DEFINED : PySem.W.nsIn K mainGlobals "CALL_IF_DEFINED" = some (some (.int 36 t_CALL_IF_DEFINED)))
    (c_CELL : PySem.W.nsIn K mainGlobals "CELL" = some (some (.int 38 t_CELL)))
    (c_DROP : PySem.W.nsIn K mainGlobals "DROP" = some (some (.int 95 t_DROP)))
    (c_FIRST_FREE : PySem.W.nsIn K mainGlobals "FIRST_FREE" = some (some (.int 200 t_FIRST_FREE)))
    (c_NOP : PySem.W.nsIn K mainGlobals "NOP" = some (some (.int 32 t_NOP)))
    (c_PUSH : PySem.W.nsIn K mainGlobals "PUSH" = some (some (.int 35 t_PUSH)))
    (n_bool : PySem.W.nsIn K mainGlobals "bool" = some none)
    (n_int : PySem.W.nsIn K mainGlobals "int" = some none)
    (n_isinstance : PySem.W.nsIn K mainGlobals "isinstance" = some none)
    (n_len : PySem.W.nsIn K mainGlobals "len" = some none)
    (n_list : PySem.W.nsIn K mainGlobals "list" = some none)
    (n_min : PySem.W.nsIn K mainGlobals "min" = some none)
    (n_range : PySem.W.nsIn K mainGlobals "range" = some none)
    (n_sorted : PySem.W.nsIn K mainGlobals "sorted" = some none)
    (n_tuple : PySem.W.nsIn K mainGlobals "tuple" = some none)
    : ∃ T : Txt K mg, T.f_law = p65 := by
  exact ⟨{
      f_combined := p1
      d_combined := _
      F_combined := fun_mk (st := s_combined) l1 c1 k1
      b_combined := (fun_mk (st := s_combined) l1 c1 k1).binds (ps := ["operation", "x", "y"]) fun _ _ _ _ _ _ us hl => match us, hl with | [_, _, _], _ => rfl
      g_combined := PySem.W.mg_of X G a1
      f_can_call := p2
      d_can_call := _
      F_can_call := fun_mk (st := s_can_call) l2 c2 k2
      b_can_call := (fun_mk (st := s_can_call) l2 c2 k2).binds (ps := ["nodes", "number"]) fun _ _ _ _ _ _ us hl => match us, hl with | [_, _], _ => rfl
      g_can_call := PySem.W.mg_of X G a2
      f_nodes_of := p3
      d_nodes_of := _
      F_nodes_of := fun_mk (st := s_nodes_of) l3 c3 k3
      b_nodes_of := (fun_mk (st := s_nodes_of) l3 c3 k3).binds (ps := ["image"]) fun _ _ _ _ _ _ us hl => match us, hl with | [_], _ => rfl
      g_nodes_of := PySem.W.mg_of X G a3
      f_image_of := p4
      d_image_of := _
      F_image_of := fun_mk (st := s_image_of) l4 c4 k4
      b_image_of := (fun_mk (st := s_image_of) l4 c4 k4).binds (ps := ["nodes"]) fun _ _ _ _ _ _ us hl => match us, hl with | [_], _ => rfl
      g_image_of := PySem.W.mg_of X G a4
      f_is_capital := p5
      d_is_capital := _
      F_is_capital := fun_mk (st := s_is_capital) l5 c5 k5
      b_is_capital := (fun_mk (st := s_is_capital) l5 c5 k5).binds (ps := ["code"]) fun _ _ _ _ _ _ us hl => match us, hl with | [_], _ => rfl
      g_is_capital := PySem.W.mg_of X G a5
      f_is_small := p6
      d_is_small := _
      F_is_small := fun_mk (st := s_is_small) l6 c6 k6
      b_is_small := (fun_mk (st := s_is_small) l6 c6 k6).binds (ps := ["code"]) fun _ _ _ _ _ _ us hl => match us, hl with | [_], _ => rfl
      g_is_small := PySem.W.mg_of X G a6
      f_push_argument := p7
      d_push_argument := _
      F_push_argument := fun_mk (st := s_push_argument) l7 c7 k7
      b_push_argument := (fun_mk (st := s_push_argument) l7 c7 k7).binds (ps := ["state", "node"]) fun _ _ _ _ _ _ us hl => match us, hl with | [_, _], _ => rfl
      g_push_argument := PySem.W.mg_of X G a7
      f_combine := p8
      d_combine := _
      F_combine := fun_mk (st := s_combine) l8 c8 k8
      b_combine := (fun_mk (st := s_combine) l8 c8 k8).binds (ps := ["state", "node"]) fun _ _ _ _ _ _ us hl => match us, hl with | [_, _], _ => rfl
      g_combine := PySem.W.mg_of X G a8
      f_get := p9
      d_get := _
      F_get := fun_mk (st := s_get) l9 c9 k9
      b_get := (fun_mk (st := s_get) l9 c9 k9).binds (ps := ["state", "_"]) fun _ _ _ _ _ _ us hl => match us, hl with | [_, _], _ => rfl
      g_get := PySem.W.mg_of X G a9
      f_put := p10
      d_put := _
      F_put := fun_mk (st := s_put) l10 c10 k10
      b_put := (fun_mk (st := s_put) l10 c10 k10).binds (ps := ["state", "_"]) fun _ _ _ _ _ _ us hl => match us, hl with | [_, _], _ => rfl
      g_put := PySem.W.mg_of X G a10
      f_set_argument := p11
      d_set_argument := _
      F_set_argument := fun_mk (st := s_set_argument) l11 c11 k11
      b_set_argument := (fun_mk (st := s_set_argument) l11 c11 k11).binds (ps := ["state", "node"]) fun _ _ _ _ _ _ us hl => match us, hl with | [_, _], _ => rfl
      g_set_argument := PySem.W.mg_of X G a11
      f_take_number := p12
      d_take_number := _
      F_take_number := fun_mk (st := s_take_number) l12 c12 k12
      b_take_number := (fun_mk (st := s_take_number) l12 c12 k12).binds (ps := ["state", "_"]) fun _ _ _ _ _ _ us hl => match us, hl with | [_, _], _ => rfl
      g_take_number := PySem.W.mg_of X G a12
      f_rewind := p13
      d_rewind := _
      F_rewind := fun_mk (st := s_rewind) l13 c13 k13
      b_rewind := (fun_mk (st := s_rewind) l13 c13 k13).binds (ps := ["state", "_"]) fun _ _ _ _ _ _ us hl => match us, hl with | [_, _], _ => rfl
      g_rewind := PySem.W.mg_of X G a13
      f_write := p14
      d_write := _
      F_write := fun_mk (st := s_write) l14 c14 k14
      b_write := (fun_mk (st := s_write) l14 c14 k14).binds (ps := ["state", "_"]) fun _ _ _ _ _ _ us hl => match us, hl with | [_, _], _ => rfl
      g_write := PySem.W.mg_of X G a14
      f_push_cell := p15
      d_push_cell := _
      F_push_cell := fun_mk (st := s_push_cell) l15 c15 k15
      b_push_cell := (fun_mk (st := s_push_cell) l15 c15 k15).binds (ps := ["state", "_"]) fun _ _ _ _ _ _ us hl => match us, hl with | [_, _], _ => rfl
      g_push_cell := PySem.W.mg_of X G a15
      f_drop := p16
      d_drop := _
      F_drop := fun_mk (st := s_drop) l16 c16 k16
      b_drop := (fun_mk (st := s_drop) l16 c16 k16).binds (ps := ["state", "_"]) fun _ _ _ _ _ _ us hl => match us, hl with | [_, _], _ => rfl
      g_drop := PySem.W.mg_of X G a16
      f_double := p17
      d_double := _
      F_double := fun_mk (st := s_double) l17 c17 k17
      b_double := (fun_mk (st := s_double) l17 c17 k17).binds (ps := ["state", "_"]) fun _ _ _ _ _ _ us hl => match us, hl with | [_, _], _ => rfl
      g_double := PySem.W.mg_of X G a17
      f_exchange := p18
      d_exchange := _
      F_exchange := fun_mk (st := s_exchange) l18 c18 k18
      b_exchange := (fun_mk (st := s_exchange) l18 c18 k18).binds (ps := ["state", "_"]) fun _ _ _ _ _ _ us hl => match us, hl with | [_, _], _ => rfl
      g_exchange := PySem.W.mg_of X G a18
      f_branch := p19
      d_branch := _
      F_branch := fun_mk (st := s_branch) l19 c19 k19
      b_branch := (fun_mk (st := s_branch) l19 c19 k19).binds (ps := ["state", "node"]) fun _ _ _ _ _ _ us hl => match us, hl with | [_, _], _ => rfl
      g_branch := PySem.W.mg_of X G a19
      f_call_popped := p20
      d_call_popped := _
      F_call_popped := fun_mk (st := s_call_popped) l20 c20 k20
      b_call_popped := (fun_mk (st := s_call_popped) l20 c20 k20).binds (ps := ["state", "_"]) fun _ _ _ _ _ _ us hl => match us, hl with | [_, _], _ => rfl
      g_call_popped := PySem.W.mg_of X G a20
      f_call_if_defined := p21
      d_call_if_defined := _
      F_call_if_defined := fun_mk (st := s_call_if_defined) l21 c21 k21
      b_call_if_defined := (fun_mk (st := s_call_if_defined) l21 c21 k21).binds (ps := ["state", "_"]) fun _ _ _ _ _ _ us hl => match us, hl with | [_, _], _ => rfl
      g_call_if_defined := PySem.W.mg_of X G a21
      f_return := p22
      d_return := _
      F_return := fun_mk (st := s_return) l22 c22 k22
      b_return := (fun_mk (st := s_return) l22 c22 k22).binds (ps := ["state", "_"]) fun _ _ _ _ _ _ us hl => match us, hl with | [_, _], _ => rfl
      g_return := PySem.W.mg_of X G a22
      f_is_operation := p23
      d_is_operation := _
      F_is_operation := fun_mk (st := s_is_operation) l23 c23 k23
      b_is_operation := (fun_mk (st := s_is_operation) l23 c23 k23).binds (ps := ["code"]) fun _ _ _ _ _ _ us hl => match us, hl with | [_], _ => rfl
      g_is_operation := PySem.W.mg_of X G a23
      f_table_of := p24
      d_table_of := _
      F_table_of := fun_mk (st := s_table_of) l24 c24 k24
      b_table_of := (fun_mk (st := s_table_of) l24 c24 k24).binds (ps := ["image"]) fun _ _ _ _ _ _ us hl => match us, hl with | [_], _ => rfl
      g_table_of := PySem.W.mg_of X G a24
      f_image_of_table := p25
      d_image_of_table := _
      F_image_of_table := fun_mk (st := s_image_of_table) l25 c25 k25
      b_image_of_table := (fun_mk (st := s_image_of_table) l25 c25 k25).binds (ps := ["table"]) fun _ _ _ _ _ _ us hl => match us, hl with | [_], _ => rfl
      g_image_of_table := PySem.W.mg_of X G a25
      f_is_fixed := p26
      d_is_fixed := _
      F_is_fixed := fun_mk (st := s_is_fixed) l26 c26 k26
      b_is_fixed := (fun_mk (st := s_is_fixed) l26 c26 k26).binds (ps := ["number"]) fun _ _ _ _ _ _ us hl => match us, hl with | [_], _ => rfl
      g_is_fixed := PySem.W.mg_of X G a26
      f_is_nop := p27
      d_is_nop := _
      F_is_nop := fun_mk (st := s_is_nop) l27 c27 k27
      b_is_nop := (fun_mk (st := s_is_nop) l27 c27 k27).binds (ps := ["table", "number"]) fun _ _ _ _ _ _ us hl => match us, hl with | [_, _], _ => rfl
      g_is_nop := PySem.W.mg_of X G a27
      f_least := p28
      d_least := _
      F_least := fun_mk (st := s_least) l28 c28 k28
      b_least := (fun_mk (st := s_least) l28 c28 k28).binds (ps := ["numbers"]) fun _ _ _ _ _ _ us hl => match us, hl with | [_], _ => rfl
      g_least := PySem.W.mg_of X G a28
      f_callable := p29
      d_callable := _
      F_callable := fun_mk (st := s_callable) l29 c29 k29
      b_callable := (fun_mk (st := s_callable) l29 c29 k29).binds (ps := ["table"]) fun _ _ _ _ _ _ us hl => match us, hl with | [_], _ => rfl
      g_callable := PySem.W.mg_of X G a29
      f_next_numbers := p30
      d_next_numbers := _
      F_next_numbers := fun_mk (st := s_next_numbers) l30 c30 k30
      b_next_numbers := (fun_mk (st := s_next_numbers) l30 c30 k30).binds (ps := ["table", "number"]) fun _ _ _ _ _ _ us hl => match us, hl with | [_, _], _ => rfl
      g_next_numbers := PySem.W.mg_of X G a30
      f_reachable_in := p31
      d_reachable_in := _
      F_reachable_in := fun_mk (st := s_reachable_in) l31 c31 k31
      b_reachable_in := (fun_mk (st := s_reachable_in) l31 c31 k31).binds (ps := ["table"]) fun _ _ _ _ _ _ us hl => match us, hl with | [_], _ => rfl
      g_reachable_in := PySem.W.mg_of X G a31
      f_is_closed := p32
      d_is_closed := _
      F_is_closed := fun_mk (st := s_is_closed) l32 c32 k32
      b_is_closed := (fun_mk (st := s_is_closed) l32 c32 k32).binds (ps := ["image"]) fun _ _ _ _ _ _ us hl => match us, hl with | [_], _ => rfl
      g_is_closed := PySem.W.mg_of X G a32
      f_end_of_walk := p33
      d_end_of_walk := _
      F_end_of_walk := fun_mk (st := s_end_of_walk) l33 c33 k33
      b_end_of_walk := (fun_mk (st := s_end_of_walk) l33 c33 k33).binds (ps := ["walk", "number"]) fun _ _ _ _ _ _ us hl => match us, hl with | [_, _], _ => rfl
      g_end_of_walk := PySem.W.mg_of X G a33
      f_targets_of := p34
      d_targets_of := _
      F_targets_of := fun_mk (st := s_targets_of) l34 c34 k34
      b_targets_of := (fun_mk (st := s_targets_of) l34 c34 k34).binds (ps := ["table"]) fun _ _ _ _ _ _ us hl => match us, hl with | [_], _ => rfl
      g_targets_of := PySem.W.mg_of X G a34
      f_redirected := p35
      d_redirected := _
      F_redirected := fun_mk (st := s_redirected) l35 c35 k35
      b_redirected := (fun_mk (st := s_redirected) l35 c35 k35).binds (ps := ["node", "targets"]) fun _ _ _ _ _ _ us hl => match us, hl with | [_, _], _ => rfl
      g_redirected := PySem.W.mg_of X G a35
      f_threaded := p36
      d_threaded := _
      F_threaded := fun_mk (st := s_threaded) l36 c36 k36
      b_threaded := (fun_mk (st := s_threaded) l36 c36 k36).binds (ps := ["table"]) fun _ _ _ _ _ _ us hl => match us, hl with | [_], _ => rfl
      g_threaded := PySem.W.mg_of X G a36
      f_thread := p37
      d_thread := _
      F_thread := fun_mk (st := s_thread) l37 c37 k37
      b_thread := (fun_mk (st := s_thread) l37 c37 k37).binds (ps := ["image"]) fun _ _ _ _ _ _ us hl => match us, hl with | [_], _ => rfl
      g_thread := PySem.W.mg_of X G a37
      f_folded := p38
      d_folded := _
      F_folded := fun_mk (st := s_folded) l38 c38 k38
      b_folded := (fun_mk (st := s_folded) l38 c38 k38).binds (ps := ["table", "node"]) fun _ _ _ _ _ _ us hl => match us, hl with | [_, _], _ => rfl
      g_folded := PySem.W.mg_of X G a38
      f_fold := p39
      d_fold := _
      F_fold := fun_mk (st := s_fold) l39 c39 k39
      b_fold := (fun_mk (st := s_fold) l39 c39 k39).binds (ps := ["image"]) fun _ _ _ _ _ _ us hl => match us, hl with | [_], _ => rfl
      g_fold := PySem.W.mg_of X G a39
      f_prune := p40
      d_prune := _
      F_prune := fun_mk (st := s_prune) l40 c40 k40
      b_prune := (fun_mk (st := s_prune) l40 c40 k40).binds (ps := ["image"]) fun _ _ _ _ _ _ us hl => match us, hl with | [_], _ => rfl
      g_prune := PySem.W.mg_of X G a40
      f_law_number := p41
      d_law_number := _
      F_law_number := fun_mk (st := s_law_number) l41 c41 k41
      b_law_number := (fun_mk (st := s_law_number) l41 c41 k41).binds (ps := ["cell"]) fun _ _ _ _ _ _ us hl => match us, hl with | [_], _ => rfl
      g_law_number := PySem.W.mg_of X G a41
      f_law_draws := p42
      d_law_draws := _
      F_law_draws := fun_mk (st := s_law_draws) l42 c42 k42
      b_law_draws := (fun_mk (st := s_law_draws) l42 c42 k42).binds (ps := ["script"]) fun _ _ _ _ _ _ us hl => match us, hl with | [_], _ => rfl
      g_law_draws := PySem.W.mg_of X G a42
      f_law_draw := p43
      d_law_draw := _
      F_law_draw := fun_mk (st := s_law_draw) l43 c43 k43
      b_law_draw := (fun_mk (st := s_law_draw) l43 c43 k43).binds (ps := ["draws"]) fun _ _ _ _ _ _ us hl => match us, hl with | [_], _ => rfl
      g_law_draw := PySem.W.mg_of X G a43
      f_law_pick := p44
      d_law_pick := _
      F_law_pick := fun_mk (st := s_law_pick) l44 c44 k44
      b_law_pick := (fun_mk (st := s_law_pick) l44 c44 k44).binds (ps := ["draws", "many"]) fun _ _ _ _ _ _ us hl => match us, hl with | [_, _], _ => rfl
      g_law_pick := PySem.W.mg_of X G a44
      f_law_is_integer := p45
      d_law_is_integer := _
      F_law_is_integer := fun_mk (st := s_law_is_integer) l45 c45 k45
      b_law_is_integer := (fun_mk (st := s_law_is_integer) l45 c45 k45).binds (ps := ["actual"]) fun _ _ _ _ _ _ us hl => match us, hl with | [_], _ => rfl
      g_law_is_integer := PySem.W.mg_of X G a45
      f_law_is_cells := p46
      d_law_is_cells := _
      F_law_is_cells := fun_mk (st := s_law_is_cells) l46 c46 k46
      b_law_is_cells := (fun_mk (st := s_law_is_cells) l46 c46 k46).binds (ps := ["actual"]) fun _ _ _ _ _ _ us hl => match us, hl with | [_], _ => rfl
      g_law_is_cells := PySem.W.mg_of X G a46
      f_law_number_of := p47
      d_law_number_of := _
      F_law_number_of := fun_mk (st := s_law_number_of) l47 c47 k47
      b_law_number_of := (fun_mk (st := s_law_number_of) l47 c47 k47).binds (ps := ["draws"]) fun _ _ _ _ _ _ us hl => match us, hl with | [_], _ => rfl
      g_law_number_of := PySem.W.mg_of X G a47
      f_law_op := p48
      d_law_op := _
      F_law_op := fun_mk (st := s_law_op) l48 c48 k48
      b_law_op := (fun_mk (st := s_law_op) l48 c48 k48).binds (ps := ["draws", "share"]) fun _ _ _ _ _ _ us hl => match us, hl with | [_, _], _ => rfl
      g_law_op := PySem.W.mg_of X G a48
      f_law_arg := p49
      d_law_arg := _
      F_law_arg := fun_mk (st := s_law_arg) l49 c49 k49
      b_law_arg := (fun_mk (st := s_law_arg) l49 c49 k49).binds (ps := ["draws", "op"]) fun _ _ _ _ _ _ us hl => match us, hl with | [_, _], _ => rfl
      g_law_arg := PySem.W.mg_of X G a49
      f_law_image := p50
      d_law_image := _
      F_law_image := fun_mk (st := s_law_image) l50 c50 k50
      b_law_image := (fun_mk (st := s_law_image) l50 c50 k50).binds (ps := ["draws", "many", "share"]) fun _ _ _ _ _ _ us hl => match us, hl with | [_, _, _], _ => rfl
      g_law_image := PySem.W.mg_of X G a50
      f_law_table := p51
      d_law_table := _
      F_law_table := fun_mk (st := s_law_table) l51 c51 k51
      b_law_table := (fun_mk (st := s_law_table) l51 c51 k51).binds (ps := ["cells"]) fun _ _ _ _ _ _ us hl => match us, hl with | [_], _ => rfl
      g_law_table := PySem.W.mg_of X G a51
      f_law_is_nop := p52
      d_law_is_nop := _
      F_law_is_nop := fun_mk (st := s_law_is_nop) l52 c52 k52
      b_law_is_nop := (fun_mk (st := s_law_is_nop) l52 c52 k52).binds (ps := ["op"]) fun _ _ _ _ _ _ us hl => match us, hl with | [_], _ => rfl
      g_law_is_nop := PySem.W.mg_of X G a52
      f_law_ways := p53
      d_law_ways := _
      F_law_ways := fun_mk (st := s_law_ways) l53 c53 k53
      b_law_ways := (fun_mk (st := s_law_ways) l53 c53 k53).binds (ps := ["table", "number"]) fun _ _ _ _ _ _ us hl => match us, hl with | [_, _], _ => rfl
      g_law_ways := PySem.W.mg_of X G a53
      f_law_reached := p54
      d_law_reached := _
      F_law_reached := fun_mk (st := s_law_reached) l54 c54 k54
      b_law_reached := (fun_mk (st := s_law_reached) l54 c54 k54).binds (ps := ["table"]) fun _ _ _ _ _ _ us hl => match us, hl with | [_], _ => rfl
      g_law_reached := PySem.W.mg_of X G a54
      f_law_is_closed := p55
      d_law_is_closed := _
      F_law_is_closed := fun_mk (st := s_law_is_closed) l55 c55 k55
      b_law_is_closed := (fun_mk (st := s_law_is_closed) l55 c55 k55).binds (ps := ["table"]) fun _ _ _ _ _ _ us hl => match us, hl with | [_], _ => rfl
      g_law_is_closed := PySem.W.mg_of X G a55
      f_law_written := p56
      d_law_written := _
      F_law_written := fun_mk (st := s_law_written) l56 c56 k56
      b_law_written := (fun_mk (st := s_law_written) l56 c56 k56).binds (ps := ["table"]) fun _ _ _ _ _ _ us hl => match us, hl with | [_], _ => rfl
      g_law_written := PySem.W.mg_of X G a56
      f_law_ring := p57
      d_law_ring := _
      F_law_ring := fun_mk (st := s_law_ring) l57 c57 k57
      b_law_ring := (fun_mk (st := s_law_ring) l57 c57 k57).binds (ps := ["ring"]) fun _ _ _ _ _ _ us hl => match us, hl with | [_], _ => rfl
      g_law_ring := PySem.W.mg_of X G a57
      f_law_target := p58
      d_law_target := _
      F_law_target := fun_mk (st := s_law_target) l58 c58 k58
      b_law_target := (fun_mk (st := s_law_target) l58 c58 k58).binds (ps := ["table", "number"]) fun _ _ _ _ _ _ us hl => match us, hl with | [_, _], _ => rfl
      g_law_target := PySem.W.mg_of X G a58
      f_law_combined := p59
      d_law_combined := _
      F_law_combined := fun_mk (st := s_law_combined) l59 c59 k59
      b_law_combined := (fun_mk (st := s_law_combined) l59 c59 k59).binds (ps := ["op", "x", "y"]) fun _ _ _ _ _ _ us hl => match us, hl with | [_, _, _], _ => rfl
      g_law_combined := PySem.W.mg_of X G a59
      f_law_threaded := p60
      d_law_threaded := _
      F_law_threaded := fun_mk (st := s_law_threaded) l60 c60 k60
      b_law_threaded := (fun_mk (st := s_law_threaded) l60 c60 k60).binds (ps := ["table"]) fun _ _ _ _ _ _ us hl => match us, hl with | [_], _ => rfl
      g_law_threaded := PySem.W.mg_of X G a60
      f_law_folded := p61
      d_law_folded := _
      F_law_folded := fun_mk (st := s_law_folded) l61 c61 k61
      b_law_folded := (fun_mk (st := s_law_folded) l61 c61 k61).binds (ps := ["table"]) fun _ _ _ _ _ _ us hl => match us, hl with | [_], _ => rfl
      g_law_folded := PySem.W.mg_of X G a61
      f_law_folded_node := p62
      d_law_folded_node := _
      F_law_folded_node := fun_mk (st := s_law_folded_node) l62 c62 k62
      b_law_folded_node := (fun_mk (st := s_law_folded_node) l62 c62 k62).binds (ps := ["table", "node", "after"]) fun _ _ _ _ _ _ us hl => match us, hl with | [_, _, _], _ => rfl
      g_law_folded_node := PySem.W.mg_of X G a62
      f_law_pruned := p63
      d_law_pruned := _
      F_law_pruned := fun_mk (st := s_law_pruned) l63 c63 k63
      b_law_pruned := (fun_mk (st := s_law_pruned) l63 c63 k63).binds (ps := ["table"]) fun _ _ _ _ _ _ us hl => match us, hl with | [_], _ => rfl
      g_law_pruned := PySem.W.mg_of X G a63
      f_law_is_due := p64
      d_law_is_due := _
      F_law_is_due := fun_mk (st := s_law_is_due) l64 c64 k64
      b_law_is_due := (fun_mk (st := s_law_is_due) l64 c64 k64).binds (ps := ["actual", "due", "passed", "cells"]) fun _ _ _ _ _ _ us hl => match us, hl with | [_, _, _, _], _ => rfl
      g_law_is_due := PySem.W.mg_of X G a64
      f_law := p65
      d_law := _
      F_law := fun_mk (st := s_law) l65 c65 k65
      b_law := (fun_mk (st := s_law) l65 c65 k65).binds (ps := ["script"]) fun _ _ _ _ _ _ us hl => match us, hl with | [_], _ => rfl
      g_law := PySem.W.mg_of X G a65
      h_law := fun s v => .of_eq rfl
      D_ACTIONS := D_ACTIONS
      g_ACTIONS := PySem.W.mg_of X G g_ACTIONS
      tab_ACTIONS := ⟨⟨_, _, tl_ACTIONS, tk_ACTIONS⟩, tw_ACTIONS⟩
      nd_ACTIONS := tn_ACTIONS
      D_COMBINING := D_COMBINING
      g_COMBINING := PySem.W.mg_of X G g_COMBINING
      tup_COMBINING := tupK_of tu_COMBINING ti_COMBINING (by decide)
      t_BRANCH := t_BRANCH
      c_BRANCH := PySem.W.mg_of X G c_BRANCH
      t_CALL := t_CALL
      c_CALL := PySem.W.mg_of X G c_CALL
      t_CALL_IF_DEFINED := t_CALL_IF_DEFINED
      c_CALL_IF_DEFINED := PySem.W.mg_of X G c_CALL_IF_DEFINED
      t_CELL := t_CELL
      c_CELL := PySem.W.mg_of X G c_CELL
      t_DROP := t_DROP
      c_DROP := PySem.W.mg_of X G c_DROP
      t_FIRST_FREE := t_FIRST_FREE
      c_FIRST_FREE := PySem.W.mg_of X G c_FIRST_FREE
      t_NOP := t_NOP
      c_NOP := PySem.W.mg_of X G c_NOP
      t_PUSH := t_PUSH
      c_PUSH := PySem.W.mg_of X G c_PUSH
      n_bool := PySem.W.mg_none_of X G n_bool
      n_int := PySem.W.mg_none_of X G n_int
      n_isinstance := PySem.W.mg_none_of X G n_isinstance
      n_len := PySem.W.mg_none_of X G n_len
      n_list := PySem.W.mg_none_of X G n_list
      n_min := PySem.W.mg_none_of X G n_min
      n_range := PySem.W.mg_none_of X G n_range
      n_sorted := PySem.W.mg_none_of X G n_sorted
      n_tuple := PySem.W.mg_none_of X G n_tuple }, rfl⟩
theorem all_mk {l : PySem.W.OpenLaw} {w : World} {K : PySem.W.Frag} {h : Heap} {mg : Str → Option Value} {fa p1 p2 p3 p4 p5 p6 p7 p8 p9 p10 p11 p12 p13 p14 p15 p16 p17 p18 p19 p20 p21 p22 p23 p24 p25 p26 p27 p28 p29 p30 p31 p32 p33 p34 p35 p36 p37 p38 p39 p40 p41 p42 p43 p44 p45 p46 p47 p48 p49 p50 p51 p52 p53 p54 p55 p56 p57 p58 p59 p60 p61 p62 p63 p64 p65 D_ACTIONS D_COMBINING : Addr} (X : K.In h) (G : h.Ns mainGlobals mg) (hfa : mg "law" = some (.ref fa))
    {t_BRANCH t_CALL t_CALL_IF_DEFINED t_CELL t_DROP t_FIRST_FREE t_NOP t_PUSH : Tok}
    {od1 an1 od2 an2 od3 an3 od4 an4 od5 an5 od6 an6 od7 an7 od8 an8 od9 an9 od10 an10 od11 an11 od12 an12 od13 an13 od14 an14 od15 an15 od16 an16 od17 an17 od18 an18 od19 an19 od20 an20 od21 an21 od22 an22 od23 an23 od24 an24 od25 an25 od26 an26 od27 an27 od28 an28 od29 an29 od30 an30 od31 an31 od32 an32 od33 an33 od34 an34 od35 an35 od36 an36 od37 an37 od38 an38 od39 an39 od40 an40 od41 an41 od42 an42 od43 an43 od44 an44 od45 an45 od46 an46 od47 an47 od48 an48 od49 an49 od50 an50 od51 an51 od52 an52 od53 an53 od54 an54 od55 an55 od56 an56 od57 an57 od58 an58 od59 an59 od60 an60 od61 an61 od62 an62 od63 an63 od64 an64 od65 an65 : Option Addr} {sl1 sl2 sl3 sl4 sl5 sl6 sl7 sl8 sl9 sl10 sl11 sl12 sl13 sl14 sl15 sl16 sl17 sl18 sl19 sl20 sl21 sl22 sl23 sl24 sl25 sl26 sl27 sl28 sl29 sl30 sl31 sl32 sl33 sl34 sl35 sl36 sl37 sl38 sl39 sl40 sl41 sl42 sl43 sl44 sl45 sl46 sl47 sl48 sl49 sl50 sl51 sl52 sl53 sl54 sl55 sl56 sl57 sl58 sl59 sl60 sl61 sl62 sl63 sl64 sl65 : Array (Option Value)}
    {es_ACTIONS : Array DictEntry} {nn_ACTIONS : Nat}
    {odCOMBINING : Option Addr} {itCOMBINING : Array Value} {nnCOMBINING : Nat} {slCOMBINING : Array (Option Value)}
    {oc1 kV1 dc1 pm1 cd1 ct1 oc2 kV2 dc2 pm2 cd2 ct2 oc3 kV3 dc3 pm3 cd3 ct3 oc4 kV4 dc4 pm4 cd4 ct4 oc5 kV5 dc5 pm5 cd5 ct5 oc6 kV6 dc6 pm6 cd6 ct6 oc7 kV7 dc7 pm7 cd7 ct7 oc8 kV8 dc8 pm8 cd8 ct8 oc9 kV9 dc9 pm9 cd9 ct9 oc10 kV10 dc10 pm10 cd10 ct10 oc11 kV11 dc11 pm11 cd11 ct11 oc12 kV12 dc12 pm12 cd12 ct12 oc13 kV13 dc13 pm13 cd13 ct13 oc14 kV14 dc14 pm14 cd14 ct14 oc15 kV15 dc15 pm15 cd15 ct15 oc16 kV16 dc16 pm16 cd16 ct16 oc17 kV17 dc17 pm17 cd17 ct17 oc18 kV18 dc18 pm18 cd18 ct18 oc19 kV19 dc19 pm19 cd19 ct19 oc20 kV20 dc20 pm20 cd20 ct20 oc21 kV21 dc21 pm21 cd21 ct21 oc22 kV22 dc22 pm22 cd22 ct22 oc23 kV23 dc23 pm23 cd23 ct23 oc24 kV24 dc24 pm24 cd24 ct24 oc25 kV25 dc25 pm25 cd25 ct25 oc26 kV26 dc26 pm26 cd26 ct26 oc27 kV27 dc27 pm27 cd27 ct27 oc28 kV28 dc28 pm28 cd28 ct28 oc29 kV29 dc29 pm29 cd29 ct29 oc30 kV30 dc30 pm30 cd30 ct30 oc31 kV31 dc31 pm31 cd31 ct31 oc32 kV32 dc32 pm32 cd32 ct32 oc33 kV33 dc33 pm33 cd33 ct33 oc34 kV34 dc34 pm34 cd34 ct34 oc35 kV35 dc35 pm35 cd35 ct35 oc36 kV36 dc36 pm36 cd36 ct36 oc37 kV37 dc37 pm37 cd37 ct37 oc38 kV38 dc38 pm38 cd38 ct38 oc39 kV39 dc39 pm39 cd39 ct39 oc40 kV40 dc40 pm40 cd40 ct40 oc41 kV41 dc41 pm41 cd41 ct41 oc42 kV42 dc42 pm42 cd42 ct42 oc43 kV43 dc43 pm43 cd43 ct43 oc44 kV44 dc44 pm44 cd44 ct44 oc45 kV45 dc45 pm45 cd45 ct45 oc46 kV46 dc46 pm46 cd46 ct46 oc47 kV47 dc47 pm47 cd47 ct47 oc48 kV48 dc48 pm48 cd48 ct48 oc49 kV49 dc49 pm49 cd49 ct49 oc50 kV50 dc50 pm50 cd50 ct50 oc51 kV51 dc51 pm51 cd51 ct51 oc52 kV52 dc52 pm52 cd52 ct52 oc53 kV53 dc53 pm53 cd53 ct53 oc54 kV54 dc54 pm54 cd54 ct54 oc55 kV55 dc55 pm55 cd55 ct55 oc56 kV56 dc56 pm56 cd56 ct56 oc57 kV57 dc57 pm57 cd57 ct57 oc58 kV58 dc58 pm58 cd58 ct58 oc59 kV59 dc59 pm59 cd59 ct59 oc60 kV60 dc60 pm60 cd60 ct60 oc61 kV61 dc61 pm61 cd61 ct61 oc62 kV62 dc62 pm62 cd62 ct62 oc63 kV63 dc63 pm63 cd63 ct63 oc64 kV64 dc64 pm64 cd64 ct64 oc65 kV65 dc65 pm65 cd65 ct65 : Value}
    (a1 : PySem.W.nsIn K mainGlobals "combined" = some (some (.ref p1)))
    (l1 : K.lookup p1 = some ⟨oc1, od1, .func (PySem.W.fnOf "combined" "combined" (defArgs s_combined) (defBody s_combined) (defScope s_combined) .none kV1 dc1 pm1 an1 cd1 ct1), sl1⟩)
    (c1 : PySem.W.codeIn K cd1 "combined" = true)
    (k1 : PySem.W.keepIn K (.ref p1) = true)
    (a2 : PySem.W.nsIn K mainGlobals "can_call" = some (some (.ref p2)))
    (l2 : K.lookup p2 = some ⟨oc2, od2, .func (PySem.W.fnOf "can_call" "can_call" (defArgs s_can_call) (defBody s_can_call) (defScope s_can_call) .none kV2 dc2 pm2 an2 cd2 ct2), sl2⟩)
    (c2 : PySem.W.codeIn K cd2 "can_call" = true)
    (k2 : PySem.W.keepIn K (.ref p2) = true)
    (a3 : PySem.W.nsIn K mainGlobals "nodes_of" = some (some (.ref p3)))
    (l3 : K.lookup p3 = some ⟨oc3, od3, .func (PySem.W.fnOf "nodes_of" "nodes_of" (defArgs s_nodes_of) (defBody s_nodes_of) (defScope s_nodes_of) .none kV3 dc3 pm3 an3 cd3 ct3), sl3⟩)
    (c3 : PySem.W.codeIn K cd3 "nodes_of" = true)
    (k3 : PySem.W.keepIn K (.ref p3) = true)
    (a4 : PySem.W.nsIn K mainGlobals "image_of" = some (some (.ref p4)))
    (l4 : K.lookup p4 = some ⟨oc4, od4, .func (PySem.W.fnOf "image_of" "image_of" (defArgs s_image_of) (defBody s_image_of) (defScope s_image_of) .none kV4 dc4 pm4 an4 cd4 ct4), sl4⟩)
    (c4 : PySem.W.codeIn K cd4 "image_of" = true)
    (k4 : PySem.W.keepIn K (.ref p4) = true)
    (a5 : PySem.W.nsIn K mainGlobals "is_capital" = some (some (.ref p5)))
    (l5 : K.lookup p5 = some ⟨oc5, od5, .func (PySem.W.fnOf "is_capital" "is_capital" (defArgs s_is_capital) (defBody s_is_capital) (defScope s_is_capital) .none kV5 dc5 pm5 an5 cd5 ct5), sl5⟩)
    (c5 : PySem.W.codeIn K cd5 "is_capital" = true)
    (k5 : PySem.W.keepIn K (.ref p5) = true)
    (a6 : PySem.W.nsIn K mainGlobals "is_small" = some (some (.ref p6)))
    (l6 : K.lookup p6 = some ⟨oc6, od6, .func (PySem.W.fnOf "is_small" "is_small" (defArgs s_is_small) (defBody s_is_small) (defScope s_is_small) .none kV6 dc6 pm6 an6 cd6 ct6), sl6⟩)
    (c6 : PySem.W.codeIn K cd6 "is_small" = true)
    (k6 : PySem.W.keepIn K (.ref p6) = true)
    (a7 : PySem.W.nsIn K mainGlobals "_push_argument" = some (some (.ref p7)))
    (l7 : K.lookup p7 = some ⟨oc7, od7, .func (PySem.W.fnOf "_push_argument" "_push_argument" (defArgs s_push_argument) (defBody s_push_argument) (defScope s_push_argument) .none kV7 dc7 pm7 an7 cd7 ct7), sl7⟩)
    (c7 : PySem.W.codeIn K cd7 "_push_argument" = true)
    (k7 : PySem.W.keepIn K (.ref p7) = true)
    (a8 : PySem.W.nsIn K mainGlobals "_combine" = some (some (.ref p8)))
    (l8 : K.lookup p8 = some ⟨oc8, od8, .func (PySem.W.fnOf "_combine" "_combine" (defArgs s_combine) (defBody s_combine) (defScope s_combine) .none kV8 dc8 pm8 an8 cd8 ct8), sl8⟩)
    (c8 : PySem.W.codeIn K cd8 "_combine" = true)
    (k8 : PySem.W.keepIn K (.ref p8) = true)
    (a9 : PySem.W.nsIn K mainGlobals "_get" = some (some (.ref p9)))
    (l9 : K.lookup p9 = some ⟨oc9, od9, .func (PySem.W.fnOf "_get" "_get" (defArgs s_get) (defBody s_get) (defScope s_get) .none kV9 dc9 pm9 an9 cd9 ct9), sl9⟩)
    (c9 : PySem.W.codeIn K cd9 "_get" = true)
    (k9 : PySem.W.keepIn K (.ref p9) = true)
    (a10 : PySem.W.nsIn K mainGlobals "_put" = some (some (.ref p10)))
    (l10 : K.lookup p10 = some ⟨oc10, od10, .func (PySem.W.fnOf "_put" "_put" (defArgs s_put) (defBody s_put) (defScope s_put) .none kV10 dc10 pm10 an10 cd10 ct10), sl10⟩)
    (c10 : PySem.W.codeIn K cd10 "_put" = true)
    (k10 : PySem.W.keepIn K (.ref p10) = true)
    (a11 : PySem.W.nsIn K mainGlobals "_set_argument" = some (some (.ref p11)))
    (l11 : K.lookup p11 = some ⟨oc11, od11, .func (PySem.W.fnOf "_set_argument" "_set_argument" (defArgs s_set_argument) (defBody s_set_argument) (defScope s_set_argument) .none kV11 dc11 pm11 an11 cd11 ct11), sl11⟩)
    (c11 : PySem.W.codeIn K cd11 "_set_argument" = true)
    (k11 : PySem.W.keepIn K (.ref p11) = true)
    (a12 : PySem.W.nsIn K mainGlobals "_take_number" = some (some (.ref p12)))
    (l12 : K.lookup p12 = some ⟨oc12, od12, .func (PySem.W.fnOf "_take_number" "_take_number" (defArgs s_take_number) (defBody s_take_number) (defScope s_take_number) .none kV12 dc12 pm12 an12 cd12 ct12), sl12⟩)
    (c12 : PySem.W.codeIn K cd12 "_take_number" = true)
    (k12 : PySem.W.keepIn K (.ref p12) = true)
    (a13 : PySem.W.nsIn K mainGlobals "_rewind" = some (some (.ref p13)))
    (l13 : K.lookup p13 = some ⟨oc13, od13, .func (PySem.W.fnOf "_rewind" "_rewind" (defArgs s_rewind) (defBody s_rewind) (defScope s_rewind) .none kV13 dc13 pm13 an13 cd13 ct13), sl13⟩)
    (c13 : PySem.W.codeIn K cd13 "_rewind" = true)
    (k13 : PySem.W.keepIn K (.ref p13) = true)
    (a14 : PySem.W.nsIn K mainGlobals "_write" = some (some (.ref p14)))
    (l14 : K.lookup p14 = some ⟨oc14, od14, .func (PySem.W.fnOf "_write" "_write" (defArgs s_write) (defBody s_write) (defScope s_write) .none kV14 dc14 pm14 an14 cd14 ct14), sl14⟩)
    (c14 : PySem.W.codeIn K cd14 "_write" = true)
    (k14 : PySem.W.keepIn K (.ref p14) = true)
    (a15 : PySem.W.nsIn K mainGlobals "_push_cell" = some (some (.ref p15)))
    (l15 : K.lookup p15 = some ⟨oc15, od15, .func (PySem.W.fnOf "_push_cell" "_push_cell" (defArgs s_push_cell) (defBody s_push_cell) (defScope s_push_cell) .none kV15 dc15 pm15 an15 cd15 ct15), sl15⟩)
    (c15 : PySem.W.codeIn K cd15 "_push_cell" = true)
    (k15 : PySem.W.keepIn K (.ref p15) = true)
    (a16 : PySem.W.nsIn K mainGlobals "_drop" = some (some (.ref p16)))
    (l16 : K.lookup p16 = some ⟨oc16, od16, .func (PySem.W.fnOf "_drop" "_drop" (defArgs s_drop) (defBody s_drop) (defScope s_drop) .none kV16 dc16 pm16 an16 cd16 ct16), sl16⟩)
    (c16 : PySem.W.codeIn K cd16 "_drop" = true)
    (k16 : PySem.W.keepIn K (.ref p16) = true)
    (a17 : PySem.W.nsIn K mainGlobals "_double" = some (some (.ref p17)))
    (l17 : K.lookup p17 = some ⟨oc17, od17, .func (PySem.W.fnOf "_double" "_double" (defArgs s_double) (defBody s_double) (defScope s_double) .none kV17 dc17 pm17 an17 cd17 ct17), sl17⟩)
    (c17 : PySem.W.codeIn K cd17 "_double" = true)
    (k17 : PySem.W.keepIn K (.ref p17) = true)
    (a18 : PySem.W.nsIn K mainGlobals "_exchange" = some (some (.ref p18)))
    (l18 : K.lookup p18 = some ⟨oc18, od18, .func (PySem.W.fnOf "_exchange" "_exchange" (defArgs s_exchange) (defBody s_exchange) (defScope s_exchange) .none kV18 dc18 pm18 an18 cd18 ct18), sl18⟩)
    (c18 : PySem.W.codeIn K cd18 "_exchange" = true)
    (k18 : PySem.W.keepIn K (.ref p18) = true)
    (a19 : PySem.W.nsIn K mainGlobals "_branch" = some (some (.ref p19)))
    (l19 : K.lookup p19 = some ⟨oc19, od19, .func (PySem.W.fnOf "_branch" "_branch" (defArgs s_branch) (defBody s_branch) (defScope s_branch) .none kV19 dc19 pm19 an19 cd19 ct19), sl19⟩)
    (c19 : PySem.W.codeIn K cd19 "_branch" = true)
    (k19 : PySem.W.keepIn K (.ref p19) = true)
    (a20 : PySem.W.nsIn K mainGlobals "_call_popped" = some (some (.ref p20)))
    (l20 : K.lookup p20 = some ⟨oc20, od20, .func (PySem.W.fnOf "_call_popped" "_call_popped" (defArgs s_call_popped) (defBody s_call_popped) (defScope s_call_popped) .none kV20 dc20 pm20 an20 cd20 ct20), sl20⟩)
    (c20 : PySem.W.codeIn K cd20 "_call_popped" = true)
    (k20 : PySem.W.keepIn K (.ref p20) = true)
    (a21 : PySem.W.nsIn K mainGlobals "_call_if_defined" = some (some (.ref p21)))
    (l21 : K.lookup p21 = some ⟨oc21, od21, .func (PySem.W.fnOf "_call_if_defined" "_call_if_defined" (defArgs s_call_if_defined) (defBody s_call_if_defined) (defScope s_call_if_defined) .none kV21 dc21 pm21 an21 cd21 ct21), sl21⟩)
    (c21 : PySem.W.codeIn K cd21 "_call_if_defined" = true)
    (k21 : PySem.W.keepIn K (.ref p21) = true)
    (a22 : PySem.W.nsIn K mainGlobals "_return" = some (some (.ref p22)))
    (l22 : K.lookup p22 = some ⟨oc22, od22, .func (PySem.W.fnOf "_return" "_return" (defArgs s_return) (defBody s_return) (defScope s_return) .none kV22 dc22 pm22 an22 cd22 ct22), sl22⟩)
    (c22 : PySem.W.codeIn K cd22 "_return" = true)
    (k22 : PySem.W.keepIn K (.ref p22) = true)
    (a23 : PySem.W.nsIn K mainGlobals "is_operation" = some (some (.ref p23)))
    (l23 : K.lookup p23 = some ⟨oc23, od23, .func (PySem.W.fnOf "is_operation" "is_operation" (defArgs s_is_operation) (defBody s_is_operation) (defScope s_is_operation) .none kV23 dc23 pm23 an23 cd23 ct23), sl23⟩)
    (c23 : PySem.W.codeIn K cd23 "is_operation" = true)
    (k23 : PySem.W.keepIn K (.ref p23) = true)
    (a24 : PySem.W.nsIn K mainGlobals "table_of" = some (some (.ref p24)))
    (l24 : K.lookup p24 = some ⟨oc24, od24, .func (PySem.W.fnOf "table_of" "table_of" (defArgs s_table_of) (defBody s_table_of) (defScope s_table_of) .none kV24 dc24 pm24 an24 cd24 ct24), sl24⟩)
    (c24 : PySem.W.codeIn K cd24 "table_of" = true)
    (k24 : PySem.W.keepIn K (.ref p24) = true)
    (a25 : PySem.W.nsIn K mainGlobals "image_of_table" = some (some (.ref p25)))
    (l25 : K.lookup p25 = some ⟨oc25, od25, .func (PySem.W.fnOf "image_of_table" "image_of_table" (defArgs s_image_of_table) (defBody s_image_of_table) (defScope s_image_of_table) .none kV25 dc25 pm25 an25 cd25 ct25), sl25⟩)
    (c25 : PySem.W.codeIn K cd25 "image_of_table" = true)
    (k25 : PySem.W.keepIn K (.ref p25) = true)
    (a26 : PySem.W.nsIn K mainGlobals "is_fixed" = some (some (.ref p26)))
    (l26 : K.lookup p26 = some ⟨oc26, od26, .func (PySem.W.fnOf "is_fixed" "is_fixed" (defArgs s_is_fixed) (defBody s_is_fixed) (defScope s_is_fixed) .none kV26 dc26 pm26 an26 cd26 ct26), sl26⟩)
    (c26 : PySem.W.codeIn K cd26 "is_fixed" = true)
    (k26 : PySem.W.keepIn K (.ref p26) = true)
    (a27 : PySem.W.nsIn K mainGlobals "is_nop" = some (some (.ref p27)))
    (l27 : K.lookup p27 = some ⟨oc27, od27, .func (PySem.W.fnOf "is_nop" "is_nop" (defArgs s_is_nop) (defBody s_is_nop) (defScope s_is_nop) .none kV27 dc27 pm27 an27 cd27 ct27), sl27⟩)
    (c27 : PySem.W.codeIn K cd27 "is_nop" = true)
    (k27 : PySem.W.keepIn K (.ref p27) = true)
    (a28 : PySem.W.nsIn K mainGlobals "least" = some (some (.ref p28)))
    (l28 : K.lookup p28 = some ⟨oc28, od28, .func (PySem.W.fnOf "least" "least" (defArgs s_least) (defBody s_least) (defScope s_least) .none kV28 dc28 pm28 an28 cd28 ct28), sl28⟩)
    (c28 : PySem.W.codeIn K cd28 "least" = true)
    (k28 : PySem.W.keepIn K (.ref p28) = true)
    (a29 : PySem.W.nsIn K mainGlobals "_callable" = some (some (.ref p29)))
    (l29 : K.lookup p29 = some ⟨oc29, od29, .func (PySem.W.fnOf "_callable" "_callable" (defArgs s_callable) (defBody s_callable) (defScope s_callable) .none kV29 dc29 pm29 an29 cd29 ct29), sl29⟩)
    (c29 : PySem.W.codeIn K cd29 "_callable" = true)
    (k29 : PySem.W.keepIn K (.ref p29) = true)
    (a30 : PySem.W.nsIn K mainGlobals "next_numbers" = some (some (.ref p30)))
    (l30 : K.lookup p30 = some ⟨oc30, od30, .func (PySem.W.fnOf "next_numbers" "next_numbers" (defArgs s_next_numbers) (defBody s_next_numbers) (defScope s_next_numbers) .none kV30 dc30 pm30 an30 cd30 ct30), sl30⟩)
    (c30 : PySem.W.codeIn K cd30 "next_numbers" = true)
    (k30 : PySem.W.keepIn K (.ref p30) = true)
    (a31 : PySem.W.nsIn K mainGlobals "reachable_in" = some (some (.ref p31)))
    (l31 : K.lookup p31 = some ⟨oc31, od31, .func (PySem.W.fnOf "reachable_in" "reachable_in" (defArgs s_reachable_in) (defBody s_reachable_in) (defScope s_reachable_in) .none kV31 dc31 pm31 an31 cd31 ct31), sl31⟩)
    (c31 : PySem.W.codeIn K cd31 "reachable_in" = true)
    (k31 : PySem.W.keepIn K (.ref p31) = true)
    (a32 : PySem.W.nsIn K mainGlobals "is_closed" = some (some (.ref p32)))
    (l32 : K.lookup p32 = some ⟨oc32, od32, .func (PySem.W.fnOf "is_closed" "is_closed" (defArgs s_is_closed) (defBody s_is_closed) (defScope s_is_closed) .none kV32 dc32 pm32 an32 cd32 ct32), sl32⟩)
    (c32 : PySem.W.codeIn K cd32 "is_closed" = true)
    (k32 : PySem.W.keepIn K (.ref p32) = true)
    (a33 : PySem.W.nsIn K mainGlobals "_end_of_walk" = some (some (.ref p33)))
    (l33 : K.lookup p33 = some ⟨oc33, od33, .func (PySem.W.fnOf "_end_of_walk" "_end_of_walk" (defArgs s_end_of_walk) (defBody s_end_of_walk) (defScope s_end_of_walk) .none kV33 dc33 pm33 an33 cd33 ct33), sl33⟩)
    (c33 : PySem.W.codeIn K cd33 "_end_of_walk" = true)
    (k33 : PySem.W.keepIn K (.ref p33) = true)
    (a34 : PySem.W.nsIn K mainGlobals "targets_of" = some (some (.ref p34)))
    (l34 : K.lookup p34 = some ⟨oc34, od34, .func (PySem.W.fnOf "targets_of" "targets_of" (defArgs s_targets_of) (defBody s_targets_of) (defScope s_targets_of) .none kV34 dc34 pm34 an34 cd34 ct34), sl34⟩)
    (c34 : PySem.W.codeIn K cd34 "targets_of" = true)
    (k34 : PySem.W.keepIn K (.ref p34) = true)
    (a35 : PySem.W.nsIn K mainGlobals "_redirected" = some (some (.ref p35)))
    (l35 : K.lookup p35 = some ⟨oc35, od35, .func (PySem.W.fnOf "_redirected" "_redirected" (defArgs s_redirected) (defBody s_redirected) (defScope s_redirected) .none kV35 dc35 pm35 an35 cd35 ct35), sl35⟩)
    (c35 : PySem.W.codeIn K cd35 "_redirected" = true)
    (k35 : PySem.W.keepIn K (.ref p35) = true)
    (a36 : PySem.W.nsIn K mainGlobals "_threaded" = some (some (.ref p36)))
    (l36 : K.lookup p36 = some ⟨oc36, od36, .func (PySem.W.fnOf "_threaded" "_threaded" (defArgs s_threaded) (defBody s_threaded) (defScope s_threaded) .none kV36 dc36 pm36 an36 cd36 ct36), sl36⟩)
    (c36 : PySem.W.codeIn K cd36 "_threaded" = true)
    (k36 : PySem.W.keepIn K (.ref p36) = true)
    (a37 : PySem.W.nsIn K mainGlobals "thread" = some (some (.ref p37)))
    (l37 : K.lookup p37 = some ⟨oc37, od37, .func (PySem.W.fnOf "thread" "thread" (defArgs s_thread) (defBody s_thread) (defScope s_thread) .none kV37 dc37 pm37 an37 cd37 ct37), sl37⟩)
    (c37 : PySem.W.codeIn K cd37 "thread" = true)
    (k37 : PySem.W.keepIn K (.ref p37) = true)
    (a38 : PySem.W.nsIn K mainGlobals "_folded" = some (some (.ref p38)))
    (l38 : K.lookup p38 = some ⟨oc38, od38, .func (PySem.W.fnOf "_folded" "_folded" (defArgs s_folded) (defBody s_folded) (defScope s_folded) .none kV38 dc38 pm38 an38 cd38 ct38), sl38⟩)
    (c38 : PySem.W.codeIn K cd38 "_folded" = true)
    (k38 : PySem.W.keepIn K (.ref p38) = true)
    (a39 : PySem.W.nsIn K mainGlobals "fold" = some (some (.ref p39)))
    (l39 : K.lookup p39 = some ⟨oc39, od39, .func (PySem.W.fnOf "fold" "fold" (defArgs s_fold) (defBody s_fold) (defScope s_fold) .none kV39 dc39 pm39 an39 cd39 ct39), sl39⟩)
    (c39 : PySem.W.codeIn K cd39 "fold" = true)
    (k39 : PySem.W.keepIn K (.ref p39) = true)
    (a40 : PySem.W.nsIn K mainGlobals "prune" = some (some (.ref p40)))
    (l40 : K.lookup p40 = some ⟨oc40, od40, .func (PySem.W.fnOf "prune" "prune" (defArgs s_prune) (defBody s_prune) (defScope s_prune) .none kV40 dc40 pm40 an40 cd40 ct40), sl40⟩)
    (c40 : PySem.W.codeIn K cd40 "prune" = true)
    (k40 : PySem.W.keepIn K (.ref p40) = true)
    (a41 : PySem.W.nsIn K mainGlobals "_law_number" = some (some (.ref p41)))
    (l41 : K.lookup p41 = some ⟨oc41, od41, .func (PySem.W.fnOf "_law_number" "_law_number" (defArgs s_law_number) (defBody s_law_number) (defScope s_law_number) .none kV41 dc41 pm41 an41 cd41 ct41), sl41⟩)
    (c41 : PySem.W.codeIn K cd41 "_law_number" = true)
    (k41 : PySem.W.keepIn K (.ref p41) = true)
    (a42 : PySem.W.nsIn K mainGlobals "_law_draws" = some (some (.ref p42)))
    (l42 : K.lookup p42 = some ⟨oc42, od42, .func (PySem.W.fnOf "_law_draws" "_law_draws" (defArgs s_law_draws) (defBody s_law_draws) (defScope s_law_draws) .none kV42 dc42 pm42 an42 cd42 ct42), sl42⟩)
    (c42 : PySem.W.codeIn K cd42 "_law_draws" = true)
    (k42 : PySem.W.keepIn K (.ref p42) = true)
    (a43 : PySem.W.nsIn K mainGlobals "_law_draw" = some (some (.ref p43)))
    (l43 : K.lookup p43 = some ⟨oc43, od43, .func (PySem.W.fnOf "_law_draw" "_law_draw" (defArgs s_law_draw) (defBody s_law_draw) (defScope s_law_draw) .none kV43 dc43 pm43 an43 cd43 ct43), sl43⟩)
    (c43 : PySem.W.codeIn K cd43 "_law_draw" = true)
    (k43 : PySem.W.keepIn K (.ref p43) = true)
    (a44 : PySem.W.nsIn K mainGlobals "_law_pick" = some (some (.ref p44)))
    (l44 : K.lookup p44 = some ⟨oc44, od44, .func (PySem.W.fnOf "_law_pick" "_law_pick" (defArgs s_law_pick) (defBody s_law_pick) (defScope s_law_pick) .none kV44 dc44 pm44 an44 cd44 ct44), sl44⟩)
    (c44 : PySem.W.codeIn K cd44 "_law_pick" = true)
    (k44 : PySem.W.keepIn K (.ref p44) = true)
    (a45 : PySem.W.nsIn K mainGlobals "_law_is_integer" = some (some (.ref p45)))
    (l45 : K.lookup p45 = some ⟨oc45, od45, .func (PySem.W.fnOf "_law_is_integer" "_law_is_integer" (defArgs s_law_is_integer) (defBody s_law_is_integer) (defScope s_law_is_integer) .none kV45 dc45 pm45 an45 cd45 ct45), sl45⟩)
    (c45 : PySem.W.codeIn K cd45 "_law_is_integer" = true)
    (k45 : PySem.W.keepIn K (.ref p45) = true)
    (a46 : PySem.W.nsIn K mainGlobals "_law_is_cells" = some (some (.ref p46)))
    (l46 : K.lookup p46 = some ⟨oc46, od46, .func (PySem.W.fnOf "_law_is_cells" "_law_is_cells" (defArgs s_law_is_cells) (defBody s_law_is_cells) (defScope s_law_is_cells) .none kV46 dc46 pm46 an46 cd46 ct46), sl46⟩)
    (c46 : PySem.W.codeIn K cd46 "_law_is_cells" = true)
    (k46 : PySem.W.keepIn K (.ref p46) = true)
    (a47 : PySem.W.nsIn K mainGlobals "_law_number_of" = some (some (.ref p47)))
    (l47 : K.lookup p47 = some ⟨oc47, od47, .func (PySem.W.fnOf "_law_number_of" "_law_number_of" (defArgs s_law_number_of) (defBody s_law_number_of) (defScope s_law_number_of) .none kV47 dc47 pm47 an47 cd47 ct47), sl47⟩)
    (c47 : PySem.W.codeIn K cd47 "_law_number_of" = true)
    (k47 : PySem.W.keepIn K (.ref p47) = true)
    (a48 : PySem.W.nsIn K mainGlobals "_law_op" = some (some (.ref p48)))
    (l48 : K.lookup p48 = some ⟨oc48, od48, .func (PySem.W.fnOf "_law_op" "_law_op" (defArgs s_law_op) (defBody s_law_op) (defScope s_law_op) .none kV48 dc48 pm48 an48 cd48 ct48), sl48⟩)
    (c48 : PySem.W.codeIn K cd48 "_law_op" = true)
    (k48 : PySem.W.keepIn K (.ref p48) = true)
    (a49 : PySem.W.nsIn K mainGlobals "_law_arg" = some (some (.ref p49)))
    (l49 : K.lookup p49 = some ⟨oc49, od49, .func (PySem.W.fnOf "_law_arg" "_law_arg" (defArgs s_law_arg) (defBody s_law_arg) (defScope s_law_arg) .none kV49 dc49 pm49 an49 cd49 ct49), sl49⟩)
    (c49 : PySem.W.codeIn K cd49 "_law_arg" = true)
    (k49 : PySem.W.keepIn K (.ref p49) = true)
    (a50 : PySem.W.nsIn K mainGlobals "_law_image" = some (some (.ref p50)))
    (l50 : K.lookup p50 = some ⟨oc50, od50, .func (PySem.W.fnOf "_law_image" "_law_image" (defArgs s_law_image) (defBody s_law_image) (defScope s_law_image) .none kV50 dc50 pm50 an50 cd50 ct50), sl50⟩)
    (c50 : PySem.W.codeIn K cd50 "_law_image" = true)
    (k50 : PySem.W.keepIn K (.ref p50) = true)
    (a51 : PySem.W.nsIn K mainGlobals "_law_table" = some (some (.ref p51)))
    (l51 : K.lookup p51 = some ⟨oc51, od51, .func (PySem.W.fnOf "_law_table" "_law_table" (defArgs s_law_table) (defBody s_law_table) (defScope s_law_table) .none kV51 dc51 pm51 an51 cd51 ct51), sl51⟩)
    (c51 : PySem.W.codeIn K cd51 "_law_table" = true)
    (k51 : PySem.W.keepIn K (.ref p51) = true)
    (a52 : PySem.W.nsIn K mainGlobals "_law_is_nop" = some (some (.ref p52)))
    (l52 : K.lookup p52 = some ⟨oc52, od52, .func (PySem.W.fnOf "_law_is_nop" "_law_is_nop" (defArgs s_law_is_nop) (defBody s_law_is_nop) (defScope s_law_is_nop) .none kV52 dc52 pm52 an52 cd52 ct52), sl52⟩)
    (c52 : PySem.W.codeIn K cd52 "_law_is_nop" = true)
    (k52 : PySem.W.keepIn K (.ref p52) = true)
    (a53 : PySem.W.nsIn K mainGlobals "_law_ways" = some (some (.ref p53)))
    (l53 : K.lookup p53 = some ⟨oc53, od53, .func (PySem.W.fnOf "_law_ways" "_law_ways" (defArgs s_law_ways) (defBody s_law_ways) (defScope s_law_ways) .none kV53 dc53 pm53 an53 cd53 ct53), sl53⟩)
    (c53 : PySem.W.codeIn K cd53 "_law_ways" = true)
    (k53 : PySem.W.keepIn K (.ref p53) = true)
    (a54 : PySem.W.nsIn K mainGlobals "_law_reached" = some (some (.ref p54)))
    (l54 : K.lookup p54 = some ⟨oc54, od54, .func (PySem.W.fnOf "_law_reached" "_law_reached" (defArgs s_law_reached) (defBody s_law_reached) (defScope s_law_reached) .none kV54 dc54 pm54 an54 cd54 ct54), sl54⟩)
    (c54 : PySem.W.codeIn K cd54 "_law_reached" = true)
    (k54 : PySem.W.keepIn K (.ref p54) = true)
    (a55 : PySem.W.nsIn K mainGlobals "_law_is_closed" = some (some (.ref p55)))
    (l55 : K.lookup p55 = some ⟨oc55, od55, .func (PySem.W.fnOf "_law_is_closed" "_law_is_closed" (defArgs s_law_is_closed) (defBody s_law_is_closed) (defScope s_law_is_closed) .none kV55 dc55 pm55 an55 cd55 ct55), sl55⟩)
    (c55 : PySem.W.codeIn K cd55 "_law_is_closed" = true)
    (k55 : PySem.W.keepIn K (.ref p55) = true)
    (a56 : PySem.W.nsIn K mainGlobals "_law_written" = some (some (.ref p56)))
    (l56 : K.lookup p56 = some ⟨oc56, od56, .func (PySem.W.fnOf "_law_written" "_law_written" (defArgs s_law_written) (defBody s_law_written) (defScope s_law_written) .none kV56 dc56 pm56 an56 cd56 ct56), sl56⟩)
    (c56 : PySem.W.codeIn K cd56 "_law_written" = true)
    (k56 : PySem.W.keepIn K (.ref p56) = true)
    (a57 : PySem.W.nsIn K mainGlobals "_law_ring" = some (some (.ref p57)))
    (l57 : K.lookup p57 = some ⟨oc57, od57, .func (PySem.W.fnOf "_law_ring" "_law_ring" (defArgs s_law_ring) (defBody s_law_ring) (defScope s_law_ring) .none kV57 dc57 pm57 an57 cd57 ct57), sl57⟩)
    (c57 : PySem.W.codeIn K cd57 "_law_ring" = true)
    (k57 : PySem.W.keepIn K (.ref p57) = true)
    (a58 : PySem.W.nsIn K mainGlobals "_law_target" = some (some (.ref p58)))
    (l58 : K.lookup p58 = some ⟨oc58, od58, .func (PySem.W.fnOf "_law_target" "_law_target" (defArgs s_law_target) (defBody s_law_target) (defScope s_law_target) .none kV58 dc58 pm58 an58 cd58 ct58), sl58⟩)
    (c58 : PySem.W.codeIn K cd58 "_law_target" = true)
    (k58 : PySem.W.keepIn K (.ref p58) = true)
    (a59 : PySem.W.nsIn K mainGlobals "_law_combined" = some (some (.ref p59)))
    (l59 : K.lookup p59 = some ⟨oc59, od59, .func (PySem.W.fnOf "_law_combined" "_law_combined" (defArgs s_law_combined) (defBody s_law_combined) (defScope s_law_combined) .none kV59 dc59 pm59 an59 cd59 ct59), sl59⟩)
    (c59 : PySem.W.codeIn K cd59 "_law_combined" = true)
    (k59 : PySem.W.keepIn K (.ref p59) = true)
    (a60 : PySem.W.nsIn K mainGlobals "_law_threaded" = some (some (.ref p60)))
    (l60 : K.lookup p60 = some ⟨oc60, od60, .func (PySem.W.fnOf "_law_threaded" "_law_threaded" (defArgs s_law_threaded) (defBody s_law_threaded) (defScope s_law_threaded) .none kV60 dc60 pm60 an60 cd60 ct60), sl60⟩)
    (c60 : PySem.W.codeIn K cd60 "_law_threaded" = true)
    (k60 : PySem.W.keepIn K (.ref p60) = true)
    (a61 : PySem.W.nsIn K mainGlobals "_law_folded" = some (some (.ref p61)))
    (l61 : K.lookup p61 = some ⟨oc61, od61, .func (PySem.W.fnOf "_law_folded" "_law_folded" (defArgs s_law_folded) (defBody s_law_folded) (defScope s_law_folded) .none kV61 dc61 pm61 an61 cd61 ct61), sl61⟩)
    (c61 : PySem.W.codeIn K cd61 "_law_folded" = true)
    (k61 : PySem.W.keepIn K (.ref p61) = true)
    (a62 : PySem.W.nsIn K mainGlobals "_law_folded_node" = some (some (.ref p62)))
    (l62 : K.lookup p62 = some ⟨oc62, od62, .func (PySem.W.fnOf "_law_folded_node" "_law_folded_node" (defArgs s_law_folded_node) (defBody s_law_folded_node) (defScope s_law_folded_node) .none kV62 dc62 pm62 an62 cd62 ct62), sl62⟩)
    (c62 : PySem.W.codeIn K cd62 "_law_folded_node" = true)
    (k62 : PySem.W.keepIn K (.ref p62) = true)
    (a63 : PySem.W.nsIn K mainGlobals "_law_pruned" = some (some (.ref p63)))
    (l63 : K.lookup p63 = some ⟨oc63, od63, .func (PySem.W.fnOf "_law_pruned" "_law_pruned" (defArgs s_law_pruned) (defBody s_law_pruned) (defScope s_law_pruned) .none kV63 dc63 pm63 an63 cd63 ct63), sl63⟩)
    (c63 : PySem.W.codeIn K cd63 "_law_pruned" = true)
    (k63 : PySem.W.keepIn K (.ref p63) = true)
    (a64 : PySem.W.nsIn K mainGlobals "_law_is_due" = some (some (.ref p64)))
    (l64 : K.lookup p64 = some ⟨oc64, od64, .func (PySem.W.fnOf "_law_is_due" "_law_is_due" (defArgs s_law_is_due) (defBody s_law_is_due) (defScope s_law_is_due) .none kV64 dc64 pm64 an64 cd64 ct64), sl64⟩)
    (c64 : PySem.W.codeIn K cd64 "_law_is_due" = true)
    (k64 : PySem.W.keepIn K (.ref p64) = true)
    (a65 : PySem.W.nsIn K mainGlobals "law" = some (some (.ref p65)))
    (l65 : K.lookup p65 = some ⟨oc65, od65, .func (PySem.W.fnOf "law" "law" (defArgs s_law) (defBody s_law) (defScope s_law) .none kV65 dc65 pm65 an65 cd65 ct65), sl65⟩)
    (c65 : PySem.W.codeIn K cd65 "law" = true)
    (k65 : PySem.W.keepIn K (.ref p65) = true)
    (g_ACTIONS : PySem.W.nsIn K mainGlobals "_ACTIONS" = some (some (.ref D_ACTIONS)))
    (tl_ACTIONS : K.lookup D_ACTIONS = some ⟨.type "dict", none, .dict es_ACTIONS nn_ACTIONS, #[]⟩)
    (tk_ACTIONS : ikeys es_ACTIONS.toList = some [(35, .ref p7), (43, .ref p8), (45, .ref p8), (42, .ref p8), (60, .ref p8), (126, .ref p8), (64, .ref p9), (33, .ref p10), (61, .ref p11), (44, .ref p12), (94, .ref p13), (46, .ref p14), (38, .ref p15), (95, .ref p16), (34, .ref p17), (92, .ref p18), (63, .ref p19), (40, .ref p20), (36, .ref p21), (41, .ref p22)])
    (tw_ACTIONS : (D_ACTIONS == sysModules) = false)
    (tn_ACTIONS : [p7, p8, p9, p10, p11, p12, p13, p14, p15, p16, p17, p18, p19, p20, p21, p22].Nodup)
    (g_COMBINING : PySem.W.nsIn K mainGlobals "COMBINING" = some (some (.ref D_COMBINING)))
    (tu_COMBINING : K.lookup D_COMBINING = some ⟨.type "tuple", odCOMBINING, .seq itCOMBINING nnCOMBINING, slCOMBINING⟩)
    (ti_COMBINING : intsV itCOMBINING.toList = some [43, 45, 42, 60, 126])
    (c_BRANCH : PySem.W.nsIn K mainGlobals "BRANCH" = some (some (.int 63 t_BRANCH)))
    (c_CALL : PySem.W.nsIn K mainGlobals "CALL" = some (some (.int 40 t_CALL)))
    (c_CALL_IF_DEFINED : PySem.W.nsIn K mainGlobals "CALL_IF_DEFINED" = some (some (.int 36 t_CALL_IF_DEFINED)))
    (c_CELL : PySem.W.nsIn K mainGlobals "CELL" = some (some (.int 38 t_CELL)))
    (c_DROP : PySem.W.nsIn K mainGlobals "DROP" = some (some (.int 95 t_DROP)))
    (c_FIRST_FREE : PySem.W.nsIn K mainGlobals "FIRST_FREE" = some (some (.int 200 t_FIRST_FREE)))
    (c_NOP : PySem.W.nsIn K mainGlobals "NOP" = some (some (.int 32 t_NOP)))
    (c_PUSH : PySem.W.nsIn K mainGlobals "PUSH" = some (some (.int 35 t_PUSH)))
    (n_bool : PySem.W.nsIn K mainGlobals "bool" = some none)
    (n_int : PySem.W.nsIn K mainGlobals "int" = some none)
    (n_isinstance : PySem.W.nsIn K mainGlobals "isinstance" = some none)
    (n_len : PySem.W.nsIn K mainGlobals "len" = some none)
    (n_list : PySem.W.nsIn K mainGlobals "list" = some none)
    (n_min : PySem.W.nsIn K mainGlobals "min" = some none)
    (n_range : PySem.W.nsIn K mainGlobals "range" = some none)
    (n_sorted : PySem.W.nsIn K mainGlobals "sorted" = some none)
    (n_tuple : PySem.W.nsIn K mainGlobals "tuple" = some none)
    : ∃ fd : FuncData, (∀ (s : Shared) (v : Value), BindsTo s fd ⟨[v], []⟩ [("script", v)]) ∧ ∀ base : Heap, K.In base → base.Ns mainGlobals mg → FnOk l.prog w K mg base CX0 7 fa fd ["script"] (sp_law K) := by
  obtain ⟨T, eT⟩ := mk_txt X G a1 l1 c1 k1 a2 l2 c2 k2 a3 l3 c3 k3 a4 l4 c4 k4 a5 l5 c5 k5 a6 l6 c6 k6 a7 l7 c7 k7 a8 l8 c8 k8 a9 l9 c9 k9 a10 l10 c10 k10 a11 l11 c11 k11 a12 l12 c12 k12 a13 l13 c13 k13 a14 l14 c14 k14 a15 l15 c15 k15 a16 l16 c16 k16 a17 l17 c17 k17 a18 l18 c18 k18 a19 l19 c19 k19 a20 l20 c20 k20 a21 l21 c21 k21 a22 l22 c22 k22 a23 l23 c23 k23 a24 l24 c24 k24 a25 l25 c25 k25 a26 l26 c26 k26 a27 l27 c27 k27 a28 l28 c28 k28 a29 l29 c29 k29 a30 l30 c30 k30 a31 l31 c31 k31 a32 l32 c32 k32 a33 l33 c33 k33 a34 l34 c34 k34 a35 l35 c35 k35 a36 l36 c36 k36 a37 l37 c37 k37 a38 l38 c38 k38 a39 l39 c39 k39 a40 l40 c40 k40 a41 l41 c41 k41 a42 l42 c42 k42 a43 l43 c43 k43 a44 l44 c44 k44 a45 l45 c45 k45 a46 l46 c46 k46 a47 l47 c47 k47 a48 l48 c48 k48 a49 l49 c49 k49 a50 l50 c50 k50 a51 l51 c51 k51 a52 l52 c52 k52 a53 l53 c53 k53 a54 l54 c54 k54 a55 l55 c55 k55 a56 l56 c56 k56 a57 l57 c57 k57 a58 l58 c58 k58 a59 l59 c59 k59 a60 l60 c60 k60 a61 l61 c61 k61 a62 l62 c62 k62 a63 l63 c63 k63 a64 l64 c64 k64 a65 l65 c65 k65 g_ACTIONS tl_ACTIONS tk_ACTIONS tw_ACTIONS tn_ACTIONS g_COMBINING tu_COMBINING ti_COMBINING c_BRANCH c_CALL c_CALL_IF_DEFINED c_CELL c_DROP c_FIRST_FREE c_NOP c_PUSH n_bool n_int n_isinstance n_len n_list n_min n_range n_sorted n_tuple
  cases hfa.symm.trans T.g_law
  exact ⟨T.d_law, T.h_law, fun base _ _ => ok_law T⟩
end K32
open PySem PySem.W PyProof.Rows
set_option maxRecDepth 100000 in
set_option maxHeartbeats 0 in
theorem PySem.Challenge.cw_plinth_k32_thread_fold_and_prune_holds : PySem.Challenge.rw_plinth_k32_thread_fold_and_prune.Holds := by
  refine K32.opening fun said => ?_
  w_on; k_head; (case hw => w_witness2)
  k_fill
  refine L2.walk_ofK (l := PySem.Challenge.rw_plinth_k32_thread_fold_and_prune) (n := 63) (k := 7) (x := "script") (CX := L2.CX0) (sp := K32.sp_law) rfl (by decide) rfl ⟨rfl, by decide, by decide⟩ (fun w h Y => PySem.W.kIn_of Y) ?F K32.law_at (fun _ _ _ _ z => z)
  case F =>
    intro w mg fa h KX G hmg
    refine' K32.all_mk KX G hmg ?a1 ?l1 ?c1 ?k1 ?a2 ?l2 ?c2 ?k2 ?a3 ?l3 ?c3 ?k3 ?a4 ?l4 ?c4 ?k4 ?a5 ?l5 ?c5 ?k5 ?a6 ?l6 ?c6 ?k6 ?a7 ?l7 ?c7 ?k7 ?a8 ?l8 ?c8 ?k8 ?a9 ?l9 ?c9 ?k9 ?a10 ?l10 ?c10 ?k10 ?a11 ?l11 ?c11 ?k11 ?a12 ?l12 ?c12 ?k12 ?a13 ?l13 ?c13 ?k13 ?a14 ?l14 ?c14 ?k14 ?a15 ?l15 ?c15 ?k15 ?a16 ?l16 ?c16 ?k16 ?a17 ?l17 ?c17 ?k17 ?a18 ?l18 ?c18 ?k18 ?a19 ?l19 ?c19 ?k19 ?a20 ?l20 ?c20 ?k20 ?a21 ?l21 ?c21 ?k21 ?a22 ?l22 ?c22 ?k22 ?a23 ?l23 ?c23 ?k23 ?a24 ?l24 ?c24 ?k24 ?a25 ?l25 ?c25 ?k25 ?a26 ?l26 ?c26 ?k26 ?a27 ?l27 ?c27 ?k27 ?a28 ?l28 ?c28 ?k28 ?a29 ?l29 ?c29 ?k29 ?a30 ?l30 ?c30 ?k30 ?a31 ?l31 ?c31 ?k31 ?a32 ?l32 ?c32 ?k32 ?a33 ?l33 ?c33 ?k33 ?a34 ?l34 ?c34 ?k34 ?a35 ?l35 ?c35 ?k35 ?a36 ?l36 ?c36 ?k36 ?a37 ?l37 ?c37 ?k37 ?a38 ?l38 ?c38 ?k38 ?a39 ?l39 ?c39 ?k39 ?a40 ?l40 ?c40 ?k40 ?a41 ?l41 ?c41 ?k41 ?a42 ?l42 ?c42 ?k42 ?a43 ?l43 ?c43 ?k43 ?a44 ?l44 ?c44 ?k44 ?a45 ?l45 ?c45 ?k45 ?a46 ?l46 ?c46 ?k46 ?a47 ?l47 ?c47 ?k47 ?a48 ?l48 ?c48 ?k48 ?a49 ?l49 ?c49 ?k49 ?a50 ?l50 ?c50 ?k50 ?a51 ?l51 ?c51 ?k51 ?a52 ?l52 ?c52 ?k52 ?a53 ?l53 ?c53 ?k53 ?a54 ?l54 ?c54 ?k54 ?a55 ?l55 ?c55 ?k55 ?a56 ?l56 ?c56 ?k56 ?a57 ?l57 ?c57 ?k57 ?a58 ?l58 ?c58 ?k58 ?a59 ?l59 ?c59 ?k59 ?a60 ?l60 ?c60 ?k60 ?a61 ?l61 ?c61 ?k61 ?a62 ?l62 ?c62 ?k62 ?a63 ?l63 ?c63 ?k63 ?a64 ?l64 ?c64 ?k64 ?a65 ?l65 ?c65 ?k65 ?g_ACTIONS ?tl_ACTIONS ?tk_ACTIONS ?tw_ACTIONS ?tn_ACTIONS ?g_COMBINING ?tu_COMBINING ?ti_COMBINING ?c_BRANCH ?c_CALL ?c_CALL_IF_DEFINED ?c_CELL ?c_DROP ?c_FIRST_FREE ?c_NOP ?c_PUSH ?n_bool ?n_int ?n_isinstance ?n_len ?n_list ?n_min ?n_range ?n_sorted ?n_tuple
    (case a1 => k_is)
    (case l1 => k_is)
    (case c1 => k_is)
    (case k1 => k_is)
    (case a2 => k_is)
    (case l2 => k_is)
    (case c2 => k_is)
    (case k2 => k_is)
    (case a3 => k_is)
    (case l3 => k_is)
    (case c3 => k_is)
    (case k3 => k_is)
    (case a4 => k_is)
    (case l4 => k_is)
    (case c4 => k_is)
    (case k4 => k_is)
    (case a5 => k_is)
    (case l5 => k_is)
    (case c5 => k_is)
    (case k5 => k_is)
    (case a6 => k_is)
    (case l6 => k_is)
    (case c6 => k_is)
    (case k6 => k_is)
    (case a7 => k_is)
    (case l7 => k_is)
    (case c7 => k_is)
    (case k7 => k_is)
    (case a8 => k_is)
    (case l8 => k_is)
    (case c8 => k_is)
    (case k8 => k_is)
    (case a9 => k_is)
    (case l9 => k_is)
    (case c9 => k_is)
    (case k9 => k_is)
    (case a10 => k_is)
    (case l10 => k_is)
    (case c10 => k_is)
    (case k10 => k_is)
    (case a11 => k_is)
    (case l11 => k_is)
    (case c11 => k_is)
    (case k11 => k_is)
    (case a12 => k_is)
    (case l12 => k_is)
    (case c12 => k_is)
    (case k12 => k_is)
    (case a13 => k_is)
    (case l13 => k_is)
    (case c13 => k_is)
    (case k13 => k_is)
    (case a14 => k_is)
    (case l14 => k_is)
    (case c14 => k_is)
    (case k14 => k_is)
    (case a15 => k_is)
    (case l15 => k_is)
    (case c15 => k_is)
    (case k15 => k_is)
    (case a16 => k_is)
    (case l16 => k_is)
    (case c16 => k_is)
    (case k16 => k_is)
    (case a17 => k_is)
    (case l17 => k_is)
    (case c17 => k_is)
    (case k17 => k_is)
    (case a18 => k_is)
    (case l18 => k_is)
    (case c18 => k_is)
    (case k18 => k_is)
    (case a19 => k_is)
    (case l19 => k_is)
    (case c19 => k_is)
    (case k19 => k_is)
    (case a20 => k_is)
    (case l20 => k_is)
    (case c20 => k_is)
    (case k20 => k_is)
    (case a21 => k_is)
    (case l21 => k_is)
    (case c21 => k_is)
    (case k21 => k_is)
    (case a22 => k_is)
    (case l22 => k_is)
    (case c22 => k_is)
    (case k22 => k_is)
    (case a23 => k_is)
    (case l23 => k_is)
    (case c23 => k_is)
    (case k23 => k_is)
    (case a24 => k_is)
    (case l24 => k_is)
    (case c24 => k_is)
    (case k24 => k_is)
    (case a25 => k_is)
    (case l25 => k_is)
    (case c25 => k_is)
    (case k25 => k_is)
    (case a26 => k_is)
    (case l26 => k_is)
    (case c26 => k_is)
    (case k26 => k_is)
    (case a27 => k_is)
    (case l27 => k_is)
    (case c27 => k_is)
    (case k27 => k_is)
    (case a28 => k_is)
    (case l28 => k_is)
    (case c28 => k_is)
    (case k28 => k_is)
    (case a29 => k_is)
    (case l29 => k_is)
    (case c29 => k_is)
    (case k29 => k_is)
    (case a30 => k_is)
    (case l30 => k_is)
    (case c30 => k_is)
    (case k30 => k_is)
    (case a31 => k_is)
    (case l31 => k_is)
    (case c31 => k_is)
    (case k31 => k_is)
    (case a32 => k_is)
    (case l32 => k_is)
    (case c32 => k_is)
    (case k32 => k_is)
    (case a33 => k_is)
    (case l33 => k_is)
    (case c33 => k_is)
    (case k33 => k_is)
    (case a34 => k_is)
    (case l34 => k_is)
    (case c34 => k_is)
    (case k34 => k_is)
    (case a35 => k_is)
    (case l35 => k_is)
    (case c35 => k_is)
    (case k35 => k_is)
    (case a36 => k_is)
    (case l36 => k_is)
    (case c36 => k_is)
    (case k36 => k_is)
    (case a37 => k_is)
    (case l37 => k_is)
    (case c37 => k_is)
    (case k37 => k_is)
    (case a38 => k_is)
    (case l38 => k_is)
    (case c38 => k_is)
    (case k38 => k_is)
    (case a39 => k_is)
    (case l39 => k_is)
    (case c39 => k_is)
    (case k39 => k_is)
    (case a40 => k_is)
    (case l40 => k_is)
    (case c40 => k_is)
    (case k40 => k_is)
    (case a41 => k_is)
    (case l41 => k_is)
    (case c41 => k_is)
    (case k41 => k_is)
    (case a42 => k_is)
    (case l42 => k_is)
    (case c42 => k_is)
    (case k42 => k_is)
    (case a43 => k_is)
    (case l43 => k_is)
    (case c43 => k_is)
    (case k43 => k_is)
    (case a44 => k_is)
    (case l44 => k_is)
    (case c44 => k_is)
    (case k44 => k_is)
    (case a45 => k_is)
    (case l45 => k_is)
    (case c45 => k_is)
    (case k45 => k_is)
    (case a46 => k_is)
    (case l46 => k_is)
    (case c46 => k_is)
    (case k46 => k_is)
    (case a47 => k_is)
    (case l47 => k_is)
    (case c47 => k_is)
    (case k47 => k_is)
    (case a48 => k_is)
    (case l48 => k_is)
    (case c48 => k_is)
    (case k48 => k_is)
    (case a49 => k_is)
    (case l49 => k_is)
    (case c49 => k_is)
    (case k49 => k_is)
    (case a50 => k_is)
    (case l50 => k_is)
    (case c50 => k_is)
    (case k50 => k_is)
    (case a51 => k_is)
    (case l51 => k_is)
    (case c51 => k_is)
    (case k51 => k_is)
    (case a52 => k_is)
    (case l52 => k_is)
    (case c52 => k_is)
    (case k52 => k_is)
    (case a53 => k_is)
    (case l53 => k_is)
    (case c53 => k_is)
    (case k53 => k_is)
    (case a54 => k_is)
    (case l54 => k_is)
    (case c54 => k_is)
    (case k54 => k_is)
    (case a55 => k_is)
    (case l55 => k_is)
    (case c55 => k_is)
    (case k55 => k_is)
    (case a56 => k_is)
    (case l56 => k_is)
    (case c56 => k_is)
    (case k56 => k_is)
    (case a57 => k_is)
    (case l57 => k_is)
    (case c57 => k_is)
    (case k57 => k_is)
    (case a58 => k_is)
    (case l58 => k_is)
    (case c58 => k_is)
    (case k58 => k_is)
    (case a59 => k_is)
    (case l59 => k_is)
    (case c59 => k_is)
    (case k59 => k_is)
    (case a60 => k_is)
    (case l60 => k_is)
    (case c60 => k_is)
    (case k60 => k_is)
    (case a61 => k_is)
    (case l61 => k_is)
    (case c61 => k_is)
    (case k61 => k_is)
    (case a62 => k_is)
    (case l62 => k_is)
    (case c62 => k_is)
    (case k62 => k_is)
    (case a63 => k_is)
    (case l63 => k_is)
    (case c63 => k_is)
    (case k63 => k_is)
    (case a64 => k_is)
    (case l64 => k_is)
    (case c64 => k_is)
    (case k64 => k_is)
    (case a65 => k_is)
    (case l65 => k_is)
    (case c65 => k_is)
    (case k65 => k_is)
    (case g_ACTIONS => k_is)
    (case tl_ACTIONS => k_is)
    (case tk_ACTIONS => first | rfl | decide +kernel)
    (case tw_ACTIONS => decide +kernel)
    (case tn_ACTIONS => decide +kernel)
    (case g_COMBINING => k_is)
    (case tu_COMBINING => k_is)
    (case ti_COMBINING => first | rfl | decide +kernel)
    (case c_BRANCH => k_is)
    (case c_CALL => k_is)
    (case c_CALL_IF_DEFINED => k_is)
    (case c_CELL => k_is)
    (case c_DROP => k_is)
    (case c_FIRST_FREE => k_is)
    (case c_NOP => k_is)
    (case c_PUSH => k_is)
    (case n_bool => k_is)
    (case n_int => k_is)
    (case n_isinstance => k_is)
    (case n_len => k_is)
    (case n_list => k_is)
    (case n_min => k_is)
    (case n_range => k_is)
    (case n_sorted => k_is)
    (case n_tuple => k_is)


