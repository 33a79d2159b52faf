import PyProof.Rows.All
import Wide.All
import OpenK.AllK
import Wide.FinOn
import HandS.ForMost
import HandS.ForExc
import HandS.Evl
import HandS.ExcIs
import HandS.RaiseMore
import HandS.IsInst
import HandS.Replace
import HandS.Flow
import HandS.Walk
import KE.RegKIsAll
import KE.IntTextLaws
import HandS.CallLocal
import HandS.Defaults
import HandS.MakeKwOnly
import KE.KIntText
import PyProof.Rows.StrDigitsNeg
import HandS.DictComp
import KE.KExcIs
import HandS.ExcInit
import HandS.ExcField
import HandS.Nested
import HandS.FStr
import KE.KExcSuper
import HandS.ExcSuper
import HandS.ClsMeth
import KE.KSortedM
import HandS.Comp
import HandS.ReplaceLit
import HandS.Iter
import HandS.ReplaceList
import PySem.Challenge.RW_plinth_k19_listings_are_read_back
set_option Elab.async false
set_option linter.all false
set_option maxRecDepth 100000
set_option maxHeartbeats 4000000
/-! A layer of our own: defs that are promised only where no repr is running (guards), repr of data, the end of a law. -/
namespace Gd
open PySem PySem.Spec PyProof.Rows L2

/-- a def's promise, given only where no guard stands around -/
structure GOk (P : Program) (w : World) (K : PySem.W.Frag) (mg : Str → Option Value) (base : Heap) (CX : CXT) (k : Nat) (f : Addr) (fd : FuncData) (ps : List Str) (sp : Sp) : Prop where
  len : ∀ vs H Q E, sp vs H Q E → vs.length = ps.length
  go : ∀ (A : Around) (outer : List Env) (s : Shared) (H : Hp) (args : Args) (us : List Value) (vs : List V) (Q : VK) (E : XK),
    A.guards = some [] → Room k A → Env0 P w K mg base A outer s H → BindsTo s fd args (ps.zip us) → Vals vs us → sp vs H Q E →
      codeAny (model P w) A (.call (.ref f) args) (CR CX outer P w H s Q E) s

section
variable {P : Program} {w : World} {K : PySem.W.Frag} {mg : Str → Option Value} {base : Heap}
theorem gfun {CX : CXT} {x qual : Str} {st : Stmt} {f : Addr} {fd : FuncData} {N ps : List Str} {k : Nat} {sp : Sp}
    (F : Fun K x qual st f fd) (S : FnScope N ps (defScope st)) (len : ∀ vs H Q E, sp vs H Q E → vs.length = ps.length)
    (hb : ∀ (cdv : Value) (A : Around) (outer : List Env) (s : Shared) (H : Hp) (vs : List V) (Q : VK) (E : XK),
      A.guards = some [] → Room k (A.deeper (envOfC qual (defScope st) s.heap.objs.size f cdv)) → sp vs H Q E →
      ∃ t, PSs (cxOf CX P w K mg base N qual (defScope st) f cdv A outer s H E) (defBody st) t ∧ t { nx := fun _ H' => Q .non H', rt := Q } (start N vs) H) :
    GOk P w K mg base CX (k + 1) f fd ps sp := by
  obtain ⟨oc, od, kV, doc, pm, an, cdv, ct, osl, rfl, lk, hcd⟩ := F.ex
  constructor
  · exact len
  intro A outer s H args us vs Q E hg hr e0 hbd rv hsp
  have hl := len _ _ _ _ hsp
  have kp := fun b o e => (e0.bs b o e).1
  have KX : K.In s.heap := e0.mod.kin.keeps kp
  have lim : s.heap.NoLimit := e0.mod.nolimit.keeps kp
  refine codeAny_call_function hr.depth (KX _ _ lk) rfl S.co S.gen rfl (PySem.W.codeRec_of KX hcd) (hbd _ _ _ _ ?_)
  have hkind : ∀ y ∈ ps.zip us, (defScope st).names.lookup y.1 = some .local ∨ ((defScope st).names.lookup y.1 = some .cell ∧ ((cellsFrom (s.heap.objs.size + 1) (defScope st).names []).lookup y.1).isSome = true) := by
    rintro ⟨n, v⟩ hy
    cases S.par n (List.of_mem_zip hy).1 with
    | inl q => exact .inl q
    | inr q => exact .inr ⟨q, PySem.W.cellsFrom_some _ _ _ (.inl q)⟩
  refine wpAny_newFunctionEnv_cells S.kind hkind fun env he s1 x => ?_
  subst he
  obtain ⟨t, ht, hq⟩ := hb cdv A outer s H vs Q E hg (hr.deeper _) hsp
  refine ⟨lim.keeps x.toInCall.keep, codeAny_func (wpAny_mono (ht.run [] s1 (start N vs) H _ (inv_start S hr.hd e0 hl rv x) hq) (fun fl s' hs => ?_) fun e s' hs => hs)⟩
  cases fl with
  | ret u =>
    obtain ⟨v, σ', H', J, r2, q⟩ := hs
    exact ⟨v, H', J.os, J.bare, J.base, J.hok, r2, q⟩
  | next =>
    obtain ⟨σ', H', J, q⟩ := hs
    exact ⟨V.non, H', J.os, J.bare, J.base, J.hok, rfl, q⟩
  | brk => exact (let ⟨_, _, _, q⟩ := hs; False.elim q)
  | cont => exact (let ⟨_, _, _, q⟩ := hs; False.elim q)
end

/-! ### the call of such a def, from a body around which no guard stands -/
section
variable {X : Cx} {CX : CXT} {k : Nat} {f : Addr} {fd : FuncData} {ps : List Str} {sp : Sp} {E : XK} {x : Str} {p pos : Pos} {e : Expr} {es : List Expr} {t : TA}
theorem pe_callG (F : GOk X.prog X.w X.K X.mg X.base CX k f fd ps sp) (hgd : X.A.guards = some []) (hr : Room k X.A) (hg : Gl X x) (hm : X.mg x = some (.ref f)) (hk : PySem.W.keepIn X.K (.ref f) = true)
    (hb : Binds X.K fd ps []) (hx : Passes CX X E) (ha : PA X (e :: es) t) (hdb : (x == ("__debug__" : Str)) = false := by decide)
    (he : starEach (e :: es) X.env = (false, eval e X.env) :: starEach es X.env := by rfl) (hpl : (backTo pos (starEach es X.env)).any (·.1) = false := by rfl) :
    PE X (.Call (.Name x p) (e :: es) [] pos) (tCall sp [] E t) := by
  constructor
  intro pins s σ H Q I h
  refine wpAny_Call_Name_kw (ld_glob I hg hm ?_ hdb)
  refine PySem.W.callWith_K (h₀ := X.base) I.ok.mod.kin hk (thn (ha.run pos pins s σ H _ I h) fun us s1 hh => ?_) he hpl
  obtain ⟨vs, H1, I1, r, q⟩ := hh
  refine ⟨I1.kIn, ?_⟩
  rw [List.append_nil] at q
  have hl : us.length = ps.length := r.length.symm.trans (F.len _ _ _ _ q)
  have bd := hb s1 us I1.kIn (by rw [List.append_nil]; exact hl)
  rw [List.append_nil] at bd
  refine wpAny_call (codeAny_mono (F.go X.A X.stack s1 H1 ⟨us, []⟩ us vs Q E hgd hr I1.env0 bd r q) fun r' s' hq => ?_)
  cases r' with
  | error e => exact hx pins σ H1 s1 e s' I1 hq
  | ok fl =>
    cases fl with
    | ret u => exact I1.after hq
    | next => exact False.elim hq
    | brk => exact False.elim hq
    | cont => exact False.elim hq
end

/-! ### repr of data -/
def rRepr (K : PySem.W.Frag) : List V → Hp → VK → Prop := fun xs H Q => ∃ (v : V) (d : PyData), xs = [v] ∧ Dp K H v d ∧ d.showable = true ∧ d.hasDict = false ∧ d.depth ≤ 40 ∧ d.shown.length ≤ sizeLine ∧ Q (.str d.shown) H
section
variable {X : Cx}
theorem call_reprD (hgd : X.A.guards = some []) (hu : X.A.units + 64 < cLine) : CallR X (.builtin "repr") (rRepr X.K) := by
  intro pins s σ H xs us Q I r h
  obtain ⟨v, d, rfl, hd, hs, hnd, hdp, hz, q⟩ := h
  obtain ⟨u, rfl, ru⟩ := vals1 r
  obtain ⟨as, hr⟩ := Dp.reads I d v u hd ru
  cases hd with
  | lst h1 h2 =>
    cases ru
    exact repr_of_reads' hr hs (PyData.noDict_hsm hnd) hgd (by omega) (fun _ _ e => e) (fun h' u tk hk => ⟨.str _, H, I.kept (t' := tk) hk, ⟨_, rfl⟩, q⟩) hz
  | tup h1 h2 =>
    cases ru
    exact repr_of_reads' hr hs (PyData.noDict_hsm hnd) hgd (by omega) (fun _ _ e => e) (fun h' u tk hk => ⟨.str _, H, I.kept (t' := tk) hk, ⟨_, rfl⟩, q⟩) hz
  | int i =>
    obtain ⟨t, rfl⟩ := ru
    exact PySem.P.repr_of_int (of_decide_eq_true hs) ⟨.str _, H, I.tok _, ⟨_, rfl⟩, q⟩
  | non =>
    cases ru
    exact PySem.P.repr_of_none ⟨.str _, H, I.tok _, ⟨_, rfl⟩, q⟩
  | bl b =>
    cases ru
    refine PySem.P.repr_of_bool ⟨.str _, H, I.tok _, ⟨_, rfl⟩, ?_⟩
    have e : (PyData.bool b).shown = (if b then ("True" : Str) else "False") := by unfold PyData.shown; rfl
    rw [← e]
    exact q
  | str x =>
    obtain ⟨t, rfl⟩ := ru
    exact PySem.P.repr_of_str ⟨.str _, H, I.tok _, ⟨_, rfl⟩, q⟩ hz
end

/-! ### the end of a law whose def is so promised -/
section
variable {P : Program} {w : World} {K : PySem.W.Frag} {mg mb : Str → Option Value} {CX : CXT} {k : Nat} {fa a : Addr} {fd : FuncData} {x : Str} {sp : Sp} {s₁ : Shared} {vs : List Value} {ns : List Int}
/-- from an abstract heap H that tracks at most the script -/
theorem g_core (H : Hp) (KX : K.In s₁.heap) (hns : s₁.heap.Ns mainGlobals mg) (hb : s₁.heap.Ns builtinsNs mb) (hbb : ∀ x : Str, x ≠ "__name__" → mb x = bootBuiltins x) (hlim : s₁.heap.NoLimit) (hg : s₁.gens = #[])
    (ha : s₁.heap.get? a = some { cls := .type "list", data := .seq vs.toArray }) (hr : Room k callerA)
    (F : ∀ base : Heap, K.In base → base.Ns mainGlobals mg → GOk P w K mg base CX k fa fd [x] sp) (hbind : ∀ (s : Shared) (u : Value), BindsTo s fd ⟨[u], []⟩ [(x, u)])
    (hsp : sp [.ref a] H (fun v _ => v = .bl true) fun _ _ _ => False) (hCX : ∀ e s', CX [] H s₁ (fun _ _ _ => False) e s' → False)
    (hO : Only H) (hok : HOk P w H s₁.heap) (hA : ∀ b u, H b = some u → b = a ∧ K.lookup a = none) :
    codeAny (model P w) callerA (.call (.ref fa) ⟨[.ref a], []⟩) (fun r s' => r = .ok (.ret (.bool true)) ∧ PySem.OldK s₁.heap s'.heap ∧ s'.os = s₁.os ∧ AllBare s'.gens) s₁ := by
  have hid : ∀ {b : Addr} {o : Obj}, s₁.heap.get? b = some o → H b = none → (hidT s₁.heap H).get? b = some o := fun e n => hidT_get e n
  have un_d : ∀ {b : Addr} {o : Obj} {es : Array DictEntry} {ep : Nat}, s₁.heap.get? b = some o → o.data = .dict es ep → H b = none := by
    intro b o es ep e d
    cases q : H b with
    | none => rfl
    | some u =>
      rw [(hA b u q).1, ha] at e
      cases e
      exact nomatch d
  have ns_b : ∀ {b : Addr} {m : Str → Option Value}, s₁.heap.Ns b m → (hidT s₁.heap H).Ns b m := by
    rintro b m ⟨o, es, ep, e, d, r⟩
    exact ⟨o, es, ep, hid e (un_d e d), d, r⟩
  have k_b : K.In (hidT s₁.heap H) := by
    intro b o e
    refine hid (KX b o e) ?_
    cases q : H b with
    | none => rfl
    | some u =>
      obtain ⟨e1, e2⟩ := hA b u q
      rw [e1, e2] at e
      cases e
  have nl : (hidT s₁.heap H).NoLimit := let ⟨mc, h1, h2⟩ := hlim; ⟨mc, ns_b h1, h2⟩
  have e0 : Env0 P w K mg (hidT s₁.heap H) callerA [] s₁ H :=
    { frames := rfl, mod := ⟨k_b, ns_b hns, ⟨mb, ns_b hb, hbb⟩, nl⟩, bs := fun b o e => of_hidT e, bsz := Nat.le_of_eq (hidT_size _ _), funs := trivial,
      frf := fun b z => absurd (show b ∈ ([] : List Addr) from z) List.not_mem_nil, hok := hok, bare := .of_eq hg }
  refine codeAny_mono ((F _ k_b (ns_b hns)).go callerA [] s₁ H ⟨[.ref a], []⟩ [.ref a] [.ref a] _ _ rfl hr e0 (hbind s₁ (.ref a)) (.cons rfl .nil) hsp) fun r s' h => ?_
  cases r with
  | error e => exact (hCX e s' h).elim
  | ok fl =>
    cases fl with
    | next => exact False.elim h
    | brk => exact False.elim h
    | cont => exact False.elim h
    | ret u =>
      obtain ⟨v, H', os, bare, un, hok', r', q⟩ := h
      cases (show v = .bl true from q)
      cases (show u = Value.bool true from r')
      refine ⟨rfl, OldK.of_keep fun b o e => ?_, os, bare⟩
      cases q : H b with
      | none => exact un.keep b o e q (fun z => absurd (show b ∈ ([] : List Addr) from z) List.not_mem_nil) List.not_mem_nil
      | some u =>
        cases hO b with
        | inl z => exact nomatch q.symm.trans z
        | inr z =>
          obtain ⟨ob, xs, z⟩ := z
          obtain ⟨e1, _⟩ := hok b _ z
          cases e.symm.trans e1
          exact (hok' b _ (un.frzs b _ _ z)).1

theorem g_call (KX : K.In s₁.heap) (hns : s₁.heap.Ns mainGlobals mg) (hb : s₁.heap.Ns builtinsNs mb) (hbb : ∀ x : Str, x ≠ "__name__" → mb x = bootBuiltins x) (hlim : s₁.heap.NoLimit) (hg : s₁.gens = #[])
    (ha : s₁.heap.get? a = some { cls := .type "list", data := .seq vs.toArray }) (hi : IntsAre vs ns) (hl : ns.length ≤ sizeLine) (hr : Room k callerA)
    (F : ∀ base : Heap, K.In base → base.Ns mainGlobals mg → GOk P w K mg base CX k fa fd [x] sp) (hbind : ∀ (s : Shared) (u : Value), BindsTo s fd ⟨[u], []⟩ [(x, u)])
    (hsp : ∀ H : Hp, Only H → SqL K H a (ns.map V.int) → sp [.ref a] H (fun v _ => v = .bl true) fun _ _ _ => False)
    (hCX : ∀ H e s', CX [] H s₁ (fun _ _ _ => False) e s' → False) :
    codeAny (model P w) callerA (.call (.ref fa) ⟨[.ref a], []⟩) (fun r s' => r = .ok (.ret (.bool true)) ∧ PySem.OldK s₁.heap s'.heap ∧ s'.os = s₁.os ∧ AllBare s'.gens) s₁ := by
  have rv := vals_ints hi
  cases hk : K.lookup a with
  | some o =>
    cases ha.symm.trans (KX a o hk)
    have O : Only (fun _ => none : Hp) := fun _ => .inl rfl
    refine g_core (fun _ => none) KX hns hb hbb hlim hg ha hr F hbind (hsp _ O (.inr ?_)) (hCX _) O (fun b u z => nomatch (show (none : Option HO) = some u from z)) (fun b u z => nomatch (show (none : Option HO) = some u from z))
    exact ⟨_, vs.toArray, _, hk, rfl, rfl, rfl, by rw [List.size_toArray, hi.length]; exact hl, by simpa using rv⟩
  | none =>
    let sc : HO := .frz { cls := .type "list", data := .seq vs.toArray } (.lst (ns.map V.int))
    let H : Hp := fun b => if b = a then some sc else none
    have Ha : H a = some sc := if_pos rfl
    have Hb : ∀ b u, H b = some u → b = a ∧ u = sc := by
      intro b u z
      by_cases q : b = a
      · exact ⟨q, Option.some.inj (z.symm.trans (if_pos q))⟩
      · exact nomatch z.symm.trans (if_neg q)
    have O : Only H := by
      intro b
      by_cases q : b = a
      · exact .inr ⟨_, _, if_pos q⟩
      · exact .inl (if_neg q)
    refine g_core H KX hns hb hbb hlim hg ha hr F hbind (hsp H O (.inl (.inr ⟨_, Ha⟩))) (hCX H) O (fun b u z => ?_) (fun b u z => ⟨(Hb b u z).1, hk⟩)
    obtain ⟨rfl, rfl⟩ := Hb b u z
    exact ⟨ha, by rw [List.length_map]; exact hl, vs, _, rv, ha⟩
end

/-- the goal that k_head leaves of a law whose promise hangs on the written part alone -/
theorem g_walk {l : PySem.W.OpenLaw} {n k : Nat} {q : Program} {loose : List Str} {XP : (Str → Option Value) → Heap → Prop} {YP : World → Heap → Prop} {d : DefRec} {K : Params → PySem.W.Frag} {sp : PySem.W.Frag → Sp} {x : Str}
    (hn : l.most = some n) (hn2 : n ≤ sizeLine) (hdf : d.params.defaults = []) (hr : Room k callerA) (hY : ∀ (w : World) (h : Heap), YP w h → (K w.params).In h)
    (F : ∀ (w : World) (mg : Str → Option Value) (fa : Addr) (h : Heap), (K w.params).In h → h.Ns mainGlobals mg → mg d.name = some (.ref fa) →
      ∃ fd : FuncData, (∀ (s : Shared) (u : Value), BindsTo s fd ⟨[u], []⟩ [(x, u)]) ∧ ∀ base : Heap, (K w.params).In base → base.Ns mainGlobals mg → GOk l.prog w (K w.params) mg base CX0 k fa fd [x] (sp (K w.params)))
    (hsp : ∀ (K : PySem.W.Frag) (H : Hp) (a : Addr) (ns : List Int), ns.length ≤ n → Only H → SqL K H a (ns.map V.int) → sp K [.ref a] H (fun v _ => v = .bl true) fun _ _ _ => False) :
    PySem.W.WalkO q loose XP YP l.row.toRowW d [] (fun f vs => PySem.call f vs) := by
  refine Att.attach_call hn hdf ?_
  intro w s₀ s₁ mg mb fa o pm cd doc a vs ns G Y ho hd hcd hmg hobj hints hlen hg
  have KX := hY w _ Y
  obtain ⟨fd, hb, hF⟩ := F w mg fa _ KX G.T.g hmg
  exact g_call KX G.T.g G.T.b G.T.builtins G.T.nolimit hg hobj hints (Nat.le_trans hlen hn2) hr hF hb (fun H hO hS => hsp _ H a ns hlen hO hS) fun H e s' z => z
end Gd

set_option Elab.async false
set_option linter.all false
set_option maxRecDepth 100000
set_option maxHeartbeats 4000000
/-! More of our own: what evaluates to what, for chains, calls, texts; the draws of the laws. -/
namespace Gd
open PySem PySem.Spec PyProof.Rows L2 Evl
section
variable {K : PySem.W.Frag} {σ : L2.St} {H H' : Hp} {ta tb tc te : TE} {t u : TT} {x y z v : V} {r r' : R2}
theorem ev_chain {a b : Bool} {c : V} (ha : Ev ta σ H x) (hb : Ev tb σ H y) (hr : RV r x y H (.bl a)) (hc : a = true → Ev tc σ H c) (hr2 : a = true → RV r' y c H (.bl b)) :
    Ev (tChain r r' ta tb tc) σ H (.bl (a && b)) := fun H1 e Q q =>
  ha H1 e _ fun H2 e2 => hb H2 (e.trans e2) _ fun H3 e3 => hr H3 ((e.trans e2).trans e3) _ fun H4 e4 => ⟨a, rfl, by
    have e14 := (e2.trans e3).trans e4
    cases a with
    | true =>
      rw [if_pos rfl]
      exact hc rfl H4 (e.trans e14) _ fun H5 e5 => hr2 rfl H5 ((e.trans e14).trans e5) Q fun H6 e6 => q H6 ((e14.trans e5).trans e6)
    | false =>
      rw [if_neg Bool.false_ne_true]
      exact q H4 e14⟩
theorem rv_eqI {i j : Int} : RV rEq (.int i) (.int j) H (.bl (decide (i = j))) := by
  have h : RV rEq (.int i) (.int j) H (.bl (decide (V.int i = V.int j))) := rv_eq rfl
  have e : decide (V.int i = V.int j) = decide (i = j) := by
    by_cases h : i = j
    · rw [h, decide_eq_true rfl, decide_eq_true rfl]
    · rw [decide_eq_false h, decide_eq_false (fun q => h (V.int.inj q))]
  rw [← e]
  exact h
theorem rv_eqS {i j : Str} : RV rEq (.str i) (.str j) H (.bl (decide (i = j))) := by
  have h : RV rEq (.str i) (.str j) H (.bl (decide (V.str i = V.str j))) := rv_eq rfl
  have e : decide (V.str i = V.str j) = decide (i = j) := by
    by_cases h : i = j
    · rw [h, decide_eq_true rfl, decide_eq_true rfl]
    · rw [decide_eq_false h, decide_eq_false (fun q => h (V.str.inj q))]
  rw [← e]
  exact h
theorem rv_neS {i j : Str} : RV rNe (.str i) (.str j) H (.bl (!decide (i = j))) := by
  have h : RV rNe (.str i) (.str j) H (.bl (!decide (V.str i = V.str j))) := rv_ne rfl
  have e : decide (V.str i = V.str j) = decide (i = j) := by
    by_cases h : i = j
    · rw [h, decide_eq_true rfl, decide_eq_true rfl]
    · rw [decide_eq_false h, decide_eq_false (fun q => h (V.str.inj q))]
  rw [← e]
  exact h
theorem rv_neI {i j : Int} : RV rNe (.int i) (.int j) H (.bl (!decide (i = j))) := by
  have h : RV rNe (.int i) (.int j) H (.bl (!decide (V.int i = V.int j))) := rv_ne rfl
  have e : decide (V.int i = V.int j) = decide (i = j) := by
    by_cases h : i = j
    · rw [h, decide_eq_true rfl, decide_eq_true rfl]
    · rw [decide_eq_false h, decide_eq_false (fun q => h (V.int.inj q))]
  rw [← e]
  exact h
theorem rv_mod {i j : Int} (h : j ≠ 0) : RV (rI (fun _ j => j ≠ 0) fun i j => .int (i.fmod j)) (.int i) (.int j) H (.int (i.fmod j)) := rv_I h
theorem rv_fdiv {i j : Int} (h : j ≠ 0) (h2 : j.natAbs < 1073741824) : RV (rI CDivN fun i j => .int (i.fdiv j)) (.int i) (.int j) H (.int (i.fdiv j)) := rv_I ⟨h, h2⟩
theorem rv_mulR {i j : Int} (h : -(2 ^ 64) < j ∧ j < 2 ^ 64) : RV (rI CMul fun i j => .int (i * j)) (.int i) (.int j) H (.int (i * j)) := rv_I (.inr h)
theorem rv_mulL {i j : Int} (h : -(2 ^ 64) < i ∧ i < 2 ^ 64) : RV (rI CMul fun i j => .int (i * j)) (.int i) (.int j) H (.int (i * j)) := rv_I (.inl h)
theorem rv_pow {i j : Int} (h : 0 ≤ j ∧ j ≤ 1000000 ∧ i.natAbs < 2 ^ 64) : RV (rI CPow fun i j => .int (i ^ j.toNat)) (.int i) (.int j) H (.int (i ^ j.toNat)) := rv_I h
def rAddT : R2 := fun x y H Q => ∃ i j, x = .str i ∧ y = .str j ∧ i.length + j.length ≤ sizeLine ∧ Q (.str (i ++ j)) H
theorem rv_addS {i j : Str} (h : i.length + j.length ≤ 100000) : RV rAddT (.str i) (.str j) H (.str (i ++ j)) := fun H1 _ _ q => ⟨i, j, rfl, rfl, sz_of h, q H1 (Ex.refl H1)⟩
def rInt1 : List V → Hp → VK → Prop := fun xs H Q => (∃ i, xs = [.int i] ∧ Q (.int i) H) ∨ ∃ k, xs = [.bl k] ∧ Q (.int (if k then 1 else 0)) H
theorem rc_int {i : Int} : RC rInt1 [.int i] H (.int i) := fun H1 _ _ q => .inl ⟨i, rfl, q H1 (Ex.refl H1)⟩
theorem rc_intB {k : Bool} : RC rInt1 [.bl k] H (.int (if k then 1 else 0)) := fun H1 _ _ q => .inr ⟨k, rfl, q H1 (Ex.refl H1)⟩
def rOrd : List V → Hp → VK → Prop := fun xs H Q => ∃ x, xs = [.str x] ∧ x.length = 1 ∧ Q (.int (x.cps.getD 0 0 : Nat)) H
theorem rc_ord {c : Nat} : RC rOrd [.str ⟨#[c]⟩] H (.int (c : Int)) := fun H1 _ _ q => ⟨⟨#[c]⟩, rfl, rfl, q H1 (Ex.refl H1)⟩
def rLenT : List V → Hp → VK → Prop := fun xs H Q => ∃ x, xs = [.str x] ∧ x.length ≤ sizeLine ∧ Q (.int x.length) H
theorem rc_lenS {x : Str} (h : x.length ≤ 100000) : RC rLenT [.str x] H (.int x.length) := fun H1 _ _ q => ⟨x, rfl, sz_of h, q H1 (Ex.refl H1)⟩
theorem rc_repr {d : PyData} (hd : Dp K H v d) (hm : ∀ H1, Ex H H1 → Dp K H1 v d) (hs : d.showable = true) (hn : d.hasDict = false) (hp : d.depth ≤ 40) (hz : d.shown.length ≤ sizeLine) : RC (rRepr K) [v] H (.str d.shown) :=
  fun H1 e _ q => ⟨v, d, rfl, hm H1 e, hs, hn, hp, hz, q H1 (Ex.refl H1)⟩
theorem ev_sub {a : TE} {lo hi : TO} {i j : Option Int} {z : Str} (h : Ev a σ H (.str z)) (hl : EvO lo σ H i) (hh : EvO hi σ H j) (hz : z.length ≤ 100000) : Ev (tSl rSlS a lo hi) σ H (.str (cutS z i j)) := fun H1 e Q q =>
  h H1 e _ fun H2 e2 => hl H2 (e.trans e2) _ fun H3 e3 => hh H3 ((e.trans e2).trans e3) _ fun H4 e4 => ⟨z, rfl, sz_of hz, q H4 ((e2.trans e3).trans e4)⟩
end

/-! ### data of lists of ints -/
theorem dpAll_ints {K : PySem.W.Frag} {H : Hp} : ∀ ns : List Int, DpAll K H (ns.map V.int) (ns.map PyData.int)
  | [] => .nil
  | n :: r => .cons (.int n) (dpAll_ints r)
theorem dp_ints {K : PySem.W.Frag} {H : Hp} {a : Addr} {ns : List Int} (h : SqL K H a (ns.map V.int)) : Dp K H (.ref a) (.list (ns.map PyData.int)) := .lst h (dpAll_ints ns)
theorem showAll_ints : ∀ (ns : List Int), (∀ n ∈ ns, n.natAbs.log2 < 1920) → PyData.showableAll (ns.map PyData.int) = true
  | [], _ => by simp [PyData.showableAll]
  | n :: r, h => by
    rw [List.map_cons, PyData.showableAll, PyData.showable, decide_eq_true (h n List.mem_cons_self), showAll_ints r fun m hm => h m (List.mem_cons_of_mem _ hm)]
    rfl
theorem noDict_ints : ∀ ns : List Int, PyData.hasDictAll (ns.map PyData.int) = false
  | [] => by simp [PyData.hasDictAll]
  | n :: r => by
    rw [List.map_cons, PyData.hasDictAll, noDict_ints r, PyData.hasDict]
    rfl
theorem depthAll_ints : ∀ ns : List Int, PyData.depthAll (ns.map PyData.int) ≤ 1
  | [] => by simp [PyData.depthAll]
  | n :: r => by
    rw [List.map_cons, PyData.depthAll, PyData.depth]
    have := depthAll_ints r
    omega

/-! ### the script's cells -/
def cellN (ns : List Int) (k : Nat) : Int := ns.getD k 0

/-! ### comprehensions without a test: items mapped -/
section
variable {K : PySem.W.Frag} {σ : L2.St} {H H1 : Hp} {te tl : TE} {vs : List Nat} {j : Nat}
theorem take_snoc {α : Type} {l : List α} {i : Nat} {x : α} (h : l[i]? = some x) : l.take (i + 1) = l.take i ++ [x] := by
  rw [List.take_add_one, h]
  rfl
theorem lc_map {J : It} {G : Hp → Prop} {Y : Nat → Hp → V → Hp → Prop} {xs : List V} {D : Addr} {Qd : Hp → Prop} (w : Walk J xs.length G Y) (hY : ∀ i H x H', i < xs.length → Y i H x H' → H' = H ∧ xs[i]? = some x)
    (hz : xs.length ≤ 90000) (hw : ∀ x, wipe ((wipe σ vs).set j (some x)) vs = wipe σ vs) (f : V → V) (hG : ∀ H', Ex H1 H' → G H') (he : ∀ x ∈ xs, ∀ H', Ex H1 H' → Ev te ((wipe σ vs).set j (some x)) H' (f x)) (hD : H1 D = none)
    (k : ∀ H', Ex H1 H' → H' D = some (.lst (xs.map f)) → Qd H') :
    ∃ W : Nat → Nat → Hp → Prop, (∃ m, W 0 m (upd H1 D (.lst []))) ∧ ∀ i m H, W i m H →
      (J.stop i H ∧ Qd H) ∨ (J.go i H ∧ ∃ Nx : Hp → Prop, (∀ H', Nx H' → ∃ m', m' < m ∧ W (i + 1) m' H') ∧ ∀ x H', J.yld i H x H' → gName j x (wipe σ vs) H' fun σ2 H2 => wipe σ2 vs = wipe σ vs ∧ tYes σ2 H2 fun b H3 =>
        if b = true then te σ2 H3 fun y H4 => ∃ acc, H4 D = some (.lst acc) ∧ acc.length < sizeLine ∧ Nx (upd H4 D (.lst (acc ++ [y]))) else Nx H3) := by
  refine lc_it w (fun i H' => Ex H1 H' ∧ H' D = some (.lst ((xs.take i).map f))) ⟨Ex.new hD, upd_same⟩ (fun i H' _ p => hG H' p.1) ?_ (fun H' p => k H' p.1 (by rw [p.2, List.take_length]))
  intro i x H2 H3 hi p y
  obtain ⟨e, hx⟩ := hY i H2 x H3 hi y
  subst e
  obtain ⟨p1, p2⟩ := p
  refine ⟨hw x, ?_⟩
  dsimp only [tYes]
  rw [if_pos rfl]
  refine he x (List.mem_of_getElem? hx) H3 p1 H3 (Ex.refl H3) _ fun H4 e4 => ⟨(xs.take i).map f, e4 D _ p2, sz_lt (by rw [List.length_map, List.length_take]; omega), Ex.mut (p1.trans e4) hD, ?_⟩
  rw [upd_same, take_snoc hx, List.map_append]
  rfl
theorem el_mapL {a : Addr} {xs : List V} (f : V → V) (h : Ev tl σ H (.ref a)) (hx : SqL K H a xs) (hz : xs.length ≤ 90000) (hw : ∀ x, wipe ((wipe σ vs).set j (some x)) vs = wipe σ vs)
    (he : ∀ x ∈ xs, ∀ H1, Ex H H1 → Ev te ((wipe σ vs).set j (some x)) H1 (f x)) : EvL (tLc (iList K tl) (gName j) tYes te vs) σ H (xs.map f) := fun H0 e Q q =>
  h H0 e _ fun H1 e1 => ⟨a, rfl, ⟨xs, ex_l (e.trans e1) hx⟩, fun D hD => lc_map walk_list (fun _ _ _ _ _ y => y) hz hw f (fun H' e' => ex_l ((e.trans e1).trans e') hx) (fun x m H' e' => he x m H' ((e.trans e1).trans e')) hD
    (fun H' e' hd => q D H' (fresh_back e1 hD) (e1.trans e') hd)⟩
theorem el_mapNL {xs : List V} (f : V → V) (h : EvL tl σ H xs) (hz : xs.length ≤ 90000) (hw : ∀ x, wipe ((wipe σ vs).set j (some x)) vs = wipe σ vs)
    (he : ∀ x ∈ xs, ∀ H1, Ex H H1 → Ev te ((wipe σ vs).set j (some x)) H1 (f x)) : EvL (tLc (iList K tl) (gName j) tYes te vs) σ H (xs.map f) := fun H0 e Q q =>
  h H0 e _ fun a H1 _ e1 ha => ⟨a, rfl, ⟨xs, sq_of ha⟩, fun D hD => lc_map walk_list (fun _ _ _ _ _ y => y) hz hw f (fun H' e' => sq_of (e' a _ ha)) (fun x m H' e' => he x m H' ((e.trans e1).trans e')) hD
    (fun H' e' hd => q D H' (fresh_back e1 hD) (e1.trans e') hd)⟩
def sgns (z : Str) : List V := z.cps.toList.map fun c => V.str ⟨#[c]⟩
theorem sgns_at {z : Str} {i c : Nat} (h : z.cps[i]? = some c) : (sgns z)[i]? = some (.str ⟨#[c]⟩) := by
  unfold sgns
  rw [List.getElem?_map, Array.getElem?_toList, h]
  rfl
theorem sgns_len (z : Str) : (sgns z).length = z.cps.size := by
  unfold sgns
  rw [List.length_map, Array.length_toList]
theorem walk_signs (z : Str) : Walk (Its z) (sgns z).length (fun _ => True) (YAt (sgns z)) := by
  rw [sgns_len]
  exact walk_str.mono (fun _ h => h) fun i H x H' _ _ y => by
    obtain ⟨e, c, hc, rfl⟩ := y
    exact ⟨e, sgns_at hc⟩
theorem el_mapS {z : Str} (f : V → V) (h : Ev tl σ H (.str z)) (hz : z.cps.size ≤ 90000) (hw : ∀ x, wipe ((wipe σ vs).set j (some x)) vs = wipe σ vs)
    (he : ∀ c ∈ z.cps.toList, ∀ H1, Ex H H1 → Ev te ((wipe σ vs).set j (some (.str ⟨#[c]⟩))) H1 (f (.str ⟨#[c]⟩))) : EvL (tLc (iStr tl) (gName j) tYes te vs) σ H ((sgns z).map f) := fun H0 e Q q =>
  h H0 e _ fun H1 e1 => ⟨z, rfl, fun D hD => lc_map (walk_signs z) (fun _ _ _ _ _ y => y) (by rw [sgns_len]; exact hz) hw f (fun _ _ => trivial) (fun x m H' e' => by
    obtain ⟨c, hc, rfl⟩ := List.mem_map.mp m
    exact he c hc H' ((e.trans e1).trans e')) hD (fun H' e' hd => q D H' (fresh_back e1 hD) (e1.trans e') hd)⟩
end

/-! ### join, repr, str(..) -/
section
variable {K : PySem.W.Frag} {σ : L2.St} {H H1 : Hp} {te tl to : TE}
def rJoinT (K : PySem.W.Frag) : V → List V → Hp → VK → Prop := fun x xs H Q => ∃ a p, ∃ ys : List Str, x = .str a ∧ xs = [.ref p] ∧ (SqL K H p (ys.map V.str) ∨ SqT K H p (ys.map V.str)) ∧
      (ys.map (·.length)).sum + ys.length * a.length ≤ 16777216 ∧ Q (.str (Txt.join a ys)) H
theorem ev_joinL {a : Str} {ys : List Str} (ho : Ev to σ H (.str a)) (h : EvL te σ H (ys.map V.str)) (hz : (ys.map (·.length)).sum + ys.length * a.length ≤ 16777216) : Ev (tM1 (rJoinT K) to te) σ H (.str (Txt.join a ys)) := fun H0 e Q q =>
  ho H0 e _ fun H1 e1 => ⟨⟨a, rfl⟩, h H1 (e.trans e1) _ fun p H2 _ e2 hp => ⟨a, p, ys, rfl, rfl, .inl (sq_of hp), hz, q H2 (e1.trans e2)⟩⟩
theorem joinE (ys : List Str) : (Txt.join "" ys).cps.toList = (ys.map fun y => y.cps.toList).flatten := by
  have h : ∀ l : List (List Nat), TL.joinL [] l = l.flatten := by
    intro l
    induction l with
    | nil => rfl
    | cons p r ih =>
      cases r with
      | nil => simp [TL.joinL]
      | cons q r => rw [TL.joinL, ih]; rfl
  rw [TL.join_eq]
  show TL.tl _ = _
  rw [TL.tl_join]
  exact h _
theorem show_le {ns : List Int} (hl : ns.length ≤ 1000) (hb : ∀ n ∈ ns, n.natAbs < 10 ^ 100) : (PyData.list (ns.map PyData.int)).shown.length ≤ sizeLine := by
  have hs : PyData.leavesShort 101 (.list (ns.map PyData.int)) = true := by
    unfold PyData.leavesShort
    clear hl
    induction ns with
    | nil => simp [PyData.leavesShortAll]
    | cons n r ih =>
      rw [List.map_cons, PyData.leavesShortAll, ih fun m hm => hb m (List.mem_cons_of_mem _ hm), Bool.and_true, PyData.leavesShort]
      refine decide_eq_true ?_
      unfold PyData.shown
      have h := int_text_length_le10 (k := 100) (by decide) (hb n List.mem_cons_self)
      have e : (Str.ofString (toString n)).length = (toString n).length := PySem.ofString_length _
      show (Str.ofString (toString n)).length ≤ 101
      rw [e]
      exact h
  have hk := PyData.shown_le_bulk 101 (by decide) _ hs
  have hb2 : (PyData.list (ns.map PyData.int)).bulk = ns.length := by
    unfold PyData.bulk
    clear hs hk hl hb
    induction ns with
    | nil => simp [PyData.bulkAll]
    | cons n r ih =>
      rw [List.map_cons, PyData.bulkAll, PyData.bulk, ih, List.length_cons]
      omega
  rw [hb2] at hk
  rw [sizeLine_eq]
  omega
set_option exponentiation.threshold 3000 in
theorem pow_small : 10 ^ 100 ≤ 2 ^ 1920 := by decide +kernel
set_option exponentiation.threshold 3000 in
theorem log_lt {n : Int} (h : n.natAbs < 10 ^ 100) : n.natAbs.log2 < 1920 := by
  by_cases h0 : n.natAbs = 0
  · rw [h0]; decide
  · exact (Nat.log2_lt h0).mpr (Nat.lt_of_lt_of_le h pow_small)
theorem ev_reprI {a : Addr} {ns : List Int} (h : Ev te σ H (.ref a)) (hx : SqL K H a (ns.map V.int)) (hl : ns.length ≤ 1000) (hb : ∀ n ∈ ns, n.natAbs < 10 ^ 100) :
    Ev (tCB (rRepr K) (tCons te tNil)) σ H (.str (PyData.list (ns.map PyData.int)).shown) :=
  ev_cb (ea_cons h ea_nil) fun H1 e _ q => ⟨.ref a, .list (ns.map PyData.int), rfl, dp_ints (ex_l e hx), by
    rw [PyData.showable]
    exact showAll_ints ns fun n hn => log_lt (hb n hn), by
    rw [PyData.hasDict]
    exact noDict_ints ns, by
    rw [PyData.depth]
    have := depthAll_ints ns
    omega, show_le hl hb, q H1 (Ex.refl H1)⟩
end

/-! ### what is known behind a statement -/
theorem q_mid {t u : TS} {D : Ends} {σ : L2.St} {H : Hp} (M : L2.St → Hp → Prop) (mono : ∀ (N N' : L2.St → Hp → Prop), (∀ σ H, N σ H → N' σ H) → t { D with nx := N } σ H → t { D with nx := N' } σ H)
    (h : t { D with nx := M } σ H) (k : ∀ σ' H', M σ' H' → u D σ' H') : tSeq t u D σ H := mono M (u D) k h

/-! ### isinstance -/
section
variable {K : PySem.W.Frag} {H : Hp}
theorem rc_isStr {x : Str} : RC (rIsi K) [.str x, .ty "str"] H (.bl true) := fun H1 _ _ q => ⟨_, _, _, _, true, rfl, .ty "str", .base (.str x), kit_ty (by decide +kernel), q H1 (Ex.refl H1)⟩
theorem rc_isInt {i : Int} : RC (rIsi K) [.int i, .ty "int"] H (.bl true) := fun H1 _ _ q => ⟨_, _, _, _, true, rfl, .ty "int", .base (.int i), kit_ty (by decide +kernel), q H1 (Ex.refl H1)⟩
theorem rc_isIntB {i : Int} : RC (rIsi K) [.int i, .ty "bool"] H (.bl false) := fun H1 _ _ q => ⟨_, _, _, _, false, rfl, .ty "bool", .base (.int i), kit_ty (by decide +kernel), q H1 (Ex.refl H1)⟩
theorem rc_isNonS : RC (rIsi K) [.non, .ty "str"] H (.bl false) := fun H1 _ _ q => ⟨_, _, _, _, false, rfl, .ty "str", .base .non, kit_ty (by decide +kernel), q H1 (Ex.refl H1)⟩
/-- isinstance of the error that a suite holds: its class is asked in the reading -/
def rIsX (K : PySem.W.Frag) (D a : Addr) (cls : Value) (d : Option Addr) : List V → Hp → VK → Prop := fun xs H Q => cls = .ref D ∧ d = none ∧ rIsE K D a xs H Q
theorem call_isX {X : Cx} {a D : Addr} {oe : Obj} {pn : List (Addr × Obj)} {cls : Value} {d : Option Addr} (C : ExcC X.K D) (hz : Zc cls d oe) (hf : ∃ vs, oe.data = .fields vs) : CallR (X.suite a ((a, oe) :: pn)) (.builtin "isinstance") (rIsX X.K D a cls d) := by
  intro pins s σ H xs us Q I r h
  obtain ⟨rfl, rfl, h⟩ := h
  exact call_isE C hz hf pins s σ H xs us Q I r h
theorem rc_isX {D a : Addr} {c : V} {cv : Value} {b : Bool} (hc : ∀ u, RelV c u → u = cv) (hk : PySem.W.kitOne K (.ref D) cv = some b) : RC (rIsX K D a (.ref D) none) [.ref a, c] H (.bl b) := fun H1 _ _ q => ⟨rfl, rfl, c, cv, b, rfl, hc, hk, q H1 (Ex.refl H1)⟩
end

/-! ### the draws of the laws: a cell's values -/
def lvMix (cell size : Int) (k : Nat) : Int := ((((cell.fmod 2147483647) * 48271 + (k : Int) * 69621 + 7).fmod 2147483647 * 16807).fmod 2147483647).fmod size
def lvStep (cell size : Int) (st : Int × List Int) (k : Nat) : Int × List Int :=
  if st.1 ≥ 10 ^ 12 then (st.1.fdiv size, st.2 ++ [st.1.fmod size]) else (st.1, st.2 ++ [lvMix cell size k])
def lvGo (cell size : Int) (n : Nat) : Int × List Int := (List.range n).foldl (lvStep cell size) (cell, [])
theorem lvGo_succ (cell size : Int) (n : Nat) : lvGo cell size (n + 1) = lvStep cell size (lvGo cell size n) n := by
  unfold lvGo
  rw [List.range_succ, List.foldl_append]
  rfl
/-- what _law_values gives -/
def lvals (cell : Int) (n : Nat) (size : Int) : List Int := (lvGo cell size n).2
theorem lvStep_len (cell size : Int) (st : Int × List Int) (k : Nat) : (lvStep cell size st k).2.length = st.2.length + 1 := by
  unfold lvStep
  split <;> simp
theorem lvals_len (cell : Int) (n : Nat) (size : Int) : (lvals cell n size).length = n := by
  unfold lvals
  induction n with
  | zero => rfl
  | succ n ih => rw [lvGo_succ, lvStep_len, ih]
theorem lvals_in {cell size : Int} (h : 0 < size) (n : Nat) : ∀ v ∈ lvals cell n size, 0 ≤ v ∧ v < size := by
  unfold lvals
  induction n with
  | zero => intro v hv; exact absurd hv List.not_mem_nil
  | succ n ih =>
    intro v hv
    rw [lvGo_succ] at hv
    unfold lvStep lvMix at hv
    have key : ∀ x : Int, 0 ≤ x.fmod size ∧ x.fmod size < size := fun x => ⟨Int.fmod_nonneg_of_pos x h, Int.fmod_lt_of_pos x h⟩
    split at hv
    · rcases List.mem_append.mp hv with q | q
      · exact ih v q
      · rw [List.mem_singleton.mp q]; exact key _
    · rcases List.mem_append.mp hv with q | q
      · exact ih v q
      · rw [List.mem_singleton.mp q]; exact key _

/-! ### texts and their codes -/
theorem map_at {α β : Type} {f : α → β} {l : List α} {i : Nat} {x : β} (h : (l.map f)[i]? = some x) : ∃ c, l[i]? = some c ∧ x = f c := by
  rw [List.getElem?_map] at h
  cases e : l[i]? with
  | none => rw [e] at h; cases h
  | some c => rw [e] at h; exact ⟨c, rfl, (Option.some.inj h).symm⟩
theorem sgns_map (z : Str) (f : V → V) : (sgns z).map f = z.cps.toList.map fun c => f (.str ⟨#[c]⟩) := by
  unfold sgns
  rw [List.map_map]
  rfl
theorem app_toList (x y : Str) : (x ++ y).cps.toList = x.cps.toList ++ y.cps.toList := TL.tl_append x y
theorem len_size (x : Str) : x.length = x.cps.toList.length := by simp [Str.length]
theorem str_ext {x y : Str} (h : x.cps.toList = y.cps.toList) : x = y := by
  cases x; cases y
  congr
  exact Array.toList_inj.mp h
end Gd

set_option Elab.async false
set_option linter.all false
set_option maxRecDepth 100000
set_option maxHeartbeats 4000000
/-! Of our own: draws that are popped off a list; lists of ints compared; digits. -/
namespace Gd
open PySem PySem.Spec PyProof.Rows L2 Evl
/-- all but p is kept -/
def But (p : Addr) (H H' : Hp) : Prop := ∀ b o, b ≠ p → H b = some o → H' b = some o
theorem But.refl {p : Addr} {H : Hp} : But p H H := fun _ _ _ h => h
theorem But.trans {p : Addr} {H H1 H2 : Hp} (a : But p H H1) (b : But p H1 H2) : But p H H2 := fun c o n h => b c o n (a c o n h)
theorem ex_but {p : Addr} {H H' : Hp} (e : Ex H H') : But p H H' := fun b o _ h => e b o h
theorem But.upd {p : Addr} {H : Hp} {o : HO} : But p H (upd H p o) := fun b u n h => by rw [upd_ne n]; exact h
theorem But.seq {K : PySem.W.Frag} {p a : Addr} {H H' : Hp} {xs : List V} (b : But p H H') (n : a ≠ p) (h : SqL K H a xs) : SqL K H' a xs := by
  rcases h with (h | ⟨o, h⟩) | h
  · exact .inl (.inl (b _ _ n h))
  · exact .inl (.inr ⟨o, b _ _ n h⟩)
  · exact .inr h
/-- what was free is free still, seen backwards -/
theorem But.free {p a : Addr} {H H' : Hp} {o : HO} (b : But p H H') (hp : H' p = some o) (h : H' a = none) : a ≠ p ∧ H a = none := by
  have n : a ≠ p := fun e => by rw [e, hp] at h; cases h
  refine ⟨n, ?_⟩
  cases e : H a with
  | none => rfl
  | some u => rw [b a u n e] at h; cases h
def Small (ds : List Int) : Prop := (∀ d ∈ ds, 0 ≤ d ∧ d < 1000) ∧ ds.length ≤ 20000
theorem Small.nil : Small [] := ⟨fun _ h => absurd h List.not_mem_nil, Nat.zero_le _⟩
theorem Small.app {ds es : List Int} (h1 : ∀ d ∈ ds, 0 ≤ d ∧ d < 1000) (h2 : ∀ d ∈ es, 0 ≤ d ∧ d < 1000) : ∀ d ∈ ds ++ es, 0 ≤ d ∧ d < 1000 := fun d hd => (List.mem_append.mp hd).elim (h1 d) (h2 d)
theorem Small.one {ds : List Int} {x : Int} (h1 : ∀ d ∈ ds, 0 ≤ d ∧ d < 1000) (h2 : 0 ≤ x ∧ x < 1000) : ∀ d ∈ ds ++ [x], 0 ≤ d ∧ d < 1000 := Small.app h1 fun d hd => by rw [List.mem_singleton.mp hd]; exact h2
def Drw (p : Addr) (H : Hp) : Prop := ∃ ds : List Int, H p = some (.lst (ds.map V.int)) ∧ Small ds
theorem Drw.ex {p : Addr} {H H' : Hp} (d : Drw p H) (e : Ex H H') : Drw p H' := let ⟨ds, h, s⟩ := d; ⟨ds, e _ _ h, s⟩
theorem fmod_in (x : Int) {m : Int} (h : 0 < m) : 0 ≤ x.fmod m ∧ x.fmod m < m := ⟨Int.fmod_nonneg_of_pos x h, Int.fmod_lt_of_pos x h⟩

/-! ### lists of ints compared -/
section
variable {K : PySem.W.Frag} {H : Hp} {σ : L2.St} {ta tb te : TE}
theorem can_ints : ∀ ns : List Int, PyData.canLayAll0 (ns.map PyData.int) = true
  | [] => by simp [PyData.canLayAll0]
  | n :: r => by
    rw [List.map_cons, PyData.canLayAll0, can_ints r, PyData.canLay0]
    rfl
theorem shaped_ints (ns : List Int) : SeqAt.shaped (.list (ns.map PyData.int)) = true := by
  unfold SeqAt.shaped
  rw [PyData.canLay0, can_ints, PyData.depth]
  have := depthAll_ints ns
  rw [Bool.true_and]
  exact decide_eq_true (by omega)
theorem eqv_ints : ∀ ns ms : List Int, PyData.eqvAll (ns.map PyData.int) (ms.map PyData.int) = decide (ns = ms)
  | [], [] => by simp [PyData.eqvAll]
  | [], m :: r => by simp [PyData.eqvAll]
  | n :: r, [] => by simp [PyData.eqvAll]
  | n :: r, m :: q => by
    rw [List.map_cons, List.map_cons, PyData.eqvAll, eqv_ints r q, PyData.eqv]
    by_cases h : n = m
    · subst h
      by_cases h2 : r = q
      · subst h2; simp
      · simp [h2]
    · simp [h]
theorem rv_eqL {a b : Addr} {ns ms : List Int} (ha : SqL K H a (ns.map V.int)) (hb : SqL K H b (ms.map V.int)) : RV (rEqD K) (.ref a) (.ref b) H (.bl (decide (ns = ms))) := fun H1 e Q q =>
  ⟨_, _, dp_ints (ex_l e ha), dp_ints (ex_l e hb), shaped_ints ns, shaped_ints ms, by rw [PyData.eqv, eqv_ints]; exact q H1 (Ex.refl H1)⟩
theorem rv_neL {a b : Addr} {ns ms : List Int} (ha : SqL K H a (ns.map V.int)) (hb : SqL K H b (ms.map V.int)) : RV (rNeD K) (.ref a) (.ref b) H (.bl (!decide (ns = ms))) := fun H1 e Q q =>
  ⟨_, _, dp_ints (ex_l e ha), dp_ints (ex_l e hb), shaped_ints ns, shaped_ints ms, by rw [PyData.eqv, eqv_ints]; exact q H1 (Ex.refl H1)⟩
def optV : Option Int → V
  | none => .non
  | some v => .int v
/-- value or 0 -/
theorem ev_or0 {o : Option Int} (h : Ev te σ H (optV o)) : Ev (tOrT K te (tC (.int 0))) σ H (.int (o.getD 0)) := fun H1 e Q q =>
  h H1 e _ fun H2 e2 => by
    cases o with
    | none => exact ⟨false, rfl, by rw [if_neg Bool.false_ne_true]; exact q H2 e2⟩
    | some v =>
      refine ⟨v != 0, rfl, ?_⟩
      by_cases hv : v = 0
      · subst hv
        exact q H2 e2
      · rw [if_pos (by simpa using hv)]
        exact q H2 e2
def rNotNn : R2 := fun x y H Q => y = .non ∧ Q (.bl (!decide (x = .non))) H
theorem rv_notN {o : Option Int} : RV rNotNn (optV o) .non H (.bl o.isSome) := fun H1 _ _ q => ⟨rfl, by
  have e : (!decide (optV o = .non)) = o.isSome := by
    cases o with
    | none => rfl
    | some v => exact by simp [optV]
  rw [e]
  exact q H1 (Ex.refl H1)⟩
theorem ev_listN {xs : List V} {a : Addr} (h : Ev te σ H (.ref a)) (hx : SqL K H a xs) : EvL (tCB (rListS K) (tCons te tNil)) σ H xs := el_list h hx
/-- the truth of a list -/
theorem et_truL {a : Addr} {xs : List V} (h : Ev te σ H (.ref a)) (hx : SqL K H a xs) : EvT (fun σ H Q => te σ H fun x H' => ∃ k, TruV K x H' k ∧ Q k H') σ H (!xs.isEmpty) := fun H1 e Q q =>
  h H1 e _ fun H2 e2 => ⟨!xs.isEmpty, .inl ⟨xs, ex_l (e.trans e2) hx, rfl⟩, q H2 e2⟩
end

/-! ### digits read -/
def isDg (c : Int) : Bool := decide (48 ≤ c) && decide (c ≤ 57)
def rdStep (st : List Int × Option Int) (c : Int) : List Int × Option Int :=
  if isDg c = true then (st.1, some (10 * st.2.getD 0 + c - 48)) else match st.2 with
    | some v => (st.1 ++ [v], none)
    | none => st
def rdFin (st : List Int × Option Int) : List Int := match st.2 with
  | some v => st.1 ++ [v]
  | none => st.1
def nn (c : Int) : Bool := decide (0 ≤ c)
def rdGo (ns : List Int) : List Int × Option Int := ns.foldl rdStep ([], none)
def rd (ns : List Int) : List Int := rdFin (rdGo (ns.takeWhile nn))
theorem at_sh {xs : List Nat} {c o n : Int} (h0 : 0 ≤ c - o) (hn : c - o < n) (ho : 0 ≤ o) (tab : ∀ k < n.toNat, xs[k]? = some (k + o.toNat)) : atI xs (c - o) = some c.toNat := by
  have e : c - o = (((c - o).toNat : Nat) : Int) := by omega
  rw [e]
  refine atI_nat ?_
  rw [tab _ (by omega)]
  congr 1
  omega
theorem takeWhile_pos {α : Type} {f : α → Bool} {l : List α} (h : l.takeWhile f = l) : ∀ z ∈ l, f z = true := by
  have e : (l.takeWhile f).all f = true := List.all_takeWhile
  rw [h] at e
  exact List.all_eq_true.mp e
theorem tw_stop {l : List Int} {i : Nat} {c : Int} (h : l[i]? = some c) (hc : nn c = false) (ht : (l.take i).takeWhile nn = l.take i) : l.takeWhile nn = l.take i := by
  have hi := (List.getElem?_eq_some_iff.mp h).1
  have e : l = l.take i ++ c :: l.drop (i + 1) := by
    have q := List.take_append_drop i l
    rw [List.drop_eq_getElem_cons hi] at q
    have hg : l[i] = c := by rw [List.getElem?_eq_getElem hi] at h; exact Option.some.inj h
    rw [hg] at q
    exact q.symm
  have q := congrArg (List.takeWhile nn) e
  rw [List.takeWhile_append_of_pos (fun z hz => takeWhile_pos ht z hz), List.takeWhile_cons, hc] at q
  simpa using q
theorem tw_len (l : List Int) : (l.takeWhile nn).length ≤ l.length := (List.takeWhile_sublist _).length_le
theorem foldl_snoc {α β : Type} {f : β → α → β} {b : β} {l : List α} {i : Nat} {x : α} (h : l[i]? = some x) : (l.take (i + 1)).foldl f b = f ((l.take i).foldl f b) x := by
  rw [take_snoc h, List.foldl_append]
  rfl
theorem rdGo_snoc {l : List Int} {i : Nat} {x : Int} (h : l[i]? = some x) : rdGo (l.take (i + 1)) = rdStep (rdGo (l.take i)) x := foldl_snoc h
theorem rdGo_len : ∀ (l : List Int), (rdGo l).1.length ≤ l.length := by
  intro l
  have key : ∀ (l : List Int) (st : List Int × Option Int), (l.foldl rdStep st).1.length ≤ st.1.length + l.length := by
    intro l
    induction l with
    | nil => intro st; simp
    | cons c r ih =>
      intro st
      have h1 := ih (rdStep st c)
      have h2 : (rdStep st c).1.length ≤ st.1.length + 1 := by
        unfold rdStep
        split
        · simp
        · split <;> simp
      rw [List.foldl_cons, List.length_cons]
      omega
  have := key l ([], none)
  unfold rdGo
  simpa using this
end Gd
namespace Gd
open PySem PySem.Spec PyProof.Rows L2 Evl
section
variable {K : PySem.W.Frag} {H : Hp} {σ : L2.St} {ta tb te : TE} {D : Ends} {tz : TS}
theorem rc_isList {p : Addr} {xs : List V} (h : H p = some (.lst xs)) : RC (rIsi K) [.ref p, .ty "list"] H (.bl true) := fun H1 e _ q => ⟨_, _, _, _, true, rfl, .ty "list", .base (.lst (e _ _ h)), kit_ty (by decide +kernel), q H1 (Ex.refl H1)⟩
/-- xs.extend([..]) -/
theorem s_ext {l : Addr} {xs ys : List V} (hl : H l = some (.lst xs)) (ha : Ev ta σ H (.ref l)) (h : EvL te σ H ys) (hz : xs.length + ys.length ≤ 100000) (k : ∀ H1, Ex H H1 → D.nx σ (upd H1 l (.lst (xs ++ ys)))) :
    tDrop (tBM K "list" rExtend ta (tCons te tNil)) D σ H := ha H (Ex.refl H) _ fun H1 e1 =>
  ⟨Or.inl ⟨rfl, xs, sq_of (e1 l _ hl)⟩, h H1 e1 _ fun p H2 hp e2 h2 => ⟨l, p, xs, ys, rfl, rfl, e2 l _ (e1 l _ hl), h2, sz_of hz, k H2 (e1.trans e2)⟩⟩
theorem q_ext {l : Addr} {xs ys : List V} (hl : H l = some (.lst xs)) (ha : Ev ta σ H (.ref l)) (h : EvL te σ H ys) (hz : xs.length + ys.length ≤ 100000) (k : ∀ H1, Ex H H1 → tz D σ (upd H1 l (.lst (xs ++ ys)))) :
    tSeq (tDrop (tBM K "list" rExtend ta (tCons te tNil))) tz D σ H := s_ext (D := { D with nx := tz D }) hl ha h hz k
/-- xs.reverse() -/
theorem q_rev {l : Addr} {xs : List V} (hl : H l = some (.lst xs)) (ha : Ev ta σ H (.ref l)) (k : ∀ H1, Ex H H1 → tz D σ (upd H1 l (.lst xs.reverse))) : tSeq (tDrop (tBM0 K "list" rReverse ta)) tz D σ H :=
  ha H (Ex.refl H) _ fun H1 e1 => ⟨Or.inl ⟨rfl, xs, sq_of (e1 l _ hl)⟩, l, xs, rfl, rfl, e1 l _ hl, k H1 e1⟩
/-- a + b, both lists -/
theorem el_cat {a : Addr} {xs ys : List V} (ha : Ev ta σ H (.ref a)) (hx : H a = some (.lst xs)) (hb : EvL tb σ H ys) (hz : xs.length + ys.length ≤ 100000) : EvL (tOp rCat ta tb) σ H (xs ++ ys) := fun H1 e Q q =>
  ha H1 e _ fun H2 e2 => hb H2 (e.trans e2) _ fun b H3 _ e3 h3 => ⟨a, b, xs, ys, rfl, rfl, e3 _ _ (e2 _ _ (e _ _ hx)), h3, sz_of hz, fun p hp => q p _ (fresh_back (e2.trans e3) hp) ((e2.trans e3).trans (Ex.new hp)) upd_same⟩
def rIntS : List V → Hp → VK → Prop := fun xs H Q => ∃ a n, xs = [.str a] ∧ PySem.intText? a = some n ∧ a.length ≤ 640 ∧ Q (.int n) H
theorem rc_intS {z : Str} {n : Int} (h : PySem.intText? z = some n) (hz : z.length ≤ 640) : RC rIntS [.str z] H (.int n) := fun H1 _ _ q => ⟨z, n, rfl, h, hz, q H1 (Ex.refl H1)⟩
theorem but_mut {p q : Addr} {H H' : Hp} {o : HO} (b : But p H H') (h : q = p) : But p H (upd H' q o) := fun c u n e => by
  rw [h, upd_ne n]
  exact b c u n e
end
end Gd
namespace Gd
open PySem PySem.Spec PyProof.Rows L2 Evl
/-! ### values that are not told, but bounded: what draws give -/
def EvP (te : TE) (σ : L2.St) (H : Hp) (P : V → Hp → Prop) : Prop := ∀ Q : VK, (∀ v H', P v H' → Q v H') → te σ H Q
def EtP (tt : TT) (σ : L2.St) (H : Hp) (P : Bool → Hp → Prop) : Prop := ∀ Q : Bool → Hp → Prop, (∀ b H', P b H' → Q b H') → tt σ H Q
/-- a drawn int d that keeps C; the draws at p have turned, all else stands -/
def DP (p : Addr) (H : Hp) (C : Int → Prop) : V → Hp → Prop := fun v H' => ∃ d : Int, v = .int d ∧ C d ∧ Drw p H' ∧ But p H H'
section
variable {K : PySem.W.Frag} {H : Hp} {σ : L2.St} {ta tb te : TE} {tt t u : TT} {D : Ends} {tu tz : TS} {P P1 : V → Hp → Prop} {p : Addr} {C C1 : Int → Prop}
theorem EvP.imp {P' : V → Hp → Prop} (h : EvP te σ H P) (k : ∀ v H', P v H' → P' v H') : EvP te σ H P' := fun Q q => h Q fun v H' z => q v H' (k v H' z)
theorem ep_of {v : V} (h : Ev te σ H v) : EvP te σ H (fun v' H' => v' = v ∧ Ex H H') := fun Q q => h H (Ex.refl H) Q fun H2 e2 => q v H2 ⟨rfl, e2⟩
theorem q_asgP {i : Nat} (h : EvP te σ H P) (k : ∀ v H', P v H' → tz D (σ.set i (some v)) H') : tSeq (tAsg te (gName i)) tz D σ H := h _ k
theorem s_asgP {i : Nat} (h : EvP te σ H P) (k : ∀ v H', P v H' → D.nx (σ.set i (some v)) H') : tAsg te (gName i) D σ H := h _ k
theorem s_retP (h : EvP te σ H P) (k : ∀ v H', P v H' → D.rt v H') : tRet te D σ H := h _ k
theorem ep_op {r : R2} (ha : EvP ta σ H P1) (hb : ∀ x H1, P1 x H1 → EvP tb σ H1 (fun y H2 => ∀ Q : VK, (∀ v H', P v H' → Q v H') → r x y H2 Q)) : EvP (tOp r ta tb) σ H P := fun Q q =>
  ha _ fun x H1 p1 => hb x H1 p1 _ fun y H2 h2 => h2 Q q
/-- i op (a drawn one) -/
theorem ep_opD {r : R2} {x : V} {g : Int → Int} (ha : Ev ta σ H x) (hb : ∀ H1, Ex H H1 → EvP tb σ H1 (DP p H1 C)) (hr : ∀ d H2 (Q : VK), C d → Q (.int (g d)) H2 → r x (.int d) H2 Q) (hC : ∀ d, C d → C1 (g d)) : EvP (tOp r ta tb) σ H (DP p H C1) := fun Q q =>
  ha H (Ex.refl H) _ fun H1 e1 => hb H1 e1 _ fun y H2 ⟨d, hv, hc, hD, b⟩ => by
    subst hv
    exact hr d H2 Q hc (q _ H2 ⟨g d, rfl, hC d hc, hD, (ex_but e1).trans b⟩)
/-- (a drawn one) op j -/
theorem ep_opL {r : R2} {y : V} {g : Int → Int} (ha : EvP ta σ H (DP p H C)) (hb : ∀ H1, Ev tb σ H1 y) (hr : ∀ d H2 (Q : VK), C d → Q (.int (g d)) H2 → r (.int d) y H2 Q) (hC : ∀ d, C d → C1 (g d)) : EvP (tOp r ta tb) σ H (DP p H C1) := fun Q q =>
  ha _ fun x H1 ⟨d, hv, hc, hD, b⟩ => by
    subst hv
    exact hb H1 H1 (Ex.refl H1) _ fun H2 e2 => hr d H2 Q hc (q _ H2 ⟨g d, rfl, hC d hc, hD.ex e2, b.trans (ex_but e2)⟩)
/-- two drawn ones -/
theorem ep_opDD {r : R2} {C2 : Int → Prop} {g : Int → Int → Int} (ha : EvP ta σ H (DP p H C)) (hb : ∀ H1, Drw p H1 → EvP tb σ H1 (DP p H1 C2)) (hr : ∀ d e H2 (Q : VK), C d → C2 e → Q (.int (g d e)) H2 → r (.int d) (.int e) H2 Q) (hC : ∀ d e, C d → C2 e → C1 (g d e)) : EvP (tOp r ta tb) σ H (DP p H C1) := fun Q q =>
  ha _ fun x H1 ⟨d, hv, hc, hD, b⟩ => by
    subst hv
    exact hb H1 hD _ fun y H2 ⟨e, hv2, hc2, hD2, b2⟩ => by
      subst hv2
      exact hr d e H2 Q hc hc2 (q _ H2 ⟨g d e, rfl, hC d e hc hc2, hD2, b.trans b2⟩)
/-- for k in range(drawn) -/
theorem q_forRP {j : Nat} (h : EvP te σ H P) (k : ∀ v H1, P v H1 → ∃ n : Nat, v = .int (n : Int) ∧ n ≤ 100000 ∧ ∃ Pv : Nat → L2.St → Hp → Prop, Pv 0 σ H1 ∧
    (∀ (i : Nat) σ' H', i < n → Pv i σ' H' → tu { D with nx := Pv (i + 1), ct := Pv (i + 1), bk := tz D } (σ'.set j (some (.int (i : Int)))) H') ∧ ∀ σ' H', Pv n σ' H' → tz D σ' H') :
    tSeq (tFor (iRng1 (tCons te tNil)) (gName j) tu) tz D σ H := h _ fun v H1 hv => by
  obtain ⟨n, rfl, hn, Pv, h0, hs, hd⟩ := k v H1 hv
  refine ⟨(n : Int), rfl, by omega, by omega, for_range (D := { D with nx := tz D }) (lo := 0) (n := n) Pv h0 (fun i σ' H' hi q => ?_) hd⟩
  have e0 : (0 : Int) + (i : Int) = (i : Int) := Int.zero_add _
  show tu { D with nx := Pv (i + 1), ct := Pv (i + 1), bk := tz D } (σ'.set j (some (.int ((0 : Int) + (i : Int))))) H'
  rw [e0]
  exact hs i σ' H' hi q
/-- the same, at a body's end -/
theorem s_forRP {j : Nat} (h : EvP te σ H P) (k : ∀ v H1, P v H1 → ∃ n : Nat, v = .int (n : Int) ∧ n ≤ 100000 ∧ ∃ Pv : Nat → L2.St → Hp → Prop, Pv 0 σ H1 ∧
    (∀ (i : Nat) σ' H', i < n → Pv i σ' H' → tu { D with nx := Pv (i + 1), ct := Pv (i + 1), bk := D.nx } (σ'.set j (some (.int (i : Int)))) H') ∧ ∀ σ' H', Pv n σ' H' → D.nx σ' H') :
    tFor (iRng1 (tCons te tNil)) (gName j) tu D σ H := q_forRP (tz := fun D => D.nx) (D := D) h k
/-- l.append(drawn) -/
theorem s_appP {l : Addr} {xs : List V} (ha : Ev ta σ H (.ref l)) (hl : H l = some (.lst xs)) (hz : xs.length < 100000) (h : ∀ H1, Ex H H1 → EvP te σ H1 P) (k : ∀ v H1, P v H1 → H1 l = some (.lst xs) ∧ D.nx σ (upd H1 l (.lst (xs ++ [v])))) :
    tDrop (tBM K "list" rAppend ta (tCons te tNil)) D σ H := ha H (Ex.refl H) _ fun H1 e1 =>
  ⟨Or.inl ⟨rfl, xs, sq_of (e1 l _ hl)⟩, h H1 e1 _ fun v H2 hv => ⟨l, xs, v, rfl, rfl, (k v H2 hv).1, sz_lt hz, (k v H2 hv).2⟩⟩
/-- tests -/
theorem etp_of {b : Bool} (h : EvT tt σ H b) : EtP tt σ H (fun b' H' => b' = b ∧ Ex H H') := fun Q q => h H (Ex.refl H) Q fun H2 e2 => q b H2 ⟨rfl, e2⟩
theorem etp_cmpD {r : R2} {y : V} {P2 : Bool → Hp → Prop} (ha : EvP ta σ H (DP p H C)) (hb : ∀ H1, Ev tb σ H1 y) (hr : ∀ d H2 (Q : VK), C d → (∀ b, Q (.bl b) H2) → r (.int d) y H2 Q) (k : ∀ b H', Drw p H' → But p H H' → P2 b H') : EtP (tTest (tOp r ta tb)) σ H P2 := fun Q q =>
  ha _ fun x H1 ⟨d, hv, hc, hD, b⟩ => by
    subst hv
    exact hb H1 H1 (Ex.refl H1) _ fun H2 e2 => hr d H2 _ hc fun b' => ⟨b', rfl, q b' H2 (k b' H2 (hD.ex e2) (b.trans (ex_but e2)))⟩
theorem etp_and {P1 P2 : Bool → Hp → Prop} (h1 : EtP t σ H P1) (h2 : ∀ H', P1 true H' → EtP u σ H' P2) (h3 : ∀ H', P1 false H' → P2 false H') : EtP (tAnd t u) σ H P2 := fun Q q =>
  h1 _ fun b H' hb => by
    cases b with
    | true => exact h2 H' hb Q q
    | false => exact q false H' (h3 H' hb)
theorem s_whenP {P2 : Bool → Hp → Prop} (h : EtP t σ H P2) (h1 : ∀ H', P2 true H' → tu D σ H') (h2 : ∀ H', P2 false H' → D.nx σ H') : tIfS t tu tNext D σ H := h _ fun b H' hb => by
  cases b with
  | true => exact h1 H' hb
  | false => exact h2 H' hb
/-- l[drawn] = e, e drawn -/
theorem s_setP {l : Addr} {to ti : TE} {P2 : V → Hp → Prop} (h : EvP te σ H P1) (ho : ∀ H1, Ev to σ H1 (.ref l)) (hi : ∀ v H1, P1 v H1 → ∀ H2, Ex H1 H2 → EvP ti σ H2 (P2))
    (k : ∀ v H1 H2 i H3, P1 v H1 → Ex H1 H2 → P2 i H3 → ∃ xs n j, i = .int n ∧ H3 l = some (.lst xs) ∧ ixN xs.length n = some j ∧ D.nx σ (upd H3 l (.lst (xs.set j v)))) : tAsg te (gSub to ti rSetL) D σ H := h _ fun v H1 hv =>
  ho H1 H1 (Ex.refl H1) _ fun H2 e2 => hi v H1 hv H2 e2 _ fun i H3 hi3 => by
    obtain ⟨xs, n, j, rfl, hl, hj, q⟩ := k v H1 H2 i H3 hv e2 hi3
    exact ⟨l, xs, n, j, rfl, rfl, hl, hj, q⟩
theorem dp_bk {p : Addr} {H H1 : Hp} {C C1 : Int → Prop} {v : V} {H' : Hp} (h : DP p H1 C v H') (b : But p H H1) (hC : ∀ d, C d → C1 d) : DP p H C1 v H' := let ⟨d, hv, hc, hD, b2⟩ := h; ⟨d, hv, hC d hc, hD, b.trans b2⟩
theorem ixN_of {n : Nat} {d : Int} (h0 : 0 ≤ d) (h1 : d < (n : Int)) : ixN n d = some d.toNat := by
  have e : d = ((d.toNat : Nat) : Int) := by omega
  rw [e]
  exact ixN_nat (by omega)
end
end Gd

set_option Elab.async false
set_option linter.all false
set_option maxRecDepth 100000
set_option maxHeartbeats 4000000
/-! Of our own: attributes, methods and dicts, by what evaluates. -/
namespace Gd
open PySem PySem.Spec PyProof.Rows L2 Evl
section
variable {K : PySem.W.Frag} {H : Hp} {σ : L2.St} {ta tb te tv td ty : TE} {t : TA} {D : Ends} {tz : TS} {a C dx : Addr} {fs : List (Str × V)} {f m : Str} {x y v z : V}
theorem ev_fld (h : Ev ta σ H (.ref a)) (ho : H a = some (.ins C dx fs)) (hc : Cls K C) (hn : NoAttr K C f) (hl : fs.lookup f = some v) : Ev (tFld K ta f) σ H v := fun H1 e Q q =>
  h H1 e _ fun H2 e2 => ⟨a, C, dx, fs, v, rfl, e2 _ _ (e _ _ ho), hc, hn, hl, q H2 e2⟩
theorem s_fld (hv : Ev tv σ H y) (ha : Ev ta σ H (.ref a)) (ho : H a = some (.ins C dx fs)) (hc : Cls K C) (hn : NoAttr K C f) (hz : fs.length < 1000) (k : ∀ H1, Ex H H1 → D.nx σ (upd H1 a (.ins C dx (putF f y fs)))) : sFld K ta tv f D σ H :=
  hv H (Ex.refl H) _ fun H1 e1 => ha H1 e1 _ fun H2 e2 => ⟨a, C, dx, fs, rfl, e2 _ _ (e1 _ _ ho), hc, hn, hz, k H2 (e1.trans e2)⟩
theorem q_fld (hv : Ev tv σ H y) (ha : Ev ta σ H (.ref a)) (ho : H a = some (.ins C dx fs)) (hc : Cls K C) (hn : NoAttr K C f) (hz : fs.length < 1000) (k : ∀ H1, Ex H H1 → tz D σ (upd H1 a (.ins C dx (putF f y fs)))) : tSeq (sFld K ta tv f) tz D σ H :=
  s_fld (D := { D with nx := tz D }) hv ha ho hc hn hz k
/-- o.f = [..], a new list -/
theorem s_fldL {xs : List V} (hv : EvL tv σ H xs) (ha : Ev ta σ H (.ref a)) (ho : H a = some (.ins C dx fs)) (hc : Cls K C) (hn : NoAttr K C f) (hz : fs.length < 1000) (k : ∀ p H1, H p = none → Ex H H1 → H1 p = some (.lst xs) → D.nx σ (upd H1 a (.ins C dx (putF f (.ref p) fs)))) : sFld K ta tv f D σ H :=
  hv H (Ex.refl H) _ fun p H1 hp e1 h1 => ha H1 e1 _ fun H2 e2 => ⟨a, C, dx, fs, rfl, e2 _ _ (e1 _ _ ho), hc, hn, hz, k p H2 hp (e1.trans e2) (e2 _ _ h1)⟩
theorem q_fldL {xs : List V} (hv : EvL tv σ H xs) (ha : Ev ta σ H (.ref a)) (ho : H a = some (.ins C dx fs)) (hc : Cls K C) (hn : NoAttr K C f) (hz : fs.length < 1000) (k : ∀ p H1, H p = none → Ex H H1 → H1 p = some (.lst xs) → tz D σ (upd H1 a (.ins C dx (putF f (.ref p) fs)))) : tSeq (sFld K ta tv f) tz D σ H :=
  s_fldL (D := { D with nx := tz D }) hv ha ho hc hn hz k
/-- o.f += e, ints -/
theorem s_fldaug {i j : Int} (ha : Ev ta σ H (.ref a)) (ho : H a = some (.ins C dx fs)) (hc : Cls K C) (hn : NoAttr K C f) (hl : fs.lookup f = some (.int i)) (hv : ∀ H1, Ex H H1 → Ev tv σ H1 (.int j)) (hz : fs.length < 1000) (k : ∀ H1, Ex H H1 → D.nx σ (upd H1 a (.ins C dx (putF f (.int (i + j)) fs)))) : sFldAug K ta tv L2.rAdd f D σ H :=
  ha H (Ex.refl H) _ fun H1 e1 => ⟨a, C, dx, fs, .int i, rfl, e1 _ _ ho, hc, hn, hl, hv H1 e1 H1 (Ex.refl H1) _ fun H2 e2 => ⟨i, j, rfl, rfl, dx, fs, e2 _ _ (e1 _ _ ho), hz, k H2 (e1.trans e2)⟩⟩
theorem q_fldaug {i j : Int} (ha : Ev ta σ H (.ref a)) (ho : H a = some (.ins C dx fs)) (hc : Cls K C) (hn : NoAttr K C f) (hl : fs.lookup f = some (.int i)) (hv : ∀ H1, Ex H H1 → Ev tv σ H1 (.int j)) (hz : fs.length < 1000) (k : ∀ H1, Ex H H1 → tz D σ (upd H1 a (.ins C dx (putF f (.int (i + j)) fs)))) : tSeq (sFldAug K ta tv L2.rAdd f) tz D σ H :=
  s_fldaug (D := { D with nx := tz D }) ha ho hc hn hl hv hz k
/-- o.m(..) -/
theorem ep_meth {sp : Sp} {E : XK} {vs : List V} {P : V → Hp → Prop} (ha : Ev ta σ H (.ref a)) (ho : H a = some (.ins C dx fs)) (hl : fs.lookup m = none) (ht : EvA t σ H vs) (hs : ∀ H1, Ex H H1 → ∀ Q : VK, (∀ v H', P v H' → Q v H') → sp (.ref a :: (vs ++ [])) H1 Q E) : EvP (tMeth C m sp [] E ta t) σ H P := fun Q q =>
  ha H (Ex.refl H) _ fun H1 e1 => ⟨a, dx, fs, rfl, e1 _ _ ho, hl, ht H1 e1 _ fun H2 e2 => hs H2 (e1.trans e2) Q q⟩
theorem ep_call {sp : Sp} {E : XK} {vs dvs : List V} {P : V → Hp → Prop} (ht : EvA t σ H vs) (hs : ∀ H1, Ex H H1 → ∀ Q : VK, (∀ v H', P v H' → Q v H') → sp (vs ++ dvs) H1 Q E) : EvP (tCall sp dvs E t) σ H P := fun Q q => ht H (Ex.refl H) _ fun H1 e1 => hs H1 e1 Q q
theorem q_dropP {P : V → Hp → Prop} (h : EvP te σ H P) (k : ∀ v H', P v H' → tz D σ H') : tSeq (tDrop te) tz D σ H := h _ k
theorem s_dropP {P : V → Hp → Prop} (h : EvP te σ H P) (k : ∀ v H', P v H' → D.nx σ H') : tDrop te D σ H := h _ k
/-- the truth of a bool that is read as any value -/
theorem et_truB {b : Bool} (h : Ev te σ H (.bl b)) : EvT (fun σ H Q => te σ H fun x H' => ∃ k, TruV K x H' k ∧ Q k H') σ H b := fun H1 e Q q => h H1 e _ fun H2 e2 => ⟨b, rfl, q H2 e2⟩
/-- d[k], d[k] = v -/
theorem ev_dget {kvs : List (Key × V)} {k : Key} (h : Ev td σ H (.ref a)) (hk : Ev ty σ H (kV k)) (hd : H a = some (.dK kvs)) (hv : valV kvs k = some v) : Ev (tDGet td ty) σ H v := fun H1 e Q q =>
  h H1 e _ fun H2 e2 => hk H2 (e.trans e2) _ fun H3 e3 => ⟨a, v, rfl, by rw [← hv]; exact DGet.k (e3 _ _ (e2 _ _ (e _ _ hd))), q H3 (e2.trans e3)⟩
theorem s_dput {kvs : List (Key × V)} {k : Key} (hv : Ev tv σ H v) (h : Ev td σ H (.ref a)) (hk : Ev ty σ H (kV k)) (hd : H a = some (.dK kvs)) (hz : kvs.length < 1000) (q : ∀ H1, Ex H H1 → D.nx σ (upd H1 a (.dK (putK kvs k v)))) : sDPut td ty tv D σ H :=
  hv H (Ex.refl H) _ fun H1 e1 => h H1 e1 _ fun H2 e2 => hk H2 (e1.trans e2) _ fun H3 e3 => ⟨a, _, rfl, DPut.k (e3 _ _ (e2 _ _ (e1 _ _ hd))) (Nat.lt_of_lt_of_le hz (by decide)), q H3 ((e1.trans e2).trans e3)⟩
theorem q_dput {kvs : List (Key × V)} {k : Key} (hv : Ev tv σ H v) (h : Ev td σ H (.ref a)) (hk : Ev ty σ H (kV k)) (hd : H a = some (.dK kvs)) (hz : kvs.length < 1000) (q : ∀ H1, Ex H H1 → tz D σ (upd H1 a (.dK (putK kvs k v)))) : tSeq (sDPut td ty tv) tz D σ H :=
  s_dput (D := { D with nx := tz D }) hv h hk hd hz q
end
end Gd
namespace Gd
open PySem PySem.Spec PyProof.Rows L2 Evl
/-- [..][drawn] -/
theorem ep_ixD {K : PySem.W.Frag} {H : Hp} {σ : L2.St} {ta tb : TE} {p : Addr} {C1 : Int → Prop} {ms : List Int} (hl : EvL ta σ H (ms.map V.int)) (hD : Drw p H) (hb : ∀ H1, Ex H H1 → EvP tb σ H1 (DP p H1 fun d => 0 ≤ d ∧ d < (ms.length : Int))) (hC : ∀ m ∈ ms, C1 m) :
    EvP (tOp (rIxL K) ta tb) σ H (DP p H C1) := fun Q q =>
  hl H (Ex.refl H) _ fun l H1 hl0 e1 h1 => hb H1 e1 _ fun v H2 ⟨d, hv, hd, hD2, b⟩ => by
    subst hv
    have nlp : l ≠ p := fun e => by
      obtain ⟨ds, h, _⟩ := hD
      rw [e, h] at hl0
      cases hl0
    obtain ⟨j, rfl⟩ : ∃ j : Nat, d = (j : Int) := ⟨d.toNat, by omega⟩
    have hlt : j < ms.length := by omega
    refine ⟨l, ms.map V.int, (j : Int), .int ms[j], rfl, rfl, sq_of (b _ _ nlp h1), atI_nat ?_, q _ H2 ⟨_, rfl, hC _ (List.getElem_mem _), hD2, (ex_but e1).trans b⟩⟩
    rw [List.getElem?_map, List.getElem?_eq_getElem hlt]
    rfl
theorem s_retPL {K : PySem.W.Frag} {te : TE} {σ : L2.St} {H : Hp} {D : Ends} {P : V → Hp → Prop} (h : EvP te σ H P) (k : ∀ v H', P v H' → D.rt v H') : tRet te D σ H := h _ k
end Gd

set_option Elab.async false
set_option linter.all false
set_option maxRecDepth 100000
set_option maxHeartbeats 4000000
/-! Of our own: tests that change the heap, slices of int lists, lists of int lists. -/
namespace Gd
open PySem PySem.Spec PyProof.Rows L2 Evl
section
variable {K : PySem.W.Frag} {H : Hp} {σ : L2.St} {ta tb te : TE} {t u : TT} {D : Ends} {tz tu : TS}
theorem rc_isBool {b : Bool} : RC (rIsi K) [.bl b, .ty "bool"] H (.bl true) := fun H1 _ _ q => ⟨_, _, _, _, true, rfl, .ty "bool", .base (.bl b), kit_ty (by decide +kernel), q H1 (Ex.refl H1)⟩
theorem etp_or {P1 P2 : Bool → Hp → Prop} (h1 : EtP t σ H P1) (h3 : ∀ H', P1 true H' → P2 true H') (h2 : ∀ H', P1 false H' → EtP u σ H' P2) : EtP (tOr t u) σ H P2 := fun Q q =>
  h1 _ fun b H' hb => by
    cases b with
    | true => exact q true H' (h3 H' hb)
    | false => exact h2 H' hb Q q
theorem etp_op {r : R2} {P : V → Hp → Prop} {P2 : Bool → Hp → Prop} (ha : EvP ta σ H P) (hb : ∀ v H1, P v H1 → ∃ y b, Ev tb σ H1 y ∧ RV r v y H1 (.bl b) ∧ ∀ H', Ex H1 H' → P2 b H') : EtP (tTest (tOp r ta tb)) σ H P2 := fun Q q =>
  ha _ fun v H1 hv => by
    obtain ⟨y, b, h2, h3, h4⟩ := hb v H1 hv
    exact h2 H1 (Ex.refl H1) _ fun H2 e2 => h3 H2 e2 _ fun H3 e3 => ⟨b, rfl, q b H3 (h4 H3 (e2.trans e3))⟩
theorem etp_imp {P1 P2 : Bool → Hp → Prop} (h1 : EtP t σ H P1) (k : ∀ b H', P1 b H' → P2 b H') : EtP t σ H P2 := fun Q q => h1 Q fun b H' hb => q b H' (k b H' hb)
theorem etp_not {P1 P2 : Bool → Hp → Prop} (h1 : EtP t σ H P1) (k : ∀ b H', P1 b H' → P2 (!b) H') : EtP (tNot t) σ H P2 := fun Q q => h1 _ fun b H' hb => q (!b) H' (k b H' hb)
theorem etp_B {P : V → Hp → Prop} {P2 : Bool → Hp → Prop} (h : EvP te σ H P) (k : ∀ v H', P v H' → ∃ b, v = .bl b ∧ P2 b H') : EtP (tB te) σ H P2 := fun Q q => h _ fun v H' hv => by
  obtain ⟨b, rfl, hb⟩ := k v H' hv
  exact ⟨b, rfl, q b H' hb⟩
theorem q_whenP {P2 : Bool → Hp → Prop} (h : EtP t σ H P2) (h1 : ∀ H', P2 true H' → tu { D with nx := tz D } σ H') (h2 : ∀ H', P2 false H' → tz D σ H') : tSeq (tIfS t tu tNext) tz D σ H := s_whenP (D := { D with nx := tz D }) h h1 h2
theorem cut_ints (cs : List Int) (i j : Nat) : cutV (cs.map V.int) (some (i : Int)) (some (j : Int)) = ((cs.drop i).take (j - i)).map V.int := by
  unfold cutV
  rw [HT.sIx_nat, HT.sIx_nat, List.length_map, ← List.map_drop, ← List.map_take]
  congr 1
  rcases Nat.lt_or_ge cs.length i with h | h
  · rw [List.drop_eq_nil_of_le (by omega), List.drop_eq_nil_of_le (by omega), List.take_nil, List.take_nil]
  · rw [Nat.min_eq_left h]
    rcases Nat.lt_or_ge cs.length j with g | g
    · rw [Nat.min_eq_right (by omega), List.take_of_length_le (by rw [List.length_drop]; omega), List.take_of_length_le (by rw [List.length_drop]; omega)]
    · rw [Nat.min_eq_left g]
theorem cut_from (cs : List Int) (i : Nat) : cutV (cs.map V.int) (some (i : Int)) none = (cs.drop i).map V.int := by
  unfold cutV
  rw [HT.sIx_nat, HT.sIx_none, List.length_map, ← List.map_drop, ← List.map_take]
  congr 1
  rcases Nat.lt_or_ge cs.length i with h | h
  · rw [List.drop_eq_nil_of_le (by omega), List.drop_eq_nil_of_le (by omega), List.take_nil]
  · rw [Nat.min_eq_left h, List.take_of_length_le (by rw [List.length_drop]; omega)]
/-- lists of int lists -/
def Pcs (H : Hp) : List Addr → List (List Int) → Prop
  | [], [] => True
  | a :: as, l :: ls => H a = some (.lst (l.map V.int)) ∧ Pcs H as ls
  | _, _ => False
theorem Pcs.keep {H H' : Hp} : ∀ {as : List Addr} {ls : List (List Int)}, Pcs H as ls → (∀ a o, a ∈ as → H a = some o → H' a = some o) → Pcs H' as ls
  | [], [], _, _ => trivial
  | a :: as, l :: ls, h, k => ⟨k a _ (List.mem_cons_self) h.1, Pcs.keep h.2 fun b o m => k b o (List.mem_cons_of_mem _ m)⟩
  | [], _ :: _, h, _ => h.elim
  | _ :: _, [], h, _ => h.elim
theorem Pcs.ex {H H' : Hp} {as : List Addr} {ls : List (List Int)} (h : Pcs H as ls) (e : Ex H H') : Pcs H' as ls := h.keep fun a o _ => e a o
theorem Pcs.len {H : Hp} : ∀ {as : List Addr} {ls : List (List Int)}, Pcs H as ls → as.length = ls.length
  | [], [], _ => rfl
  | a :: as, l :: ls, h => by rw [List.length_cons, List.length_cons, h.2.len]
  | [], _ :: _, h => h.elim
  | _ :: _, [], h => h.elim
theorem Pcs.snoc {H : Hp} : ∀ {as : List Addr} {ls : List (List Int)} {a : Addr} {l : List Int}, Pcs H as ls → H a = some (.lst (l.map V.int)) → Pcs H (as ++ [a]) (ls ++ [l])
  | [], [], _, _, _, h => ⟨h, trivial⟩
  | b :: as, m :: ls, _, _, g, h => ⟨g.1, g.2.snoc h⟩
  | [], _ :: _, _, _, g, _ => g.elim
  | _ :: _, [], _, _, g, _ => g.elim
theorem Pcs.at {H : Hp} : ∀ {as : List Addr} {ls : List (List Int)}, Pcs H as ls → ∀ i, i < as.length → ∃ a l, as[i]? = some a ∧ ls[i]? = some l ∧ a ∈ as ∧ H a = some (.lst (l.map V.int))
  | [], [], _, i, h => absurd h (Nat.not_lt_zero i)
  | a :: as, l :: ls, h, 0, _ => ⟨a, l, rfl, rfl, List.mem_cons_self, h.1⟩
  | a :: as, l :: ls, h, i + 1, g => by
    obtain ⟨b, m, h1, h2, h3, h4⟩ := h.2.at i (by simpa using g)
    exact ⟨b, m, by rw [List.getElem?_cons_succ]; exact h1, by rw [List.getElem?_cons_succ]; exact h2, List.mem_cons_of_mem _ h3, h4⟩
  | [], _ :: _, h, _, _ => h.elim
  | _ :: _, [], h, _, _ => h.elim
theorem Pcs.some {H : Hp} : ∀ {as : List Addr} {ls : List (List Int)}, Pcs H as ls → ∀ a ∈ as, ∃ o, H a = some o
  | [], [], _, a, h => nomatch h
  | b :: as, l :: ls, h, a, m => by
    rcases List.mem_cons.mp m with rfl | m
    · exact ⟨_, h.1⟩
    · exact h.2.some a m
  | [], _ :: _, h, _, _ => h.elim
  | _ :: _, [], h, _, _ => h.elim
/-- all but the given addresses keep what they hold -/
def Bu (L : List Addr) (H H' : Hp) : Prop := ∀ b o, b ∉ L → H b = some o → H' b = some o
theorem Bu.refl {L : List Addr} {H : Hp} : Bu L H H := fun _ _ _ h => h
theorem Bu.trans {L : List Addr} {H H1 H2 : Hp} (a : Bu L H H1) (b : Bu L H1 H2) : Bu L H H2 := fun c o n h => b c o n (a c o n h)
theorem Bu.mono {L L' : List Addr} {H H' : Hp} (b : Bu L H H') (m : ∀ a ∈ L, a ∈ L') : Bu L' H H' := fun c o n h => b c o (fun g => n (m c g)) h
theorem ex_bu {L : List Addr} {H H' : Hp} (e : Ex H H') : Bu L H H' := fun b o _ h => e b o h
theorem Bu.upd {L : List Addr} {H H' : Hp} {a : Addr} {o : HO} (b : Bu L H H') (m : a ∈ L ∨ H a = none) : Bu L H (upd H' a o) := fun c u n h => by
  rcases m with m | m
  · rw [upd_ne (fun e => n (by rw [e]; exact m))]
    exact b c u n h
  · rw [upd_ne (ne_of_none h m)]
    exact b c u n h
theorem el_callL {sp : Sp} {dvs xs ys : List V} {E : XK} (h : EvL te σ H xs) (hs : ∀ p H1, H1 p = some (.lst xs) → Ex H H1 → SpL sp ([.ref p] ++ dvs) H1 ys) : EvL (tCall sp dvs E (tCons te tNil)) σ H ys := fun H0 e Q q =>
  h H0 e _ fun p H1 _ e1 hp => hs p H1 hp (e.trans e1) H1 (Ex.refl H1) Q (fun p' H2 hp' e2 h2 => q p' H2 (fresh_back e1 hp') (e1.trans e2) h2) E
theorem len_flat {α : Type} {ps : List (List α)} {i : Nat} {l : List α} (h : ps[i]? = some l) : l.length ≤ ps.flatten.length := by
  induction ps generalizing i with
  | nil => simp at h
  | cons a r ih =>
    rw [List.flatten_cons, List.length_append]
    cases i with
    | zero => simp at h; subst h; omega
    | succ i => have := ih (by simpa using h); omega
theorem len_take_flat {α : Type} (ps : List (List α)) (i : Nat) : (ps.take i).flatten.length ≤ ps.flatten.length := by
  have h := congrArg List.length (congrArg List.flatten (List.take_append_drop i ps))
  rw [List.flatten_append, List.length_append] at h
  omega
theorem take_snocF {α : Type} {ps : List (List α)} {i : Nat} {l : List α} (h : ps[i]? = some l) : (ps.take (i + 1)).flatten = (ps.take i).flatten ++ l := by
  rw [List.take_succ, h]
  simp
end
end Gd

set_option Elab.async false
set_option linter.all false
set_option maxRecDepth 100000
set_option maxHeartbeats 4000000
/-! Of our own: a dict of the top whose keys are ints; keyword-only parameters. -/
namespace Gd
open PySem PySem.Spec PyProof.Rows L2 Evl
/-- the pairs of a dict with int keys, where it is one -/
def ikeys : List DictEntry → Option (List (Int × Value))
  | [] => some []
  | e :: r => match e.key with
    | .int k _ => if e.hash == hashInt k then (ikeys r).map fun l => (k, e.val) :: l else none
    | _ => none
theorem ikeys_all : ∀ {es : List DictEntry} {tb : List (Int × Value)}, ikeys es = some tb → ∀ e ∈ es, ∃ k, Value.isInt k e.key = true ∧ e.hash = hashInt k
  | [], _, _, e, m => nomatch m
  | d :: r, tb, h, e, m => by
    unfold ikeys at h
    split at h
    · rename_i k t hk
      split at h
      · rename_i hh
        cases g : ikeys r with
        | none => rw [g] at h; cases h
        | some l =>
          rcases List.mem_cons.mp m with rfl | m
          · exact ⟨k, by rw [hk]; simp [Value.isInt], by simpa using hh⟩
          · exact ikeys_all g e m
      · cases h
    · cases h
theorem ikeys_find : ∀ {es : List DictEntry} {tb : List (Int × Value)}, ikeys es = some tb → ∀ i, (es.find? fun e => Value.isInt i e.key).map (·.val) = tb.lookup i
  | [], tb, h, i => by
    unfold ikeys at h
    cases h
    rfl
  | d :: r, tb, h, i => by
    unfold ikeys at h
    split at h
    · rename_i k t hk
      split at h
      · cases g : ikeys r with
        | none => rw [g] at h; cases h
        | some l =>
          rw [g] at h
          cases h
          rw [List.find?_cons, hk, List.lookup_cons]
          have ih := ikeys_find g i
          by_cases e : i = k
          · subst e
            simp [Value.isInt]
          · have e1 : Value.isInt i (.int k t) = false := by
              simp [Value.isInt]
              intro z
              exact e z.symm
            have e2 : (i == k) = false := by simpa using e
            rw [e1, e2]
            exact ih
      · cases h
    · cases h
/-- at d: a dict of the top with int keys -/
structure ITab (K : PySem.W.Frag) (d : Addr) (tb : List (Int × Value)) : Prop where
  ex : ∃ es n, K.lookup d = some ⟨.type "dict", none, .dict es n, #[]⟩ ∧ ikeys es.toList = some tb
  low : (d == sysModules) = false
section
variable {X : Cx} {d : Addr} {tb : List (Int × Value)}
theorem itab_map {pins : List (Addr × Obj)} {σ : L2.St} {H : Hp} {s : Shared} (D : ITab X.K d tb) (I : Inv X pins σ H s) : s.heap.MapOf (intKind X.prog X.w) d (fun k => tb.lookup k) := by
  obtain ⟨es, n, hl, hk⟩ := D.ex
  refine ⟨_, es, n, I.kIn _ _ hl, ⟨rfl, rfl, rfl⟩, rfl, fun e he => ?_, fun k => ?_⟩
  · obtain ⟨k, h1, h2⟩ := ikeys_all hk e (Array.mem_toList_iff.mpr he)
    exact ⟨k, h1, h2⟩
  · have := ikeys_find hk k
    obtain ⟨l⟩ := es
    show findBy Value.isInt _ k = tb.lookup k
    unfold findBy
    rw [List.find?_toArray]
    exact this
theorem op_in_it (D : ITab X.K d tb) : OpR X (compareOp .In) (fun x y H Q => ∃ i : Int, x = .int i ∧ y = .ref d ∧ Q (.bl (tb.lookup i).isSome) H) := by
  intro pins s σ H x y v u Q I rx ry h
  obtain ⟨i, rfl, rfl, q⟩ := h
  obtain ⟨t, rfl⟩ := rx
  cases ry
  refine wpAny_in_of (knd := intKind X.prog X.w) (k := i) (by simp [intKind, Value.isInt]) D.low (itab_map D I) ?_
  exact ⟨.bl (tb.lookup i).isSome, H, I.tok _, rfl, q⟩
theorem ix_it (D : ITab X.K d tb) : IxR X (fun x y H Q => ∃ (i : Int) (u : Value) (v : V), x = .ref d ∧ y = .int i ∧ tb.lookup i = some u ∧ RelV v u ∧ Q v H) := by
  intro value slice pins s σ H x y v u Q I rx ry h hs
  obtain ⟨i, u0, r, rfl, rfl, e, ru, q⟩ := h
  obtain rfl : v = Value.ref d := rx
  obtain ⟨t, rfl⟩ := ry
  have hm := itab_map D I
  exact tail_any hm.typeIs slot_dict_getitem.lookup (wpAny_getItem_of (knd := intKind X.prog X.w) (k := i) (by simp [intKind, Value.isInt]) hm e ⟨r, H, I.tok _, ru, q⟩) hs
end
section
variable {H : Hp} {d : Addr} {tb : List (Int × Value)} {c : Int}
theorem rv_it {u : Value} (h : tb.lookup c = some u) : RV (fun x y H Q => ∃ i : Int, x = .int i ∧ y = .ref d ∧ Q (.bl (tb.lookup i).isSome) H) (.int c) (.ref d) H (.bl true) := fun H1 _ _ q => ⟨c, rfl, rfl, by rw [h]; exact q H1 (Ex.refl H1)⟩
theorem rv_it0 (h : tb.lookup c = none) : RV (fun x y H Q => ∃ i : Int, x = .int i ∧ y = .ref d ∧ Q (.bl (tb.lookup i).isSome) H) (.int c) (.ref d) H (.bl false) := fun H1 _ _ q => ⟨c, rfl, rfl, by rw [h]; exact q H1 (Ex.refl H1)⟩
theorem rv_ix_it {a : Addr} (h : tb.lookup c = some (.ref a)) : RV (fun x y H Q => ∃ (i : Int) (u : Value) (v : V), x = .ref d ∧ y = .int i ∧ tb.lookup i = some u ∧ RelV v u ∧ Q v H) (.ref d) (.int c) H (.ref a) := fun H1 _ _ q => ⟨c, .ref a, .ref a, rfl, rfl, h, rfl, q H1 (Ex.refl H1)⟩
end
section
variable {K : PySem.W.Frag} {H : Hp} {σ : L2.St} {ta tv : TE} {D : Ends} {tz : TS} {a C dx : Addr} {fs : List (Str × V)} {f : Str}
/-- o.f = e, where e changes the heap -/
theorem s_fldP {P : V → Hp → Prop} (hv : EvP tv σ H P) (k : ∀ v H1, P v H1 → ∃ C dx fs, H1 a = some (.ins C dx fs) ∧ (∀ H2, Ex H1 H2 → Ev ta σ H2 (.ref a)) ∧ Cls K C ∧ NoAttr K C f ∧ fs.length < 1000 ∧ ∀ H2, Ex H1 H2 → D.nx σ (upd H2 a (.ins C dx (putF f v fs)))) : sFld K ta tv f D σ H :=
  hv _ fun v H1 h1 => by
    obtain ⟨C, dx, fs, ho, ha, hc, hn, hz, q⟩ := k v H1 h1
    exact ha H1 (Ex.refl H1) H1 (Ex.refl H1) _ fun H2 e2 => ⟨a, C, dx, fs, rfl, e2 _ _ ho, hc, hn, hz, q H2 e2⟩
theorem q_fldP {P : V → Hp → Prop} (hv : EvP tv σ H P) (k : ∀ v H1, P v H1 → ∃ C dx fs, H1 a = some (.ins C dx fs) ∧ (∀ H2, Ex H1 H2 → Ev ta σ H2 (.ref a)) ∧ Cls K C ∧ NoAttr K C f ∧ fs.length < 1000 ∧ ∀ H2, Ex H1 H2 → tz D σ (upd H2 a (.ins C dx (putF f v fs)))) : tSeq (sFld K ta tv f) tz D σ H :=
  s_fldP (D := { D with nx := tz D }) hv k
end
section
variable {H : Hp} {σ : L2.St} {td ty tv : TE} {D : Ends} {tz : TS} {a : Addr}
/-- d[k] = e, where e changes the heap -/
theorem s_dputP {P : V → Hp → Prop} {k : Key} (hv : EvP tv σ H P) (q : ∀ v H1, P v H1 → ∃ kvs, H1 a = some (.dK kvs) ∧ (∀ H2, Ex H1 H2 → Ev td σ H2 (.ref a)) ∧ (∀ H2, Ex H1 H2 → Ev ty σ H2 (kV k)) ∧ kvs.length < 1000 ∧ ∀ H2, Ex H1 H2 → D.nx σ (upd H2 a (.dK (putK kvs k v)))) : sDPut td ty tv D σ H :=
  hv _ fun v H1 h1 => by
    obtain ⟨kvs, hd, ha, hk, hz, g⟩ := q v H1 h1
    exact ha H1 (Ex.refl H1) H1 (Ex.refl H1) _ fun H2 e2 => hk H2 e2 H2 (Ex.refl H2) _ fun H3 e3 => ⟨a, _, rfl, DPut.k (e3 _ _ (e2 _ _ hd)) (Nat.lt_of_lt_of_le hz (by decide)), g H3 (e2.trans e3)⟩
theorem q_dputP {P : V → Hp → Prop} {k : Key} (hv : EvP tv σ H P) (q : ∀ v H1, P v H1 → ∃ kvs, H1 a = some (.dK kvs) ∧ (∀ H2, Ex H1 H2 → Ev td σ H2 (.ref a)) ∧ (∀ H2, Ex H1 H2 → Ev ty σ H2 (kV k)) ∧ kvs.length < 1000 ∧ ∀ H2, Ex H1 H2 → tz D σ (upd H2 a (.dK (putK kvs k v)))) : tSeq (sDPut td ty tv) tz D σ H :=
  s_dputP (D := { D with nx := tz D }) hv q
end
section
variable {K : PySem.W.Frag} {H : Hp} {σ : L2.St} {tl : TE} {tu tz : TS} {D : Ends} {a1 b1 a2 b2 : TE} {x1 y1 x2 y2 : V}
theorem q_forLP {P : V → Hp → Prop} {j : Nat} (h : EvP tl σ H P) (k : ∀ v H1, P v H1 → ∃ a xs, v = .ref a ∧ SqL K H1 a xs ∧ ∃ Pv : Nat → L2.St → Hp → Prop, Pv 0 σ H1 ∧ (∀ i σ' H', i ≤ xs.length → Pv i σ' H' → SqL K H' a xs) ∧
    (∀ i x σ' H', xs[i]? = some x → Pv i σ' H' → tu { D with nx := Pv (i + 1), ct := Pv (i + 1), bk := tz D } (σ'.set j (some x)) H') ∧ (∀ σ' H', Pv xs.length σ' H' → tz D σ' H')) : tSeq (tFor (iList K tl) (gName j) tu) tz D σ H :=
  h _ fun v H1 hv => by
    obtain ⟨a, xs, rfl, hx, Pv, h0, hl, hs, hd⟩ := k v H1 hv
    exact ⟨a, rfl, ⟨xs, hx⟩, for_list (g := gName j) (D := { D with nx := tz D }) Pv h0 hl hs hd⟩
theorem ep_two (h1 : EvL (tLst (tCons a1 (tCons b1 tNil))) σ H [x1, y1]) (h2 : EvL (tLst (tCons a2 (tCons b2 tNil))) σ H [x2, y2]) :
    EvP (tLst (tCons (tLst (tCons a1 (tCons b1 tNil))) (tCons (tLst (tCons a2 (tCons b2 tNil))) tNil))) σ H (fun v H' => ∃ p p1 p2, v = .ref p ∧ Ex H H' ∧ H' p = some (.lst [.ref p1, .ref p2]) ∧ H' p1 = some (.lst [x1, y1]) ∧ H' p2 = some (.lst [x2, y2])) := fun Q q => by
  show tLst (tCons a1 (tCons b1 tNil)) σ H fun x H1 => tLst (tCons a2 (tCons b2 tNil)) σ H1 fun y H2 => [x, y].length ≤ sizeLine ∧ ∀ p, H2 p = none → Q (.ref p) (upd H2 p (.lst [x, y]))
  exact h1 H (Ex.refl H) _ fun p1 H1 hp1 e1 d1 => h2 H1 e1 _ fun p2 H2 hp2 e2 d2 => ⟨sz_of (n := 2) (by decide), fun p hp => q _ _ ⟨p, p1, p2, rfl, (e1.trans e2).trans (Ex.new hp), upd_same, by rw [upd_ne (ne_of_none (e2 _ _ d1) hp)]; exact e2 _ _ d1, by rw [upd_ne (ne_of_none d2 hp)]; exact d2⟩⟩
end
theorem el_callN {sp : Sp} {gV : List V → List V → List V} {E : XK} {H : Hp} {σ : L2.St} {n m : Nat} {t tk : TA} {vs zs xs : List V} (h1 : EvA t σ H vs) (h2 : EvA tk σ H zs) (l1 : vs.length = n) (l2 : zs.length = m) (hs : SpL sp (gV vs zs) H xs) : EvL (tCallN n m sp gV E t tk) σ H xs := fun H0 e Q q =>
  h1 H0 e _ fun H1 e1 => h2 H1 (e.trans e1) _ fun H2 e2 => ⟨l1, l2, hs H2 ((e.trans e1).trans e2) Q (fun p H3 hp e3 h3 => q p H3 (fresh_back (e1.trans e2) hp) ((e1.trans e2).trans e3) h3) E⟩
theorem rv_isNon {H : Hp} {v : V} : RV (fun x y H Q => y = .non ∧ Q (.bl (decide (x = .non))) H) v .non H (.bl (decide (v = .non))) := fun H1 _ _ q => ⟨rfl, q H1 (Ex.refl H1)⟩
/-! ### keyword-only parameters -/
theorem fund_mk {K : PySem.W.Frag} {x qual : Str} {st : Stmt} {f kD : Addr} {kws : List (Str × V)} {oc : Value} {od an : Option Addr} {osl : Array (Option Value)} {doc pm cdv ct : Value}
    (l : K.lookup f = some ⟨oc, od, .func (PySem.W.fnOf x qual (defArgs st) (defBody st) (defScope st) .none (.ref kD) doc pm an cdv ct), osl⟩)
    (c : PySem.W.codeIn K cdv qual = true) (k : PySem.W.keepIn K (.ref f) = true) (hq : ∀ q ∈ kws, ∃ u, PySem.W.nsIn K kD q.1 = some (some u) ∧ RelV q.2 u) :
    FunD K x qual (defArgs st) (defBody st) (defScope st) [] kws f (PySem.W.fnOf x qual (defArgs st) (defBody st) (defScope st) .none (.ref kD) doc pm an cdv ct) :=
  ⟨⟨oc, od, .none, .ref kD, doc, pm, an, cdv, ct, osl, rfl, l, c, .inl ⟨rfl, rfl⟩, .inr ⟨kD, rfl, hq⟩⟩, k⟩
theorem hq2 {K : PySem.W.Frag} {D : Addr} {x y : Str} {i j : Int} {t u : Tok} (h1 : PySem.W.nsIn K D x = some (some (.int i t))) (h2 : PySem.W.nsIn K D y = some (some (.int j u))) : ∀ q ∈ [(x, V.int i), (y, V.int j)], ∃ u, PySem.W.nsIn K D q.1 = some (some u) ∧ RelV q.2 u := by
  intro q m
  rcases List.mem_cons.mp m with rfl | m
  · exact ⟨_, h1, t, rfl⟩
  · rw [List.mem_singleton.mp m]
    exact ⟨_, h2, u, rfl⟩
end Gd

set_option Elab.async false
set_option linter.all false
set_option maxRecDepth 100000
set_option maxHeartbeats 4000000
/-! Of our own: decimals. -/
namespace Gd
open PySem PySem.Spec PyProof.Rows L2 Evl
open PySem.NumText (AllDigits digitsVal)
def decL (n : Nat) : List Nat := (Nat.toDigits 10 n).map Char.toNat
def intL (i : Int) : List Nat := if i < 0 then 45 :: decL i.natAbs else decL i.natAbs
def decZ (n : Nat) : List Nat := if n = 0 then [] else decL n
theorem show_nat (n : Nat) : (PySem.Str.ofString (toString ((n : Nat) : Int))).cps.toList = decL n := PySem.W.KIN.signs_num n
theorem ofS_list (s : String) : (PySem.Str.ofString s).cps.toList = s.toList.map Char.toNat := by
  rw [PySem.Str.ofString_eq_toList]
theorem show_int (i : Int) : (PySem.Str.ofString (toString i)).cps.toList = intL i := by
  unfold intL
  by_cases h : i < 0
  · rw [if_pos h, PyProof.Rows.toString_neg h, ofS_list, String.toList_append, List.map_append, ← ofS_list]
    have e : (0 - i) = ((i.natAbs : Nat) : Int) := by omega
    rw [e, ← ofS_list, show_nat]
    rfl
  · rw [if_neg h]
    have e : i = ((i.natAbs : Nat) : Int) := by omega
    rw [← show_nat, ← e]
theorem dec_small {n : Nat} (h : n < 10) : decL n = [48 + n] := by
  unfold decL
  rw [Nat.toDigits_of_lt_base h]
  have : ∀ n < 10, [Nat.digitChar n].map Char.toNat = [48 + n] := by decide
  exact this n h
theorem dec_step {n : Nat} (h : 10 ≤ n) : decL n = decL (n / 10) ++ [48 + n % 10] := by
  have hm : n % 10 < 10 := Nat.mod_lt n (by decide)
  have t : Nat.toDigits 10 (n / 10) ++ Nat.toDigits 10 (n % 10) = Nat.toDigits 10 (10 * (n / 10) + n % 10) := Nat.toDigits_append_toDigits (by decide) (by omega) hm
  rw [Nat.div_add_mod] at t
  have s := dec_small hm
  unfold decL at *
  rw [← t, List.map_append, s]
theorem decZ_step {n : Nat} (h : n ≠ 0) : decZ n = decZ (n / 10) ++ [48 + n % 10] := by
  unfold decZ
  rw [if_neg h]
  by_cases g : n < 10
  · rw [if_pos (by omega), dec_small g, List.nil_append, Nat.mod_eq_of_lt g]
  · rw [if_neg (by omega), dec_step (by omega)]
theorem dec_head (n : Nat) (h : n ≠ 0) : ∃ c r, decL n = c :: r ∧ 49 ≤ c ∧ c ≤ 57 := by
  induction n using Nat.strongRecOn with
  | _ n ih =>
    by_cases g : n < 10
    · exact ⟨48 + n, [], dec_small g, by omega, by omega⟩
    · obtain ⟨c, r, e, h1, h2⟩ := ih (n / 10) (by omega) (by omega)
      exact ⟨c, r ++ [48 + n % 10], by rw [dec_step (by omega), e]; rfl, h1, h2⟩
theorem dec_all (n : Nat) : ∀ c ∈ decL n, 48 ≤ c ∧ c ≤ 57 := by
  induction n using Nat.strongRecOn with
  | _ n ih =>
    by_cases g : n < 10
    · rw [dec_small g]
      intro c m
      rw [List.mem_singleton.mp m]
      omega
    · rw [dec_step (by omega)]
      intro c m
      rcases List.mem_append.mp m with m | m
      · exact ih (n / 10) (by omega) c m
      · rw [List.mem_singleton.mp m]
        have := Nat.mod_lt n (show 0 < 10 by decide)
        omega
theorem dec_ne (n : Nat) : decL n ≠ [] := by
  by_cases h : n = 0
  · subst h
    rw [dec_small (by decide)]
    exact List.cons_ne_nil _ _
  · obtain ⟨c, r, e, _⟩ := dec_head n h
    rw [e]
    exact List.cons_ne_nil _ _
theorem dec_len_le : ∀ (k : Nat) {n : Nat}, n < 10 ^ (k + 1) → (decL n).length ≤ k + 1
  | 0, n, h => by rw [dec_small (by simpa using h)]; exact Nat.le_refl _
  | k + 1, n, h => by
    by_cases g : n < 10
    · rw [dec_small g]; simp
    · rw [dec_step (by omega), List.length_append]
      have := dec_len_le k (n := n / 10) (by rw [Nat.pow_succ] at h; omega)
      simp
      omega
theorem dec_len_gt : ∀ (k : Nat) {n : Nat}, 10 ^ k ≤ n → k < (decL n).length
  | 0, n, h => List.length_pos_iff.mpr (dec_ne n)
  | k + 1, n, h => by
    have hp : 0 < 10 ^ k := Nat.pow_pos (by decide)
    rw [Nat.pow_succ] at h
    rw [dec_step (by omega), List.length_append]
    have := dec_len_gt k (n := n / 10) (by omega)
    simp
    omega
theorem dec_val (n : Nat) : digitsVal (decL n) = n := PySem.W.KIN.val_back n
theorem int_text {x : Str} {i : Int} (h : x.cps.toList = intL i) (hl : x.length ≤ 4300) : PySem.intText? x = some i := by
  unfold intL at h
  by_cases g : i < 0
  · rw [if_pos g] at h
    rw [PySem.intText_neg h (dec_all _) (dec_ne _) hl, dec_val]
    congr 1
    omega
  · rw [if_neg g] at h
    rw [PySem.intText_digits (by rw [h]; exact dec_all _) (by rw [h]; exact dec_ne _) hl, h, dec_val]
    congr 1
    omega
theorem log_ok {n : Nat} (h : n < 10 ^ 500) : n.log2 < 1920 := by
  by_cases h0 : n = 0
  · subst h0; decide
  · exact (Nat.log2_lt h0).mpr (Nat.lt_trans h (by decide +kernel))
theorem op_rep_str {X : Cx} : OpR X (binaryOp .Mult) (fun x y H Q => ∃ z n, x = .str z ∧ y = .int n ∧ MulOk z n ∧ Q (.str (Txt.mul z n)) H) := by
  intro pins s σ H x y v u Q I rx ry h
  obtain ⟨z, n, rfl, rfl, hz, q⟩ := h
  obtain ⟨t, rfl⟩ := rx
  obtain ⟨t', rfl⟩ := ry
  exact PySem.SB.mul hz (fun t' k => ⟨.str (Txt.mul z n), H, I.tok _, ⟨_, rfl⟩, q⟩)
section
variable {K : PySem.W.Frag} {H : Hp} {σ : L2.St} {ta tb te to : TE}
theorem rv_repS {z : Str} {n : Int} (h : MulOk z n) : RV (fun x y H Q => ∃ z n, x = .str z ∧ y = .int n ∧ MulOk z n ∧ Q (.str (Txt.mul z n)) H) (.str z) (.int n) H (.str (Txt.mul z n)) := fun H1 _ _ q => ⟨z, n, rfl, rfl, h, q H1 (Ex.refl H1)⟩
theorem rv_notNon {v : V} : RV (fun x y H Q => y = .non ∧ Q (.bl (!decide (x = .non))) H) v .non H (.bl (!decide (v = .non))) := fun H1 _ _ q => ⟨rfl, q H1 (Ex.refl H1)⟩
theorem rc_abs {i : Int} : RC (fun xs H Q => ∃ i, xs = [.int i] ∧ Q (.int (if i < 0 then -i else i)) H) [.int i] H (.int (if i < 0 then -i else i)) := fun H1 _ _ q => ⟨i, rfl, q H1 (Ex.refl H1)⟩
theorem rc_strI {i : Int} (h : i.natAbs < 10 ^ 500) : RC (fun xs H Q => ∃ i, xs = [.int i] ∧ i.natAbs.log2 < 1920 ∧ Q (.str (toString i)) H) [.int i] H (.str (toString i)) := fun H1 _ _ q => ⟨i, rfl, log_ok h, q H1 (Ex.refl H1)⟩
theorem ev_starts {a b : Str} (ho : Ev to σ H (.str a)) (h : Ev te σ H (.str b)) : Ev (tM1 (fun x xs H Q => ∃ a b, x = .str a ∧ xs = [.str b] ∧ Q (.bl (Txt.startswith a b)) H) to te) σ H (.bl (Txt.startswith a b)) := fun H0 e Q q =>
  ho H0 e _ fun H1 e1 => ⟨⟨a, rfl⟩, h H1 (e.trans e1) _ fun H2 e2 => ⟨a, b, rfl, rfl, q H2 (e1.trans e2)⟩⟩
theorem rv_inSign {c : Nat} {z : Str} : RV (fun x y H Q => ∃ (c : Nat) (z : Str), x = .str ⟨#[c]⟩ ∧ y = .str z ∧ Q (.bl (decide (c ∈ z.cps.toList))) H) (.str ⟨#[c]⟩) (.str z) H (.bl (decide (c ∈ z.cps.toList))) := fun H1 _ _ q => ⟨c, z, rfl, rfl, q H1 (Ex.refl H1)⟩
theorem rc_all {p : Addr} {bs : List Bool} (h : SqL K H p (bs.map V.bl)) : RC (rAll K) [.ref p] H (.bl (bs.all id)) := fun H1 e _ q => ⟨p, bs, rfl, ex_l e h, q H1 (Ex.refl H1)⟩
theorem ev_cbL {r : List V → Hp → VK → Prop} {xs : List V} {z : V} (h : EvL te σ H xs) (hr : ∀ p H1, H1 p = some (.lst xs) → RC r [.ref p] H1 z) : Ev (tCB r (tCons te tNil)) σ H z := fun H0 e Q q =>
  h H0 e _ fun p H1 _ e1 hp => hr p H1 hp H1 (Ex.refl H1) Q fun H2 e2 => q H2 (e1.trans e2)
theorem starts_one {x : Str} {c : Nat} : Txt.startswith x ⟨#[c]⟩ = decide (x.cps.toList.head? = some c) := by
  unfold Txt.startswith
  rw [PySem.StrLaws.subAt_eq]
  have hl : x.length = x.cps.toList.length := rfl
  rw [hl]
  cases h : x.cps.toList with
  | nil => rfl
  | cons a r =>
    show (decide (0 + 1 ≤ r.length + 1) && ([a] == [c])) = decide (some a = some c)
    by_cases e : a = c
    · subst e; simp
    · simp [e]
theorem cut_one {x : Str} : (cutS x (some 1) none).cps.toList = x.cps.toList.drop 1 := by
  unfold cutS
  show (x.cps.toList.drop (HT.sIx x.length 0 (some ((1 : Nat) : Int)))).take (x.length - HT.sIx x.length 0 (some ((1 : Nat) : Int))) = _
  rw [HT.sIx_nat]
  have hl : x.length = x.cps.toList.length := rfl
  rw [hl]
  cases h : x.cps.toList with
  | nil => rfl
  | cons a r =>
    have e : min 1 (a :: r).length = 1 := by simp
    rw [e]
    show (r.take (r.length + 1 - 1)) = r
    simp
end
end Gd

set_option Elab.async false
set_option linter.all false
set_option maxRecDepth 100000
set_option maxHeartbeats 4000000
/-! Of our own: rules that hold within a comprehension (their relations name the top's part, not the context). -/
namespace Gd
open PySem PySem.Spec PyProof.Rows L2 Evl
section
variable {X : Cx} {K : PySem.W.Frag}
def rTupOf (K : PySem.W.Frag) : List V → Hp → VK → Prop := fun xs H Q => ∃ p ys, xs = [.ref p] ∧ ((SqL K H p ys ∧ ∀ l, H l = none → Q (.ref l) (upd H l (.tup ys))) ∨ (SqT K H p ys ∧ Q (.ref p) H))
def rLstOf (K : PySem.W.Frag) : List V → Hp → VK → Prop := fun xs H Q => ∃ p ys, xs = [.ref p] ∧ (SqL K H p ys ∨ SqT K H p ys) ∧ ∀ l, H l = none → Q (.ref l) (upd H l (.lst ys))
theorem sl_listK (e : X.K = K) : SlR X (rSlL K) := by subst e; exact sl_list
theorem sl_tupK (e : X.K = K) : SlR X (rSlT K) := by subst e; exact sl_tup
theorem ix_listK (e : X.K = K) : IxR X (rIxL K) := by subst e; exact ix_list
theorem ix_tupK (e : X.K = K) : IxR X (rIxT K) := by subst e; exact ix_tup
theorem call_tuple_ofK (e : X.K = K) : CallR X (.type "tuple") (rTupOf K) := by subst e; exact call_tuple_of
theorem call_list_ofK (e : X.K = K) : CallR X (.type "list") (rLstOf K) := by subst e; exact call_list_of
theorem call_len_seqK (e : X.K = K) : CallR X (.builtin "len") (rLenS K) := by subst e; exact call_len_seq
theorem pe_fldK {o : Expr} {pos : Pos} {n : Str} {te : TE} (e : X.K = K) (h : PE X o te) (hb : attributeBase o n X.env (eval o X.env) = eval o X.env) : PE X (.Attribute o n pos) (tFld K te n) := by subst e; exact pe_fld h hb
theorem pg_tupK {es : List Expr} {k : Nat} {pos : Pos} {t : TGs} {n : Nat} (e : X.K = K) (hc : X.calm = true) (h : PGs X es t)
    (hn : (assignEach es X.env).length = n := by rfl) (hst : (assignEach es X.env).findIdx? (·.1) = none := by rfl) : PG X (.Tuple es k pos) (gTup K n t) := by subst e; exact pg_tup hc h hn hst
end
end Gd

set_option Elab.async false
set_option linter.all false
set_option maxRecDepth 100000
set_option maxHeartbeats 4000000
set_option exponentiation.threshold 600
/-! Of our own: an exception's __init__ that begins with super().__init__(..), the class below ValueError by classes of the program. -/
namespace Gd
open PySem PySem.Spec PyProof.Rows L2 Evl NdefX
class ProgOk (P : Program) : Prop where
  file : ((P.main.file : Str) == "/claim/cut.py") = true
  top : (P.main.scope.names.lookup ("super" : Str)).isSome = false
/-- what the written part tells of an __init__ at f, of the class at C -/
structure SupF (K : PySem.W.Frag) (C f cc cda : Addr) (qual : Str) (st : Stmt) (fd : FuncData) : Prop where
  ex : ∃ (oc ct kV doc pm ccl cl : Value) (od an cdd cld : Option Addr) (osl ccs csl : Array (Option Value)) (vs : Array Value) (tf : Tok), fd = PySem.W.ksFn "__init__" qual (defArgs st) (defBody st) (defScope st) .none kV doc pm an (.ref cda) ct cc ∧ K.lookup f = some ⟨oc, od, .func fd, osl⟩ ∧
    K.lookup cda = some ⟨ccl, cdd, .fields vs, ccs⟩ ∧ vs[2]? = some (.str "/claim/cut.py" tf) ∧ K.lookup cc = some ⟨cl, cld, .cell (some (.ref C)), csl⟩
  cd : PySem.W.codeIn K (.ref cda) qual = true
  kp : PySem.W.keepIn K (.ref f) = true
  sub : PySem.W.mroIn K C (.ref C) = some true
  ks : PySem.W.ks_superIn K C C "__init__" = some (some (.builtin "ValueError.__init__"))
  ve : PySem.W.subIn K (.ref C) (.type "ValueError") = some true
  op : PySem.W.nsIn K cStatics "thirdparty.any" = some none
abbrev supN (qual : Str) (st : Stmt) (cc cda : Addr) : NF := ⟨"__init__", qual, defArgs st, defBody st, defScope st, [("__class__", cc)], cda⟩
abbrev supX (CX : CXT) (P : Program) (w : World) (K : PySem.W.Frag) (mg : Str → Option Value) (base : Heap) (N : List Str) (qual : Str) (st : Stmt) (cc cda f : Addr) (A : Around) (outer : List Env) (s : Shared) (H : Hp) (E : XK) : Cx :=
  ncx CX P w K mg base N (supN qual st cc cda) f A outer s H E
section
variable {prog : Program} {w : World} {A : Around} {E : Value → Shared → Prop} {h : Heap} {g : Array GenState} {d : Drawn} {t : Nat} {os : OsState}
variable {nm q : Str} {C N : Addr} {bs bm : List Value} {hdct : Bool} {sn : List Str} {sub : List Value} {ab : Bool} {col : Option Bool} {dd : Option Addr} {k0 k1 k2 k3 k5 : Option Value}
/-- the built-in __init__ bound to the object, called -/
theorem call_mw {u e t0 : Addr} {rest : List Value} {Q : Value → Shared → Prop} (hbm : PySem.HandSPX.refsVE bm = true)
    (hC : h.get? C = some (excClassObj nm q C N bs bm hdct sn sub ab col dd k0 k1 k2 k3 k5 "ValueError.__new__")) (he : h.get? e = some (PySem.HandSPX.excO C t0)) (hu : h.get? u = some (PySem.W.kxs_mw "ValueError.__init__" e)) (hrest : rest.length ≤ sizeLine)
    (hq : ∀ h' t1, (∀ b o, b ≠ e → h.get? b = some o → h'.get? b = some o) → h'.get? e = some (PySem.HandSPX.excO C t1) → Q .none ⟨h', g, d, t, os⟩) :
    wpAny (model prog w) A (call (.ref u) rest) Q E ⟨h, g, d, t, os⟩ := by
  refine wpAny_call (codeAny_of_tree ?_)
  show wpAny _ A.in1 (callAny (.ref u) ⟨rest, []⟩) _ _ _
  simp only [callAny]
  refine wpAny_bind (wpAny_load hu ?_)
  simp only [PySem.W.kxs_mw, show (Value.type "method-wrapper" == Value.type "method" || Value.type "method-wrapper" == Value.type "builtin_function_or_method" || Value.type "method-wrapper" == Value.type "method-wrapper") = true by decide, if_true]
  refine PySem.W.KFB.if_so (by decide) ?_
  refine wpAny_bind (PySem.ESX.check_bound F.excBase_ValueError hC he rfl ?_)
  refine wpAny_bind (wpAny_pure (wpAny_pure ?_))
  refine ⟨Code.quiet_builtin _ (by decide +kernel), codeAny_builtin F.excBase_ValueError.initEntry ?_⟩
  rw [Around.under_plainId F.excBase_ValueError.init.plain _]
  wp_walk
  refine hq _ h.objs.size (fun b o hb ho => ?_) ?_
  · rw [Heap.get?_update_other _ _ (Ne.symm hb)]
    exact Heap.get?_push_of_some _ ho
  · rw [Heap.get?_update_self _ (Heap.get?_push_of_some _ he) rfl]
    rfl
end
section
variable {CX : CXT} {P : Program} {w : World} {K : PySem.W.Frag} {mg : Str → Option Value} {base : Heap} {N ps : List Str} {C f cc cda : Addr} {qual : Str} {st st2 : Stmt} {fd : FuncData} {k : Nat} {sp : Sp} {e : Expr} {p0 p1 p2 p3 p4 : Pos} {slf : Str}
theorem sup_ok [PO : ProgOk P] (F : SupF K C f cc cda qual st fd) (T : OexC K C) (hsup : mg "super" = none) (S : NScope N (slf :: ps) ["__class__"] (defScope st)) (hp : ((defArgs st).posonlyargs ++ (defArgs st).args).head?.map (·.arg) = some slf)
    (hks : (defScope st).names.lookup ("super" : Str) = some .globalImplicit)
    (hbody : defBody st = [.Expr (.Call (.Attribute (.Call (.Name "super" p0) [] [] p1) "__init__" p2) [e] [] p3) p4, st2])
    (hI : ∀ L, interactive (envF (supN qual st cc cda) f L) = false) (hSw : ∀ L, swapsWith (.Call (.Attribute (.Call (.Name "super" p0) [] [] p1) "__init__" p2) [e] [] p3) none p4.line (envF (supN qual st cc cda) f L) = pure false)
    (hSt : ∀ L, starEach [e] (envF (supN qual st cc cda) f L) = (false, eval e (envF (supN qual st cc cda) f L)) :: starEach [] (envF (supN qual st cc cda) f L))
    (hE : ∀ L, ∃ pl : Sem Bool, eval (.Call (.Attribute (.Call (.Name "super" p0) [] [] p1) "__init__" p2) [e] [] p3) (envF (supN qual st cc cda) f L) = (do
      let ov ← attributeBase (.Call (.Name "super" p0) [] [] p1) "__init__" (envF (supN qual st cc cda) f L) (eval (.Call (.Name "super" p0) [] [] p1) (envF (supN qual st cc cda) f L))
      standAt p2.atName
      let (f', first) ← holding [ov] (getMethod ov "__init__" pl)
      callWith p3 f' first (backTo p3 (starEach [e] (envF (supN qual st cc cda) f L))) []))
    (len : ∀ vs H Q E, sp vs H Q E → vs.length = (slf :: ps).length)
    (hb : ∀ (A : Around) (outer : List Env) (s : Shared) (H : Hp) (vs : List V) (Q : VK) (E : XK), Room k (A.deeper (envF (supN qual st cc cda) f s.heap.objs.size)) → sp vs H Q E →
      ∃ (a : Addr) (r : List V) (te : TE) (ts : TS), vs = .ref a :: r ∧ H a = some (exo a C none) ∧ PE (supX CX P w K mg base N qual st cc cda f A outer s H E) e te ∧ L2.PS (supX CX P w K mg base N qual st cc cda f A outer s H E) st2 ts ∧
        te (startF N vs [none]) H fun y H1 => H1 a = some (exo a C none) ∧ ts { nx := fun _ H' => Q .non H', rt := Q } (startF N vs [none]) H1) :
    FnOk P w K mg base CX (k + 1) f fd (slf :: ps) sp := by
  refine ⟨len, fun A outer s H args us vs Q E hr e0 hbd r hsp => ?_⟩
  obtain ⟨oc, ct, kV, doc, pm, ccl, cl, od, an, cdd, cld, osl, ccs, csl, vs2, tf, rfl, lk, lc, hvs, lcc⟩ := F.ex
  have hl := len _ _ _ _ hsp
  have KX : K.In s.heap := e0.mod.kin.keeps fun b o e => (e0.bs b o e).1
  have lim : s.heap.NoLimit := e0.mod.nolimit.keeps fun b o e => (e0.bs b o e).1
  obtain ⟨a, rv, te, ts, rfl, ha, hte, hts, hrun⟩ := hb A outer s H vs Q E (hr.deeper _) hsp
  have hcellH : H cc = none := (e0.bs cc _ (e0.mod.kin _ _ lcc)).2
  have C0 : CellsAt (supN qual st cc cda).cl ["__class__"] [none] s.heap H := by
    have one : ∀ {y : Str} {c : Addr}, List.lookup y [(("__class__" : Str), cc)] = some c → y = "__class__" ∧ c = cc := fun {y c} z => by
      rw [List.lookup_cons] at z
      cases h : (y == ("__class__" : Str)) with
      | true =>
        rw [h] at z
        exact ⟨by simpa using h, (Option.some.inj z).symm⟩
      | false =>
        rw [h] at z
        cases z
    refine ⟨rfl, fun y c z => ?_, fun x y c z1 z2 => ?_, fun i y z => ?_⟩
    · obtain ⟨rfl, rfl⟩ := one z
      exact ⟨hcellH, _, _, KX _ _ lcc, rfl⟩
    · rw [(one z1).1, (one z2).1]
    · match i, z with
      | 0, z =>
        obtain rfl : ("__class__" : Str) = y := by simpa using z
        exact ⟨cc, rfl, fun v z => nomatch z⟩
  refine PySem.ks_codeAny_call_defAt (fd := PySem.W.ksFn "__init__" qual (defArgs st) (defBody st) (defScope st) .none kV doc pm an (.ref cda) ct cc) (body := defBody st) (binds := (slf :: ps).zip us) hr.depth (KX _ _ lk) rfl lim (PySem.W.codeRec_of KX F.cd) rfl hbd (fun x hx => S.nocell x hx) (fun ⟨n, _⟩ hy => S.par n (List.of_mem_zip hy).1) (fun h₁ hns kp => ?_) S.co S.gen S.kind
  have I : Inv (supX CX P w K mg base N qual st cc cda f A outer s H E) [] (startF N (.ref a :: rv) [none]) H { s with heap := h₁, toks := s.toks + ((slf :: ps).zip us).length } := inv_startN S hr.hd e0 hl r C0 hns kp
  obtain ⟨nm, q, N0, bs, bm, sn, sub, ab, col, dd, k0, k1, k2, k3, k5, hC, hbm⟩ := T.cls
  have hcl : PySem.W.clsIn K C = some { name := nm, bases := bs, mro := .ref C :: bm, ns := N0, qualname := q, hasDict := true, slotNames := sn, subclasses := sub, abstract := ab, collection := col, hasDel := false } := by unfold PySem.W.clsIn; rw [hC] <;> rfl
  obtain ⟨ar, har, rfl⟩ : ∃ ar : Arg, ((defArgs st).posonlyargs ++ (defArgs st).args).head? = some ar ∧ ar.arg = slf := by
    cases z : ((defArgs st).posonlyargs ++ (defArgs st).args).head? with
    | none => rw [z] at hp; cases hp
    | some ar => rw [z] at hp; exact ⟨ar, rfl, Option.some.inj hp⟩
  have hex : ∀ env : Env, execs (defBody st) env = execs [.Expr (.Call (.Attribute (.Call (.Name "super" p0) [] [] p1) "__init__" p2) [e] [] p3) p4, st2] env := fun env => by rw [hbody]
  show _root_.PySem.wpAt _ (A.deeper (envF (supN qual st cc cda) f s.heap.objs.size)) (.func (defBody st) (envF (supN qual st cc cda) f s.heap.objs.size)) (execs (defBody st) (envF (supN qual st cc cda) f s.heap.objs.size)) _ _ _
  rw [hex]
  have hkc : (envF (supN qual st cc cda) f s.heap.objs.size).kindOf "__class__" = some .free := S.frk _ (List.mem_singleton.mpr rfl)
  have hks' : (envF (supN qual st cc cda) f s.heap.objs.size).kindOf "super" = some .globalImplicit := hks
  obtain ⟨pl, hE⟩ := hE s.heap.objs.size
  refine PySem.ks_wpAt_execs_cons (PySem.ks_wpAt_Expr_any (PySem.ks_wpAt_MethodCall (pl := pl) (PySem.ks_wpAt_super_base (f := f) (cc := cda) hks' hkc (by decide) rfl (I.kIn _ _ lk) rfl har rfl (I.kIn _ _ lc) rfl hvs PO.file PO.top ?_) hE) (hI _) (hSw _))
  obtain ⟨mb, hb1, hb2⟩ := I.mod.blt
  refine PySem.W.ks_loadName_global S.kind hks' (Calls.loadGlobal_builtin (env := envF (supN qual st cc cda) f s.heap.objs.size) (I.mod.glob.keeps I.bk) hsup (hb1.keeps I.bk) ((hb2 "super" (by decide)).trans PyProof.Rows.Boot.«super») ⟨rfl, ?_⟩)
  refine wpAny_loadName_free S.kind hkc rfl ⟨_, I.kIn _ _ lcc, rfl⟩ ?_
  cases r with
  | @cons _ u0 _ ur ra rw' =>
  obtain rfl : u0 = Value.ref a := ra
  have ndP : (ar.arg :: ps).Nodup := by
    have q := S.nd.sublist (List.take_sublist ((ar.arg :: ps).length + [("__class__" : Str)].length) N)
    rw [S.pre] at q
    exact (List.nodup_append.mp q).1
  refine wpAny_loadName_local S.kind (S.par _ List.mem_cons_self) hns (zip_look (i := 0) ndP rfl rfl) ?_
  have XI := I.kIn
  refine PySem.ks_wpAny_isType_cls (XI _ _ hC) rfl ⟨rfl, ?_⟩
  obtain ⟨t1, ho⟩ := exo_at I.hok ha
  refine PySem.ks_wpAny_call_super (XI _ _ hC) rfl ho rfl (fun c z => nomatch z) (PySem.W.looks_mroIn XI F.sub) (fun h2 hso kso => ?_)
  have I2 : Inv (supX CX P w K mg base N qual st cc cda f A outer s H E) [] (startF N (.ref a :: rv) [none]) H { s with heap := h2, toks := s.toks + ((ar.arg :: ps).zip (Value.ref a :: ur)).length } := I.kept kso
  have X2 := I2.kIn
  obtain ⟨t2, ho2⟩ := exo_at I2.hok ha
  have J2 : PySem.W.InstAt h2 a { cls := .ref C, dict := none, data := .fields #[.ref t2, .none, .none, .none, .bool false, .none] } C none := ⟨ho2, rfl, rfl, trivial⟩
  have hks2 := F.ks
  unfold PySem.W.ks_superIn at hks2
  rw [hcl] at hks2
  refine PySem.W.kxs_getMethod PySem.W.kxs_ValueError hso (PySem.W.looks_opaque X2 F.op) (l₀ := .ref C :: bm) (fun A Q E s k q => wpAny_bind ((PySem.W.looks_clsIn X2 hcl) A _ E s k (wpAny_pure q))) rfl X2 hks2 (J2.type.andThen (PySem.W.looks_subIn X2 F.ve)) (PySem.W.ks_ne X2 J2 hcl) (by decide) ?_
  have I3 : Inv (supX CX P w K mg base N qual st cc cda f A outer s H E) [(h2.objs.size, PySem.W.kxs_mw "ValueError.__init__" a)] (startF N (.ref a :: rv) [none]) H { s with heap := h2.push (PySem.W.kxs_mw "ValueError.__init__" a), toks := s.toks + ((ar.arg :: ps).zip (Value.ref a :: ur)).length + 1 } :=
    ClX.pin_new (s := { s with heap := h2, toks := s.toks + ((ar.arg :: ps).zip (Value.ref a :: ur)).length }) I2 (fun b u z => Heap.get?_push_of_some _ z) (Nat.le_refl _) (Heap.get?_push_at rfl rfl) (fun v z => nomatch z)
  show wpAny _ _ (callWith p3 (.ref h2.objs.size) [] (backTo p3 (starEach [e] (envF (supN qual st cc cda) f s.heap.objs.size))) []) _ _ _
  have hStL := hSt s.heap.objs.size
  have hpa : PA (supX CX P w K mg base N qual st cc cda f A outer s H E) [e] (tCons te tNil) := pa_cons hte pa_nil (by exact hStL)
  have hr3 := hpa.run p3 _ _ _ _ (fun xs H1 => match xs with | [_] => H1 a = some (exo a C none) ∧ ts { nx := fun _ H' => Q .non H', rt := Q } (startF N (.ref a :: rv) [none]) H1 | _ => False) I3 hrun
  rw [show starEach [e] (supX CX P w K mg base N qual st cc cda f A outer s H E).env = (false, eval e (envF (supN qual st cc cda) f s.heap.objs.size)) :: starEach [] (envF (supN qual st cc cda) f s.heap.objs.size) from hStL] at hr3
  rw [hStL]
  refine PySem.W.kxs_callWith (i := "ValueError.__init__") (x := a) (by rfl) (PySem.Calls.evalArgs_plain ?_)
  refine wpAny_mono hr3 (fun us2 s4 hh => ?_) (fun e s' hs => hs)
  obtain ⟨xs, H1, I4, r4, hq4⟩ := hh
  match xs, r4, hq4 with
  | [y], r4, hq4 =>
  obtain ⟨ha4, hts4⟩ := hq4
  have hu := ClX.pin_at I4
  refine ⟨hu, ?_⟩
  obtain ⟨t4, ho4⟩ := exo_at I4.hok ha4
  obtain ⟨h4, g4, d4, tk4, os4⟩ := s4
  have hus : us2.length ≤ sizeLine := by
    rw [← r4.length, sizeLine_eq]
    show 1 ≤ _
    omega
  refine call_mw hbm (I4.kIn _ _ hC) ho4 hu hus (fun h5 t5 k5' hx5 => ?_)
  have J := I4.write (t' := tk4) (x := a) (e := a) (o := exo a C none) (by rw [ha4]; exact True.intro) (.inl rfl) k5' ⟨_, hx5⟩ (exo_ok hx5)
  have eu : upd H1 a (exo a C none) = H1 := by
    funext b
    by_cases hb : b = a
    · rw [hb, upd_same, ha4]
    · rw [upd_ne hb]
  rw [eu] at J
  refine PySem.wpAt_of_wpAny ?_
  refine wpAny_mono ((pss_one hts).run _ _ _ _ _ J hts4) (fun fl s' hs => ?_) (fun e s' hs => hs)
  have fin : ∀ {σ' : L2.St} {H' : Hp} {v : V} {u : Value} {pn : List (Addr × Obj)}, Inv (supX CX P w K mg base N qual st cc cda f A outer s H E) pn σ' H' s' → L2.RelV v u → Q v H' → CE outer P w H s Q u s' :=
    fun {σ' H' v u pn} J rv q => ⟨v, H', J.os, J.bare, J.base, J.hok, rv, q⟩
  cases fl with
  | ret u =>
    obtain ⟨v, σ', H', J, rv, q⟩ := hs
    exact fin J rv q
  | next =>
    obtain ⟨σ', H', J, q⟩ := hs
    exact fin J (v := .non) rfl q
  | brk => exact (let ⟨_, _, _, q⟩ := hs; False.elim q)
  | cont => exact (let ⟨_, _, _, q⟩ := hs; False.elim q)
end
section
variable {P : Program} {w : World} {K : PySem.W.Frag} {C f cc cda : Addr} {qual : Str} {st : Stmt} {fd : FuncData} {ps : List Str}
theorem SupF.binds (F : SupF K C f cc cda qual st fd) (h : ∀ (kV doc pm : Value) (an : Option Addr) (ct : Value) (us : List Value), us.length = ps.length → bindArgs (PySem.W.ksFn "__init__" qual (defArgs st) (defBody st) (defScope st) .none kV doc pm an (.ref cda) ct cc) ⟨us, []⟩ = pure (ps.zip us)) : Binds K fd ps [] := by
  obtain ⟨oc, ct, kV, doc, pm, ccl, cl, od, an, cdd, cld, osl, ccs, csl, vs2, tf, rfl, lk, lc, hvs, lcc⟩ := F.ex
  exact .all (h kV doc pm an ct)
/-- the promise of such an __init__: one field -/
def OkY (y : V) : Prop := (∃ i : Int, y = .int i ∧ i.natAbs < 10 ^ 200) ∨ ∃ s : Str, y = .str s ∧ s.length ≤ 1000
def spXI (C : Addr) (fn : Str) : Sp := fun vs H Q _ => ∃ (a : Addr) (y : V), vs = [.ref a, y] ∧ OkY y ∧ H a = some (exo a C none) ∧ ∀ H1 dx, Ex H H1 → H1 dx = none → dx ≠ a → Q .non (upd (upd H1 dx (exd dx [(fn, y)])) a (exo a C (some dx)))
/-- the message: texts and the argument -/
theorem int_len {i : Int} (h : i.natAbs < 10 ^ 200) : (PySem.Str.ofString (toString i)).length ≤ 501 := by
  show (PySem.Str.ofString (toString i)).cps.size ≤ 501
  rw [← Array.length_toList, show_int i]
  have := dec_len_le 199 h
  unfold intL
  split
  · rw [List.length_cons]; omega
  · omega
theorem app_ln (a z : Str) : (a ++ z).length = a.length + z.length := by
  show (a ++ z).cps.size = a.cps.size + z.cps.size
  exact Array.size_append
theorem js_y {acc : Str} {n : Nat} {y : V} {te : TE} {ts : List TE} {σ : L2.St} {H : Hp} {Q : Str → Hp → Prop} (hy : OkY y) (h : Ev te σ H y) (ha : acc.length ≤ n) (hn : n ≤ 20000) (k : ∀ z H1, Ex H H1 → (acc ++ z).length ≤ n + 1000 → tJs ts (acc ++ z) σ H1 Q) : tJs (tFmt te :: ts) acc σ H Q :=
  h H (Ex.refl H) _ fun H1 e1 => by
    rcases hy with ⟨i, rfl, hi⟩ | ⟨s, rfl, hs⟩
    · have := int_len hi
      have hl : (acc ++ PySem.Str.ofString (toString i)).length ≤ n + 1000 := by rw [app_ln]; omega
      exact .inr ⟨i, rfl, log_ok (Nat.lt_of_lt_of_le hi (Nat.pow_le_pow_right (by decide) (by decide))), _, rfl, by rw [sizeLine_eq]; exact Nat.le_trans hl (by omega), k _ H1 e1 hl⟩
    · have hl : (acc ++ s).length ≤ n + 1000 := by rw [app_ln]; omega
      exact .inl ⟨s, rfl, by rw [sizeLine_eq]; omega, s, rfl, by rw [sizeLine_eq]; omega, k s H1 e1 hl⟩
theorem js_c {acc z : Str} {n : Nat} {ts : List TE} {σ : L2.St} {H : Hp} {Q : Str → Hp → Prop} (ha : acc.length ≤ n) (hn : n ≤ 20000) (hz : z.length ≤ 1000) (h : (acc ++ z).length ≤ n + 1000 → tJs ts (acc ++ z) σ H Q) : tJs (tC (.str z) :: ts) acc σ H Q := by
  have hl : (acc ++ z).length ≤ n + 1000 := by rw [app_ln]; omega
  exact ⟨z, rfl, by rw [sizeLine_eq]; omega, h hl⟩
end
section
variable {K : PySem.W.Frag} {σ : L2.St} {H : Hp}
/-- isinstance of the error that a suite holds, with a dict or without -/
def rIsXD (K : PySem.W.Frag) (D a : Addr) (cls : Value) (d : Option Addr) : List V → Hp → VK → Prop := fun xs H Q => cls = .ref D ∧ (d = none ∨ ∃ dd fs, d = some dd ∧ H dd = some (.xd fs)) ∧ rIsE K D a xs H Q
theorem call_isXD {X : Cx} {a D : Addr} {oe : Obj} {pn : List (Addr × Obj)} {cls : Value} {d : Option Addr} (C : ExcC X.K D) (hz : Zc cls d oe) (hf : ∃ vs, oe.data = .fields vs) : CallR (X.suite a ((a, oe) :: pn)) (.builtin "isinstance") (rIsXD X.K D a cls d) := by
  intro pins s σ H xs us Q I r h
  obtain ⟨rfl, hd, h⟩ := h
  rcases hd with rfl | ⟨dd, fs, rfl, hdd⟩
  · exact call_isE C hz hf pins s σ H xs us Q I r h
  obtain ⟨c, cv, b, rfl, hcv, e, q⟩ := h
  cases r with
  | cons rx rr =>
    cases rr with
    | cons rt rr =>
      cases rr
      cases rx
      have ec := hcv _ rt
      subst ec
      obtain ⟨hget, _⟩ := I.pin (a, oe) (List.mem_append.mpr (.inl List.mem_cons_self))
      obtain ⟨vs, hv⟩ := hf
      have hx : ObjOk X.prog X.w H s.heap dd (.xd fs) := I.hok dd _ hdd
      obtain ⟨mA, hns, hr⟩ := hx
      obtain ⟨od, ho, hl⟩ := lookIn_ns hns
      have J : PySem.W.InstAt s.heap a oe D (some od) := ⟨hget, hz.1, by unfold PySem.W.notCls; rw [hv] <;> rfl, by rw [hz.2]; exact ho⟩
      obtain ⟨cdD, hcD, _⟩ := PySem.W.any_some C.hd
      exact PySem.W.kia_one (PySem.W.kitx_exc (by rw [hcD]; rfl) C.hg C.hk C.hs C.ha C.hn C.ht C.hm) I.kIn J e (fun z => nomatch z) fun tk => ⟨.bl b, H, I.kept (t' := tk) fun _ _ z => z, rfl, q⟩
theorem rc_isXD {D a dd : Addr} {fs : List (Str × V)} {c : V} {cv : Value} {b : Bool} (hd : H dd = some (.xd fs)) (hc : ∀ u, RelV c u → u = cv) (hk : PySem.W.kitOne K (.ref D) cv = some b) : RC (rIsXD K D a (.ref D) (some dd)) [.ref a, c] H (.bl b) := fun H1 e _ q => ⟨rfl, .inr ⟨dd, fs, rfl, e _ _ hd⟩, c, cv, b, rfl, hc, hk, q H1 (Ex.refl H1)⟩
theorem rc_isX0 {D a : Addr} {c : V} {cv : Value} {b : Bool} (hc : ∀ u, RelV c u → u = cv) (hk : PySem.W.kitOne K (.ref D) cv = some b) : RC (rIsXD K D a (.ref D) none) [.ref a, c] H (.bl b) := fun H1 e _ q => ⟨rfl, .inl rfl, c, cv, b, rfl, hc, hk, q H1 (Ex.refl H1)⟩
/-- e.f -/
theorem ev_xf {a C dd : Addr} {f : Str} {fs : List (Str × V)} {v : V} {te : TE} (h : Ev te σ H (.ref a)) (hd : H dd = some (.xd fs)) (hl : fs.lookup f = some v) : Ev (tXf a (.ref C) (some dd) C f te) σ H v := fun H1 e Q q =>
  h H1 e _ fun H2 e2 => ⟨rfl, rfl, dd, fs, v, rfl, (e.trans e2) _ _ hd, hl, q H2 e2⟩
/-- raise C(e) -/
theorem mk_xi {C : Addr} {fn : Str} {y : V} {ta : TA} {Q : XK} (h : EvA ta σ H [y]) (hy : OkY y) (k : ∀ d H2, Ex H H2 → H2 d = some (.xd [(fn, y)]) → Q (.ref C) (some d) H2) : tMkO C (spXI C fn) [] ta σ H Q :=
  h H (Ex.refl H) _ fun H1 e1 => ⟨by show 1 ≤ 1000; decide, fun a na => ⟨a, y, rfl, hy, upd_same, fun H3 dx e3 ndx dne => by
    have ndx1 : H1 dx = none := by
      have := fresh_back e3 ndx
      rw [upd_ne dne] at this
      exact this
    refine ⟨rfl, dx, [(fn, y)], upd_same, by rw [upd_ne dne]; exact upd_same, ndx1, k dx _ (fun b o hb => ?_) upd_same⟩
    have h1 := e1 _ _ hb
    have nb : b ≠ a := ne_of_none h1 na
    have nx : b ≠ dx := ne_of_none h1 ndx1
    rw [upd_ne nx, del_ne nb, upd_ne nb, upd_ne nx]
    exact e3 _ _ (by rw [upd_ne nb]; exact h1)⟩⟩
/-- self.f = e, in such an __init__ -/
theorem s_ost {C a : Addr} {fn : Str} {y : V} {to te : TE} {D : Ends} (T : OexC K C) (hno : PySem.W.findIn K (.ref C) fn = some none) (ha : H a = some (exo a C none)) (ho : ∀ H1, Ev to σ H1 (.ref a)) (he : Ev te σ H y) (k : ∀ H1 dx, Ex H H1 → H1 dx = none → dx ≠ a → D.nx σ (upd (upd H1 dx (exd dx [(fn, y)])) a (exo a C (some dx)))) : tOst K fn to te D σ H :=
  he H (Ex.refl H) _ fun H1 e1 => ho H1 H1 (Ex.refl H1) _ fun H2 e2 => ⟨a, C, rfl, T, hno, .inl ⟨(e1.trans e2) _ _ ha, fun dx nd ne => k H2 dx (e1.trans e2) nd ne⟩⟩
end
end Gd

set_option Elab.async false
set_option linter.all false
set_option maxRecDepth 100000
set_option maxHeartbeats 4000000
/-! Of our own: values as data (Dp), dicts of ints, arguments that change the heap. -/
namespace Gd
open PySem PySem.Spec PyProof.Rows L2 Evl
/-! ### data under a heap that grows -/
section
variable {K : PySem.W.Frag} {H H' : Hp}
mutual
theorem dp_ex (e : Ex H H') : ∀ (d : PyData) (v : V), Dp K H v d → Dp K H' v d
  | .none, _, h => by cases h; exact .non
  | .bool _, _, h => by cases h; exact .bl _
  | .int _, _, h => by cases h; exact .int _
  | .str _, _, h => by cases h; exact .str _
  | .list ds, _, h => by cases h with | lst h1 h2 => exact .lst (ex_l e h1) (dpAll_ex e ds _ h2)
  | .tuple ds, _, h => by cases h with | tup h1 h2 => exact .tup (ex_t e h1) (dpAll_ex e ds _ h2)
  | .dict _, _, h => by cases h
theorem dpAll_ex (e : Ex H H') : ∀ (ds : List PyData) (vs : List V), DpAll K H vs ds → DpAll K H' vs ds
  | [], _, h => by cases h; exact .nil
  | d :: ds, _, h => by cases h with | cons a b => exact .cons (dp_ex e d _ a) (dpAll_ex e ds _ b)
end
theorem _root_.L2.Dp.ex {v : V} {d : PyData} (h : Dp K H v d) (e : Ex H H') : Dp K H' v d := dp_ex e d v h
theorem _root_.L2.DpAll.ex {vs : List V} {ds : List PyData} (h : DpAll K H vs ds) (e : Ex H H') : DpAll K H' vs ds := dpAll_ex e ds vs h
/-! data of tuples alone -/
mutual
def tupO : PyData → Bool
  | .none | .bool _ | .int _ | .str _ => true
  | .tuple ds => tupOs ds
  | .list _ | .dict _ => false
def tupOs : List PyData → Bool
  | [] => true
  | d :: r => tupO d && tupOs r
end
/-- no tuple, nor one that is locked -/
def NoTup (o : HO) : Prop := (∀ xs, o ≠ .tup xs) ∧ ∀ b xs, o ≠ .frz b (.tup xs)
theorem nt_lst {xs : List V} : NoTup (.lst xs) := ⟨fun _ h => (by cases h), fun _ _ h => (by cases h)⟩
theorem nt_dK {xs : List (Key × V)} : NoTup (.dK xs) := ⟨fun _ h => (by cases h), fun _ _ h => (by cases h)⟩
theorem nt_ins {C dx : Addr} {fs : List (Str × V)} : NoTup (.ins C dx fs) := ⟨fun _ h => (by cases h), fun _ _ h => (by cases h)⟩
theorem sqT_bu {L : List Addr} {a : Addr} {xs : List V} (b : Bu L H H') (n : ∀ c ∈ L, ∃ o, H c = some o ∧ NoTup o) (h : SqT K H a xs) : SqT K H' a xs := by
  have hn : ∀ o, H a = some o → ¬ NoTup o → H' a = some o := fun o ho hx => b a o (fun m => by
    obtain ⟨o2, h1, h2⟩ := n a m
    rw [ho] at h1
    cases h1
    exact hx h2) ho
  rcases h with (h | ⟨o, h⟩) | h
  · exact .inl (.inl (hn _ h fun z => z.1 _ rfl))
  · exact .inl (.inr ⟨o, hn _ h fun z => z.2 _ _ rfl⟩)
  · exact .inr h
mutual
theorem dp_bu {L : List Addr} (b : Bu L H H') (n : ∀ c ∈ L, ∃ o, H c = some o ∧ NoTup o) : ∀ (d : PyData) (v : V), tupO d = true → Dp K H v d → Dp K H' v d
  | .none, _, _, h => by cases h; exact .non
  | .bool _, _, _, h => by cases h; exact .bl _
  | .int _, _, _, h => by cases h; exact .int _
  | .str _, _, _, h => by cases h; exact .str _
  | .tuple ds, _, t, h => by cases h with | tup h1 h2 => exact .tup (sqT_bu b n h1) (dpAll_bu b n ds _ (by rw [tupO] at t; exact t) h2)
  | .list _, _, t, _ => by rw [tupO] at t; cases t
  | .dict _, _, t, _ => by rw [tupO] at t; cases t
theorem dpAll_bu {L : List Addr} (b : Bu L H H') (n : ∀ c ∈ L, ∃ o, H c = some o ∧ NoTup o) : ∀ (ds : List PyData) (vs : List V), tupOs ds = true → DpAll K H vs ds → DpAll K H' vs ds
  | [], _, _, h => by cases h; exact .nil
  | d :: ds, _, t, h => by
    rw [tupOs, Bool.and_eq_true] at t
    cases h with | cons x y => exact .cons (dp_bu b n d _ t.1 x) (dpAll_bu b n ds _ t.2 y)
end
/-- one object that is no tuple changes -/
theorem _root_.L2.Dp.upd {v : V} {d : PyData} {p : Addr} {o o' : HO} (h : Dp K H v d) (t : tupO d = true) (hp : H p = some o) (n : NoTup o) : Dp K (upd H p o') v d :=
  dp_bu (L := [p]) (fun a u m e => by rw [upd_ne (by simpa using m)]; exact e) (fun c m => by rw [List.mem_singleton.mp m]; exact ⟨o, hp, n⟩) d v t h
theorem _root_.L2.DpAll.upd {vs : List V} {ds : List PyData} {p : Addr} {o o' : HO} (h : DpAll K H vs ds) (t : tupOs ds = true) (hp : H p = some o) (n : NoTup o) : DpAll K (upd H p o') vs ds :=
  dpAll_bu (L := [p]) (fun a u m e => by rw [upd_ne (by simpa using m)]; exact e) (fun c m => by rw [List.mem_singleton.mp m]; exact ⟨o, hp, n⟩) ds vs t h
/-! ### what data stands for -/
theorem dpAll_ints_inv : ∀ {ns : List Int} {vs : List V}, DpAll K H vs (ns.map PyData.int) → vs = ns.map V.int
  | [], _, h => by cases h; rfl
  | n :: r, _, h => by cases h with | cons a b => cases a; rw [dpAll_ints_inv b]; rfl
theorem dp_ints_inv {v : V} {ns : List Int} (h : Dp K H v (.list (ns.map PyData.int))) : ∃ a, v = .ref a ∧ SqL K H a (ns.map V.int) := by
  cases h with | lst h1 h2 => rw [dpAll_ints_inv h2] at h1; exact ⟨_, rfl, h1⟩
theorem dp_intsT_inv {v : V} {ns : List Int} (h : Dp K H v (.tuple (ns.map PyData.int))) : ∃ a, v = .ref a ∧ SqT K H a (ns.map V.int) := by
  cases h with | tup h1 h2 => rw [dpAll_ints_inv h2] at h1; exact ⟨_, rfl, h1⟩
theorem dp_intsT {a : Addr} {ns : List Int} (h : SqT K H a (ns.map V.int)) : Dp K H (.ref a) (.tuple (ns.map PyData.int)) := .tup h (dpAll_ints ns)
theorem dp_tup_inv {v : V} {ds : List PyData} (h : Dp K H v (.tuple ds)) : ∃ a xs, v = .ref a ∧ SqT K H a xs ∧ DpAll K H xs ds := by
  cases h with | tup h1 h2 => exact ⟨_, _, rfl, h1, h2⟩
theorem dp_lst_inv {v : V} {ds : List PyData} (h : Dp K H v (.list ds)) : ∃ a xs, v = .ref a ∧ SqL K H a xs ∧ DpAll K H xs ds := by
  cases h with | lst h1 h2 => exact ⟨_, _, rfl, h1, h2⟩
theorem dp_int_inv {v : V} {i : Int} (h : Dp K H v (.int i)) : v = .int i := by cases h; rfl
theorem dpAll_len : ∀ {ds : List PyData} {vs : List V}, DpAll K H vs ds → vs.length = ds.length
  | [], _, h => by cases h; rfl
  | d :: r, _, h => by cases h with | cons a b => rw [List.length_cons, List.length_cons, dpAll_len b]
theorem dpAll_at : ∀ {ds : List PyData} {vs : List V} {i : Nat} {d : PyData}, DpAll K H vs ds → ds[i]? = some d → ∃ v, vs[i]? = some v ∧ Dp K H v d
  | [], _, _, _, _, e => by simp at e
  | d :: r, _, 0, _, h, e => by cases h with | cons a b => simp at e; subst e; exact ⟨_, rfl, a⟩
  | d :: r, _, i + 1, d', h, e => by
    cases h with
    | cons a b =>
      obtain ⟨w, h1, h2⟩ := dpAll_at (i := i) (d := d') b (by simpa using e)
      exact ⟨w, by simpa using h1, h2⟩
theorem _root_.L2.DpAll.app : ∀ {ds es : List PyData} {vs ws : List V}, DpAll K H vs ds → DpAll K H ws es → DpAll K H (vs ++ ws) (ds ++ es)
  | [], _, _, _, h, g => by cases h; exact g
  | d :: r, _, _, _, h, g => by cases h with | cons a b => exact .cons a (L2.DpAll.app b g)
theorem _root_.L2.DpAll.drop : ∀ {ds : List PyData} {vs : List V} (k : Nat), DpAll K H vs ds → DpAll K H (vs.drop k) (ds.drop k)
  | ds, vs, 0, h => h
  | [], _, k + 1, h => by cases h; exact .nil
  | d :: r, _, k + 1, h => by cases h with | cons a b => exact L2.DpAll.drop k b
theorem _root_.L2.DpAll.take : ∀ {ds : List PyData} {vs : List V} (k : Nat), DpAll K H vs ds → DpAll K H (vs.take k) (ds.take k)
  | ds, vs, 0, h => .nil
  | [], _, k + 1, h => by cases h; exact .nil
  | d :: r, _, k + 1, h => by cases h with | cons a b => exact .cons a (L2.DpAll.take k b)
def cutD (xs : List PyData) (lo hi : Option Int) : List PyData := (xs.drop (HT.sIx xs.length 0 lo)).take (HT.sIx xs.length xs.length hi - HT.sIx xs.length 0 lo)
theorem _root_.L2.DpAll.cut {ds : List PyData} {vs : List V} (h : DpAll K H vs ds) (lo hi : Option Int) : DpAll K H (cutV vs lo hi) (cutD ds lo hi) := by
  unfold cutV cutD
  rw [dpAll_len h]
  exact (h.drop _).take _
end
/-! ### what evaluates to data -/
def EvD (K : PySem.W.Frag) (te : TE) (σ : L2.St) (H : Hp) (d : PyData) : Prop := ∀ H1, Ex H H1 → ∀ Q : VK, (∀ v H2, Ex H1 H2 → Dp K H2 v d → Q v H2) → te σ H1 Q
def EvDA (K : PySem.W.Frag) (ta : TA) (σ : L2.St) (H : Hp) (ds : List PyData) : Prop := ∀ H1, Ex H H1 → ∀ Q : List V → Hp → Prop, (∀ vs H2, Ex H1 H2 → DpAll K H2 vs ds → Q vs H2) → ta σ H1 Q
/-- what a def that hands back data must be given -/
def RetD (K : PySem.W.Frag) (d : PyData) (H : Hp) (Q : VK) : Prop := ∀ v H2, Ex H H2 → Dp K H2 v d → Q v H2
section
variable {K : PySem.W.Frag} {H H1 H' : Hp} {σ : L2.St} {ta tb te : TE} {tt : TT} {t tr : TA} {D : Ends} {tz : TS} {d e : PyData} {v : V}
theorem EvD.mono (x : Ex H H') (h : EvD K te σ H d) : EvD K te σ H' d := fun H1 a Q q => h H1 (x.trans a) Q q
theorem ed_ev (h : Ev te σ H v) (hd : Dp K H v d) : EvD K te σ H d := fun H1 e Q q => h H1 e Q fun H2 e2 => q v H2 e2 (hd.ex (e.trans e2))
theorem ed_int {i : Int} (h : Ev te σ H (.int i)) : EvD K te σ H (.int i) := ed_ev h (.int i)
theorem ed_bl {b : Bool} (h : Ev te σ H (.bl b)) : EvD K te σ H (.bool b) := ed_ev h (.bl b)
theorem ed_non (h : Ev te σ H .non) : EvD K te σ H .none := ed_ev h .non
theorem ev_di {i : Int} (h : EvD K te σ H (.int i)) : Ev te σ H (.int i) := fun H1 e Q q => h H1 e Q fun v H2 e2 hd => by cases hd; exact q H2 e2
theorem ev_db {b : Bool} (h : EvD K te σ H (.bool b)) : Ev te σ H (.bl b) := fun H1 e Q q => h H1 e Q fun v H2 e2 hd => by cases hd; exact q H2 e2
theorem ed_L {xs : List V} {ds : List PyData} (h : EvL te σ H xs) (hd : DpAll K H xs ds) : EvD K te σ H (.list ds) := fun H1 e Q q => h H1 e Q fun p H2 _ e2 hp => q _ H2 e2 (.lst (sq_of hp) (hd.ex (e.trans e2)))
theorem ed_U {xs : List V} {ds : List PyData} (h : EvU te σ H xs) (hd : DpAll K H xs ds) : EvD K te σ H (.tuple ds) := fun H1 e Q q => h H1 e Q fun p H2 _ e2 hp => q _ H2 e2 (.tup (st_of hp) (hd.ex (e.trans e2)))
theorem eda_nil : EvDA K tNil σ H [] := fun H1 _ _ q => q [] H1 (Ex.refl H1) .nil
theorem eda_cons {ds : List PyData} (h : EvD K te σ H d) (hr : EvDA K tr σ H ds) : EvDA K (tCons te tr) σ H (d :: ds) := fun H1 e _ q =>
  h H1 e _ fun v H2 e2 hd => hr H2 (e.trans e2) _ fun vs H3 e3 hds => q _ H3 (e2.trans e3) (.cons (hd.ex e3) hds)
theorem ed_tup {ds : List PyData} (h : EvDA K t σ H ds) (hl : ds.length ≤ 100000) : EvD K (tTup t) σ H (.tuple ds) := fun H1 e _ q =>
  h H1 e _ fun vs H2 e2 hds => ⟨by rw [dpAll_len hds]; exact sz_of hl, fun p hp => q _ _ (e2.trans (Ex.new hp)) (.tup (st_of upd_same) (hds.ex (Ex.new hp)))⟩
theorem ed_lst {ds : List PyData} (h : EvDA K t σ H ds) (hl : ds.length ≤ 100000) : EvD K (tLst t) σ H (.list ds) := fun H1 e _ q =>
  h H1 e _ fun vs H2 e2 hds => ⟨by rw [dpAll_len hds]; exact sz_of hl, fun p hp => q _ _ (e2.trans (Ex.new hp)) (.lst (sq_of upd_same) (hds.ex (Ex.new hp)))⟩
theorem q_asgD {i : Nat} (h : EvD K te σ H d) (k : ∀ v H1, Ex H H1 → Dp K H1 v d → tz D (σ.set i (some v)) H1) : tSeq (tAsg te (gName i)) tz D σ H := h H (Ex.refl H) _ k
theorem s_asgD {i : Nat} (h : EvD K te σ H d) (k : ∀ v H1, Ex H H1 → Dp K H1 v d → D.nx (σ.set i (some v)) H1) : tAsg te (gName i) D σ H := h H (Ex.refl H) _ k
theorem s_retD (h : EvD K te σ H d) (k : RetD K d H D.rt) : tRet te D σ H := h H (Ex.refl H) _ k
theorem ed_call {sp : Sp} {dvs vs : List V} {E : XK} (h : EvA t σ H vs) (hs : ∀ H1, Ex H H1 → ∀ Q : VK, RetD K d H1 Q → sp (vs ++ dvs) H1 Q E) : EvD K (tCall sp dvs E t) σ H d := fun H1 e Q q =>
  h H1 e _ fun H2 e2 => hs H2 (e.trans e2) Q fun v H3 e3 hd => q v H3 (e2.trans e3) hd
theorem ed_callD {sp : Sp} {dvs : List V} {ds : List PyData} {E : XK} (h : EvDA K t σ H ds) (hs : ∀ vs H1, Ex H H1 → DpAll K H1 vs ds → ∀ Q : VK, RetD K d H1 Q → sp (vs ++ dvs) H1 Q E) : EvD K (tCall sp dvs E t) σ H d := fun H1 e Q q =>
  h H1 e _ fun vs H2 e2 hds => hs vs H2 (e.trans e2) hds Q fun v H3 e3 hd => q v H3 (e2.trans e3) hd
theorem ed_ixT {ds : List PyData} {i : Nat} (h : EvD K ta σ H (.tuple ds)) (hb : Ev tb σ H (.int (i : Int))) (hi : ds[i]? = some d) : EvD K (tOp (rIxT K) ta tb) σ H d := fun H1 e Q q =>
  h H1 e _ fun v H2 e2 hd => hb H2 (e.trans e2) _ fun H3 e3 => by
    obtain ⟨a, xs, rfl, h1, h2⟩ := dp_tup_inv hd
    obtain ⟨w, hw, hdw⟩ := dpAll_at h2 hi
    exact ⟨a, xs, (i : Int), w, rfl, rfl, ex_t e3 h1, atI_nat hw, q w H3 (e2.trans e3) (hdw.ex e3)⟩
theorem ed_ixL {ds : List PyData} {i : Nat} (h : EvD K ta σ H (.list ds)) (hb : Ev tb σ H (.int (i : Int))) (hi : ds[i]? = some d) : EvD K (tOp (rIxL K) ta tb) σ H d := fun H1 e Q q =>
  h H1 e _ fun v H2 e2 hd => hb H2 (e.trans e2) _ fun H3 e3 => by
    obtain ⟨a, xs, rfl, h1, h2⟩ := dp_lst_inv hd
    obtain ⟨w, hw, hdw⟩ := dpAll_at h2 hi
    exact ⟨a, xs, (i : Int), w, rfl, rfl, ex_l e3 h1, atI_nat hw, q w H3 (e2.trans e3) (hdw.ex e3)⟩
theorem atI_last {xs : List V} {w : V} (h : xs[xs.length - 1]? = some w) : atI xs (-1) = some w := by
  have hl : xs.length - 1 < xs.length := (List.getElem?_eq_some_iff.mp h).1
  show (ixN xs.length (-1)).bind (xs[·]?) = some w
  have e : ixN xs.length (-1) = some (xs.length - 1) := by
    unfold ixN
    split
    · omega
    · split
      · congr 1; omega
      · omega
  rw [e]
  exact h
theorem ed_lastL {ds : List PyData} (h : EvD K ta σ H (.list ds)) (hb : Ev tb σ H (.int (-1))) (hi : ds[ds.length - 1]? = some d) : EvD K (tOp (rIxL K) ta tb) σ H d := fun H1 e Q q =>
  h H1 e _ fun v H2 e2 hd => hb H2 (e.trans e2) _ fun H3 e3 => by
    obtain ⟨a, xs, rfl, h1, h2⟩ := dp_lst_inv hd
    obtain ⟨w, hw, hdw⟩ := dpAll_at h2 hi
    exact ⟨a, xs, -1, w, rfl, rfl, ex_l e3 h1, atI_last (by rw [dpAll_len h2]; exact hw), q w H3 (e2.trans e3) (hdw.ex e3)⟩
theorem ev_lenT {ds : List PyData} (h : EvD K ta σ H (.tuple ds)) : Ev (tCB (rLenS K) (tCons ta tNil)) σ H (.int (ds.length : Int)) := fun H1 e Q q =>
  h H1 e _ fun v H2 e2 hd => by
    obtain ⟨a, xs, rfl, h1, h2⟩ := dp_tup_inv hd
    refine ⟨a, xs, rfl, .inr h1, ?_⟩
    rw [dpAll_len h2]
    exact q H2 e2
theorem ev_lenLD {ds : List PyData} (h : EvD K ta σ H (.list ds)) : Ev (tCB (rLenS K) (tCons ta tNil)) σ H (.int (ds.length : Int)) := fun H1 e Q q =>
  h H1 e _ fun v H2 e2 hd => by
    obtain ⟨a, xs, rfl, h1, h2⟩ := dp_lst_inv hd
    refine ⟨a, xs, rfl, .inl h1, ?_⟩
    rw [dpAll_len h2]
    exact q H2 e2
theorem ed_slT {tl th : TO} {ds : List PyData} {lo hi : Option Int} (hn : ¬(HT.sIx ds.length 0 lo = 0 ∧ HT.sIx ds.length ds.length hi = ds.length)) (h : EvD K te σ H (.tuple ds)) (h1 : EvO tl σ H lo) (h2 : EvO th σ H hi) : EvD K (tSl (rSlT K) te tl th) σ H (.tuple (cutD ds lo hi)) := fun H1 e _ q =>
  h H1 e _ fun v H2 e2 hd => h1 H2 (e.trans e2) _ fun H3 e3 => h2 H3 ((e.trans e2).trans e3) _ fun H4 e4 => by
    obtain ⟨a, xs, rfl, g1, g2⟩ := dp_tup_inv hd
    exact ⟨a, xs, rfl, ex_t (e3.trans e4) g1, by rw [dpAll_len g2]; exact hn, fun p hp => q _ _ (((e2.trans e3).trans e4).trans (Ex.new hp)) (.tup (st_of upd_same) ((g2.ex (e3.trans e4)).cut lo hi |>.ex (Ex.new hp)))⟩
theorem ed_slL {tl th : TO} {ds : List PyData} {lo hi : Option Int} (h : EvD K te σ H (.list ds)) (h1 : EvO tl σ H lo) (h2 : EvO th σ H hi) : EvD K (tSl (rSlL K) te tl th) σ H (.list (cutD ds lo hi)) := fun H1 e _ q =>
  h H1 e _ fun v H2 e2 hd => h1 H2 (e.trans e2) _ fun H3 e3 => h2 H3 ((e.trans e2).trans e3) _ fun H4 e4 => by
    obtain ⟨a, xs, rfl, g1, g2⟩ := dp_lst_inv hd
    exact ⟨a, xs, rfl, ex_l (e3.trans e4) g1, fun p hp => q _ _ (((e2.trans e3).trans e4).trans (Ex.new hp)) (.lst (sq_of upd_same) ((g2.ex (e3.trans e4)).cut lo hi |>.ex (Ex.new hp)))⟩
/-- tuple(..) -/
theorem ed_tupOfT (h : EvD K te σ H (.tuple ds)) : EvD K (tCB (rTupOf K) (tCons te tNil)) σ H (.tuple ds) := fun H1 e _ q =>
  h H1 e _ fun v H2 e2 hd => by
    obtain ⟨a, xs, rfl, g1, g2⟩ := dp_tup_inv hd
    exact ⟨a, xs, rfl, .inr ⟨g1, q _ H2 e2 (.tup g1 g2)⟩⟩
theorem ed_tupOfL {ds : List PyData} (h : EvD K te σ H (.list ds)) : EvD K (tCB (rTupOf K) (tCons te tNil)) σ H (.tuple ds) := fun H1 e _ q =>
  h H1 e _ fun v H2 e2 hd => by
    obtain ⟨a, xs, rfl, g1, g2⟩ := dp_lst_inv hd
    exact ⟨a, xs, rfl, .inl ⟨g1, fun l hl => q _ _ (e2.trans (Ex.new hl)) (.tup (st_of upd_same) (g2.ex (Ex.new hl)))⟩⟩
theorem ed_lstOfT {ds : List PyData} (h : EvD K te σ H (.tuple ds)) : EvD K (tCB (rLstOf K) (tCons te tNil)) σ H (.list ds) := fun H1 e _ q =>
  h H1 e _ fun v H2 e2 hd => by
    obtain ⟨a, xs, rfl, g1, g2⟩ := dp_tup_inv hd
    exact ⟨a, xs, rfl, .inr g1, fun l hl => q _ _ (e2.trans (Ex.new hl)) (.lst (sq_of upd_same) (g2.ex (Ex.new hl)))⟩
/-- a new list of a tuple of ints -/
theorem el_lstOfT {ns : List Int} (h : EvD K te σ H (.tuple (ns.map PyData.int))) : EvL (tCB (rLstOf K) (tCons te tNil)) σ H (ns.map V.int) := fun H1 e _ q =>
  h H1 e _ fun v H2 e2 hd => by
    obtain ⟨a, rfl, g1⟩ := dp_intsT_inv hd
    exact ⟨a, _, rfl, .inr g1, fun l hl => q l _ (fresh_back e2 hl) (e2.trans (Ex.new hl)) upd_same⟩
/-! ### equality and repr of data -/
theorem eqv_refl_ints (ns ms : List Int) : PyData.eqv (.list (ns.map PyData.int)) (.list (ms.map PyData.int)) = decide (ns = ms) := by rw [PyData.eqv, eqv_ints]
theorem ev_eqD {d e : PyData} (ha : EvD K ta σ H d) (hb : EvD K tb σ H e) (hd : SeqAt.shaped d = true) (he : SeqAt.shaped e = true) : Ev (tOp (rEqD K) ta tb) σ H (.bl (PyData.eqv d e)) := fun H1 x Q q =>
  ha H1 x _ fun v H2 e2 h1 => hb H2 (x.trans e2) _ fun w H3 e3 h2 => ⟨d, e, h1.ex e3, h2, hd, he, q H3 (e2.trans e3)⟩
theorem ev_neD {d e : PyData} (ha : EvD K ta σ H d) (hb : EvD K tb σ H e) (hd : SeqAt.shaped d = true) (he : SeqAt.shaped e = true) : Ev (tOp (rNeD K) ta tb) σ H (.bl (!PyData.eqv d e)) := fun H1 x Q q =>
  ha H1 x _ fun v H2 e2 h1 => hb H2 (x.trans e2) _ fun w H3 e3 h2 => ⟨d, e, h1.ex e3, h2, hd, he, q H3 (e2.trans e3)⟩
/-- what repr may be asked of -/
structure Nice (d : PyData) : Prop where
  sh : d.showable = true
  nd : d.hasDict = false
  dp : d.depth ≤ 40
  ln : d.shown.length ≤ sizeLine
theorem ev_reprD {d : PyData} (h : EvD K te σ H d) (n : Nice d) : Ev (tCB (rRepr K) (tCons te tNil)) σ H (.str d.shown) := fun H1 e Q q =>
  h H1 e _ fun v H2 e2 hd => ⟨v, d, rfl, hd, n.sh, n.nd, n.dp, n.ln, q H2 e2⟩
end
/-! small data: ints below 10 ^ 100, no texts, no dicts -/
mutual
def smD : PyData → Bool
  | .none | .bool _ => true
  | .int i => decide (i.natAbs < 10 ^ 100)
  | .list ds | .tuple ds => smDs ds
  | .str _ | .dict _ => false
def smDs : List PyData → Bool
  | [] => true
  | d :: r => smD d && smDs r
end
theorem int_short {n : Int} (h : n.natAbs < 10 ^ 100) : (PyData.int n).leavesShort 101 = true := by
  rw [PyData.leavesShort]
  refine decide_eq_true ?_
  unfold PyData.shown
  have h := int_text_length_le10 (k := 100) (by decide) h
  have e : (Str.ofString (toString n)).length = (toString n).length := PySem.ofString_length _
  show (Str.ofString (toString n)).length ≤ 101
  rw [e]
  exact h
mutual
theorem sm_short : ∀ d : PyData, smD d = true → d.leavesShort 101 = true
  | .none, _ => by simp [PyData.leavesShort]
  | .bool _, _ => by simp [PyData.leavesShort]
  | .int i, h => int_short (by rw [smD] at h; exact of_decide_eq_true h)
  | .str _, h => by rw [smD] at h; cases h
  | .list ds, h => by rw [PyData.leavesShort]; exact sm_shorts ds (by rw [smD] at h; exact h)
  | .tuple ds, h => by rw [PyData.leavesShort]; exact sm_shorts ds (by rw [smD] at h; exact h)
  | .dict _, h => by rw [smD] at h; cases h
theorem sm_shorts : ∀ ds : List PyData, smDs ds = true → PyData.leavesShortAll 101 ds = true
  | [], _ => by simp [PyData.leavesShortAll]
  | d :: r, h => by
    rw [smDs, Bool.and_eq_true] at h
    rw [PyData.leavesShortAll, sm_short d h.1, sm_shorts r h.2]
    rfl
end
mutual
theorem sm_show : ∀ d : PyData, smD d = true → d.showable = true
  | .none, _ => by simp [PyData.showable]
  | .bool _, _ => by simp [PyData.showable]
  | .int i, h => by rw [PyData.showable]; exact decide_eq_true (log_lt (by rw [smD] at h; exact of_decide_eq_true h))
  | .str _, h => by rw [smD] at h; cases h
  | .list ds, h => by rw [PyData.showable]; exact sm_shows ds (by rw [smD] at h; exact h)
  | .tuple ds, h => by rw [PyData.showable]; exact sm_shows ds (by rw [smD] at h; exact h)
  | .dict _, h => by rw [smD] at h; cases h
theorem sm_shows : ∀ ds : List PyData, smDs ds = true → PyData.showableAll ds = true
  | [], _ => by simp [PyData.showableAll]
  | d :: r, h => by
    rw [smDs, Bool.and_eq_true] at h
    rw [PyData.showableAll, sm_show d h.1, sm_shows r h.2]
    rfl
end
mutual
theorem sm_dict : ∀ d : PyData, smD d = true → d.hasDict = false
  | .none, _ => by simp [PyData.hasDict]
  | .bool _, _ => by simp [PyData.hasDict]
  | .int i, h => by simp [PyData.hasDict]
  | .str _, h => by rw [smD] at h; cases h
  | .list ds, h => by rw [PyData.hasDict]; exact sm_dicts ds (by rw [smD] at h; exact h)
  | .tuple ds, h => by rw [PyData.hasDict]; exact sm_dicts ds (by rw [smD] at h; exact h)
  | .dict _, h => by rw [smD] at h; cases h
theorem sm_dicts : ∀ ds : List PyData, smDs ds = true → PyData.hasDictAll ds = false
  | [], _ => by simp [PyData.hasDictAll]
  | d :: r, h => by
    rw [smDs, Bool.and_eq_true] at h
    rw [PyData.hasDictAll, sm_dict d h.1, sm_dicts r h.2]
    rfl
end
theorem nice_sm {d : PyData} (h : smD d = true) (hd : d.depth ≤ 40) (hb : d.bulk ≤ 100000) : Nice d := by
  refine ⟨sm_show d h, sm_dict d h, hd, ?_⟩
  have hk := PyData.shown_le_bulk 101 (by decide) _ (sm_short d h)
  rw [sizeLine_eq]
  omega
theorem smDs_ints {ns : List Int} (h : ∀ n ∈ ns, n.natAbs < 10 ^ 100) : smDs (ns.map PyData.int) = true := by
  induction ns with
  | nil => simp [smDs]
  | cons n r ih =>
    rw [List.map_cons, smDs, smD, decide_eq_true (h n List.mem_cons_self), ih fun m hm => h m (List.mem_cons_of_mem _ hm)]
    rfl
theorem bulk_ints (ns : List Int) : PyData.bulkAll (ns.map PyData.int) = ns.length := by
  induction ns with
  | nil => simp [PyData.bulkAll]
  | cons n r ih => rw [List.map_cons, PyData.bulkAll, PyData.bulk, ih, List.length_cons]; omega
/-! ### dicts from ints to ints -/
def kvI (sd : List (Int × Int)) : List (Key × V) := sd.map fun p => (Sum.inl p.1, V.int p.2)
def getI : List (Int × Int) → Int → Option Int
  | [], _ => none
  | p :: r, k => if p.1 = k then some p.2 else getI r k
def putI (sd : List (Int × Int)) (k v : Int) : List (Int × Int) := if (sd.any fun p => decide (p.1 = k)) = true then sd.map (fun p => if p.1 = k then (p.1, v) else p) else sd ++ [(k, v)]
theorem kvI_get (sd : List (Int × Int)) (k : Int) : valV (kvI sd) (Sum.inl k) = (getI sd k).map V.int := by
  induction sd with
  | nil => rfl
  | cons p r ih =>
    unfold getI
    by_cases h : p.1 = k
    · rw [if_pos h]
      exact valV_pos (p := (Sum.inl p.1, V.int p.2)) (by rw [h])
    · rw [if_neg h, ← ih]
      exact valV_neg (p := (Sum.inl p.1, V.int p.2)) (fun z => h (Sum.inl.inj z))
theorem kvI_put (sd : List (Int × Int)) (k v : Int) : putK (kvI sd) (Sum.inl k) (V.int v) = kvI (putI sd k v) := by
  have ha : ((kvI sd).any fun kv => decide (kv.1 = Sum.inl k)) = sd.any fun p => decide (p.1 = k) := by
    unfold kvI
    rw [List.any_map]
    congr 1
    funext p
    show decide ((Sum.inl p.1 : Key) = Sum.inl k) = decide (p.1 = k)
    by_cases h : p.1 = k
    · rw [h]; simp
    · rw [decide_eq_false h, decide_eq_false (fun z => h (Sum.inl.inj z))]
  unfold putK putI
  rw [ha]
  by_cases a : (sd.any fun p => decide (p.1 = k)) = true
  · rw [if_pos a, if_pos a]
    unfold kvI
    rw [List.map_map, List.map_map]
    congr 1
    funext p
    show (if (Sum.inl p.1 : Key) = Sum.inl k then (Sum.inl p.1, V.int v) else (Sum.inl p.1, V.int p.2)) = (fun p : Int × Int => ((Sum.inl p.1 : Key), V.int p.2)) (if p.1 = k then (p.1, v) else p)
    by_cases h : p.1 = k
    · rw [if_pos (by rw [h]), if_pos h]
    · rw [if_neg (fun z => h (Sum.inl.inj z)), if_neg h]
  · rw [if_neg a, if_neg a]
    unfold kvI
    rw [List.map_append]
    rfl
theorem getI_put (sd : List (Int × Int)) (k j v : Int) : getI (putI sd k v) j = if j = k then some v else getI sd j := by
  have h := valV_put (kvI sd) (Sum.inl k) (Sum.inl j) (V.int v)
  rw [kvI_put, kvI_get, kvI_get] at h
  by_cases e : j = k
  · rw [if_pos e]
    rw [if_pos (by rw [e])] at h
    cases q : getI (putI sd k v) j with
    | none => rw [q] at h; cases h
    | some w => rw [q] at h; cases h; rfl
  · rw [if_neg e]
    rw [if_neg (fun z => e (Sum.inl.inj z))] at h
    cases q : getI (putI sd k v) j with
    | none => rw [q] at h; cases r : getI sd j with
      | none => rfl
      | some w => rw [r] at h; cases h
    | some w => rw [q] at h; cases r : getI sd j with
      | none => rw [r] at h; cases h
      | some u => rw [r] at h; cases h; rfl
theorem putI_len (sd : List (Int × Int)) (k v : Int) : (putI sd k v).length ≤ sd.length + 1 := by
  unfold putI
  split
  · rw [List.length_map]; omega
  · rw [List.length_append]; exact Nat.le_refl _
theorem kvI_len (sd : List (Int × Int)) : (kvI sd).length = sd.length := by unfold kvI; rw [List.length_map]
theorem kvI_keys (sd : List (Int × Int)) : (kvI sd).map (·.1) = (sd.map (·.1)).map Sum.inl := by unfold kvI; rw [List.map_map, List.map_map]; rfl
section
variable {K : PySem.W.Frag} {H H1 H' : Hp} {σ : L2.St} {ta tb te td ty tx tv : TE} {tt : TT} {t tr : TA} {D : Ends} {tz : TS} {a : Addr}
/-- d.get(k, x) -/
theorem ev_dget2 {kvs : List (Key × V)} {k : Key} {z : V} (h : Ev td σ H (.ref a)) (hd : H a = some (.dK kvs)) (hk : Ev ty σ H (kV k)) (hx : Ev tx σ H z) : Ev (tDGet2 td ty tx) σ H ((valV kvs k).getD z) := fun H1 e Q q =>
  h H1 e _ fun H2 e2 => ⟨a, rfl, .inl ⟨kvs, .inl (e2 _ _ (e _ _ hd))⟩, hk H2 (e.trans e2) _ fun H3 e3 => hx H3 ((e.trans e2).trans e3) _ fun H4 e4 => ⟨_, DGet.k (e4 _ _ (e3 _ _ (e2 _ _ (e _ _ hd)))), q H4 ((e2.trans e3).trans e4)⟩⟩
theorem ev_dget1 {kvs : List (Key × V)} {k : Key} (h : Ev td σ H (.ref a)) (hd : H a = some (.dK kvs)) (hk : Ev ty σ H (kV k)) : Ev (tDGet1 td ty) σ H ((valV kvs k).getD .non) := fun H1 e Q q =>
  h H1 e _ fun H2 e2 => ⟨a, rfl, .inl ⟨kvs, .inl (e2 _ _ (e _ _ hd))⟩, hk H2 (e.trans e2) _ fun H3 e3 => ⟨_, DGet.k (e3 _ _ (e2 _ _ (e _ _ hd))), q H3 (e2.trans e3)⟩⟩
theorem ev_getI {sd : List (Int × Int)} {k : Int} (h : Ev td σ H (.ref a)) (hd : H a = some (.dK (kvI sd))) (hk : Ev ty σ H (.int k)) (hx : Ev tx σ H (.int 0)) : Ev (tDGet2 td ty tx) σ H (.int ((getI sd k).getD 0)) := by
  have e := ev_dget2 (k := Sum.inl k) h hd hk hx
  rw [kvI_get] at e
  cases q : getI sd k with
  | none => rw [q] at e; exact e
  | some v => rw [q] at e; exact e
theorem ev_ixI {sd : List (Int × Int)} {k v : Int} (h : Ev td σ H (.ref a)) (hk : Ev ty σ H (.int k)) (hd : H a = some (.dK (kvI sd))) (hv : getI sd k = some v) : Ev (tDGet td ty) σ H (.int v) :=
  ev_dget (k := Sum.inl k) h hk hd (by rw [kvI_get, hv]; rfl)
theorem ev_inI {kvs : List (Key × V)} {k : Int} (hk : Ev ty σ H (.int k)) (h : Ev td σ H (.ref a)) (hd : H a = some (.dK kvs)) : Ev (tDIn ty td) σ H (.bl (valV kvs (Sum.inl k)).isSome) := fun H1 e Q q =>
  hk H1 e _ fun H2 e2 => h H2 (e.trans e2) _ fun H3 e3 => ⟨a, _, rfl, DGet.k (k := Sum.inl k) (e3 _ _ (e2 _ _ (e _ _ hd))), q H3 (e2.trans e3)⟩
theorem ev_niI {kvs : List (Key × V)} {k : Int} (hk : Ev ty σ H (.int k)) (h : Ev td σ H (.ref a)) (hd : H a = some (.dK kvs)) : Ev (tDNotIn ty td) σ H (.bl (!(valV kvs (Sum.inl k)).isSome)) := fun H1 e Q q =>
  hk H1 e _ fun H2 e2 => h H2 (e.trans e2) _ fun H3 e3 => ⟨a, _, rfl, DGet.k (k := Sum.inl k) (e3 _ _ (e2 _ _ (e _ _ hd))), q H3 (e2.trans e3)⟩
/-- d[k] = v, ints, within 100000 pairs; the value may change the heap -/
theorem s_dputI {P : V → Hp → Prop} {k : Int} (hv : EvP tv σ H P) (q : ∀ v H1, P v H1 → ∃ kvs, H1 a = some (.dK kvs) ∧ (∀ H2, Ex H1 H2 → Ev td σ H2 (.ref a)) ∧ (∀ H2, Ex H1 H2 → Ev ty σ H2 (.int k)) ∧ kvs.length < 100000 ∧ ∀ H2, Ex H1 H2 → D.nx σ (upd H2 a (.dK (putK kvs (Sum.inl k) v)))) : sDPut td ty tv D σ H :=
  hv _ fun v H1 h1 => by
    obtain ⟨kvs, hd, ha, hk, hz, g⟩ := q v H1 h1
    exact ha H1 (Ex.refl H1) H1 (Ex.refl H1) _ fun H2 e2 => hk H2 e2 H2 (Ex.refl H2) _ fun H3 e3 => ⟨a, _, rfl, DPut.k (k := Sum.inl k) (e3 _ _ (e2 _ _ hd)) (sz_lt hz), g H3 (e2.trans e3)⟩
theorem q_dputI {P : V → Hp → Prop} {k : Int} (hv : EvP tv σ H P) (q : ∀ v H1, P v H1 → ∃ kvs, H1 a = some (.dK kvs) ∧ (∀ H2, Ex H1 H2 → Ev td σ H2 (.ref a)) ∧ (∀ H2, Ex H1 H2 → Ev ty σ H2 (.int k)) ∧ kvs.length < 100000 ∧ ∀ H2, Ex H1 H2 → tz D σ (upd H2 a (.dK (putK kvs (Sum.inl k) v)))) : tSeq (sDPut td ty tv) tz D σ H :=
  s_dputI (D := { D with nx := tz D }) hv q
/-! ### arguments that change the heap -/
def EvAP (ta : TA) (σ : L2.St) (H : Hp) (PA : List V → Hp → Prop) : Prop := ∀ Q : List V → Hp → Prop, (∀ vs H', PA vs H' → Q vs H') → ta σ H Q
theorem eap_one {P : V → Hp → Prop} (h : EvP te σ H P) : EvAP (tCons te tNil) σ H (fun vs H' => ∃ v, vs = [v] ∧ P v H') := fun Q q => h _ fun v H1 h1 => q [v] H1 ⟨v, rfl, h1⟩
theorem ep_methP {sp : Sp} {E : XK} {PA : List V → Hp → Prop} {P : V → Hp → Prop} {C dx : Addr} {fs : List (Str × V)} {m : Str} (ha : Ev ta σ H (.ref a)) (ho : H a = some (.ins C dx fs)) (hl : fs.lookup m = none) (ht : ∀ H1, Ex H H1 → EvAP t σ H1 PA)
    (hs : ∀ vs H1, PA vs H1 → ∀ Q : VK, (∀ v H', P v H' → Q v H') → sp (.ref a :: (vs ++ [])) H1 Q E) : EvP (tMeth C m sp [] E ta t) σ H P := fun Q q =>
  ha H (Ex.refl H) _ fun H1 e1 => ⟨a, dx, fs, rfl, e1 _ _ ho, hl, ht H1 e1 _ fun vs H2 h2 => hs vs H2 h2 Q q⟩
/-- xs.append(e), e may change the heap -/
theorem s_appR {P : V → Hp → Prop} {xs : List V} (ha : Ev ta σ H (.ref a)) (hl : H a = some (.lst xs)) (h : ∀ H1, Ex H H1 → EvP te σ H1 P) (k : ∀ v H1, P v H1 → ∃ ys, H1 a = some (.lst ys) ∧ ys.length < 100000 ∧ D.nx σ (upd H1 a (.lst (ys ++ [v])))) :
    tDrop (tBM K "list" rAppend ta (tCons te tNil)) D σ H := ha H (Ex.refl H) _ fun H1 e1 =>
  ⟨.inl ⟨rfl, xs, sq_of (e1 a _ hl)⟩, h H1 e1 _ fun v H2 hv => by
    obtain ⟨ys, h1, h2, h3⟩ := k v H2 hv
    exact ⟨a, ys, v, rfl, rfl, h1, sz_lt h2, h3⟩⟩
theorem q_appR {P : V → Hp → Prop} {xs : List V} (ha : Ev ta σ H (.ref a)) (hl : H a = some (.lst xs)) (h : ∀ H1, Ex H H1 → EvP te σ H1 P) (k : ∀ v H1, P v H1 → ∃ ys, H1 a = some (.lst ys) ∧ ys.length < 100000 ∧ tz D σ (upd H1 a (.lst (ys ++ [v])))) :
    tSeq (tDrop (tBM K "list" rAppend ta (tCons te tNil))) tz D σ H := s_appR (D := { D with nx := tz D }) ha hl h k
theorem ep_opR {r : R2} {y : V} {P1 P : V → Hp → Prop} (ha : EvP ta σ H P1) (hb : ∀ v H1, P1 v H1 → Ev tb σ H1 y) (hr : ∀ v H1, P1 v H1 → ∀ H2, Ex H1 H2 → ∀ Q : VK, (∀ z H', P z H' → Q z H') → r v y H2 Q) : EvP (tOp r ta tb) σ H P := fun Q q =>
  ha _ fun v H1 h1 => hb v H1 h1 H1 (Ex.refl H1) _ fun H2 e2 => hr v H1 h1 H2 e2 Q q
theorem etp_val {P : V → Hp → Prop} {P2 : Bool → Hp → Prop} (h : EvP te σ H P) (k : ∀ v H1, P v H1 → ∃ b, v = .bl b ∧ P2 b H1) : EtP (tTest te) σ H P2 := fun Q q => h _ fun v H1 h1 => by
  obtain ⟨b, rfl, h2⟩ := k v H1 h1
  exact ⟨b, rfl, q b H1 h2⟩
end
section
variable {K : PySem.W.Frag} {H : Hp} {σ : L2.St} {te : TE} {tt : TT} {ta : TA} {d : PyData} {v : V} {Q : VK}
theorem go_ev (h : Ev te σ H v) (k : ∀ H1, Ex H H1 → Q v H1) : te σ H Q := h H (Ex.refl H) Q k
theorem go_ed (h : EvD K te σ H d) (k : ∀ v H1, Ex H H1 → Dp K H1 v d → Q v H1) : te σ H Q := h H (Ex.refl H) Q k
theorem go_et {b : Bool} {Q : Bool → Hp → Prop} (h : EvT tt σ H b) (k : ∀ H1, Ex H H1 → Q b H1) : tt σ H Q := h H (Ex.refl H) Q k
theorem go_ea {vs : List V} {Q : List V → Hp → Prop} (h : EvA ta σ H vs) (k : ∀ H1, Ex H H1 → Q vs H1) : ta σ H Q := h H (Ex.refl H) Q k
end
/-! ### sorted ints -/
def srt (ks : List Int) : List Int := ks.mergeSort (fun a b => decide (a ≤ b))
theorem srt_perm (ks : List Int) : (srt ks).Perm ks := List.mergeSort_perm ks _
theorem srt_sorted (ks : List Int) : (srt ks).Pairwise (· ≤ ·) := by
  have h := List.pairwise_mergeSort (le := fun a b : Int => decide (a ≤ b)) (fun a b c h1 h2 => by simp at *; omega) (fun a b => by simp; omega) ks
  exact h.imp fun h => by simpa using h
theorem srt_uniq {ks ns : List Int} (h : ns.Perm ks) (s : ns.Pairwise (· ≤ ·)) : ns = srt ks := PySem.W.ksm_same (h.trans (srt_perm ks).symm) s (srt_sorted ks)
end Gd

set_option Elab.async false
set_option linter.all false
set_option maxRecDepth 100000
set_option maxHeartbeats 4000000
/-! Of our own: comprehensions that give data; dict comprehensions; ranges by fours; tuples taken apart. -/
namespace Gd
open PySem PySem.Spec PyProof.Rows L2 Evl
/-- a new list of data -/
def EvLD (K : PySem.W.Frag) (te : TE) (σ : L2.St) (H : Hp) (ds : List PyData) : Prop := ∀ H1, Ex H H1 → ∀ Q : VK, (∀ p xs H2, H1 p = none → Ex H1 H2 → H2 p = some (.lst xs) → DpAll K H2 xs ds → Q (.ref p) H2) → te σ H1 Q
def givD (n : Nat) (b : Nat → Bool) (g : Nat → PyData) : List PyData := ((List.range n).filter b).map g
theorem givD_yes {n : Nat} {f : Nat → Bool} {v : Nat → PyData} (h : f n = true) : givD (n + 1) f v = givD n f v ++ [v n] := by
  unfold givD
  rw [List.range_succ, List.filter_append, List.map_append, List.filter_cons, if_pos h] <;> rfl
theorem givD_no {n : Nat} {f : Nat → Bool} {v : Nat → PyData} (h : f n = false) : givD (n + 1) f v = givD n f v := by
  unfold givD
  rw [List.range_succ, List.filter_append, List.map_append, List.filter_cons, if_neg (by rw [h]; decide)]
  show _ ++ [] = _
  rw [List.append_nil]
theorem givD_len (n : Nat) (f : Nat → Bool) (v : Nat → PyData) : (givD n f v).length ≤ n := by
  unfold givD
  rw [List.length_map]
  have h := List.length_filter_le f (List.range n)
  rw [List.length_range] at h
  exact h
theorem tupOs_at : ∀ {ds : List PyData}, (∀ d ∈ ds, tupO d = true) → tupOs ds = true
  | [], _ => by simp [tupOs]
  | d :: r, h => by rw [tupOs, h d List.mem_cons_self, tupOs_at fun e m => h e (List.mem_cons_of_mem _ m)]; rfl
theorem givD_tup {n : Nat} {b : Nat → Bool} {g : Nat → PyData} (h : ∀ i, i < n → tupO (g i) = true) : tupOs (givD n b g) = true := tupOs_at fun d m => by
  unfold givD at m
  obtain ⟨i, hi, rfl⟩ := List.mem_map.mp m
  exact h i (by have := (List.mem_filter.mp hi).1; simpa using this)
/-- what xs.map with a test gives, by places -/
theorem filter_range_map {α : Type} (l : List α) (p : α → Bool) (g : α → PyData) (z : α) : givD l.length (fun i => p (l.getD i z)) (fun i => g (l.getD i z)) = (l.filter p).map g := by
  have key : ∀ k, k ≤ l.length → givD k (fun i => p (l.getD i z)) (fun i => g (l.getD i z)) = ((l.take k).filter p).map g := by
    intro k
    induction k with
    | zero => intro _; rfl
    | succ k ih =>
      intro hk
      have hlt : k < l.length := by omega
      have hg : l[k]? = some l[k] := List.getElem?_eq_getElem hlt
      have hd : l.getD k z = l[k] := by rw [List.getD_eq_getElem?_getD, hg]; rfl
      rw [take_snoc hg, List.filter_append, List.map_append]
      cases hp : p l[k] with
      | true =>
        rw [givD_yes (by rw [hd]; exact hp), ih (by omega), hd]
        simp [hp]
      | false =>
        rw [givD_no (by rw [hd]; exact hp), ih (by omega)]
        simp [hp]
  have := key l.length (Nat.le_refl _)
  rw [List.take_length] at this
  exact this
section
variable {K : PySem.W.Frag} {σ : L2.St} {H H1 H' : Hp} {ta tb te tl tk tv : TE} {tt t u : TT} {D : Ends} {tz tu : TS} {vs : List Nat} {j : Nat}
theorem ed_LD {ds : List PyData} (h : EvLD K te σ H ds) : EvD K te σ H (.list ds) := fun H1 e Q q => h H1 e Q fun p xs H2 _ e2 hp hd => q _ H2 e2 (.lst (sq_of hp) hd)
theorem et_yes : EvT tYes σ H true := fun H1 _ _ q => q H1 (Ex.refl H1)
theorem q_asgLD {i : Nat} {ds : List PyData} (h : EvLD K te σ H ds) (k : ∀ p xs H1, H p = none → Ex H H1 → H1 p = some (.lst xs) → DpAll K H1 xs ds → tz D (σ.set i (some (.ref p))) H1) : tSeq (tAsg te (gName i)) tz D σ H := h H (Ex.refl H) _ k
theorem s_retLD {ds : List PyData} (h : EvLD K te σ H ds) (k : ∀ p xs H1, H p = none → Ex H H1 → H1 p = some (.lst xs) → DpAll K H1 xs ds → D.rt (.ref p) H1) : tRet te D σ H := h H (Ex.refl H) _ k
theorem eld_L {xs : List V} {ds : List PyData} (h : EvL te σ H xs) (hd : DpAll K H xs ds) : EvLD K te σ H ds := fun H1 e Q q => h H1 e Q fun p H2 hp e2 h2 => q p xs H2 hp e2 h2 (hd.ex (e.trans e2))
/-- EvLD of ints is EvL -/
theorem el_ints {ns : List Int} (h : EvLD K te σ H (ns.map PyData.int)) : EvL te σ H (ns.map V.int) := fun H1 e Q q => h H1 e Q fun p xs H2 hp e2 h2 hd => q p H2 hp e2 (by rw [← dpAll_ints_inv hd]; exact h2)
theorem lc_data {J : It} {n : Nat} {G : Hp → Prop} {Y : Nat → Hp → V → Hp → Prop} {b : Nat → Bool} {g : Nat → PyData} {Dl : Addr} {Qd : Hp → Prop} (w : Walk J n G Y) (xi : Nat → V) (hY : ∀ i H x H', i < n → Y i H x H' → H' = H ∧ x = xi i) (hz : n ≤ 90000)
    (hw : ∀ x, wipe ((wipe σ vs).set j (some x)) vs = wipe σ vs) (hG : ∀ H', Ex H1 H' → G H') (ht : ∀ i, i < n → tupO (g i) = true)
    (hb : ∀ i, i < n → ∀ H', Ex H1 H' → EvT tt ((wipe σ vs).set j (some (xi i))) H' (b i)) (he : ∀ i, i < n → b i = true → ∀ H', Ex H1 H' → EvD K te ((wipe σ vs).set j (some (xi i))) H' (g i)) (hD : H1 Dl = none)
    (k : ∀ xs H', Ex H1 H' → H' Dl = some (.lst xs) → DpAll K H' xs (givD n b g) → Qd H') :
    ∃ W : Nat → Nat → Hp → Prop, (∃ m, W 0 m (upd H1 Dl (.lst []))) ∧ ∀ i m H, W i m H →
      (J.stop i H ∧ Qd H) ∨ (J.go i H ∧ ∃ Nx : Hp → Prop, (∀ H', Nx H' → ∃ m', m' < m ∧ W (i + 1) m' H') ∧ ∀ x H', J.yld i H x H' → gName j x (wipe σ vs) H' fun σ2 H2 => wipe σ2 vs = wipe σ vs ∧ tt σ2 H2 fun b H3 =>
        if b = true then te σ2 H3 fun y H4 => ∃ acc, H4 Dl = some (.lst acc) ∧ acc.length < sizeLine ∧ Nx (upd H4 Dl (.lst (acc ++ [y]))) else Nx H3) := by
  refine lc_it w (fun i H' => Ex H1 H' ∧ ∃ xs, H' Dl = some (.lst xs) ∧ DpAll K H' xs (givD i b g)) ⟨Ex.new hD, [], upd_same, .nil⟩ (fun i H' _ p => hG H' p.1) ?_ (fun H' p => let ⟨xs, h1, h2⟩ := p.2; k xs H' p.1 h1 h2)
  intro i x H2 H3 hi p y
  obtain ⟨e, hx⟩ := hY i H2 x H3 hi y
  subst e hx
  obtain ⟨p1, xs, p2, p3⟩ := p
  refine ⟨hw _, hb i hi H3 p1 H3 (Ex.refl H3) _ fun H4 e4 => ?_⟩
  cases hbi : b i with
  | true =>
    rw [if_pos rfl]
    refine he i hi hbi H4 (p1.trans e4) H4 (Ex.refl H4) _ fun v H5 e5 hd => ⟨xs, e5 _ _ (e4 _ _ p2), sz_lt (by rw [dpAll_len p3]; have := givD_len i b g; omega), Ex.mut (p1.trans (e4.trans e5)) hD, _, upd_same, ?_⟩
    rw [givD_yes hbi]
    refine DpAll.app ((p3.ex (e4.trans e5)).upd (givD_tup fun m hm => ht m (by omega)) (e5 _ _ (e4 _ _ p2)) nt_lst) ?_
    exact .cons (hd.upd (ht i hi) (e5 _ _ (e4 _ _ p2)) nt_lst) .nil
  | false =>
    rw [if_neg Bool.false_ne_true]
    exact ⟨p1.trans e4, xs, e4 _ _ p2, by rw [givD_no hbi]; exact p3.ex e4⟩
/-- [e for x in range(i, j, c) if t] -/
theorem eld_lcC {tr : TA} {i0 j0 c0 : Int} {n : Nat} {b : Nat → Bool} {g : Nat → PyData} (h : EvA tr σ H [.int i0, .int j0, .int c0]) (hr : RgC i0 j0 c0 n) (hz : n ≤ 90000) (hw : ∀ x, wipe ((wipe σ vs).set j (some x)) vs = wipe σ vs) (ht : ∀ i, i < n → tupO (g i) = true)
    (hb : ∀ i, i < n → ∀ H', Ex H H' → EvT tt ((wipe σ vs).set j (some (.int (i0 + (i : Nat) * c0)))) H' (b i)) (he : ∀ i, i < n → b i = true → ∀ H', Ex H H' → EvD K te ((wipe σ vs).set j (some (.int (i0 + (i : Nat) * c0)))) H' (g i)) :
    EvLD K (tLc (iRng3 tr) (gName j) tt te vs) σ H (givD n b g) := fun H0 e Q q => h H0 e _ fun H1 e1 => ⟨i0, j0, c0, n, rfl, hr, fun Dl hD =>
  lc_data walk_rangeC (fun i => .int (i0 + (i : Nat) * c0)) (fun _ _ _ _ _ y => y) hz hw (fun _ _ => trivial) ht (fun i hi H' e' => hb i hi H' ((e.trans e1).trans e')) (fun i hi hbi H' e' => he i hi hbi H' ((e.trans e1).trans e')) hD
    (fun xs H' e' h1 h2 => q Dl xs H' (fresh_back e1 hD) (e1.trans e') h1 h2)⟩
/-- [e for x in range(n) if t] -/
theorem eld_lcR1 {tr : TA} {n : Nat} {b : Nat → Bool} {g : Nat → PyData} (h : EvA tr σ H [.int (n : Int)]) (hz : n ≤ 90000) (hw : ∀ x, wipe ((wipe σ vs).set j (some x)) vs = wipe σ vs) (ht : ∀ i, i < n → tupO (g i) = true)
    (hb : ∀ i, i < n → ∀ H', Ex H H' → EvT tt ((wipe σ vs).set j (some (.int (i : Int)))) H' (b i)) (he : ∀ i, i < n → b i = true → ∀ H', Ex H H' → EvD K te ((wipe σ vs).set j (some (.int (i : Int)))) H' (g i)) :
    EvLD K (tLc (iRng1 tr) (gName j) tt te vs) σ H (givD n b g) := fun H0 e Q q => h H0 e _ fun H1 e1 => ⟨(n : Int), rfl, by omega, by omega, fun Dl hD => by
  have z : ∀ i : Nat, (0 : Int) + (i : Int) = (i : Int) := fun i => Int.zero_add _
  exact lc_data (walk_range (lo := 0) (n := n)) (fun i => .int (i : Int)) (fun i H x H' _ y => by obtain ⟨y1, y2⟩ := y; exact ⟨y1, by rw [y2]; show V.int ((0 : Int) + (i : Int)) = _; rw [z]⟩) hz hw (fun _ _ => trivial) ht (fun i hi H' e' => hb i hi H' ((e.trans e1).trans e')) (fun i hi hbi H' e' => he i hi hbi H' ((e.trans e1).trans e')) hD
    (fun xs H' e' h1 h2 => q Dl xs H' (fresh_back e1 hD) (e1.trans e') h1 h2)⟩
/-- [e for x in l if t], l a list that stays -/
theorem eld_lcL {a : Addr} {xs : List V} {b : Nat → Bool} {g : Nat → PyData} (h : Ev tl σ H (.ref a)) (hx : SqL K H a xs) (hz : xs.length ≤ 90000) (hw : ∀ x, wipe ((wipe σ vs).set j (some x)) vs = wipe σ vs) (ht : ∀ i, i < xs.length → tupO (g i) = true)
    (hb : ∀ i x, xs[i]? = some x → ∀ H', Ex H H' → EvT tt ((wipe σ vs).set j (some x)) H' (b i)) (he : ∀ i x, xs[i]? = some x → b i = true → ∀ H', Ex H H' → EvD K te ((wipe σ vs).set j (some x)) H' (g i)) :
    EvLD K (tLc (iList K tl) (gName j) tt te vs) σ H (givD xs.length b g) := fun H0 e Q q => h H0 e _ fun H1 e1 => ⟨a, rfl, ⟨xs, ex_l (e.trans e1) hx⟩, fun Dl hD =>
  have g0 : ∀ i, i < xs.length → xs[i]? = some (xs.getD i .non) := fun i hi => by rw [List.getD_eq_getElem?_getD, List.getElem?_eq_getElem hi]; rfl
  lc_data walk_list (fun i => xs.getD i .non) (fun i H x H' hi y => ⟨y.1, Option.some.inj (y.2.symm.trans (g0 i hi))⟩) hz hw (fun H' e' => ex_l ((e.trans e1).trans e') hx) ht (fun i hi H' e' => hb i _ (g0 i hi) H' ((e.trans e1).trans e')) (fun i hi hbi H' e' => he i _ (g0 i hi) hbi H' ((e.trans e1).trans e')) hD
    (fun xs H' e' h1 h2 => q Dl xs H' (fresh_back e1 hD) (e1.trans e') h1 h2)⟩
/-- .. l a list made on the way -/
theorem eld_lcNL {xs : List V} {b : Nat → Bool} {g : Nat → PyData} (h : EvL tl σ H xs) (hz : xs.length ≤ 90000) (hw : ∀ x, wipe ((wipe σ vs).set j (some x)) vs = wipe σ vs) (ht : ∀ i, i < xs.length → tupO (g i) = true)
    (hb : ∀ i x, xs[i]? = some x → ∀ H', Ex H H' → EvT tt ((wipe σ vs).set j (some x)) H' (b i)) (he : ∀ i x, xs[i]? = some x → b i = true → ∀ H', Ex H H' → EvD K te ((wipe σ vs).set j (some x)) H' (g i)) :
    EvLD K (tLc (iList K tl) (gName j) tt te vs) σ H (givD xs.length b g) := fun H0 e Q q => h H0 e _ fun a H1 ha e1 h1 => ⟨a, rfl, ⟨xs, sq_of h1⟩, fun Dl hD =>
  have g0 : ∀ i, i < xs.length → xs[i]? = some (xs.getD i .non) := fun i hi => by rw [List.getD_eq_getElem?_getD, List.getElem?_eq_getElem hi]; rfl
  lc_data walk_list (fun i => xs.getD i .non) (fun i H x H' hi y => ⟨y.1, Option.some.inj (y.2.symm.trans (g0 i hi))⟩) hz hw (fun H' e' => sq_of (e' _ _ h1)) ht (fun i hi H' e' => hb i _ (g0 i hi) H' ((e.trans e1).trans e')) (fun i hi hbi H' e' => he i _ (g0 i hi) hbi H' ((e.trans e1).trans e')) hD
    (fun xs H' e' h1 h2 => q Dl xs H' (fresh_back e1 hD) (e1.trans e') h1 h2)⟩
/-- {k: v for x in ..}, by a word of the turn and the heap -/
theorem dc_it {J : It} {n : Nat} {G : Hp → Prop} {Y : Nat → Hp → V → Hp → Prop} (w : Walk J n G Y) {g : TG} {Dl : Addr} {Qd : Hp → Prop} (Pv : Nat → Hp → Prop) (h0 : Pv 0 (upd H1 Dl (.dK []))) (hG : ∀ i H, i ≤ n → Pv i H → G H)
    (hs : ∀ i x H H', i < n → Pv i H → Y i H x H' → g x (wipe σ vs) H' fun σ2 H2 => wipe σ2 vs = wipe σ vs ∧ tt σ2 H2 fun b H3 =>
      if b = true then tk σ2 H3 fun y H4 => tv σ2 H4 fun z H5 => ∃ kvs k, y = kV k ∧ H5 Dl = some (.dK kvs) ∧ kvs.length < sizeLine ∧ Pv (i + 1) (upd H5 Dl (.dK (putK kvs k z))) else Pv (i + 1) H3) (hd : ∀ H, Pv n H → Qd H) :
    ∃ W : Nat → Nat → Hp → Prop, (∃ m, W 0 m (upd H1 Dl (.dK []))) ∧ ∀ i m H, W i m H →
      (J.stop i H ∧ Qd H) ∨ (J.go i H ∧ ∃ Nx : Hp → Prop, (∀ H', Nx H' → ∃ m', m' < m ∧ W (i + 1) m' H') ∧ ∀ x H', J.yld i H x H' → g x (wipe σ vs) H' fun σ2 H2 => wipe σ2 vs = wipe σ vs ∧ tt σ2 H2 fun b H3 =>
        if b = true then tk σ2 H3 fun y H4 => tv σ2 H4 fun z H5 => ∃ kvs k, y = kV k ∧ H5 Dl = some (.dK kvs) ∧ kvs.length < sizeLine ∧ Nx (upd H5 Dl (.dK (putK kvs k z))) else Nx H3) := by
  refine ⟨fun i m H => m = n - i ∧ i ≤ n ∧ Pv i H, ⟨n, by simp, Nat.zero_le _, h0⟩, ?_⟩
  rintro i m H ⟨rfl, hi, p⟩
  have q := hG i H hi p
  by_cases hlt : i < n
  · exact .inr ⟨w.goes i H hlt q, Pv (i + 1), fun H' p' => ⟨n - (i + 1), by omega, rfl, hlt, p'⟩, fun x H' y => hs i x H H' hlt p (w.yields i H x H' hlt q y)⟩
  · have e : i = n := by omega
    subst e
    exact .inl ⟨w.stops H q, hd H p⟩
end
section
variable {K : PySem.W.Frag} {σ : L2.St} {H : Hp} {ta tv : TE} {D : Ends} {tz : TS} {a C dx : Addr} {fs : List (Str × V)} {f : Str}
theorem s_fldLD {ds : List PyData} (hv : EvLD K tv σ H ds) (ha : Ev ta σ H (.ref a)) (ho : H a = some (.ins C dx fs)) (hc : Cls K C) (hn : NoAttr K C f) (hz : fs.length < 1000) (k : ∀ p xs H1, H p = none → Ex H H1 → H1 p = some (.lst xs) → DpAll K H1 xs ds → D.nx σ (upd H1 a (.ins C dx (putF f (.ref p) fs)))) : sFld K ta tv f D σ H :=
  hv H (Ex.refl H) _ fun p xs H1 hp e1 h1 hd => ha H1 e1 _ fun H2 e2 => ⟨a, C, dx, fs, rfl, e2 _ _ (e1 _ _ ho), hc, hn, hz, k p xs H2 hp (e1.trans e2) (e2 _ _ h1) (hd.ex e2)⟩
theorem q_fldLD {ds : List PyData} (hv : EvLD K tv σ H ds) (ha : Ev ta σ H (.ref a)) (ho : H a = some (.ins C dx fs)) (hc : Cls K C) (hn : NoAttr K C f) (hz : fs.length < 1000) (k : ∀ p xs H1, H p = none → Ex H H1 → H1 p = some (.lst xs) → DpAll K H1 xs ds → tz D σ (upd H1 a (.ins C dx (putF f (.ref p) fs)))) : tSeq (sFld K ta tv f) tz D σ H :=
  s_fldLD (D := { D with nx := tz D }) hv ha ho hc hn hz k
end
section
variable {K : PySem.W.Frag} {σ : L2.St} {H : Hp} {tl tk tv : TE} {tt : TT} {g : TG} {vs : List Nat} {P : V → Hp → Prop} {a : Addr} {xs : List V}
/-- what one turn of a dict comprehension is asked -/
def DcTurn (g : TG) (tt : TT) (tk tv : TE) (vs : List Nat) (σ : L2.St) (Dt : Addr) (N : Hp → Prop) (x : V) (H : Hp) : Prop := g x (wipe σ vs) H fun σ2 H2 => wipe σ2 vs = wipe σ vs ∧ tt σ2 H2 fun b H3 =>
      if b = true then tk σ2 H3 fun y H4 => tv σ2 H4 fun z H5 => ∃ kvs k, y = kV k ∧ H5 Dt = some (.dK kvs) ∧ kvs.length < sizeLine ∧ N (upd H5 Dt (.dK (putK kvs k z))) else N H3
theorem ep_dcL (h : Ev tl σ H (.ref a)) (hx : SqL K H a xs) (k : ∀ H4, Ex H H4 → ∀ Dt, H4 Dt = none → ∃ Pv : Nat → Hp → Prop, Pv 0 (upd H4 Dt (.dK [])) ∧ (∀ i H', i ≤ xs.length → Pv i H' → SqL K H' a xs) ∧
    (∀ i x H', xs[i]? = some x → Pv i H' → DcTurn g tt tk tv vs σ Dt (Pv (i + 1)) x H') ∧ ∀ H', Pv xs.length H' → P (.ref Dt) H') : EvP (tDc (iList K tl) g tt tk tv vs) σ H P := fun Q q =>
  h H (Ex.refl H) _ fun H4 e4 => ⟨a, rfl, ⟨xs, ex_l e4 hx⟩, fun Dt nDt => by
    obtain ⟨Pv, h0, hG, hs, hd⟩ := k H4 e4 Dt nDt
    exact dc_it (walk_list (xs := xs)) Pv h0 hG (fun i x H5 H6 hi p y => by
      obtain ⟨e, hv⟩ := y
      subst e
      exact hs i x _ hv p) (fun H' p => q _ H' (hd H' p))⟩
theorem ep_dcT (h : Ev tl σ H (.ref a)) (hx : SqT K H a xs) (k : ∀ H4, Ex H H4 → ∀ Dt, H4 Dt = none → ∃ Pv : Nat → Hp → Prop, Pv 0 (upd H4 Dt (.dK [])) ∧ (∀ i H', i ≤ xs.length → Pv i H' → SqT K H' a xs) ∧
    (∀ i x H', xs[i]? = some x → Pv i H' → DcTurn g tt tk tv vs σ Dt (Pv (i + 1)) x H') ∧ ∀ H', Pv xs.length H' → P (.ref Dt) H') : EvP (tDc (iTup K tl) g tt tk tv vs) σ H P := fun Q q =>
  h H (Ex.refl H) _ fun H4 e4 => ⟨a, rfl, ⟨xs, ex_t e4 hx⟩, fun Dt nDt => by
    obtain ⟨Pv, h0, hG, hs, hd⟩ := k H4 e4 Dt nDt
    exact dc_it (walk_tup (xs := xs)) Pv h0 hG (fun i x H5 H6 hi p y => by
      obtain ⟨e, hv⟩ := y
      subst e
      exact hs i x _ hv p) (fun H' p => q _ H' (hd H' p))⟩
end
theorem filter_all {α : Type} (l : List α) : l.filter (fun _ => true) = l := by induction l with
  | nil => rfl
  | cons a r ih => rw [List.filter_cons, if_pos rfl, ih]
/-! ### range(0, len - 3, 4) -/
theorem rgC4 (L : Nat) (h : L ≤ 100000) : RgC 0 ((L : Int) - 3) 4 (L / 4) := by
  have hs : Builtin.Range.rangeSize 0 ((L : Int) - 3) 4 = ((L / 4 : Nat) : Int) := by
    unfold Builtin.Range.rangeSize
    simp only [show (4 : Int) > 0 by decide, if_true]
    split
    · omega
    · omega
  refine ⟨by decide, by decide, ?_, hs⟩
  unfold Builtin.Range.small
  rw [hs]
  simp only [Builtin.Range.rangeFitsLong, Bool.and_eq_true, Bool.or_eq_true, decide_eq_true_eq, beq_iff_eq, show (4 : Int) > 0 by decide, if_true]
  omega
/-! ### a tuple of two ints taken apart -/
theorem g_tup2 {K : PySem.W.Frag} {σ : L2.St} {H : Hp} {a : Addr} {x y : V} {i j : Nat} {Q : L2.St → Hp → Prop} (h : SqT K H a [x, y]) (q : Q ((σ.set i (some x)).set j (some y)) H) : gTup K 2 (gCons (gName i) (gCons (gName j) gNil)) (.ref a) σ H Q :=
  ⟨a, [x, y], rfl, h, rfl, x, [y], rfl, y, [], rfl, rfl, q⟩
end Gd

set_option Elab.async false
set_option linter.all false
set_option maxRecDepth 100000
set_option maxHeartbeats 4000000
/-! Of our own: walks over enumerate. -/
namespace Gd
open PySem PySem.Spec PyProof.Rows L2 Evl
section
variable {K : PySem.W.Frag} {σ : L2.St} {H : Hp} {D : Ends} {tu tz : TS} {te : TE} {a : Addr} {xs : List V} {j1 j2 : Nat}
theorem s_forE (h : Ev te σ H (.ref a)) (hx : SqL K H a xs) (Pv : Nat → L2.St → Hp → Prop) (h0 : ∀ H1, Ex H H1 → Pv 0 σ H1) (hG : ∀ i σ' H', i ≤ xs.length → Pv i σ' H' → SqL K H' a xs)
    (hs : ∀ i x σ' H' H'', xs[i]? = some x → Pv i σ' H' → Ex H' H'' → tu { D with nx := Pv (i + 1), ct := Pv (i + 1), bk := D.nx } ((σ'.set j1 (some (.int (i : Int)))).set j2 (some x)) H'') (hd : ∀ σ' H', Pv xs.length σ' H' → D.nx σ' H') :
    tFor (iEnum K (tCons te tNil)) (gTup K 2 (gCons (gName j1) (gCons (gName j2) gNil))) tu D σ H :=
  h H (Ex.refl H) _ fun H1 e1 => ⟨a, xs, rfl, ex_l e1 hx, for_it walk_enum Pv (h0 H1 e1) hG (fun i x σ' H' H'' hi p y => by
    obtain ⟨T, u, v, rfl, hT, rfl, h1, h2⟩ := y
    have h1 : u = .int (i : Int) := (Option.some.inj h1).symm
    subst h1
    exact g_tup2 (st_of upd_same) (hs i v σ' H' _ h2 p (Ex.new hT))) hd⟩
theorem q_forE (h : Ev te σ H (.ref a)) (hx : SqL K H a xs) (Pv : Nat → L2.St → Hp → Prop) (h0 : ∀ H1, Ex H H1 → Pv 0 σ H1) (hG : ∀ i σ' H', i ≤ xs.length → Pv i σ' H' → SqL K H' a xs)
    (hs : ∀ i x σ' H' H'', xs[i]? = some x → Pv i σ' H' → Ex H' H'' → tu { D with nx := Pv (i + 1), ct := Pv (i + 1), bk := tz D } ((σ'.set j1 (some (.int (i : Int)))).set j2 (some x)) H'') (hd : ∀ σ' H', Pv xs.length σ' H' → tz D σ' H') :
    tSeq (tFor (iEnum K (tCons te tNil)) (gTup K 2 (gCons (gName j1) (gCons (gName j2) gNil))) tu) tz D σ H := s_forE (D := { D with nx := tz D }) h hx Pv h0 hG hs hd
end
end Gd

set_option Elab.async false
set_option linter.all false
set_option maxRecDepth 100000
set_option maxHeartbeats 4000000
/-! Of our own: the machine, mirrored; what holds of its objects. -/
namespace Gd
open PySem PySem.Spec PyProof.Rows L2 Evl
/-! ### nodes of an image -/
abbrev Nd := Int × Int × Int
def rowsOf : List Int → List (Int × Nd)
  | a :: b :: c :: d :: r => (a, b, c, d) :: rowsOf r
  | _ => []
def pickR (k : Int) (acc : Option Nd) (r : Int × Nd) : Option Nd := if r.1 = k then some r.2 else acc
def nodeIn (rows : List (Int × Nd)) (k : Int) : Option Nd := rows.foldl (pickR k) none
def nodeAt (im : List Int) (k : Int) : Option Nd := nodeIn (rowsOf im) k
def rowL (r : Int × Nd) : List Int := [r.1, r.2.1, r.2.2.1, r.2.2.2]
def ndL (n : Nd) : List Int := [n.1, n.2.1, n.2.2]
def rowD (r : Int × Nd) : PyData := .tuple ((rowL r).map PyData.int)
theorem rows_len : ∀ im : List Int, (rowsOf im).length = im.length / 4
  | [] => rfl
  | [_] => by simp [rowsOf]
  | [_, _] => by simp [rowsOf]
  | [_, _, _] => by simp [rowsOf]
  | a :: b :: c :: d :: r => by
    rw [rowsOf, List.length_cons, rows_len r]
    simp only [List.length_cons]
    omega
theorem rows_at : ∀ (im : List Int) (i : Nat) (r : Int × Nd), (rowsOf im)[i]? = some r → (im.drop (4 * i)).take 4 = rowL r
  | [], _, _, h => by simp [rowsOf] at h
  | [_], _, _, h => by simp [rowsOf] at h
  | [_, _], _, _, h => by simp [rowsOf] at h
  | [_, _, _], _, _, h => by simp [rowsOf] at h
  | a :: b :: c :: d :: t, 0, r, h => by
    rw [rowsOf] at h
    simp at h
    subst h
    rfl
  | a :: b :: c :: d :: t, i + 1, r, h => by
    rw [rowsOf, List.getElem?_cons_succ] at h
    have e : 4 * (i + 1) = 4 * i + 1 + 1 + 1 + 1 := by omega
    rw [e]
    exact rows_at t i r h
/-- a dict that holds nodes by their numbers: tuples or lists of three -/
def TabT (K : PySem.W.Frag) (H : Hp) (kvs : List (Key × V)) (f : Int → Option Nd) : Prop := ∀ k, match f k with
  | none => valV kvs (Sum.inl k) = none
  | some n => ∃ p, valV kvs (Sum.inl k) = some (.ref p) ∧ SqT K H p ((ndL n).map V.int)
def TabL (K : PySem.W.Frag) (H : Hp) (kvs : List (Key × V)) (f : Int → Option Nd) : Prop := ∀ k, match f k with
  | none => valV kvs (Sum.inl k) = none
  | some n => ∃ p, valV kvs (Sum.inl k) = some (.ref p) ∧ H p = some (.lst ((ndL n).map V.int))
theorem TabT.ex {K : PySem.W.Frag} {H H' : Hp} {kvs : List (Key × V)} {f : Int → Option Nd} (h : TabT K H kvs f) (e : Ex H H') : TabT K H' kvs f := fun k => by
  have := h k
  cases q : f k with
  | none => rw [q] at this; exact this
  | some n => rw [q] at this; obtain ⟨p, h1, h2⟩ := this; exact ⟨p, h1, ex_t e h2⟩
theorem TabL.ex {K : PySem.W.Frag} {H H' : Hp} {kvs : List (Key × V)} {f : Int → Option Nd} (h : TabL K H kvs f) (e : ∀ a xs, H a = some (.lst xs) → H' a = some (.lst xs)) : TabL K H' kvs f := fun k => by
  have := h k
  cases q : f k with
  | none => rw [q] at this; exact this
  | some n => rw [q] at this; obtain ⟨p, h1, h2⟩ := this; exact ⟨p, h1, e _ _ h2⟩
/-- one of the image's cells, or 0 -/
def cellAt (im : List Int) (i : Int) : Int := (atI im i).getD 0
/-! ### the machine -/
structure MS where
  a : Int
  st : List Int
  sd : List (Int × Int)
  bk : List Int
  p : Int
  ou : List Int
  n : Int
def ms0 : MS := ⟨0, [], [], [], 0, [], 0⟩
def topM (s : MS) : Int := s.st.getLast?.getD 0
def popM (s : MS) : MS := { s with st := s.st.dropLast }
def pushM (s : MS) (v : Int) : MS := { s with st := s.st ++ [v] }
def lookM (s : MS) (k : Int) : Int := (getI s.sd k).getD 0
def putM (s : MS) (k v : Int) : MS := { s with sd := putI s.sd k v }
def callM (s : MS) (k : Int) : MS := { s with bk := s.bk ++ [s.a], a := k }
def combI (op x y : Int) : Int := if op = 43 then x + y else if op = 45 then x - y else if op = 42 then 10 * x + y else if op = 60 then (if x < y then 1 else 0) else (if x = y then 1 else 0)
abbrev ActF := List Int → List Int → Nd → MS → MS
def aPush : ActF := fun _ _ n s => pushM s n.2.1
def aComb : ActF := fun _ _ n s => pushM (popM (popM s)) (combI n.1 (topM (popM s)) (topM s))
def aGet : ActF := fun _ _ _ s => pushM (popM s) (lookM s (topM s))
def aPut : ActF := fun _ _ _ s => putM (popM (popM s)) (topM s) (topM (popM s))
def aSet : ActF := fun _ _ n s => putM (popM s) n.2.1 (topM s)
def aTake : ActF := fun _ nums _ s => if s.p < nums.length then { (pushM s ((atI nums s.p).getD 0)) with p := s.p + 1 } else pushM s (-1)
def aRew : ActF := fun _ _ _ s => { s with p := 0 }
def aWrite : ActF := fun _ _ _ s => { (popM s) with ou := s.ou ++ [topM s] }
def aCell : ActF := fun im _ _ s => pushM (popM s) (cellAt im (topM s))
def aDrop : ActF := fun _ _ _ s => popM s
def aDouble : ActF := fun _ _ _ s => pushM (pushM (popM s) (topM s)) (topM s)
def aExch : ActF := fun _ _ _ s => pushM (pushM (popM (popM s)) (topM s)) (topM (popM s))
def aBranch : ActF := fun _ _ n s => if topM s = 0 then { (popM s) with a := n.2.1 } else popM s
def aCallP : ActF := fun _ _ _ s => callM (popM s) (topM s)
def canC (im : List Int) (k : Int) : Bool := (decide (1 ≤ k) && decide (k ≤ 199)) && (nodeAt im k).isSome
def aCallD : ActF := fun im _ _ s => if canC im (topM s) = true then callM (popM s) (topM s) else pushM (popM s) (topM s)
def aRet : ActF := fun _ _ _ s => match s.bk.getLast? with
  | none => s
  | some b => { s with bk := s.bk.dropLast, a := b }
def isSm (c : Int) : Bool := decide (97 ≤ c) && decide (c ≤ 122)
def isCp (c : Int) : Bool := decide (65 ≤ c) && decide (c ≤ 90)
def ACTS : List (Int × ActF) := [(35, aPush), (43, aComb), (45, aComb), (42, aComb), (60, aComb), (126, aComb), (64, aGet), (33, aPut), (61, aSet), (44, aTake), (94, aRew), (46, aWrite), (38, aCell), (95, aDrop), (34, aDouble), (92, aExch), (63, aBranch), (40, aCallP), (36, aCallD), (41, aRet)]
def perfM : ActF := fun im nums n s => match ACTS.lookup n.1 with
  | some f => f im nums n s
  | none => if isSm n.1 = true then pushM s (lookM s n.1) else if isCp n.1 = true then callM s n.1 else s
def goM (s : MS) (n : Nd) : MS := { s with a := n.2.2, n := s.n + 1 }
def stepM (im nums : List Int) (s : MS) : Option MS := (nodeAt im s.a).map fun n => perfM im nums n (goM s n)
/-! ### plain forms -/
structure PS where
  a : Int
  st : List Int
  pr : List (Int × Int)
  bk : List Int
  p : Int
  ou : List Int
def pairsOf (sd : List (Int × Int)) : List (Int × Int) := ((srt (sd.map (·.1))).filter fun k => (getI sd k).getD 0 ≠ 0).map fun k => (k, (getI sd k).getD 0)
def plainM (s : MS) : PS := ⟨s.a, s.st, pairsOf s.sd, s.bk, s.p, s.ou⟩
def ofPlain (t : PS) : MS := ⟨t.a, t.st, t.pr.foldl (fun sd q => putI sd q.1 q.2) [], t.bk, t.p, t.ou, 0⟩
def pairD (q : Int × Int) : PyData := .tuple ([q.1, q.2].map PyData.int)
def plainD (t : PS) : PyData := .tuple [.int t.a, .tuple (t.st.map PyData.int), .tuple (t.pr.map pairD), .tuple (t.bk.map PyData.int), .int t.p, .tuple (t.ou.map PyData.int)]
def optD (o : Option PS) : PyData := match o with
  | none => .none
  | some t => plainD t
def lstepM (im nums : List Int) (t : PS) : Option PS := (stepM im nums (ofPlain t)).map plainM
/-! ### sizes -/
structure Sz (B : Nat) (s : MS) : Prop where
  st : s.st.length ≤ B
  sd : s.sd.length ≤ B
  bk : s.bk.length ≤ B
  ou : s.ou.length ≤ B
theorem Sz.mono {B B' : Nat} {s : MS} (h : Sz B s) (hb : B ≤ B') : Sz B' s := ⟨by have := h.st; omega, by have := h.sd; omega, by have := h.bk; omega, by have := h.ou; omega⟩
theorem Sz.pop {B : Nat} {s : MS} (h : Sz B s) : Sz B (popM s) := ⟨by have := h.st; show s.st.dropLast.length ≤ B; rw [List.length_dropLast]; omega, h.sd, h.bk, h.ou⟩
theorem Sz.push {B : Nat} {s : MS} {v : Int} (h : Sz B s) : Sz (B + 1) (pushM s v) := ⟨by have := h.st; show (s.st ++ [v]).length ≤ B + 1; rw [List.length_append]; simp; omega, by have := h.sd; show s.sd.length ≤ _; omega, by have := h.bk; show s.bk.length ≤ _; omega, by have := h.ou; show s.ou.length ≤ _; omega⟩
theorem Sz.put {B : Nat} {s : MS} {k v : Int} (h : Sz B s) : Sz (B + 1) (putM s k v) := ⟨by have := h.st; show s.st.length ≤ _; omega, by have := h.sd; have := putI_len s.sd k v; show (putI s.sd k v).length ≤ _; omega, by have := h.bk; show s.bk.length ≤ _; omega, by have := h.ou; show s.ou.length ≤ _; omega⟩
theorem Sz.call {B : Nat} {s : MS} {k : Int} (h : Sz B s) : Sz (B + 1) (callM s k) := ⟨by have := h.st; show s.st.length ≤ _; omega, by have := h.sd; show s.sd.length ≤ _; omega, by have := h.bk; show (s.bk ++ [s.a]).length ≤ _; rw [List.length_append]; simp; omega, by have := h.ou; show s.ou.length ≤ _; omega⟩
theorem Sz.go {B : Nat} {s : MS} {n : Nd} (h : Sz B s) : Sz B (goM s n) := ⟨h.st, h.sd, h.bk, h.ou⟩
theorem pop_len (s : MS) : (popM s).st.length = s.st.length - 1 := List.length_dropLast

theorem act_cases {P : ActF → Prop} {c : Int} {f : ActF} (h : ACTS.lookup c = some f) (hP : ∀ e ∈ ACTS, P e.2) : P f := by
  have : (c, f) ∈ ACTS := by
    revert h
    generalize ACTS = L
    induction L with
    | nil => intro h; cases h
    | cons e r ih =>
      obtain ⟨k, g⟩ := e
      intro h
      rw [List.lookup_cons] at h
      by_cases q : c = k
      · subst q
        rw [beq_self_eq_true] at h
        cases h
        exact List.mem_cons_self
      · rw [show (c == k) = false by simpa using q] at h
        exact List.mem_cons_of_mem _ (ih h)
  exact hP _ this
theorem Sz.act {B : Nat} {s : MS} {c : Int} {f : ActF} {im nums : List Int} {n : Nd} (h : Sz B s) (hf : ACTS.lookup c = some f) : Sz (B + 2) (f im nums n s) := by
  have h1 := h.mono (Nat.le_succ B)
  have h2 := h1.mono (Nat.le_succ (B + 1))
  have hp := h.pop
  have hpp := hp.pop
  refine act_cases (P := fun f => Sz (B + 2) (f im nums n s)) hf ?_
  unfold ACTS
  simp only [List.mem_cons, List.not_mem_nil, or_false, forall_eq_or_imp, forall_eq]
  refine ⟨?_, ?_, ?_, ?_, ?_, ?_, ?_, ?_, ?_, ?_, ?_, ?_, ?_, ?_, ?_, ?_, ?_, ?_, ?_, ?_⟩
  · exact h.push.mono (by omega)
  iterate 5 exact hpp.push.mono (by omega)
  · exact hp.push.mono (by omega)
  · exact hpp.put.mono (by omega)
  · exact hp.put.mono (by omega)
  · unfold aTake
    split
    · exact ⟨(h.push (v := _)).mono (Nat.le_succ (B + 1)) |>.st, h2.sd, h2.bk, h2.ou⟩
    · exact h.push.mono (by omega)
  · exact ⟨h2.st, h2.sd, h2.bk, h2.ou⟩
  · refine ⟨(hp.mono (by omega : B ≤ B + 2)).st, h2.sd, h2.bk, ?_⟩
    have := h.ou
    show (s.ou ++ [topM s]).length ≤ _
    rw [List.length_append]
    simp
    omega
  · exact hp.push.mono (by omega)
  · exact hp.mono (by omega)
  · exact hp.push.push.mono (by omega)
  · exact hpp.push.push.mono (by omega)
  · unfold aBranch
    split
    · exact ⟨(hp.mono (by omega : B ≤ B + 2)).st, h2.sd, h2.bk, h2.ou⟩
    · exact hp.mono (by omega)
  · exact hp.call.mono (by omega)
  · unfold aCallD
    split
    · exact hp.call.mono (by omega)
    · exact hp.push.mono (by omega)
  · unfold aRet
    split
    · exact h2
    · refine ⟨h2.st, h2.sd, ?_, h2.ou⟩
      have := h.bk
      show s.bk.dropLast.length ≤ _
      rw [List.length_dropLast]
      omega
theorem Sz.perf {B : Nat} {s : MS} {im nums : List Int} {n : Nd} (h : Sz B s) : Sz (B + 2) (perfM im nums n s) := by
  unfold perfM
  split
  · rename_i f hf
    exact h.act hf
  · split
    · exact h.push.mono (by omega)
    · split
      · exact h.call.mono (by omega)
      · exact h.mono (by omega)
theorem Sz.step {B : Nat} {s s' : MS} {im nums : List Int} (h : Sz B s) (e : stepM im nums s = some s') : Sz (B + 2) s' := by
  unfold stepM at e
  cases q : nodeAt im s.a with
  | none => rw [q] at e; cases e
  | some n => rw [q] at e; cases e; exact h.go.perf
/-! ### the objects of a state -/
structure AM where
  x : Addr
  dx : Addr
  n : Addr
  qn : Addr
  qs : Addr
  qd : Addr
  qb : Addr
  qo : Addr
def AM.L (A : AM) : List Addr := [A.x, A.qs, A.qd, A.qb, A.qo]
def FM (s : MS) (A : AM) : List (Str × V) := [("nodes", .ref A.n), ("numbers", .ref A.qn), ("at", .int s.a), ("stack", .ref A.qs), ("store", .ref A.qd), ("back", .ref A.qb), ("place", .int s.p), ("output", .ref A.qo), ("steps", .int s.n)]
structure NodesAt (K : PySem.W.Frag) (CN : Addr) (F : Hp) (n : Addr) (im : List Int) : Prop where
  ex : ∃ (dn qc qr qt : Addr) (kvs : List (Key × V)), F n = some (.ins CN dn [("_cells", .ref qc), ("_rows", .ref qr), ("_table", .ref qt)]) ∧ SqL K F qc (im.map V.int) ∧ Dp K F (.ref qr) (.list ((rowsOf im).map rowD)) ∧ F qt = some (.dK kvs) ∧ TabT K F kvs (nodeAt im)
  len : im.length ≤ 60000
theorem NodesAt.mono {K : PySem.W.Frag} {CN : Addr} {F H : Hp} {n : Addr} {im : List Int} (h : NodesAt K CN F n im) (e : Ex F H) : NodesAt K CN H n im := by
  obtain ⟨dn, qc, qr, qt, kvs, h1, h2, h3, h4, h5⟩ := h.ex
  exact ⟨⟨dn, qc, qr, qt, kvs, e _ _ h1, ex_l e h2, h3.ex e, e _ _ h4, h5.ex e⟩, h.len⟩
structure RM (K : PySem.W.Frag) (C CN : Addr) (F H : Hp) (A : AM) (im nums : List Int) (s : MS) : Prop where
  fr : Ex F H
  fx : F A.x = none
  fs : F A.qs = none
  fd : F A.qd = none
  fb : F A.qb = none
  fo : F A.qo = none
  ox : H A.x = some (.ins C A.dx (FM s A))
  os : H A.qs = some (.lst (s.st.map V.int))
  od : H A.qd = some (.dK (kvI s.sd))
  ob : H A.qb = some (.lst (s.bk.map V.int))
  oo : H A.qo = some (.lst (s.ou.map V.int))
  n1 : A.qs ≠ A.qb
  n2 : A.qs ≠ A.qo
  n3 : A.qb ≠ A.qo
  nd : NodesAt K CN F A.n im
  nu : SqL K F A.qn (nums.map V.int)
  pp : 0 ≤ s.p
section
variable {K : PySem.W.Frag} {C CN : Addr} {F H H' : Hp} {A : AM} {im nums : List Int} {s : MS}
theorem RM.ex (h : RM K C CN F H A im nums s) (e : Ex H H') : RM K C CN F H' A im nums s :=
  { h with fr := h.fr.trans e, ox := e _ _ h.ox, os := e _ _ h.os, od := e _ _ h.od, ob := e _ _ h.ob, oo := e _ _ h.oo }
theorem RM.ndH (h : RM K C CN F H A im nums s) : NodesAt K CN H A.n im := h.nd.mono h.fr
theorem RM.nuH (h : RM K C CN F H A im nums s) : SqL K H A.qn (nums.map V.int) := ex_l h.fr h.nu
theorem ne_of2 {H : Hp} {a b : Addr} {o u : HO} (h : H a = some o) (g : H b = some u) (n : o ≠ u) : a ≠ b := fun e => by
  subst e
  rw [h] at g
  exact n (Option.some.inj g)
theorem RM.stk (h : RM K C CN F H A im nums s) (l : List Int) : RM K C CN F (upd H A.qs (.lst (l.map V.int))) A im nums { s with st := l } :=
  { h with
    fr := h.fr.mut h.fs
    ox := by rw [upd_ne (ne_of2 h.ox h.os (by intro z; cases z))]; exact h.ox
    os := upd_same
    od := by rw [upd_ne (ne_of2 h.od h.os (by intro z; cases z))]; exact h.od
    ob := by rw [upd_ne h.n1.symm]; exact h.ob
    oo := by rw [upd_ne h.n2.symm]; exact h.oo }
theorem RM.bck (h : RM K C CN F H A im nums s) (l : List Int) : RM K C CN F (upd H A.qb (.lst (l.map V.int))) A im nums { s with bk := l } :=
  { h with
    fr := h.fr.mut h.fb
    ox := by rw [upd_ne (ne_of2 h.ox h.ob (by intro z; cases z))]; exact h.ox
    os := by rw [upd_ne h.n1]; exact h.os
    od := by rw [upd_ne (ne_of2 h.od h.ob (by intro z; cases z))]; exact h.od
    ob := upd_same
    oo := by rw [upd_ne h.n3.symm]; exact h.oo }
theorem RM.out (h : RM K C CN F H A im nums s) (l : List Int) : RM K C CN F (upd H A.qo (.lst (l.map V.int))) A im nums { s with ou := l } :=
  { h with
    fr := h.fr.mut h.fo
    ox := by rw [upd_ne (ne_of2 h.ox h.oo (by intro z; cases z))]; exact h.ox
    os := by rw [upd_ne h.n2]; exact h.os
    od := by rw [upd_ne (ne_of2 h.od h.oo (by intro z; cases z))]; exact h.od
    ob := by rw [upd_ne h.n3]; exact h.ob
    oo := upd_same }
theorem RM.sto (h : RM K C CN F H A im nums s) (l : List (Int × Int)) : RM K C CN F (upd H A.qd (.dK (kvI l))) A im nums { s with sd := l } :=
  { h with
    fr := h.fr.mut h.fd
    ox := by rw [upd_ne (ne_of2 h.ox h.od (by intro z; cases z))]; exact h.ox
    os := by rw [upd_ne (ne_of2 h.os h.od (by intro z; cases z))]; exact h.os
    od := upd_same
    ob := by rw [upd_ne (ne_of2 h.ob h.od (by intro z; cases z))]; exact h.ob
    oo := by rw [upd_ne (ne_of2 h.oo h.od (by intro z; cases z))]; exact h.oo }
theorem RM.fld (h : RM K C CN F H A im nums s) (s' : MS) (hp : 0 ≤ s'.p) (e1 : s'.st = s.st) (e2 : s'.sd = s.sd) (e3 : s'.bk = s.bk) (e4 : s'.ou = s.ou) : RM K C CN F (upd H A.x (.ins C A.dx (FM s' A))) A im nums s' :=
  { h with
    fr := h.fr.mut h.fx
    ox := upd_same
    os := by rw [upd_ne (ne_of2 h.os h.ox (by intro z; cases z)), e1]; exact h.os
    od := by rw [upd_ne (ne_of2 h.od h.ox (by intro z; cases z)), e2]; exact h.od
    ob := by rw [upd_ne (ne_of2 h.ob h.ox (by intro z; cases z)), e3]; exact h.ob
    oo := by rw [upd_ne (ne_of2 h.oo h.ox (by intro z; cases z)), e4]; exact h.oo
    pp := hp }
theorem RM.noT (h : RM K C CN F H A im nums s) : ∀ c ∈ A.L, ∃ o, H c = some o ∧ NoTup o := by
  intro c m
  simp only [AM.L, List.mem_cons, List.not_mem_nil, or_false] at m
  rcases m with rfl | rfl | rfl | rfl | rfl
  · exact ⟨_, h.ox, nt_ins⟩
  · exact ⟨_, h.os, nt_lst⟩
  · exact ⟨_, h.od, nt_dK⟩
  · exact ⟨_, h.ob, nt_lst⟩
  · exact ⟨_, h.oo, nt_lst⟩
theorem bm_x {o : HO} (b : Bu A.L H H') : Bu A.L H (upd H' A.x o) := b.upd (.inl (by simp [AM.L]))
theorem bm_s {o : HO} (b : Bu A.L H H') : Bu A.L H (upd H' A.qs o) := b.upd (.inl (by simp [AM.L]))
theorem bm_d {o : HO} (b : Bu A.L H H') : Bu A.L H (upd H' A.qd o) := b.upd (.inl (by simp [AM.L]))
theorem bm_b {o : HO} (b : Bu A.L H H') : Bu A.L H (upd H' A.qb o) := b.upd (.inl (by simp [AM.L]))
theorem bm_o {o : HO} (b : Bu A.L H H') : Bu A.L H (upd H' A.qo o) := b.upd (.inl (by simp [AM.L]))
theorem fm_at {s : MS} {v : Int} : putF "at" (.int v) (FM s A) = FM { s with a := v } A := rfl
theorem fm_place {s : MS} {v : Int} : putF "place" (.int v) (FM s A) = FM { s with p := v } A := rfl
theorem fm_steps {s : MS} {v : Int} : putF "steps" (.int v) (FM s A) = FM { s with n := v } A := rfl
theorem fm_len {s : MS} : (FM s A).length < 1000 := by show 9 < 1000; decide
end
/-! ### the promises' shape -/
/-- a method, or an action, of a state: s becomes f s, r s comes back -/
def spM (K : PySem.W.Frag) (C CN : Addr) (B : Nat) {α : Type} (arg : α → List V) (pre : List Int → List Int → Hp → α → Prop) (f : List Int → List Int → α → MS → MS) (r : List Int → List Int → α → MS → V) : Sp := fun vs H Q _ =>
  ∃ (F : Hp) (A : AM) (im nums : List Int) (s : MS) (a : α), vs = .ref A.x :: arg a ∧ RM K C CN F H A im nums s ∧ Sz B s ∧ pre im nums H a ∧ ∀ H', RM K C CN F H' A im nums (f im nums a s) → Bu A.L H H' → Q (r im nums a s) H'
/-- what it leaves -/
def LM (K : PySem.W.Frag) (C CN : Addr) (F H : Hp) (A : AM) (im nums : List Int) (s' : MS) (v : V) : V → Hp → Prop := fun v' H' => v' = v ∧ RM K C CN F H' A im nums s' ∧ Bu A.L H H'
section
variable {K : PySem.W.Frag} {C CN : Addr} {F H H' : Hp} {A : AM} {im nums : List Int} {s : MS} {σ : L2.St} {to te : TE} {t : TA} {B : Nat} {α : Type} {arg : α → List V} {pre : List Int → List Int → Hp → α → Prop} {f : List Int → List Int → α → MS → MS} {r : List Int → List Int → α → MS → V} {m : Str} {E : XK} {dvs : List V}
theorem ep_M (a : α) (ho : Ev to σ H (.ref A.x)) (hR : RM K C CN F H A im nums s) (hm : (FM s A).lookup m = none) (hz : Sz B s) (ht : EvA t σ H (arg a)) (hp : ∀ H1, Ex H H1 → pre im nums H1 a) :
    EvP (tMeth C m (spM K C CN B arg pre f r) [] E to t) σ H (LM K C CN F H A im nums (f im nums a s) (r im nums a s)) :=
  ep_meth ho hR.ox hm ht fun H1 e1 Q k => ⟨F, A, im, nums, s, a, by rw [List.append_nil], hR.ex e1, hz, hp H1 e1, fun H' h b => k _ H' ⟨rfl, h, (ex_bu e1).trans b⟩⟩
/-- one argument, an int that a method of the same state hands back -/
theorem ep_M1 {s1 : MS} {i : Int} (arg : Int → List V) (harg : arg i = [.int i]) {pre : List Int → List Int → Hp → Int → Prop} {f : List Int → List Int → Int → MS → MS} {r : List Int → List Int → Int → MS → V} (ho : Ev to σ H (.ref A.x)) (hR : RM K C CN F H A im nums s) (hm : (FM s A).lookup m = none)
    (ht : ∀ H1, Ex H H1 → EvP te σ H1 (LM K C CN F H1 A im nums s1 (.int i))) (hz : Sz B s1) (hp : ∀ H1, pre im nums H1 i) :
    EvP (tMeth C m (spM K C CN B arg pre f r) [] E to (tCons te tNil)) σ H (LM K C CN F H A im nums (f im nums i s1) (r im nums i s1)) :=
  ep_methP (PA := fun vs H1 => vs = [.int i] ∧ RM K C CN F H1 A im nums s1 ∧ Bu A.L H H1) ho hR.ox hm (fun H1 e1 Q q => eap_one (ht H1 e1) Q fun vs H2 h2 => by
    obtain ⟨v, rfl, rfl, h3, h4⟩ := h2
    exact q _ H2 ⟨rfl, h3, (ex_bu e1).trans h4⟩) fun vs H1 h1 Q k => by
      obtain ⟨rfl, h3, h4⟩ := h1
      exact ⟨F, A, im, nums, s1, i, by rw [harg]; rfl, h3, hz, hp H1, fun H' h b => k _ H' ⟨rfl, h, h4.trans b⟩⟩
theorem lm_bk {v v0 : V} {s' : MS} {H1 : Hp} (h : LM K C CN F H1 A im nums s' v v0 H') (b : Bu A.L H H1) : LM K C CN F H A im nums s' v v0 H' := ⟨h.1, h.2.1, b.trans h.2.2⟩
end

/-- xs.pop() of a list of ints that is not empty -/
theorem ep_pop {K : PySem.W.Frag} {σ : L2.St} {H : Hp} {ta : TE} {l : Addr} {ns : List Int} (ha : Ev ta σ H (.ref l)) (hl : H l = some (.lst (ns.map V.int))) (hn : ns ≠ []) :
    EvP (tBM0 K "list" rPop ta) σ H (fun v H' => v = .int (ns.getLast?.getD 0) ∧ ∃ H1, Ex H H1 ∧ H' = upd H1 l (.lst (ns.dropLast.map V.int))) := fun Q q =>
  ha H (Ex.refl H) _ fun H1 e1 => by
    have h2 := e1 _ _ hl
    have hd : ns = ns.dropLast ++ [ns.getLast?.getD 0] := by
      rw [List.getLast?_eq_some_getLast hn]
      exact (List.dropLast_concat_getLast hn).symm
    have hm := congrArg (List.map V.int) hd
    rw [List.map_append] at hm
    refine ⟨.inl ⟨rfl, _, sq_of h2⟩, l, ns.map V.int, .int (ns.getLast?.getD 0), rfl, rfl, h2, ?_, q _ _ ⟨rfl, H1, e1, ?_⟩⟩
    · rw [hm, List.length_append]
      simp
    · congr 2
      rw [hm, List.map_cons, List.map_nil, List.dropLast_concat]
end Gd

set_option Elab.async false
set_option linter.all false
set_option maxRecDepth 100000
set_option maxHeartbeats 4000000
/-! Of our own: the machine's objects made and remade. -/
namespace Gd
open PySem PySem.Spec PyProof.Rows L2 Evl
/-- a heap without one object -/
def rmH (x : Addr) (H : Hp) : Hp := fun a => if a = x then none else H a
theorem rm_at {x a : Addr} {H : Hp} (n : a ≠ x) : rmH x H a = H a := if_neg n
theorem rm_x {x : Addr} {H : Hp} : rmH x H x = none := if_pos rfl
theorem rm_ex {x : Addr} {H : Hp} : Ex (rmH x H) H := fun a o h => by
  unfold rmH at h
  split at h
  · cases h
  · exact h
theorem ex_rm {x : Addr} {G H : Hp} (e : Ex G H) (n : G x = none) : Ex G (rmH x H) := fun a o h => by
  rw [rm_at (ne_of_none h n)]
  exact e a o h
section
variable {K : PySem.W.Frag} {H : Hp} {x C dx : Addr} {fs : List (Str × V)}
theorem sqL_rm (hx : H x = some (.ins C dx fs)) {a : Addr} {xs : List V} (h : SqL K H a xs) : SqL K (rmH x H) a xs := by
  rcases h with (h | ⟨o, h⟩) | h
  · exact .inl (.inl (by rw [rm_at (ne_of2 h hx (by intro z; cases z))]; exact h))
  · exact .inl (.inr ⟨o, by rw [rm_at (ne_of2 h hx (by intro z; cases z))]; exact h⟩)
  · exact .inr h
theorem sqT_rm (hx : H x = some (.ins C dx fs)) {a : Addr} {xs : List V} (h : SqT K H a xs) : SqT K (rmH x H) a xs := by
  rcases h with (h | ⟨o, h⟩) | h
  · exact .inl (.inl (by rw [rm_at (ne_of2 h hx (by intro z; cases z))]; exact h))
  · exact .inl (.inr ⟨o, by rw [rm_at (ne_of2 h hx (by intro z; cases z))]; exact h⟩)
  · exact .inr h
mutual
theorem dp_rm (hx : H x = some (.ins C dx fs)) : ∀ (d : PyData) (v : V), Dp K H v d → Dp K (rmH x H) v d
  | .none, _, h => by cases h; exact .non
  | .bool _, _, h => by cases h; exact .bl _
  | .int _, _, h => by cases h; exact .int _
  | .str _, _, h => by cases h; exact .str _
  | .list ds, _, h => by cases h with | lst h1 h2 => exact .lst (sqL_rm hx h1) (dpAll_rm hx ds _ h2)
  | .tuple ds, _, h => by cases h with | tup h1 h2 => exact .tup (sqT_rm hx h1) (dpAll_rm hx ds _ h2)
  | .dict _, _, h => by cases h
theorem dpAll_rm (hx : H x = some (.ins C dx fs)) : ∀ (ds : List PyData) (vs : List V), DpAll K H vs ds → DpAll K (rmH x H) vs ds
  | [], _, h => by cases h; exact .nil
  | d :: ds, _, h => by cases h with | cons a b => exact .cons (dp_rm hx d _ a) (dpAll_rm hx ds _ b)
end
theorem NodesAt.rm {CN n : Addr} {im : List Int} (h : NodesAt K CN H n im) (hx : H x = some (.ins C dx fs)) (hn : n ≠ x) : NodesAt K CN (rmH x H) n im := by
  obtain ⟨dn, qc, qr, qt, kvs, h1, h2, h3, h4, h5⟩ := h.ex
  refine ⟨⟨dn, qc, qr, qt, kvs, by rw [rm_at hn]; exact h1, sqL_rm hx h2, dp_rm hx _ _ h3, by rw [rm_at (ne_of2 h4 hx (by intro z; cases z))]; exact h4, fun k => ?_⟩, h.len⟩
  have := h5 k
  cases q : nodeAt im k with
  | none => rw [q] at this; exact this
  | some n => rw [q] at this; obtain ⟨p, g1, g2⟩ := this; exact ⟨p, g1, sqT_rm hx g2⟩
end
section
variable {K : PySem.W.Frag} {C CN : Addr} {F H H1 : Hp} {A : AM} {im nums : List Int} {s : MS} {q : Addr}
theorem RM.newS (h : RM K C CN F H A im nums s) (hq : H q = none) (e : Ex H H1) (l : List Int) (h1 : H1 q = some (.lst (l.map V.int))) : RM K C CN F (upd H1 A.x (.ins C A.dx (FM { s with st := l } { A with qs := q }))) { A with qs := q } im nums { s with st := l } :=
  have nx : q ≠ A.x := fun z => by rw [z, h.ox] at hq; cases hq
  { fr := (h.fr.trans e).mut h.fx
    fx := h.fx
    fs := by cases z : F q with
      | none => rfl
      | some o => rw [h.fr _ _ z] at hq; cases hq
    fd := h.fd
    fb := h.fb
    fo := h.fo
    ox := upd_same
    os := by show upd H1 A.x _ q = _; rw [upd_ne nx]; exact h1
    od := by show upd H1 A.x _ A.qd = _; rw [upd_ne (ne_of2 h.od h.ox (by intro z; cases z))]; exact e _ _ h.od
    ob := by show upd H1 A.x _ A.qb = _; rw [upd_ne (ne_of2 h.ob h.ox (by intro z; cases z))]; exact e _ _ h.ob
    oo := by show upd H1 A.x _ A.qo = _; rw [upd_ne (ne_of2 h.oo h.ox (by intro z; cases z))]; exact e _ _ h.oo
    n1 := fun z => by have z : q = A.qb := z; rw [z, h.ob] at hq; cases hq
    n2 := fun z => by have z : q = A.qo := z; rw [z, h.oo] at hq; cases hq
    n3 := h.n3
    nd := h.nd
    nu := h.nu
    pp := h.pp }
theorem RM.newB (h : RM K C CN F H A im nums s) (hq : H q = none) (e : Ex H H1) (l : List Int) (h1 : H1 q = some (.lst (l.map V.int))) : RM K C CN F (upd H1 A.x (.ins C A.dx (FM { s with bk := l } { A with qb := q }))) { A with qb := q } im nums { s with bk := l } :=
  have nx : q ≠ A.x := fun z => by rw [z, h.ox] at hq; cases hq
  { fr := (h.fr.trans e).mut h.fx
    fx := h.fx
    fb := by cases z : F q with
      | none => rfl
      | some o => rw [h.fr _ _ z] at hq; cases hq
    fd := h.fd
    fs := h.fs
    fo := h.fo
    ox := upd_same
    ob := by show upd H1 A.x _ q = _; rw [upd_ne nx]; exact h1
    od := by show upd H1 A.x _ A.qd = _; rw [upd_ne (ne_of2 h.od h.ox (by intro z; cases z))]; exact e _ _ h.od
    os := by show upd H1 A.x _ A.qs = _; rw [upd_ne (ne_of2 h.os h.ox (by intro z; cases z))]; exact e _ _ h.os
    oo := by show upd H1 A.x _ A.qo = _; rw [upd_ne (ne_of2 h.oo h.ox (by intro z; cases z))]; exact e _ _ h.oo
    n1 := fun z => by have z : A.qs = q := z; rw [← z, h.os] at hq; cases hq
    n3 := fun z => by have z : q = A.qo := z; rw [z, h.oo] at hq; cases hq
    n2 := h.n2
    nd := h.nd
    nu := h.nu
    pp := h.pp }
theorem RM.newO (h : RM K C CN F H A im nums s) (hq : H q = none) (e : Ex H H1) (l : List Int) (h1 : H1 q = some (.lst (l.map V.int))) : RM K C CN F (upd H1 A.x (.ins C A.dx (FM { s with ou := l } { A with qo := q }))) { A with qo := q } im nums { s with ou := l } :=
  have nx : q ≠ A.x := fun z => by rw [z, h.ox] at hq; cases hq
  { fr := (h.fr.trans e).mut h.fx
    fx := h.fx
    fo := by cases z : F q with
      | none => rfl
      | some o => rw [h.fr _ _ z] at hq; cases hq
    fd := h.fd
    fs := h.fs
    fb := h.fb
    ox := upd_same
    oo := by show upd H1 A.x _ q = _; rw [upd_ne nx]; exact h1
    od := by show upd H1 A.x _ A.qd = _; rw [upd_ne (ne_of2 h.od h.ox (by intro z; cases z))]; exact e _ _ h.od
    os := by show upd H1 A.x _ A.qs = _; rw [upd_ne (ne_of2 h.os h.ox (by intro z; cases z))]; exact e _ _ h.os
    ob := by show upd H1 A.x _ A.qb = _; rw [upd_ne (ne_of2 h.ob h.ox (by intro z; cases z))]; exact e _ _ h.ob
    n2 := fun z => by have z : A.qs = q := z; rw [← z, h.os] at hq; cases hq
    n3 := fun z => by have z : A.qb = q := z; rw [← z, h.ob] at hq; cases hq
    n1 := h.n1
    nd := h.nd
    nu := h.nu
    pp := h.pp }
theorem RM.newD (h : RM K C CN F H A im nums s) (hq : H q = none) (e : Ex H H1) (l : List (Int × Int)) (h1 : H1 q = some (.dK (kvI l))) : RM K C CN F (upd H1 A.x (.ins C A.dx (FM { s with sd := l } { A with qd := q }))) { A with qd := q } im nums { s with sd := l } :=
  have nx : q ≠ A.x := fun z => by rw [z, h.ox] at hq; cases hq
  { fr := (h.fr.trans e).mut h.fx
    fx := h.fx
    fd := by cases z : F q with
      | none => rfl
      | some o => rw [h.fr _ _ z] at hq; cases hq
    fo := h.fo
    fs := h.fs
    fb := h.fb
    ox := upd_same
    od := by show upd H1 A.x _ q = _; rw [upd_ne nx]; exact h1
    oo := by show upd H1 A.x _ A.qo = _; rw [upd_ne (ne_of2 h.oo h.ox (by intro z; cases z))]; exact e _ _ h.oo
    os := by show upd H1 A.x _ A.qs = _; rw [upd_ne (ne_of2 h.os h.ox (by intro z; cases z))]; exact e _ _ h.os
    ob := by show upd H1 A.x _ A.qb = _; rw [upd_ne (ne_of2 h.ob h.ox (by intro z; cases z))]; exact e _ _ h.ob
    n2 := h.n2
    n3 := h.n3
    n1 := h.n1
    nd := h.nd
    nu := h.nu
    pp := h.pp }
end
/-! ### a table by codes -/
theorem lookup_map {α β : Type} (L : List (Int × α)) (g : α → β) (c : Int) : (L.map fun e => (e.1, g e.2)).lookup c = (L.lookup c).map g := by
  induction L with
  | nil => rfl
  | cons e r ih =>
    rw [List.map_cons, List.lookup_cons, List.lookup_cons, ih]
    cases (c == e.1) <;> rfl
theorem mem_lookup {κ β : Type} [BEq κ] [LawfulBEq κ] {L : List (κ × β)} {c : κ} {b : β} (h : L.lookup c = some b) : (c, b) ∈ L := by
  induction L with
  | nil => cases h
  | cons e r ih =>
    obtain ⟨k, g⟩ := e
    rw [List.lookup_cons] at h
    by_cases q : c = k
    · subst q
      rw [beq_self_eq_true] at h
      cases h
      exact List.mem_cons_self
    · rw [show (c == k) = false by simpa using q] at h
      exact List.mem_cons_of_mem _ (ih h)
theorem lookup_mem {κ β : Type} [BEq κ] [LawfulBEq κ] {L : List (κ × β)} {c : κ} {b : β} (h : (c, b) ∈ L) (nd : (L.map (·.1)).Nodup) : L.lookup c = some b := by
  induction L with
  | nil => cases h
  | cons e r ih =>
    obtain ⟨k, g⟩ := e
    rw [List.map_cons, List.nodup_cons] at nd
    rw [List.lookup_cons]
    rcases List.mem_cons.mp h with q | q
    · cases q
      rw [beq_self_eq_true]
    · have : c ≠ k := fun z => nd.1 (by rw [← z]; exact List.mem_map.mpr ⟨_, q, rfl⟩)
      rw [show (c == k) = false by simpa using this]
      exact ih q nd.2
end Gd
namespace Gd
open PySem PySem.Spec PyProof.Rows L2 Evl
/-! ### plain forms, made and read -/
theorem getI_mem : ∀ {sd : List (Int × Int)} {k : Int}, k ∈ sd.map (·.1) → ∃ v, getI sd k = some v
  | [], _, h => by cases h
  | p :: r, k, h => by
    unfold getI
    by_cases q : p.1 = k
    · rw [if_pos q]; exact ⟨_, rfl⟩
    · rw [if_neg q]
      rw [List.map_cons] at h
      rcases List.mem_cons.mp h with h | h
      · exact absurd h.symm q
      · exact getI_mem h
def rSrtDI : List V → Hp → VK → Prop := fun xs H Q => ∃ (a : Addr) (kvs : List (Key × V)) (ks : List Int), xs = [.ref a] ∧ Rd H a (.dK kvs) ∧ kvs.map (·.1) = ks.map Sum.inl ∧ ks.length < 64 ∧ ∀ (ys : List Int) (p : Addr), ys.Perm ks → ys.Pairwise (· ≤ ·) → H p = none → Q (.ref p) (upd H p (.lst (ys.map V.int)))
theorem el_sortedDI {te : TE} {σ : L2.St} {H : Hp} {a : Addr} {sd : List (Int × Int)} (h : Ev te σ H (.ref a)) (hd : H a = some (.dK (kvI sd))) (hl : sd.length < 64) : EvL (tCB rSrtDI (tCons te tNil)) σ H ((srt (sd.map (·.1))).map V.int) := fun H1 e Q q =>
  h H1 e _ fun H2 e2 => ⟨a, kvI sd, sd.map (·.1), rfl, .inl (e2 _ _ (e _ _ hd)), kvI_keys sd, by rw [List.length_map]; exact hl, fun ys p hp hs hn => by
    rw [srt_uniq hp hs]
    exact q p _ (fresh_back e2 hn) (e2.trans (Ex.new hn)) upd_same⟩
theorem srt_len (ks : List Int) : (srt ks).length = ks.length := (srt_perm ks).length_eq
theorem pairD_tup (q : Int × Int) : tupO (pairD q) = true := by simp [pairD, tupO, tupOs]
theorem plain_inv {K : PySem.W.Frag} {H : Hp} {v : V} {t : PS} (h : Dp K H v (plainD t)) : ∃ (r p1 p2 p3 p5 : Addr) (ps : List V), v = .ref r ∧ SqT K H r [.int t.a, .ref p1, .ref p2, .ref p3, .int t.p, .ref p5] ∧ SqT K H p1 (t.st.map V.int) ∧ SqT K H p2 ps ∧ DpAll K H ps (t.pr.map pairD) ∧ SqT K H p3 (t.bk.map V.int) ∧ SqT K H p5 (t.ou.map V.int) := by
  obtain ⟨r, xs, rfl, h1, h2⟩ := dp_tup_inv h
  cases h2 with | cons a1 h2 => cases h2 with | cons a2 h2 => cases h2 with | cons a3 h2 => cases h2 with | cons a4 h2 => cases h2 with | cons a5 h2 => cases h2 with | cons a6 h2 =>
    cases h2
    cases a1
    cases a5
    obtain ⟨p1, rfl, g1⟩ := dp_intsT_inv a2
    obtain ⟨p2, ps, rfl, g2, g2'⟩ := dp_tup_inv a3
    obtain ⟨p3, rfl, g3⟩ := dp_intsT_inv a4
    obtain ⟨p5, rfl, g5⟩ := dp_intsT_inv a6
    exact ⟨r, p1, p2, p3, p5, ps, rfl, h1, g1, g2, g2', g3, g5⟩
theorem plainD_tup (t : PS) : tupO (plainD t) = true := by
  have hi : ∀ l : List Int, tupOs (l.map PyData.int) = true := fun l => tupOs_at fun d m => by
    obtain ⟨z, _, rfl⟩ := List.mem_map.mp m
    simp [tupO]
  have hp : tupOs (t.pr.map pairD) = true := tupOs_at fun d m => by
    obtain ⟨z, _, rfl⟩ := List.mem_map.mp m
    exact pairD_tup z
  simp [plainD, tupO, tupOs, hi, hp]
theorem optD_tup (o : Option PS) : tupO (optD o) = true := by
  cases o with
  | none => simp [optD, tupO]
  | some t => exact plainD_tup t
def stoF (pr : List (Int × Int)) : List (Int × Int) := pr.foldl (fun sd q => putI sd q.1 q.2) []
theorem stoF_len (pr : List (Int × Int)) : (stoF pr).length ≤ pr.length := by
  have key : ∀ (l : List (Int × Int)) (sd : List (Int × Int)), (l.foldl (fun sd q => putI sd q.1 q.2) sd).length ≤ sd.length + l.length := by
    intro l
    induction l with
    | nil => intro sd; exact Nat.le_refl _
    | cons q r ih =>
      intro sd
      have h1 := ih (putI sd q.1 q.2)
      have h2 := putI_len sd q.1 q.2
      rw [List.foldl_cons, List.length_cons]
      omega
  have := key pr []
  unfold stoF
  simpa using this
theorem sd_act {s : MS} {c : Int} {f : ActF} {im nums : List Int} {n : Nd} (hf : ACTS.lookup c = some f) : (f im nums n s).sd.length ≤ s.sd.length + 1 := by
  refine act_cases (P := fun f => (f im nums n s).sd.length ≤ s.sd.length + 1) hf ?_
  unfold ACTS
  simp only [List.mem_cons, List.not_mem_nil, or_false, forall_eq_or_imp, forall_eq]
  have h0 : s.sd.length ≤ s.sd.length + 1 := Nat.le_succ _
  refine ⟨h0, h0, h0, h0, h0, h0, h0, putI_len _ _ _, putI_len _ _ _, ?_, h0, h0, h0, h0, h0, h0, ?_, h0, ?_, ?_⟩
  · unfold aTake; split <;> exact h0
  · unfold aBranch; split <;> exact h0
  · unfold aCallD; split <;> exact h0
  · unfold aRet; split <;> exact h0
theorem sd_step {s s' : MS} {im nums : List Int} (e : stepM im nums s = some s') : s'.sd.length ≤ s.sd.length + 1 := by
  unfold stepM at e
  cases q : nodeAt im s.a with
  | none => rw [q] at e; cases e
  | some n =>
    rw [q] at e
    cases e
    show (perfM im nums n (goM s n)).sd.length ≤ _
    unfold perfM
    split
    · rename_i f hf
      exact sd_act hf
    · split
      · exact Nat.le_succ _
      · split <;> exact Nat.le_succ _
end Gd

set_option Elab.async false
set_option linter.all false
set_option maxRecDepth 100000
set_option maxHeartbeats 4000000
/-! Of our own: a step as the laws compute it. -/
namespace Gd
open PySem PySem.Spec PyProof.Rows L2 Evl
def tp (l : List Int) : Int := l.getLast?.getD 0
def inStk (op : Int) : Bool := decide (op = 43 ∨ op = 45 ∨ op = 42 ∨ op = 60 ∨ op = 126 ∨ op = 95 ∨ op = 34 ∨ op = 92)
def lsS (op arg : Int) (st : List Int) : List Int :=
  if op = 35 then st ++ [arg]
  else if inStk op = true then
    if op = 95 then st.dropLast
    else if op = 34 then st.dropLast ++ [tp st] ++ [tp st]
    else if op = 92 then st.dropLast.dropLast ++ [tp st] ++ [tp st.dropLast]
    else st.dropLast.dropLast ++ [combI op (tp st.dropLast) (tp st)]
  else st
def lsT (op arg : Int) (st : List Int) (sd : List (Int × Int)) : List Int × List (Int × Int) :=
  if op = 64 then (st.dropLast ++ [(getI sd (tp st)).getD 0], sd)
  else if op = 33 then (st.dropLast.dropLast, putI sd (tp st) (tp st.dropLast))
  else if op = 61 then (st.dropLast, putI sd arg (tp st))
  else if (decide (97 ≤ op) && decide (op ≤ 122)) = true then (st ++ [(getI sd op).getD 0], sd)
  else (st, sd)
def lsP (im nums : List Int) (op : Int) (st : List Int) (p : Int) (ou : List Int) : List Int × Int × List Int :=
  if op = 44 then (if p < nums.length then (st ++ [(atI nums p).getD 0], p + 1, ou) else (st ++ [-1], p, ou))
  else if op = 94 then (st, 0, ou)
  else if op = 46 then (st.dropLast, p, ou ++ [tp st])
  else if op = 38 then (st.dropLast ++ [cellAt im (tp st)], p, ou)
  else (st, p, ou)
def lsC (im : List Int) (op arg su : Int) (st bk : List Int) : List Int × List Int × Int :=
  if op = 63 then (st.dropLast, bk, if tp st = 0 then arg else su)
  else if (decide (65 ≤ op) && decide (op ≤ 90)) = true then (st, bk ++ [su], op)
  else if op = 40 then (st.dropLast, bk ++ [su], tp st)
  else if op = 36 then (if canC im (tp st) = true then (st.dropLast, bk ++ [su], tp st) else (st.dropLast ++ [tp st], bk, su))
  else if op = 41 then (match bk.getLast? with
    | none => (st, bk, su)
    | some b => (st, bk.dropLast, b))
  else (st, bk, su)
def lawM (im nums : List Int) (n : Nd) (s : MS) : MS :=
  let st1 := lsS n.1 n.2.1 s.st
  let t2 := lsT n.1 n.2.1 st1 s.sd
  let t3 := lsP im nums n.1 t2.1 s.p s.ou
  let t4 := lsC im n.1 n.2.1 n.2.2 t3.1 s.bk
  { a := t4.2.2, st := t4.1, sd := t2.2, bk := t4.2.1, p := t3.2.1, ou := t3.2.2, n := s.n }
theorem law_perf (im nums : List Int) (n : Nd) (s : MS) (ha : s.a = n.2.2) : perfM im nums n s = lawM im nums n s := by
  obtain ⟨op, arg, su⟩ := n
  obtain ⟨a, st, sd, bk, p, ou, k⟩ := s
  have ha : a = su := ha
  subst ha
  by_cases h35 : op = 35
  · subst h35
    rfl
  by_cases h43 : op = 43
  · subst h43
    rfl
  by_cases h45 : op = 45
  · subst h45
    rfl
  by_cases h42 : op = 42
  · subst h42
    rfl
  by_cases h60 : op = 60
  · subst h60
    rfl
  by_cases h126 : op = 126
  · subst h126
    rfl
  by_cases h64 : op = 64
  · subst h64
    rfl
  by_cases h33 : op = 33
  · subst h33
    rfl
  by_cases h61 : op = 61
  · subst h61
    rfl
  by_cases h44 : op = 44
  · subst h44
    show aTake im nums (44, arg, a) ⟨a, st, sd, bk, p, ou, k⟩ = _
    unfold aTake lawM lsS lsT lsP lsC
    simp only [inStk]
    by_cases h : p < (nums.length : Int)
    · simp [h, pushM]
    · simp [h, pushM]
  by_cases h94 : op = 94
  · subst h94
    rfl
  by_cases h46 : op = 46
  · subst h46
    rfl
  by_cases h38 : op = 38
  · subst h38
    rfl
  by_cases h95 : op = 95
  · subst h95
    rfl
  by_cases h34 : op = 34
  · subst h34
    rfl
  by_cases h92 : op = 92
  · subst h92
    rfl
  by_cases h63 : op = 63
  · subst h63
    show aBranch im nums (63, arg, a) ⟨a, st, sd, bk, p, ou, k⟩ = _
    unfold aBranch lawM lsS lsT lsP lsC
    simp only [inStk]
    have : topM ⟨a, st, sd, bk, p, ou, k⟩ = tp st := rfl
    rw [this]
    by_cases h : tp st = 0
    · simp [h, popM]
    · simp [h, popM]
  by_cases h40 : op = 40
  · subst h40
    rfl
  by_cases h36 : op = 36
  · subst h36
    show aCallD im nums (36, arg, a) ⟨a, st, sd, bk, p, ou, k⟩ = _
    unfold aCallD lawM lsS lsT lsP lsC
    simp only [inStk]
    have : topM ⟨a, st, sd, bk, p, ou, k⟩ = tp st := rfl
    rw [this]
    by_cases h : canC im (tp st) = true
    · simp [h, popM, callM]
    · simp [h, popM, pushM]
  by_cases h41 : op = 41
  · subst h41
    show aRet im nums (41, arg, a) ⟨a, st, sd, bk, p, ou, k⟩ = _
    unfold aRet lawM lsS lsT lsP lsC
    simp only [inStk]
    cases h : bk.getLast? with
    | none => simp [h]
    | some b => simp [h]
  have hl : ACTS.lookup op = none := by
    unfold ACTS
    have b : ∀ {i j : Int}, ¬ i = j → (i == j) = false := fun h => by simpa using h
    simp only [List.lookup_cons, b h35, b h43, b h45, b h42, b h60, b h126, b h64, b h33, b h61, b h44, b h94, b h46, b h38, b h95, b h34, b h92, b h63, b h40, b h36, b h41, List.lookup_nil]
  unfold perfM lawM lsS lsT lsP lsC
  simp only [inStk, hl, h35, h43, h45, h42, h60, h126, h64, h33, h61, h44, h94, h46, h38, h95, h34, h92, h63, h40, h36, h41, if_false, or_self, decide_false]
  have e1 : isSm op = (decide (97 ≤ op) && decide (op ≤ 122)) := rfl
  have e2 : isCp op = (decide (65 ≤ op) && decide (op ≤ 90)) := rfl
  rw [e1, e2]
  by_cases hs : (decide (97 ≤ op) && decide (op ≤ 122)) = true
  · have hc : ¬ (decide (65 ≤ op) && decide (op ≤ 90)) = true := by simp at hs ⊢; omega
    simp [hs, hc, pushM, lookM]
  · by_cases hc : (decide (65 ≤ op) && decide (op ≤ 90)) = true
    · simp [hs, hc, callM]
    · simp [hs, hc]
/-! ### the laws' draws of numbers -/
def numL : List Int := [0, 1, 2, 3, 4, 5, 65, 70, 90, 97, 199, 200, -1, -2, 64, 91]
def smallL : List Int := [0, 1, -1, 2, 3, 5, 7, 65, 97, 122, 199, 200, -2, -3, 4, 12]
def pick16 (l : List Int) (v : Int) : Int := l.getD (v.fmod 16).toNat 0
theorem pick_at {l : List Int} (hl : l.length = 16) (v : Int) : atI l (v.fmod 16) = some (pick16 l v) := by
  have h := fmod_in v (show (0 : Int) < 16 by decide)
  have e : v.fmod 16 = (((v.fmod 16).toNat : Nat) : Int) := by omega
  have hlt : (v.fmod 16).toNat < l.length := by omega
  rw [e]
  refine atI_nat ?_
  unfold pick16
  rw [List.getD_eq_getElem?_getD, List.getElem?_eq_getElem hlt]
  rfl
theorem pick_in {l : List Int} (hl : l.length = 16) (v : Int) : pick16 l v ∈ l := by
  have h := fmod_in v (show (0 : Int) < 16 by decide)
  have hlt : (v.fmod 16).toNat < l.length := by omega
  unfold pick16
  rw [List.getD_eq_getElem?_getD, List.getElem?_eq_getElem hlt]
  exact List.getElem_mem _
theorem numL_le (v : Int) : (pick16 numL v).natAbs ≤ 200 := by
  have h : ∀ x ∈ numL, x.natAbs ≤ 200 := by decide
  exact h _ (pick_in rfl v)
theorem smallL_le (v : Int) : (pick16 smallL v).natAbs ≤ 200 := by
  have h : ∀ x ∈ smallL, x.natAbs ≤ 200 := by decide
  exact h _ (pick_in rfl v)
def smallBig (v : Int) : Int := if (v.fdiv 16).fmod 5 = 0 then pick16 smallL v * 10 ^ 9 + v else pick16 smallL v
/-! ### bounds of a step's ints -/
structure Bd (B : Nat) (s : MS) : Prop where
  st : ∀ x ∈ s.st, x.natAbs ≤ B
  sd : ∀ q ∈ s.sd, q.1.natAbs ≤ B ∧ q.2.natAbs ≤ B
  bk : ∀ x ∈ s.bk, x.natAbs ≤ B
  ou : ∀ x ∈ s.ou, x.natAbs ≤ B
  a : s.a.natAbs ≤ B
  p : s.p.natAbs ≤ B
theorem smallBig_le {v : Int} (h : 0 ≤ v ∧ v < 997) : (smallBig v).natAbs ≤ 10 ^ 12 := by
  have := smallL_le v
  unfold smallBig
  split <;> omega
structure PBd (B : Nat) (t : PS) : Prop where
  st : ∀ x ∈ t.st, x.natAbs ≤ B
  pr : ∀ q ∈ t.pr, q.1.natAbs ≤ B ∧ q.2.natAbs ≤ B
  bk : ∀ x ∈ t.bk, x.natAbs ≤ B
  ou : ∀ x ∈ t.ou, x.natAbs ≤ B
  a : t.a.natAbs ≤ B
  p : t.p.natAbs ≤ B
/-- a slice of ints -/
def cutZ (xs : List Int) (lo hi : Option Int) : List Int := (xs.drop (HT.sIx xs.length 0 lo)).take (HT.sIx xs.length xs.length hi - HT.sIx xs.length 0 lo)
theorem cutZ_map (xs : List Int) (lo hi : Option Int) : cutV (xs.map V.int) lo hi = (cutZ xs lo hi).map V.int := by
  unfold cutV cutZ
  rw [List.length_map, ← List.map_drop, ← List.map_take]
theorem cutZ_mem {xs : List Int} {lo hi : Option Int} {x : Int} (h : x ∈ cutZ xs lo hi) : x ∈ xs := List.mem_of_mem_drop (List.mem_of_mem_take h)
theorem cutZ_len (xs : List Int) (lo hi : Option Int) : (cutZ xs lo hi).length ≤ xs.length := by
  unfold cutZ
  rw [List.length_take, List.length_drop]
  omega
section
variable {K : PySem.W.Frag} {H : Hp} {σ : L2.St} {te tv : TE} {lo hi : TO} {vs : List Nat} {j : Nat}
theorem el_slI {a : Addr} {l : List Int} {i k : Option Int} (h : Ev te σ H (.ref a)) (hS : SqL K H a (l.map V.int)) (h1 : EvO lo σ H i) (h2 : EvO hi σ H k) : EvL (tSl (rSlL K) te lo hi) σ H ((cutZ l i k).map V.int) := by
  rw [← cutZ_map]
  exact el_sl h h1 h2 hS
/-- [f(v) for v in a new list of ints] -/
theorem el_mapI {l : List Int} (g : Int → Int) (h : EvL te σ H (l.map V.int)) (hz : l.length ≤ 90000) (hw : ∀ x, wipe ((wipe σ vs).set j (some x)) vs = wipe σ vs) (he : ∀ c ∈ l, ∀ H1, Ex H H1 → Ev tv ((wipe σ vs).set j (some (.int c))) H1 (.int (g c))) : EvL (tLc (iList K te) (gName j) tYes tv vs) σ H ((l.map g).map V.int) := by
  let f : V → V := fun v => match v with | .int c => .int (g c) | _ => .non
  have e : (l.map V.int).map f = (l.map g).map V.int := by rw [List.map_map, List.map_map]; rfl
  rw [← e]
  exact el_mapNL f h (by rw [List.length_map]; exact hz) hw fun x hx H1 e1 => by
    obtain ⟨c, hc, rfl⟩ := List.mem_map.mp hx
    exact he c hc H1 e1
/-- .. over a list that stays -/
theorem el_mapIL {a : Addr} {l : List Int} (g : Int → Int) (h : Ev te σ H (.ref a)) (hS : SqL K H a (l.map V.int)) (hz : l.length ≤ 90000) (hw : ∀ x, wipe ((wipe σ vs).set j (some x)) vs = wipe σ vs) (he : ∀ c ∈ l, ∀ H1, Ex H H1 → Ev tv ((wipe σ vs).set j (some (.int c))) H1 (.int (g c))) : EvL (tLc (iList K te) (gName j) tYes tv vs) σ H ((l.map g).map V.int) := by
  let f : V → V := fun v => match v with | .int c => .int (g c) | _ => .non
  have e : (l.map V.int).map f = (l.map g).map V.int := by rw [List.map_map, List.map_map]; rfl
  rw [← e]
  exact el_mapL f h hS (by rw [List.length_map]; exact hz) hw fun x hx H1 e1 => by
    obtain ⟨c, hc, rfl⟩ := List.mem_map.mp hx
    exact he c hc H1 e1
end
theorem putI_bd {sd : List (Int × Int)} {k v : Int} {B : Nat} (h : ∀ q ∈ sd, q.1.natAbs ≤ B ∧ q.2.natAbs ≤ B) (hk : k.natAbs ≤ B) (hv : v.natAbs ≤ B) : ∀ q ∈ putI sd k v, q.1.natAbs ≤ B ∧ q.2.natAbs ≤ B := by
  unfold putI
  split
  · intro q hq
    obtain ⟨r, hr, rfl⟩ := List.mem_map.mp hq
    split
    · exact ⟨(h r hr).1, hv⟩
    · exact h r hr
  · intro q hq
    rcases List.mem_append.mp hq with hq | hq
    · exact h q hq
    · rw [List.mem_singleton.mp hq]
      exact ⟨hk, hv⟩
theorem getI_bd {sd : List (Int × Int)} {k : Int} {B : Nat} (h : ∀ q ∈ sd, q.1.natAbs ≤ B ∧ q.2.natAbs ≤ B) : ((getI sd k).getD 0).natAbs ≤ B := by
  induction sd with
  | nil => exact Nat.zero_le _
  | cons p r ih =>
    unfold getI
    split
    · exact (h p List.mem_cons_self).2
    · exact ih fun q hq => h q (List.mem_cons_of_mem _ hq)
theorem pairsOf_bd {sd : List (Int × Int)} {B : Nat} (h : ∀ q ∈ sd, q.1.natAbs ≤ B ∧ q.2.natAbs ≤ B) : ∀ q ∈ Gd.pairsOf sd, q.1.natAbs ≤ B ∧ q.2.natAbs ≤ B := by
  intro q hq
  unfold Gd.pairsOf at hq
  obtain ⟨k, hk, rfl⟩ := List.mem_map.mp hq
  have hk := (srt_perm _).mem_iff.mp (List.mem_filter.mp hk).1
  obtain ⟨r, hr, rfl⟩ := List.mem_map.mp hk
  exact ⟨(h r hr).1, getI_bd h⟩
theorem pairsOf_len (sd : List (Int × Int)) : (Gd.pairsOf sd).length ≤ sd.length := by
  unfold Gd.pairsOf
  rw [List.length_map]
  refine Nat.le_trans (List.length_filter_le _ _) ?_
  rw [srt_len, List.length_map]
  exact Nat.le_refl _
theorem due_get (op x y : Int) : (valV (mergeK [] [((Sum.inl 43 : Key), V.int (x + y)), (Sum.inl 45, .int (x - y)), (Sum.inl 42, .int (10 * x + y)), (Sum.inl 60, .int (if decide (x < y) = true then 1 else 0))]) (Sum.inl op)).getD (.int (if x = y then 1 else 0)) = .int (combI op x y) := by
  unfold mergeK combI
  simp only [List.foldl_cons, List.foldl_nil, valV_put]
  have si : ∀ i j : Int, ((Sum.inl i : Key) = Sum.inl j) = (i = j) := fun i j => propext ⟨Sum.inl.inj, fun h => by rw [h]⟩
  simp only [si]
  have vn : valV ([] : List (Key × V)) (Sum.inl op) = none := rfl
  rw [vn]
  by_cases c1 : op = 60
  · subst c1; simp
  by_cases c2 : op = 42
  · subst c2; simp
  by_cases c3 : op = 45
  · subst c3; simp
  by_cases c4 : op = 43
  · subst c4; simp
  simp [c1, c2, c3, c4]
end Gd

set_option Elab.async false
set_option linter.all false
set_option maxRecDepth 100000
set_option maxHeartbeats 4000000
/-! Of our own: how great the ints of a step become, and that plain forms may be shown. -/
namespace Gd
open PySem PySem.Spec PyProof.Rows L2 Evl
theorem rows_mem : ∀ {im : List Int} {r : Int × Nd}, r ∈ rowsOf im → ∀ x ∈ rowL r, x ∈ im
  | [], _, h => by simp [rowsOf] at h
  | [_], _, h => by simp [rowsOf] at h
  | [_, _], _, h => by simp [rowsOf] at h
  | [_, _, _], _, h => by simp [rowsOf] at h
  | a :: b :: c :: d :: t, r, h => by
    rw [rowsOf] at h
    intro x hx
    rcases List.mem_cons.mp h with rfl | h
    · simp only [rowL, List.mem_cons, List.not_mem_nil, or_false] at hx ⊢
      rcases hx with h | h | h | h
      · exact .inl h
      · exact .inr (.inl h)
      · exact .inr (.inr (.inl h))
      · exact .inr (.inr (.inr (.inl h)))
    · exact List.mem_cons_of_mem _ (List.mem_cons_of_mem _ (List.mem_cons_of_mem _ (List.mem_cons_of_mem _ (rows_mem h x hx))))
theorem nodeIn_mem {k : Int} {n : Nd} : ∀ (rows : List (Int × Nd)) (acc : Option Nd), rows.foldl (pickR k) acc = some n → acc = some n ∨ ∃ r ∈ rows, r.2 = n
  | [], acc, h => .inl h
  | r :: t, acc, h => by
    rw [List.foldl_cons] at h
    rcases nodeIn_mem t _ h with h | ⟨q, hq, e⟩
    · unfold pickR at h
      split at h
      · exact .inr ⟨r, List.mem_cons_self, Option.some.inj h⟩
      · exact .inl h
    · exact .inr ⟨q, List.mem_cons_of_mem _ hq, e⟩
theorem node_bd {im : List Int} {B : Nat} (h : ∀ x ∈ im, x.natAbs ≤ B) {k : Int} {n : Nd} (e : nodeAt im k = some n) : n.1.natAbs ≤ B ∧ n.2.1.natAbs ≤ B ∧ n.2.2.natAbs ≤ B := by
  rcases nodeIn_mem (rowsOf im) none e with z | ⟨r, hr, rfl⟩
  · cases z
  · have m := rows_mem hr
    exact ⟨h _ (m _ (by simp [rowL])), h _ (m _ (by simp [rowL])), h _ (m _ (by simp [rowL]))⟩
theorem tp_bd {l : List Int} {B : Nat} (h : ∀ x ∈ l, x.natAbs ≤ B) : (tp l).natAbs ≤ B := by
  unfold tp
  cases e : l.getLast? with
  | none => exact Nat.zero_le _
  | some v => exact h v (List.mem_of_getLast? e)
theorem drop_bd {l : List Int} {B : Nat} (h : ∀ x ∈ l, x.natAbs ≤ B) : ∀ x ∈ l.dropLast, x.natAbs ≤ B := fun x hx => h x (List.dropLast_subset l hx)
theorem app_bd {l : List Int} {v : Int} {B : Nat} (h : ∀ x ∈ l, x.natAbs ≤ B) (hv : v.natAbs ≤ B) : ∀ x ∈ l ++ [v], x.natAbs ≤ B := fun x hx => by
  rcases List.mem_append.mp hx with hx | hx
  · exact h x hx
  · rw [List.mem_singleton.mp hx]
    exact hv
theorem up_bd {l : List Int} {B C : Nat} (h : ∀ x ∈ l, x.natAbs ≤ B) (c : B ≤ C) : ∀ x ∈ l, x.natAbs ≤ C := fun x hx => Nat.le_trans (h x hx) c
theorem comb_bd {op x y : Int} {B : Nat} (hx : x.natAbs ≤ B) (hy : y.natAbs ≤ B) : (combI op x y).natAbs ≤ 11 * B + 1 := by
  unfold combI
  repeat' split
  all_goals omega
theorem at_bd {l : List Int} {i : Int} {B : Nat} (h : ∀ x ∈ l, x.natAbs ≤ B) : ((atI l i).getD 0).natAbs ≤ B := by
  cases e : atI l i with
  | none => exact Nat.zero_le _
  | some v =>
    unfold atI at e
    cases q : ixN l.length i with
    | none => rw [q] at e; cases e
    | some j => rw [q] at e; exact h v (List.mem_of_getElem? e)
theorem lsS_bd {op arg : Int} {st : List Int} {B : Nat} (h : ∀ x ∈ st, x.natAbs ≤ B) (ha : arg.natAbs ≤ B) : ∀ x ∈ lsS op arg st, x.natAbs ≤ 11 * B + 1 := by
  have d1 := drop_bd h
  have d2 := drop_bd d1
  have t1 := tp_bd h
  have t2 := tp_bd d1
  have u : B ≤ 11 * B + 1 := by omega
  unfold lsS
  repeat' split
  · exact app_bd (up_bd h u) (by omega)
  · exact up_bd d1 u
  · exact up_bd (app_bd (app_bd d1 t1) t1) u
  · exact up_bd (app_bd (app_bd d2 t1) t2) u
  · exact app_bd (up_bd d2 u) (comb_bd t2 t1)
  · exact up_bd h u
theorem lsT_bd {op arg : Int} {st : List Int} {sd : List (Int × Int)} {B : Nat} (h : ∀ x ∈ st, x.natAbs ≤ B) (hs : ∀ q ∈ sd, q.1.natAbs ≤ B ∧ q.2.natAbs ≤ B) (ha : arg.natAbs ≤ B) :
    (∀ x ∈ (lsT op arg st sd).1, x.natAbs ≤ B) ∧ ∀ q ∈ (lsT op arg st sd).2, q.1.natAbs ≤ B ∧ q.2.natAbs ≤ B := by
  have d1 := drop_bd h
  have d2 := drop_bd d1
  have t1 := tp_bd h
  have t2 := tp_bd d1
  unfold lsT
  repeat' split
  · exact ⟨app_bd d1 (getI_bd hs), hs⟩
  · exact ⟨d2, putI_bd hs t1 t2⟩
  · exact ⟨d1, putI_bd hs ha t1⟩
  · exact ⟨app_bd h (getI_bd hs), hs⟩
  · exact ⟨h, hs⟩
theorem lsP_bd {im nums : List Int} {op p : Int} {st ou : List Int} {B : Nat} (h1 : 1 ≤ B) (hi : ∀ x ∈ im, x.natAbs ≤ B) (hn : ∀ x ∈ nums, x.natAbs ≤ B) (h : ∀ x ∈ st, x.natAbs ≤ B) (ho : ∀ x ∈ ou, x.natAbs ≤ B) (hp : (p + 1).natAbs ≤ B ∧ p.natAbs ≤ B) :
    (∀ x ∈ (lsP im nums op st p ou).1, x.natAbs ≤ B) ∧ (lsP im nums op st p ou).2.1.natAbs ≤ B ∧ ∀ x ∈ (lsP im nums op st p ou).2.2, x.natAbs ≤ B := by
  have d1 := drop_bd h
  have t1 := tp_bd h
  unfold lsP
  repeat' split
  · exact ⟨app_bd h (at_bd hn), hp.1, ho⟩
  · exact ⟨app_bd h (by simpa using h1), hp.2, ho⟩
  · exact ⟨h, Nat.zero_le _, ho⟩
  · exact ⟨d1, hp.2, app_bd ho t1⟩
  · exact ⟨app_bd d1 (at_bd hi), hp.2, ho⟩
  · exact ⟨h, hp.2, ho⟩
theorem lsC_bd {im : List Int} {op arg su : Int} {st bk : List Int} {B : Nat} (h : ∀ x ∈ st, x.natAbs ≤ B) (hb : ∀ x ∈ bk, x.natAbs ≤ B) (ho : op.natAbs ≤ B) (ha : arg.natAbs ≤ B) (hs : su.natAbs ≤ B) :
    (∀ x ∈ (lsC im op arg su st bk).1, x.natAbs ≤ B) ∧ (∀ x ∈ (lsC im op arg su st bk).2.1, x.natAbs ≤ B) ∧ (lsC im op arg su st bk).2.2.natAbs ≤ B := by
  have d1 := drop_bd h
  have t1 := tp_bd h
  unfold lsC
  split
  · refine ⟨d1, hb, ?_⟩
    show (if tp st = 0 then arg else su).natAbs ≤ B
    split
    · exact ha
    · exact hs
  split
  · exact ⟨h, app_bd hb hs, ho⟩
  split
  · exact ⟨d1, app_bd hb hs, t1⟩
  split
  · split
    · exact ⟨d1, app_bd hb hs, t1⟩
    · exact ⟨app_bd d1 t1, hb, hs⟩
  split
  · cases e : bk.getLast? with
    | none => exact ⟨h, hb, hs⟩
    | some b => exact ⟨h, drop_bd hb, hb b (List.mem_of_getLast? e)⟩
  · exact ⟨h, hb, hs⟩
theorem lawM_bd {im nums : List Int} {n : Nd} {s : MS} {B : Nat} (h1 : 1 ≤ B) (hi : ∀ x ∈ im, x.natAbs ≤ B) (hq : ∀ x ∈ nums, x.natAbs ≤ B) (hn : n.1.natAbs ≤ B ∧ n.2.1.natAbs ≤ B ∧ n.2.2.natAbs ≤ B) (hs : Bd B s) : Bd (11 * B + 1) (lawM im nums n s) := by
  have u : B ≤ 11 * B + 1 := by omega
  have a1 := lsS_bd (op := n.1) hs.st hn.2.1
  have hsd : ∀ q ∈ s.sd, q.1.natAbs ≤ 11 * B + 1 ∧ q.2.natAbs ≤ 11 * B + 1 := fun q m => ⟨Nat.le_trans (hs.sd q m).1 u, Nat.le_trans (hs.sd q m).2 u⟩
  have a2 := lsT_bd (op := n.1) (arg := n.2.1) a1 hsd (by omega)
  have hp := hs.p
  have a3 := lsP_bd (op := n.1) (p := s.p) (im := im) (nums := nums) (by omega) (up_bd hi u) (up_bd hq u) a2.1 (up_bd hs.ou u) (by constructor <;> omega)
  have a4 := lsC_bd (im := im) (op := n.1) (arg := n.2.1) (su := n.2.2) a3.1 (up_bd hs.bk u) (by omega) (by omega) (by omega)
  exact ⟨a4.1, a2.2, a4.2.1, a3.2.2, a4.2.2, a3.2.1⟩
theorem stepM_bd {im nums : List Int} {s s' : MS} {B : Nat} (h1 : 1 ≤ B) (hi : ∀ x ∈ im, x.natAbs ≤ B) (hq : ∀ x ∈ nums, x.natAbs ≤ B) (hs : Bd B s) (e : stepM im nums s = some s') : Bd (11 * B + 1) s' := by
  unfold stepM at e
  cases q : nodeAt im s.a with
  | none => rw [q] at e; cases e
  | some n =>
    rw [q] at e
    have e : perfM im nums n (goM s n) = s' := Option.some.inj e
    rw [law_perf im nums n (goM s n) rfl] at e
    rw [← e]
    have hn := node_bd hi q
    exact lawM_bd h1 hi hq hn ⟨hs.st, hs.sd, hs.bk, hs.ou, hn.2.2, hs.p⟩
theorem stoF_bd {pr : List (Int × Int)} {B : Nat} (h : ∀ q ∈ pr, q.1.natAbs ≤ B ∧ q.2.natAbs ≤ B) : ∀ q ∈ stoF pr, q.1.natAbs ≤ B ∧ q.2.natAbs ≤ B := by
  unfold stoF
  have g : ∀ (pr sd : List (Int × Int)), (∀ q ∈ pr, q.1.natAbs ≤ B ∧ q.2.natAbs ≤ B) → (∀ q ∈ sd, q.1.natAbs ≤ B ∧ q.2.natAbs ≤ B) → ∀ q ∈ pr.foldl (fun sd q => putI sd q.1 q.2) sd, q.1.natAbs ≤ B ∧ q.2.natAbs ≤ B := by
    intro pr
    induction pr with
    | nil => intro sd _ h; exact h
    | cons p r ih =>
      intro sd h1 h2
      have hp := h1 p List.mem_cons_self
      exact ih _ (fun q m => h1 q (List.mem_cons_of_mem _ m)) (putI_bd h2 hp.1 hp.2)
  exact g pr [] h fun q m => nomatch m
theorem PBd.of {t : PS} {B : Nat} (h : PBd B t) : Bd B (ofPlain t) := ⟨h.st, stoF_bd h.pr, h.bk, h.ou, h.a, h.p⟩
theorem Bd.plain {s : MS} {B : Nat} (h : Bd B s) : PBd B (plainM s) := ⟨h.st, pairsOf_bd h.sd, h.bk, h.ou, h.a, h.p⟩
/-! ### shown -/
theorem smD_pairs {pr : List (Int × Int)} (h : ∀ q ∈ pr, q.1.natAbs < 10 ^ 100 ∧ q.2.natAbs < 10 ^ 100) : smDs (pr.map pairD) = true := by
  induction pr with
  | nil => simp [smDs]
  | cons p r ih =>
    have hp := h p List.mem_cons_self
    rw [List.map_cons, smDs, ih fun q m => h q (List.mem_cons_of_mem _ m), Bool.and_true]
    unfold pairD
    rw [smD]
    exact smDs_ints fun n hn => by
      simp only [List.mem_cons, List.not_mem_nil, or_false] at hn
      rcases hn with rfl | rfl
      · exact hp.1
      · exact hp.2
theorem depth_ints (ns : List Int) : PyData.depthAll (ns.map PyData.int) = 0 := by
  induction ns with
  | nil => simp [PyData.depthAll]
  | cons n r ih => rw [List.map_cons, PyData.depthAll, ih, PyData.depth]; rfl
theorem depth_pairs (pr : List (Int × Int)) : PyData.depthAll (pr.map pairD) ≤ 1 := by
  induction pr with
  | nil => simp [PyData.depthAll]
  | cons p r ih =>
    rw [List.map_cons, PyData.depthAll]
    have : (pairD p).depth = 1 := by unfold pairD; rw [PyData.depth, depth_ints]
    omega
theorem bulk_pairs (pr : List (Int × Int)) : PyData.bulkAll (pr.map pairD) = 3 * pr.length := by
  induction pr with
  | nil => simp [PyData.bulkAll]
  | cons p r ih =>
    rw [List.map_cons, PyData.bulkAll, ih, List.length_cons]
    have : (pairD p).bulk = 2 := by unfold pairD; rw [PyData.bulk, bulk_ints]; rfl
    omega
theorem depth_plain (t : PS) : (plainD t).depth ≤ 3 := by
  have := depth_pairs t.pr
  unfold plainD
  simp only [PyData.depth, PyData.depthAll, depth_ints]
  omega
theorem bulk_plain (t : PS) : (plainD t).bulk = t.st.length + 3 * t.pr.length + t.bk.length + t.ou.length + 6 := by
  unfold plainD
  simp only [PyData.bulk, PyData.bulkAll, bulk_ints, bulk_pairs]
  omega
theorem sm_plain {t : PS} {B : Nat} (h : PBd B t) (hB : B < 10 ^ 100) : smD (plainD t) = true := by
  have f : ∀ l : List Int, (∀ x ∈ l, x.natAbs ≤ B) → smDs (l.map PyData.int) = true := fun l hl => smDs_ints fun n hn => Nat.lt_of_le_of_lt (hl n hn) hB
  have hp : smDs (t.pr.map pairD) = true := smD_pairs fun q m => ⟨Nat.lt_of_le_of_lt (h.pr q m).1 hB, Nat.lt_of_le_of_lt (h.pr q m).2 hB⟩
  have ha := Nat.lt_of_le_of_lt h.a hB
  have hpp := Nat.lt_of_le_of_lt h.p hB
  unfold plainD
  rw [smD, smDs, smD, decide_eq_true ha, smDs, smD, f _ h.st, smDs, smD, hp, smDs, smD, f _ h.bk, smDs, smD, decide_eq_true hpp, smDs, smD, f _ h.ou, smDs]
  rfl
theorem nice_plain {t : PS} {B : Nat} (h : PBd B t) (hB : B < 10 ^ 100) (hz : t.st.length + 3 * t.pr.length + t.bk.length + t.ou.length + 6 ≤ 100000) : Nice (plainD t) :=
  nice_sm (sm_plain h hB) (by have := depth_plain t; omega) (by rw [bulk_plain]; exact hz)
theorem nice_none : Nice PyData.none := nice_sm rfl (by decide) (by decide)
/-- sizes of what a step leaves -/
theorem stepM_sz {im nums : List Int} {s s' : MS} {B : Nat} (hz : Sz B s) (e : stepM im nums s = some s') : Sz (B + 3) s' := by
  unfold stepM at e
  cases q : nodeAt im s.a with
  | none => rw [q] at e; cases e
  | some n =>
    rw [q] at e
    have e : perfM im nums n (goM s n) = s' := Option.some.inj e
    rw [← e]
    exact (Sz.perf hz.go).mono (by omega)
end Gd

set_option Elab.async false
set_option linter.all false
set_option maxRecDepth 100000
set_option maxHeartbeats 4000000
/-! Of our own: tuples of ints of the top, a dict of the top that holds them. -/
namespace Gd
open PySem PySem.Spec PyProof.Rows L2 Evl
def intsV : List Value → Option (List Int)
  | [] => some []
  | .int i _ :: r => (intsV r).map (i :: ·)
  | _ => none
theorem intsV_vals : ∀ {us : List Value} {ns : List Int}, intsV us = some ns → Vals (ns.map V.int) us
  | [], ns, h => by cases h; exact .nil
  | u :: r, ns, h => by
    cases u with
    | int i t =>
      rw [intsV] at h
      cases q : intsV r with
      | none => rw [q] at h; cases h
      | some l => rw [q] at h; cases h; exact .cons ⟨t, rfl⟩ (intsV_vals q)
    | _ => cases h
/-- at a: a tuple of ints of the top -/
def TupK (K : PySem.W.Frag) (a : Addr) (xs : List V) : Prop := ∃ (o : Obj) (its : Array Value) (n : Nat), K.lookup a = some o ∧ o.cls = .type "tuple" ∧ o.data = .seq its n ∧ its.size ≤ sizeLine ∧ Vals xs its.toList
theorem tupK_of {K : PySem.W.Frag} {a : Addr} {od : Option Addr} {its : Array Value} {n : Nat} {sl : Array (Option Value)} {ns : List Int} (h : K.lookup a = some ⟨.type "tuple", od, .seq its n, sl⟩) (hi : intsV its.toList = some ns) (hz : ns.length ≤ 1000) : TupK K a (ns.map V.int) := by
  have v := intsV_vals hi
  refine ⟨_, its, n, h, rfl, rfl, ?_, v⟩
  have l : ∀ {xs : List V} {us : List Value}, Vals xs us → xs.length = us.length := fun h => by
    induction h with
    | nil => rfl
    | cons _ _ ih => rw [List.length_cons, List.length_cons, ih]
  have l2 := l v
  rw [List.length_map] at l2
  have l3 : its.toList.length = its.size := Array.length_toList
  exact Nat.le_trans (by omega) (Nat.le_trans hz (by decide))
theorem TupK.sq {K : PySem.W.Frag} {a : Addr} {xs : List V} (h : TupK K a xs) (H : Hp) : SqT K H a xs := .inr h
/-- at d: a dict of the top from ints to tuples of ints -/
inductive TRows (K : PySem.W.Frag) : List (Int × Value) → List (Int × List Int) → Prop
  | nil : TRows K [] []
  | cons {k : Int} {a : Addr} {ns : List Int} {tb : List (Int × Value)} {ts : List (Int × List Int)} (h : TupK K a (ns.map V.int)) (r : TRows K tb ts) : TRows K ((k, .ref a) :: tb) ((k, ns) :: ts)
def TTab (K : PySem.W.Frag) (d : Addr) (ts : List (Int × List Int)) : Prop := ∃ tb, ITab K d tb ∧ TRows K tb ts
theorem trows_at {K : PySem.W.Frag} {tb : List (Int × Value)} {ts : List (Int × List Int)} (h : TRows K tb ts) (c : Int) : match ts.lookup c with
    | none => tb.lookup c = none
    | some ns => ∃ a, tb.lookup c = some (.ref a) ∧ TupK K a (ns.map V.int) := by
  induction h with
  | nil => rfl
  | @cons k a ns tb ts h r ih =>
    rw [List.lookup_cons, List.lookup_cons]
    by_cases e : c = k
    · subst e
      rw [beq_self_eq_true]
      exact ⟨a, rfl, h⟩
    · have : (c == k) = false := by simpa using e
      rw [this]
      exact ih
/-- d.get(i, x), d the top's -/
def tItGet2 (K : PySem.W.Frag) (d : Addr) (ts : List (Int × List Int)) (td ty tx : TE) : TE := fun σ H Q => td σ H fun x H1 => x = .ref d ∧ ty σ H1 fun y H2 => tx σ H2 fun z H3 => ∃ i : Int, y = .int i ∧
  (ts.lookup i = none → Q z H3) ∧ ∀ ns, ts.lookup i = some ns → ∀ p, SqT K H3 p (ns.map V.int) → Q (.ref p) H3
section
variable {X : Cx} {o e f : Expr} {apos cpos : Pos} {td ty tx : TE} {d : Addr} {ts : List (Int × List Int)}
theorem pe_itget2 (D : TTab X.K d ts) (ho : PE X o td) (he : PE X e ty) (hf : PE X f tx) (m : M2 X o "get" apos e f cpos) : PE X (.Call (.Attribute o "get" apos) [e, f] [] cpos) (tItGet2 X.K d ts td ty tx) := by
  obtain ⟨tb, D, hr⟩ := D
  refine ⟨fun pins s σ H Q I h => ?_⟩
  refine wpAny_Call_method m.base m.few m.line PySem.F.plainAttrs_dict PySem.F.slot_dict_get PySem.F.type_dict_get (thn (ho.run pins s σ H _ I h) fun u s1 ⟨x, H1, I1, rx, ex, q1⟩ => ?_)
  subst ex
  obtain rfl : u = Value.ref d := rx
  have hm := itab_map D I1
  refine ⟨hm.typeIs, fun b q => ?_, ?_⟩
  · cases q
    obtain ⟨es, n, hl, _⟩ := D.ex
    exact ⟨_, I1.kIn _ _ hl, rfl⟩
  rw [m.trees]
  refine Calls.callWith_builtin rfl (Calls.evalArgs_plain (Calls.spliced_cons (thn (he.run pins s1 σ H1 _ I1 q1) fun iv s2 ⟨y, H2, I2, ry, q2⟩ =>
    Calls.spliced_cons (thn (hf.run pins s2 σ H2 _ I2 q2) fun fv s3 ⟨z, H3, I3, rz, i, ei, g1, g2⟩ => Calls.spliced_nil ?_))))
  subst ei
  obtain ⟨t, rfl⟩ := ry
  have hm3 := itab_map D I3
  refine call_meetsIn PySem.F.slot_dict_get hm3.typeIs PySem.F.entry_dict_get (PySem.F.args_dict_get_3 _ _ _) (meets_dict_get_default (intKind X.prog X.w) d (k := i) (by simp [intKind, Value.isInt]) D.low fv) ⟨_, hm3, ?_⟩
  have hx := trows_at hr i
  cases q : ts.lookup i with
  | none =>
    rw [q] at hx
    rw [hx]
    exact ⟨z, H3, I3.tok _, rz, g1 q⟩
  | some ns =>
    rw [q] at hx
    obtain ⟨a, h1, h2⟩ := hx
    rw [h1]
    exact ⟨.ref a, H3, I3.tok _, rfl, g2 ns q a (h2.sq _)⟩
end
section
variable {K : PySem.W.Frag} {H : Hp} {σ : L2.St} {td ty tx : TE} {d : Addr} {ts : List (Int × List Int)} {i : Int}
theorem ed_itget2 {ms : List Int} (h : Ev td σ H (.ref d)) (hk : Ev ty σ H (.int i)) (hx : EvD K tx σ H (.tuple (ms.map PyData.int))) : EvD K (tItGet2 K d ts td ty tx) σ H (.tuple (((ts.lookup i).getD ms).map PyData.int)) := fun H1 e Q q =>
  h H1 e _ fun H2 e2 => ⟨rfl, hk H2 (e.trans e2) _ fun H3 e3 => hx H3 ((e.trans e2).trans e3) _ fun v H4 e4 hv => ⟨i, rfl, fun hn => q v H4 ((e2.trans e3).trans e4) (by rw [hn]; exact hv), fun ns hn p hp => q _ H4 ((e2.trans e3).trans e4) (by rw [hn]; exact dp_intsT hp)⟩⟩
end
end Gd

set_option Elab.async false
set_option linter.all false
set_option maxRecDepth 100000
set_option maxHeartbeats 4000000
/-! Of our own: footprints. -/
namespace Gd
open PySem PySem.Spec PyProof.Rows L2 Evl
def CNTS : List (Int × List Int) := [(35, [0, 1]), (43, [2, 1]), (45, [2, 1]), (42, [2, 1]), (60, [2, 1]), (126, [2, 1]), (64, [1, 1]), (33, [2, 0]), (61, [1, 0]), (44, [0, 1]), (46, [1, 0]), (38, [1, 1]), (95, [1, 0]), (34, [1, 2]), (92, [2, 2]), (63, [1, 0]), (40, [1, 0]), (36, [1, 1])]
def cntM (im : List Int) (op top : Int) : List Int := if isSm op = true then [0, 1] else if (decide (op = 36) && canC im top) = true then [1, 0] else (CNTS.lookup op).getD [0, 0]
def rdM (op top : Int) : Option Int := if op = 64 then some top else if isSm op = true then some op else none
def wrM (op arg top : Int) : Option Int := if op = 33 then some top else if op = 61 then some arg else none
structure FP where
  po : Int
  pu : Int
  rd : Option Int
  wr : Option Int
  tk : Bool
  ce : Option Int
def oiD : Option Int → PyData
  | none => .none
  | some i => .int i
def fpD (f : FP) : PyData := .tuple [.int f.po, .int f.pu, oiD f.rd, oiD f.wr, .bool f.tk, oiD f.ce]
def fpN (im nums : List Int) (n : Nd) (top p : Int) : FP := ⟨(cntM im n.1 top).getD 0 0, (cntM im n.1 top).getD 1 0, rdM n.1 top, wrM n.1 n.2.1 top, decide (n.1 = 44) && decide (p < nums.length), if n.1 = 38 then some top else none⟩
def fpM (im nums : List Int) (t : PS) : Option FP := (nodeAt im t.a).map fun n => fpN im nums n (tp t.st) t.p
def foD : Option FP → PyData
  | none => .none
  | some f => fpD f
/-- the law's own counts -/
def inP2 (op : Int) : Bool := decide (op ∈ ([43, 45, 42, 60, 126, 33, 92] : List Int))
def inP1 (op : Int) : Bool := decide (op ∈ ([64, 61, 46, 38, 95, 34, 63, 40, 36] : List Int))
def inU1 (op : Int) : Bool := decide (op ∈ ([35, 43, 45, 42, 60, 126, 64, 44, 38] : List Int))
def popL (op : Int) : Int := if inP2 op = true then 2 else if inP1 op = true then 1 else 0
def pushL (im : List Int) (op top : Int) : Int := if (inU1 op || isSm op) = true then 1 else if (decide (op = 34) || decide (op = 92)) = true then 2 else if (decide (op = 36) && !canC im top) = true then 1 else 0
theorem cnt_law (im : List Int) (op top : Int) : cntM im op top = [popL op, pushL im op top] := by
  by_cases h35 : op = 35
  · subst h35; rfl
  by_cases h43 : op = 43
  · subst h43; rfl
  by_cases h45 : op = 45
  · subst h45; rfl
  by_cases h42 : op = 42
  · subst h42; rfl
  by_cases h60 : op = 60
  · subst h60; rfl
  by_cases h126 : op = 126
  · subst h126; rfl
  by_cases h64 : op = 64
  · subst h64; rfl
  by_cases h33 : op = 33
  · subst h33; rfl
  by_cases h61 : op = 61
  · subst h61; rfl
  by_cases h44 : op = 44
  · subst h44; rfl
  by_cases h46 : op = 46
  · subst h46; rfl
  by_cases h38 : op = 38
  · subst h38; rfl
  by_cases h95 : op = 95
  · subst h95; rfl
  by_cases h34 : op = 34
  · subst h34; rfl
  by_cases h92 : op = 92
  · subst h92; rfl
  by_cases h63 : op = 63
  · subst h63; rfl
  by_cases h40 : op = 40
  · subst h40; rfl
  by_cases h36 : op = 36
  · subst h36
    unfold cntM pushL
    cases h : canC im top with
    | true => rfl
    | false => rfl
  have hl : CNTS.lookup op = none := by
    unfold CNTS
    have b : ∀ {i j : Int}, ¬ i = j → (i == j) = false := fun h => by simpa using h
    simp only [List.lookup_cons, b h35, b h43, b h45, b h42, b h60, b h126, b h64, b h33, b h61, b h44, b h46, b h38, b h95, b h34, b h92, b h63, b h40, b h36, List.lookup_nil]
  unfold cntM popL pushL inP2 inP1 inU1
  simp only [hl, List.mem_cons, List.not_mem_nil, h35, h43, h45, h42, h60, h126, h64, h33, h61, h44, h46, h38, h95, h34, h92, h63, h40, h36, or_self, decide_false, Bool.false_and, Bool.false_or, Bool.or_self]
  cases h : isSm op with
  | true => rfl
  | false => rfl
theorem inV_ints (c : Int) (ns : List Int) : inV (.int c) (ns.map V.int) = decide (c ∈ ns) := by
  induction ns with
  | nil => rfl
  | cons n r ih =>
    show ((n == c) || inV (.int c) (r.map V.int)) = _
    rw [ih]
    by_cases e : n = c
    · subst e; simp
    · have : (n == c) = false := by simpa using e
      rw [this, Bool.false_or]
      have : (c ∈ n :: r) ↔ (c ∈ r) := by
        rw [List.mem_cons]
        exact ⟨fun h => h.resolve_left fun z => e z.symm, .inr⟩
      exact decide_eq_decide.mpr this.symm
section
variable {K : PySem.W.Frag} {H : Hp} {σ : L2.St} {te ta tb tu : TE} {tt : TT}
/-- a if t else b -/
theorem ev_ifE {b : Bool} {v : V} (ht : EvT tt σ H b) (ha : b = true → ∀ H1, Ex H H1 → Ev ta σ H1 v) (hb : b = false → ∀ H1, Ex H H1 → Ev tb σ H1 v) : Ev (tIf tt ta tb) σ H v := fun H1 e Q q =>
  ht H1 e _ fun H2 e2 => by
    cases b with
    | true => rw [if_pos rfl]; exact ha rfl H2 (e.trans e2) H2 (Ex.refl H2) Q fun H3 e3 => q H3 (e2.trans e3)
    | false => rw [if_neg Bool.false_ne_true]; exact hb rfl H2 (e.trans e2) H2 (Ex.refl H2) Q fun H3 e3 => q H3 (e2.trans e3)
theorem ev_andB {a b : Bool} (ha : Ev ta σ H (.bl a)) (hb : a = true → Ev tb σ H (.bl b)) : Ev (tAndV ta tb) σ H (.bl (a && b)) := fun H1 e Q q =>
  ha H1 e _ fun H2 e2 => ⟨a, rfl, by
    cases a with
    | true => rw [if_pos rfl]; exact hb rfl H2 (e.trans e2) Q fun H3 e3 => q H3 (e2.trans e3)
    | false => rw [if_neg Bool.false_ne_true]; exact q H2 e2⟩
theorem q_unpD2 {D : Ends} {tz : TS} {ns : List Int} {i j : Nat} (h : EvD K te σ H (.tuple (ns.map PyData.int))) (hn : ns.length = 2) (k : ∀ H1, Ex H H1 → tz D ((σ.set i (some (.int (ns.getD 0 0)))).set j (some (.int (ns.getD 1 0)))) H1) : tSeq (tAsg te (gTup K 2 (gCons (gName i) (gCons (gName j) gNil)))) tz D σ H :=
  h H (Ex.refl H) _ fun v H1 e1 hv => by
    obtain ⟨a, rfl, ha⟩ := dp_intsT_inv hv
    match ns, hn with
    | [x, y], _ => exact g_tup2 ha (k H1 e1)
theorem et_truT {a : Addr} {xs : List V} (h : Ev te σ H (.ref a)) (hx : SqT K H a xs) : EvT (fun σ H Q => te σ H fun x H' => ∃ k, TruV K x H' k ∧ Q k H') σ H (!xs.isEmpty) := fun H1 e Q q =>
  h H1 e _ fun H2 e2 => ⟨!xs.isEmpty, .inr (.inl ⟨xs, ex_t (e.trans e2) hx, rfl⟩), q H2 e2⟩
theorem last_tp {st : List Int} (h : st ≠ []) : atI st (-1) = some (tp st) := by
  have e : ixN st.length (-1) = some (st.length - 1) := by
    have : st.length ≠ 0 := fun z => h (List.length_eq_zero_iff.mp z)
    unfold ixN
    split
    · omega
    · split
      · congr 1; omega
      · omega
  show (ixN st.length (-1)).bind (st[·]?) = _
  rw [e]
  show st[st.length - 1]? = _
  unfold tp
  rw [← List.getLast?_eq_getElem?, List.getLast?_eq_some_getLast h]
  rfl
theorem ed_opt {o : Option Int} (h : Ev te σ H (optV o)) : EvD K te σ H (oiD o) := ed_ev h (by cases o with
  | none => exact .non
  | some i => exact .int i)
/-- the truth of x in (..), ints -/
theorem et_inI {t : TA} {c : Int} {ns : List Int} (h : Ev te σ H (.int c)) (ht : EvA t σ H (ns.map V.int)) (hz : ns.length ≤ 1000) : EvT (tTest (tOp (rIn K false) te (tTup t))) σ H (decide (c ∈ ns)) := by
  rw [← inV_ints]
  refine et_test (ev_opU h (eu_tup ht (by rw [List.length_map]; omega)) fun p H1 h1 _ H2 e2 Q q => ?_)
  exact ⟨p, _, rfl, .inr (ex_t e2 (st_of h1)), rfl, by rw [List.all_eq_true]; intro x hx; obtain ⟨i, _, rfl⟩ := List.mem_map.mp hx; rfl, q H2 (Ex.refl H2)⟩
end
theorem sm_fp {f : FP} (h1 : f.po.natAbs ≤ 9) (h2 : f.pu.natAbs ≤ 9) (h3 : ∀ i, f.rd = some i → i.natAbs < 10 ^ 100) (h4 : ∀ i, f.wr = some i → i.natAbs < 10 ^ 100) (h6 : ∀ i, f.ce = some i → i.natAbs < 10 ^ 100) : smD (fpD f) = true := by
  have o : ∀ o : Option Int, (∀ i, o = some i → i.natAbs < 10 ^ 100) → smD (oiD o) = true := fun o h => by
    cases o with
    | none => rfl
    | some i => unfold oiD; rw [smD, decide_eq_true (h i rfl)]
  have a1 : f.po.natAbs < 10 ^ 100 := Nat.lt_of_le_of_lt h1 (by decide)
  have a2 : f.pu.natAbs < 10 ^ 100 := Nat.lt_of_le_of_lt h2 (by decide)
  unfold fpD
  rw [smD, smDs, smD, decide_eq_true a1, smDs, smD, decide_eq_true a2, smDs, o _ h3, smDs, o _ h4, smDs, smD, smDs, o _ h6, smDs]
  rfl
theorem depth_oi (o : Option Int) : (oiD o).depth = 0 := by cases o <;> simp [oiD, PyData.depth]
theorem bulk_oi (o : Option Int) : (oiD o).bulk = 0 := by cases o <;> simp [oiD, PyData.bulk]
theorem nice_fp {f : FP} (h : smD (fpD f) = true) : Nice (fpD f) := nice_sm h (by unfold fpD; simp only [PyData.depth, PyData.depthAll, depth_oi]; decide) (by unfold fpD; simp only [PyData.bulk, PyData.bulkAll, bulk_oi]; decide)
theorem cnt_le (im : List Int) (op top : Int) : ((cntM im op top).getD 0 0).natAbs ≤ 9 ∧ ((cntM im op top).getD 1 0).natAbs ≤ 9 := by
  rw [cnt_law]
  show (popL op).natAbs ≤ 9 ∧ (pushL im op top).natAbs ≤ 9
  unfold popL pushL
  constructor <;> (repeat' split) <;> decide
theorem fp_sm {im nums : List Int} {n : Nd} {top p : Int} (h1 : n.1.natAbs < 10 ^ 100) (h2 : n.2.1.natAbs < 10 ^ 100) (h3 : top.natAbs < 10 ^ 100) : smD (fpD (fpN im nums n top p)) = true := by
  refine sm_fp (cnt_le im n.1 top).1 (cnt_le im n.1 top).2 (fun i h => ?_) (fun i h => ?_) (fun i h => ?_)
  · have h : rdM n.1 top = some i := h
    unfold rdM at h
    repeat' split at h
    · cases h; exact h3
    · cases h; exact h1
    · cases h
  · have h : wrM n.1 n.2.1 top = some i := h
    unfold wrM at h
    repeat' split at h
    · cases h; exact h3
    · cases h; exact h2
    · cases h
  · have h : (if n.1 = 38 then some top else none) = some i := h
    split at h
    · cases h; exact h3
    · cases h
end Gd

set_option Elab.async false
set_option linter.all false
set_option maxRecDepth 100000
set_option maxHeartbeats 4000000
/-! Of our own: walks over lists of data that were just made; calls with a new list; join of a list at hand. -/
namespace Gd
open PySem PySem.Spec PyProof.Rows L2 Evl
section
variable {K : PySem.W.Frag} {σ : L2.St} {H : Hp} {D : Ends} {tu tz : TS} {te tl to ta : TE}
theorem q_forNLDn {ds : List PyData} {tl : TE} {j : Nat} (h : EvLD K tl σ H ds) (Pv : Addr → List V → Nat → L2.St → Hp → Prop) (h0 : ∀ p xs H1, H p = none → Ex H H1 → H1 p = some (.lst xs) → DpAll K H1 xs ds → Pv p xs 0 σ H1) (hl : ∀ p xs i σ' H', i ≤ xs.length → Pv p xs i σ' H' → SqL K H' p xs)
    (hs : ∀ p xs i x σ' H', xs[i]? = some x → Pv p xs i σ' H' → tu { D with nx := Pv p xs (i + 1), ct := Pv p xs (i + 1), bk := tz D } (σ'.set j (some x)) H') (hd : ∀ p xs σ' H', Pv p xs xs.length σ' H' → tz D σ' H') : tSeq (tFor (iList K tl) (gName j) tu) tz D σ H :=
  h H (Ex.refl H) _ fun p xs H1 np e1 hp hds => ⟨p, rfl, ⟨xs, sq_of hp⟩, for_it (D := { D with nx := tz D }) walk_list (Pv p xs) (h0 p xs H1 np e1 hp hds) (fun i σ' H' hi q => hl p xs i σ' H' hi q) (fun i x σ' H' H'' hi q y => by
    obtain ⟨rfl, hx⟩ := y
    exact hs p xs i x σ' _ hx q) (fun σ' H' q => hd p xs σ' H' q)⟩
theorem ev_joinV {a : Str} {ys : List Str} {p : Addr} (ho : Ev to σ H (.str a)) (h : Ev te σ H (.ref p)) (hp : SqL K H p (ys.map V.str)) (hz : (ys.map (·.length)).sum + ys.length * a.length ≤ 16777216) : Ev (tM1 (rJoinT K) to te) σ H (.str (Txt.join a ys)) := fun H0 e Q q =>
  ho H0 e _ fun H1 e1 => ⟨⟨a, rfl⟩, h H1 (e.trans e1) _ fun H2 e2 => ⟨a, p, ys, rfl, rfl, .inl (ex_l (e.trans (e1.trans e2)) hp), hz, q H2 (e1.trans e2)⟩⟩
theorem ev_callL {sp : Sp} {E : XK} {xs : List V} {z : V} (h : EvL te σ H xs) (hr : ∀ p H1, H1 p = some (.lst xs) → Ex H H1 → SpV sp [.ref p] H1 z) : Ev (tCall sp [] E (tCons te tNil)) σ H z := fun H0 e Q q =>
  h H0 e _ fun p H1 _ e1 hp => hr p H1 hp (e.trans e1) H1 (Ex.refl H1) Q (fun H2 e2 => q H2 (e1.trans e2)) _
theorem rows_tup (rows : List (Int × Nd)) : tupOs (rows.map rowD) = true := tupOs_at fun d m => by
  obtain ⟨r, _, rfl⟩ := List.mem_map.mp m
  unfold rowD
  rw [tupO]
  exact tupOs_at fun d m => by
    obtain ⟨z, _, rfl⟩ := List.mem_map.mp m
    rfl
end
end Gd

set_option Elab.async false
set_option linter.all false
set_option maxRecDepth 100000
set_option maxHeartbeats 4000000
/-! Of our own: a list comprehension an element of which may raise: the exception leaves the block, then the def. -/
namespace Gd
open PySem PySem.Spec PyProof.Rows L2 Evl
/-- what is wanted behind a block that may raise; F: the frame that runs -/
def postX (M : Model) (A : Around) (E : Value → Shared → Prop) (F : Option Addr) (use : Option (Value → Sem Unit)) (Q : Value → Shared → Prop) (acc : Value) (C : Addr) (r : Result) (t : Shared) : Prop :=
  match r, use with
  | .ok _, none => ∃ m, t.heap.Ns C m ∧ ∀ g, Heap.SameBut C t.heap g → Q acc { t with heap := g }
  | .ok _, some u => wpAny M A (u acc) (fun _ t2 => ∃ m, t2.heap.Ns C m ∧ ∀ g, Heap.SameBut C t2.heap g → Q .none { t2 with heap := g }) E t
  | .error x, _ => ∃ m, t.heap.Ns C m ∧ ∀ g, Heap.SameBut C t.heap g → ∀ ce : Env, ce.frame = F → wpAny M A (passOn "comprehension.variables-let-go" x ce : Sem Value) (fun _ _ => False) E { t with heap := g }
section
variable {M : Model} {A : Around} {E : Value → Shared → Prop} {s : Shared} {env : Env}
theorem comp_freeX {e : Expr} {scope : Scope} {pos : Pos} {acc0 first : Sem Value} {g : Comprehension} {gs : List Comprehension} {cl : List (Str × Addr)} {use : Option (Value → Sem Unit)} {Q : Value → Shared → Prop}
    (hcl : clausesOf e = g :: gs) (hs : ∀ x, foldedSetIterable g.iter env x = pure x) (hclos : closureFor scope env = pure cl)
    (hk : scope.kind = .function) (hn : ∀ x ∈ scope.names, x.2 = .local → scope.names.lookup x.1 = some .local)
    (h : wpAny M A first (fun x s₁ => wpAny M A (pyIter x) (fun it s₂ => wpAny M A acc0 (fun acc s₃ =>
      wpAny M A (newFunctionEnv scope env.globals cl [] env.qual none .none (some env)) (fun cv s₄ => cv.frame = env.frame ∧
        codeAny M A (.compStart e 0 it acc { cv with scope := relabel scope env }) (postX M A E env.frame use Q acc cv.locals) s₄) E s₃) E s₂) E s₁) E s) :
    wpAny M A (comprehension e scope env pos acc0 false first use) Q E s := by
  unfold comprehension
  rw [hclos, hcl]
  have idE : ∀ {x : Value} {t : Shared}, E x t → E x t := fun h => h
  refine wpAny_bind (wpAny_mono h (fun x s₁ h₁ => wpAny_bind (wpAny_standAt (wpAny_bind (wpAny_of_eq (hs x) (wpAny_bind (wpAny_holding ?_)))))) fun _ _ => idE)
  refine wpAny_mono h₁ (fun it s₂ h₂ => wpAny_standIf (wpAny_bind ?_)) fun _ _ => idE
  refine wpAny_mono h₂ (fun acc s₃ h₃ => wpAny_bind (wpAny_pure (wpAny_bind ?_))) fun _ _ => idE
  refine wpAny_mono h₃ (fun cv s₄ h₄ => ?_) fun _ _ => idE
  obtain ⟨hF, h₄⟩ := h₄
  dsimp only
  generalize hvs : (scope.names.filter fun x => (x.2 == .local || x.2 == .cell) && x.1 != (".0" : Str)).reverse = vs
  have kind : ∀ x ∈ vs, x.2 = .local → Env.kindOf { cv with scope := relabel scope env } x.1 = some .local := fun x hx hl => by
    rw [← hvs] at hx
    exact lookup_relabel_local (hn x (List.mem_filter.mp (List.mem_reverse.mp hx)).1 hl)
  have kind2 : ∀ x ∈ vs.drop 1 ++ vs.take 1, x.2 = .local → Env.kindOf { cv with scope := relabel scope env } x.1 = some .local := fun x hx hl =>
    (List.mem_append.mp hx).elim (fun m => kind x (List.mem_of_mem_drop m) hl) fun m => kind x (List.mem_of_mem_take m) hl
  refine wpAny_holding (wpAny_bind (wpAny_attempt (wpAny_holding (wpAny_run (codeAny_mono h₄ fun r t hr => ?_)))))
  cases r with
  | ok f =>
    cases use with
    | none =>
      obtain ⟨m, hm, hr⟩ := hr
      refine wpAny_bind (wpAny_holding ?_)
      exact wpAny_comp_letGo (cenv := { cv with scope := relabel scope env }) hk vs t m kind hm fun g _ _ sb => wpAny_pure (hr g sb)
    | some u =>
      refine wpAny_bind (wpAny_rule (wpAny_bind (wpAny_holding (wpAny_mono hr (fun _ t2 hr2 => ?_) fun _ _ => idE))))
      obtain ⟨m, hm, hr2⟩ := hr2
      exact wpAny_bind (wpAny_comp_letGo (cenv := { cv with scope := relabel scope env }) hk _ t2 m kind2 hm fun g _ _ sb => wpAny_pure (hr2 g sb))
  | error x =>
    have hr2 : ∃ m, t.heap.Ns cv.locals m ∧ ∀ g, Heap.SameBut cv.locals t.heap g → ∀ ce : Env, ce.frame = env.frame → wpAny M A (passOn "comprehension.variables-let-go" x ce : Sem Value) (fun _ _ => False) E { t with heap := g } := by
      cases use <;> exact hr
    obtain ⟨m, hm, hr3⟩ := hr2
    refine wpAny_bind (wpAny_holding ?_)
    exact wpAny_comp_letGo (cenv := { cv with scope := relabel scope env }) hk vs t m kind hm fun g _ _ sb => wpAny_mono (hr3 g sb _ hF) (fun _ _ z => z.elim) fun _ _ => idE
end
section
variable {M : Model} {A : Around} {E : Value → Shared → Prop} {s : Shared} {env : Env} {outer : List Env} {B : Heap} {a L L2 : Addr} {Z : Obj → Prop}
/-- an exception that another frame's record noted last is noted by this one -/
theorem look_over {Q : Unit → Shared → Prop} (hZ : HandSPX.Steady Z) (hfr : A.frames = some (env :: outer)) (hf : env.frame = some L) (x : HandSPX.HeldZ B (env :: outer) a Z L2 s.heap)
    (hQ : ∀ g, HandSPX.HeldZ B (env :: outer) a Z L g → s.heap.UpToSlots g → Q () { s with heap := g }) : wpAny M A (noteFrame (.ref a) env) Q E s := by
  obtain ⟨hB, hn, hl, tr⟩ := x
  by_cases same : L2 = L
  · subst same
    exact HandSPX.againZ hf tr (hQ s.heap ⟨hB, hn, hl, tr⟩ (Heap.UpToSlots.refl _))
  obtain ⟨oe, us, T, oT, ts, he, hz, hd, h1, nT, Ta, hT, dT, h3⟩ := tr
  unfold noteFrame
  simp only [hf]
  refine wpAny_bind (wpAny_field he hd h1 ?_)
  rw [if_pos (show (Value.ref T != Value.none) = true from by simp)]
  refine wpAny_bind (wpAny_field hT dT h3 ?_)
  rw [if_neg (show ¬ ((rawInt L2 == rawInt L) = true) from by simp only [rawInt, beq_iff_eq, Value.int.injEq]; exact fun e => same (Int.ofNat.inj e.1))]
  refine wpAny_bind (wpAny_setField hT dT (Array.getElem?_eq_some_iff.mp h3).1 ?_)
  have but : ∀ b, b ≠ T → (s.heap.update T (Obj.mapFields (·.setIfInBounds 3 Value.none))).get? b = s.heap.get? b := fun b hb => Heap.get?_update_other _ _ (Ne.symm hb)
  have nrec : ∀ b o, s.heap.get? b = some o → (∀ ws, o.data ≠ .fields ws) → b ≠ T := fun b o hb hw q => by
    subst q
    rw [hT] at hb
    cases hb
    exact hw ts dT
  refine HandSPX.wpAny_entryZ hZ hfr (hl.of_keeps fun b o hb hw => ⟨o, (but b (nrec b o hb hw)).trans hb, rfl⟩) hf ((but a (Ne.symm Ta)).trans he)
    (fun b o hb => (but b fun q => by rw [q, nT] at hb; cases hb).trans (hB b o hb)) hn hd (Array.getElem?_eq_some_iff.mp h1).1 hz fun g hN => ?_
  obtain ⟨y1, y2, y3, y4⟩ := hN
  exact hQ g ⟨y1, hn, y2, y3⟩ fun b o hb hw => y4 b o ((but b (nrec b o hb hw)).trans hb) hw
/-- in the air, however: noted -/
theorem sky_note {Q : Unit → Shared → Prop} (hZ : HandSPX.Steady Z) (hfr : A.frames = some (env :: outer)) (hf : env.frame = some L) (x : Sky B (env :: outer) a Z L2 s.heap)
    (hQ : ∀ g, HandSPX.HeldZ B (env :: outer) a Z L g → s.heap.UpToSlots g → Q () { s with heap := g }) : wpAny M A (noteFrame (.ref a) env) Q E s := by
  rcases x with ⟨hB, hn, hl, oe, us, he, hz, hd, h1⟩ | fl | hh
  · exact HandSPX.look_newZ hZ hfr hl hf he hB hn hd h1 hz hQ
  · exact HandSPX.looks_onZ hZ hfr hf fl hQ
  · exact look_over hZ hfr hf hh hQ
end
section
variable {X : Cx} {pins : List (Addr × Obj)} {σ : L2.St} {H H' : Hp} {s t : Shared} {B : Heap}
/-- an exception of a block that started at s is in the air of the def; fp: what the block has walked -/
theorem XE.of_blk {fp : List Addr} {a : Addr} {cls : Value} {d : Option Addr} {W : WX} (I : Inv X pins σ H s)
    (hch : ∀ b ∈ fp, (b ∈ X.ex ∨ X.s_0.heap.objs.size ≤ b) ∧ b ≠ X.env.locals ∧ (∀ x c, X.env.cells.lookup x = some c → c ≠ b) ∧ ∀ p ∈ X.pn ++ pins, p.1 ≠ b)
    (hh : HandSPX.HeldZ B X.stack a (Zc cls d) X.env.locals t.heap) (hok : HOk X.prog X.w H' B)
    (k1 : ∀ b o, s.heap.get? b = some o → H b = none → b ∉ frs X.stack → b ∉ fp → B.get? b = some o)
    (k2 : ∀ b o, s.heap.get? b = some o → b ∈ frs X.stack → b ∉ fp → ∃ sl, t.heap.get? b = some { o with slots := sl })
    (k3 : ∀ b o, s.heap.get? b = some o → H b = none → b ∉ fp → H' b = none)
    (k4 : ∀ b o, s.heap.get? b = some o → b ∉ frs X.stack → b ∉ fp → ∃ o', B.get? b = some o')
    (k5 : ∀ b xs, H b = some (.tup xs) → H' b = some (.tup xs)) (k6 : ∀ b o u, H b = some (.frz o u) → H' b = some (.frz o u)) (k7 : ∀ b ps, H b = some (.tbl ps) → ∃ more, H' b = some (.tbl (ps ++ more)))
    (na : H' a = none) (os : t.os = s.os) (ag : AllBare t.gens) (w : W cls d σ H') : XE X W (.ref a) t := by
  obtain ⟨G, g1, g2⟩ := restrict t.heap fun b => decide (b ∈ frs X.stack) || (B.get? b).isSome
  have st := hh.1
  have up : ∀ b o, B.get? b = some o → G.get? b = some o := fun b o q => by
    have : (decide (b ∈ frs X.stack) || (B.get? b).isSome) = true := by rw [q]; simp
    rw [g1 b this]
    exact st b o q
  have fr : ∀ b, b ∈ frs X.stack → G.get? b = t.heap.get? b := fun b m => g1 b (by rw [decide_eq_true m]; rfl)
  have dn : ∀ b o, G.get? b = some o → t.heap.get? b = some o ∧ (b ∈ frs X.stack ∨ (B.get? b).isSome = true) := fun b o q => by
    by_cases y : (decide (b ∈ frs X.stack) || (B.get? b).isSome) = true
    · rw [g1 b y] at q
      exact ⟨q, by simpa using y⟩
    · rw [g2 b (by simpa using y)] at q
      cases q
  refine ⟨a, B, { s with heap := G, gens := t.gens, drawn := t.drawn, toks := t.toks }, pins, σ, H', cls, d, rfl, ?_, fun b o q nb => ?_, Heap.UpToSlots.of_keeps fun b o q => (dn b o q).1, .inr (.inr hh), na, os, ag, w⟩
  · refine I.call (ch := fp) ⟨fun b o q n nb nf => up b o (k1 b o q n nb nf), fun b o q n hb nf => ?_, fun b o q n nf => k3 b o q n nf, fun b o q nf => ?_, k5, k6, k7⟩ (hok.kept up) ag hch
    · obtain ⟨sl, y⟩ := k2 b o q hb nf
      exact ⟨sl, (fr b hb).trans y⟩
    · by_cases hb : b ∈ frs X.stack
      · obtain ⟨sl, y⟩ := k2 b o q hb nf
        exact ⟨_, (fr b hb).trans y⟩
      · obtain ⟨o', y⟩ := k4 b o q hb nf
        exact ⟨o', up b o' y⟩
  · obtain ⟨q1, q2⟩ := dn b o q
    have q2 := q2.resolve_left nb
    obtain ⟨o', y⟩ := Option.isSome_iff_exists.mp q2
    have := st b o' y
    rw [q1] at this
    cases this
    exact y
/-- the block's own air, however its wish was named -/
theorem XE.ofTr {pn : List (Addr × Obj)} {xe : Value → Shared → Prop} {W : WX} {u : Value} (x : XE (X.tr (X.pn ++ pn) xe) W u t) : XE X W u t := by
  obtain ⟨a, B, sI, ps, σ, H, cls, d, e, I, nb, up, sky, na, os, ag, w⟩ := x
  exact ⟨a, B, sI, pn, σ, H, cls, d, e, I.ofTry I.ok.ofTry, nb, up, sky, na, os, ag, w⟩
theorem funs_at {h h' base : Heap} : ∀ {l : List Env}, h.FunFrames base l → (∀ b ∈ frs l, h'.get? b = h.get? b) → h'.FunFrames base l
  | [], x, _ => x
  | e :: r, x, k => by
    obtain ⟨x0, ⟨L, o, hf, hn, ho, hd⟩, x2⟩ := x
    have kr : ∀ b ∈ frs r, h'.get? b = h.get? b := fun b m => k b (by
      unfold frs at m ⊢
      rw [List.filterMap_cons]
      cases e.frame with
      | none => exact m
      | some L => exact List.mem_cons_of_mem _ m)
    have hL : L ∈ frs (e :: r) := by
      unfold frs
      rw [List.filterMap_cons, hf]
      exact List.mem_cons_self ..
    exact ⟨x0, ⟨L, o, hf, hn, (k L hL).trans ho, hd⟩, funs_at x2 kr⟩
/-- what leaves a block is taken where what leaves the def is -/
theorem err_out {scope : Scope} {ce : Env} {fp : List Addr} {E1 : XK} {u : Value} {Eo : Value → Shared → Prop} {use : Option (Value → Sem Unit)} {Qf : Value → Shared → Prop} {acc : Value}
    (hs : X.stack = X.env :: X.outer) (hf : X.env.frame = some X.env.locals) (I3 : Inv X pins σ H s) (f3 : ∀ b ∈ fp, FpOk X pins H b ∧ b < s.heap.objs.size)
    (cL : ce.locals = s.heap.objs.size) (cF : ce.frame = X.env.frame) (tk : Takes X fun cls d _ G => E1 cls d G)
    (hx : XE (X.blk s H scope ce fp) (fun cls d _ G => E1 cls d G) u t) :
    wpAny (model X.prog X.w) X.A (noteFrame u ce) (fun _ t2 => postX (model X.prog X.w) X.A X.xe X.env.frame use Qf acc s.heap.objs.size (.error u) t2) Eo t := by
  obtain ⟨a, B, sI, ps, τ, H', cls, d, rfl, I, nb, up, sky, na, os, ag, w⟩ := hx
  have I0 := I
  have en : noteFrame (.ref a) ce = noteFrame (.ref a) X.env := by
    unfold noteFrame PySem.frameOf
    rw [cF]
  rw [en]
  have hfr : X.A.frames = some (X.env :: X.outer) := by rw [I3.ok.frames, hs]
  have sky' : Sky B (X.env :: X.outer) a (Zc cls d) ce.locals t.heap := by rw [← hs]; exact sky
  refine sky_note Zc.steady hfr hf sky' fun g hh upg => ?_
  generalize hC : s.heap.objs.size = C at *
  have hCn : C ∉ frs X.stack := fun m => by
    obtain ⟨_, o, ho, _⟩ := I3.stack.mem m
    have := Heap.lt_size ho
    rw [hC] at this
    exact Nat.lt_irrefl _ this
  obtain ⟨m, hns, _⟩ := I.loc
  have hns : sI.heap.Ns ce.locals m := hns
  rw [cL] at hns
  have hg : ∀ o, sI.heap.get? C = some o → g.get? C = some o := fun o q => hh.1 C o (nb C o q hCn)
  refine ⟨m, hns.at hg, fun g2 sb ce1 cF1 => ?_⟩
  -- the ground without the block's names
  obtain ⟨B2, r1, r2⟩ := restrict B fun b => decide (b ≠ C)
  have hB2 : ∀ b o, B2.get? b = some o → B.get? b = some o ∧ b ≠ C := fun b o q => by
    by_cases e : b = C
    · rw [r2 b (by rw [e]; simp)] at q
      cases q
    · rw [r1 b (by simp [e])] at q
      exact ⟨q, e⟩
  have hB3 : ∀ b o, b ≠ C → B.get? b = some o → B2.get? b = some o := fun b o e q => by rw [r1 b (by simp [e])]; exact q
  obtain ⟨oe, us, T, oT, ts, he, hz, hd, h1, nT, Ta, hT, dT, h3⟩ := hh.2.2.2
  obtain ⟨oC, ho, hdict⟩ : ∃ o, g.get? C = some o ∧ ∀ ws, o.data ≠ .fields ws := by
    obtain ⟨o, es, ep, q, e, _⟩ := hns.at hg
    exact ⟨o, q, fun ws z => by simp [z] at e⟩
  have aC : a ≠ C := fun e => by rw [e, ho] at he; cases he; exact hdict us hd
  have TC : T ≠ C := fun e => by rw [e, ho] at hT; cases hT; exact hdict ts dT
  have gk : ∀ b o, b ≠ C → g.get? b = some o → g2.get? b = some o := fun b o e q => (sb.2 b e).trans q
  have hh2 : HandSPX.HeldZ B2 (X.env :: X.outer) a (Zc cls d) X.env.locals g2 := by
    refine ⟨fun b o q => gk b o (hB2 b o q).2 (hh.1 b o (hB2 b o q).1), ?_, ?_, oe, us, T, oT, ts, gk _ _ aC he, hz, hd, h1, ?_, Ta, gk _ _ TC hT, dT, h3⟩
    · rw [r1 a (by simp [aC])]
      exact hh.2.1
    · have fz := hh.2.2.1
      have fz2 : g2.FunFrames B (X.env :: X.outer) := by
        rw [← hs] at fz ⊢
        exact funs_at fz fun b hb => sb.2 b fun e => hCn (e ▸ hb)
      rw [← hs] at fz2 ⊢
      exact funFrames_none fz2 fun b hb => by
        cases q : B2.get? b with
        | none => rfl
        | some o =>
          have := (fz2.mem hb).1
          rw [(hB2 b o q).1] at this
          cases this
    · rw [r1 T (by simp [TC])]
      exact nT
  have fields : ∀ {α : Type} (f : Value → Sem α) {Q : α → Shared → Prop}, wpAny (model X.prog X.w) X.A (f (.ref T)) Q X.xe { t with heap := g2 } → wpAny (model X.prog X.w) X.A (field (.ref a) 1 >>= f) Q X.xe { t with heap := g2 } := fun f Q h => wpAny_bind (wpAny_field (gk _ _ aC he) hd h1 h)
  unfold PySem.passOn
  refine fields _ ?_
  rw [if_neg (show ¬ ((Value.ref T == Value.none) = true) from by simp)]
  rw [cF1, hf]
  refine wpAny_bind (HandSPX.setFlight_onZ (s := { t with heap := g2 }) hh2 fun g3 hh3 up3 => ?_)
  refine wpAny_throw (tk _ _ ?_)
  -- in the air of the def
  have hokB : HOk X.prog X.w H' B := I.inGround nb
  have nC : H' C = none := by
    have z : H' ce.locals = none := I.free
    rwa [cL] at z
  have hok2 : HOk X.prog X.w H' B2 := fun b o q => (hokB b o q).stay (fun c v hc z => hB3 c v (fun e => by
    subst e
    rcases hc with rfl | hc
    · rw [nC] at q; cases q
    · rw [nC] at hc; cases hc) z) (fun _ z => z) fun _ _ z => z
  have nCs : ∀ b o, s.heap.get? b = some o → b ≠ C := fun b o q e => by
    have := Heap.lt_size q
    rw [hC, e] at this
    exact Nat.lt_irrefl _ this
  have bs : Un (frs X.stack) fp H H' s.heap sI.heap := I.base
  refine XE.of_blk (B := B2) (H' := H') (fp := fp) (t := { t with heap := g3 }) I3 (fun b hb => ⟨(f3 b hb).1.2.2.2.1, (f3 b hb).1.2.1, (f3 b hb).1.2.2.2.2.1, (f3 b hb).1.2.2.2.2.2⟩) (by rw [hs]; exact hh3) hok2 (fun b o q n n1 n2 => hB3 b o (nCs b o q) (nb b o (bs.keep b o q n n1 n2) n1)) (fun b o q hb n2 => ?_) (fun b o q n n2 => bs.free b o q n n2) (fun b o q n1 n2 => ?_) bs.tups bs.frzs bs.tbls na (os.trans I.os) ag w
  · obtain ⟨sl, y⟩ := bs.slot b o q (I3.stkFree b hb) hb n2
    obtain ⟨_, o0, y0, nf⟩ := I3.stack.mem hb
    rw [q] at y0
    cases y0
    obtain ⟨sl2, y2⟩ := up b _ y nf
    obtain ⟨sl3, y3⟩ := upg b _ y2 nf
    obtain ⟨sl4, y4⟩ := up3 b _ (gk b _ (nCs b o q) y3) nf
    exact ⟨sl4, y4⟩
  · obtain ⟨o', y⟩ := bs.there b o q n2
    exact ⟨o', hB3 b o' (nCs b o q) (nb b o' y n1)⟩
end
section
variable {X : Cx}
/-- the context of a block whose elements may raise -/
abbrev _root_.L2.Cx.blkX (X : Cx) (s : Shared) (H : Hp) (scope : Scope) (cenv : Env) (fp : List Addr) (pn : List (Addr × Obj)) (xe : Value → Shared → Prop) : Cx := (X.blk s H scope cenv fp).tr pn xe
theorem lcX_core {pins : List (Addr × Obj)} {s : Shared} {σ : L2.St} {H : Hp} {Q : VK} {elt tg iter : Expr} {ifs : List Expr} {scope : Scope} {own : List (Str × Nat)} {pos pos' : Pos} {wi : TI} {g : TG} {tt : TT} {te : TE} {E1 : XK} {use : Option (Value → Sem Unit)} {Qf : Value → Shared → Prop}
    (hc : X.calm = true) (hN : X.N.Nodup) (hst : X.stack = X.env :: X.outer) (hfl : X.env.frame = some X.env.locals) (tk : Takes X fun cls d _ G => E1 cls d G) (I : Inv X pins σ H s) (hi : ∀ R, wi σ H R → wpAny (model X.prog X.w) X.A (eval iter X.env) (fun v s1 => wpAny (model X.prog X.w) X.A (pyIter v) (PIE X pins σ tg R) X.xe s1) X.xe s) (ok : BlkOk X.N X.env.scope scope own)
    (hg : ∀ (s : Shared) (H : Hp) (C : Addr) (cl : List (Str × Addr)) (fp : List Addr), PG (X.blk s H scope (compEnvC scope cl C X.env) fp) tg g)
    (ht : ∀ (s : Shared) (H : Hp) (C : Addr) (cl : List (Str × Addr)) (fp : List Addr), PTs (X.blk s H scope (compEnvC scope cl C X.env) fp) ifs tt)
    (he : ∀ (s : Shared) (H : Hp) (C : Addr) (cl : List (Str × Addr)) (fp : List Addr) (pn : List (Addr × Obj)) (xe : Value → Shared → Prop), Takes (X.blkX s H scope (compEnvC scope cl C X.env) fp pn xe) (fun cls d _ G => E1 cls d G) → PE (X.blkX s H scope (compEnvC scope cl C X.env) fp pn xe) elt te)
    (hs : ∀ x, foldedSetIterable iter X.env x = pure x) (h : tLc wi g tt te (own.map (·.2)) σ H Q)
    (hRR : ∀ D C t m H', Inv X pins σ H' t → Q (.ref D) H' → t.heap.Ns C m → FpOk X pins H' C → postX (model X.prog X.w) X.A X.xe X.env.frame use Qf (.ref D) C (.ok .next) t) :
    wpAny (model X.prog X.w) X.A (comprehension (.ListComp elt [⟨tg, iter, ifs, 0⟩] scope pos) scope X.env pos' (newList []) false (eval iter X.env) use) Qf X.xe s := by
  have hfree : ∀ y ∈ scope.names, y.2 = .free → ∃ c, X.env.cells.lookup y.1 = some c := fun y hy e => by
    rcases ok.free y hy e with k | k
    · exact I.ok.has _ (.inl k)
    · exact I.ok.has _ (.inr k)
  refine comp_freeX (use := use) rfl hs (closure_ok hfree) ok.kind (fun y hy e => by rw [ok.uniq y hy, e]) ?_
  refine thn (hi _ h) fun xv s1 hx => thn hx fun itv s2 h2 => ?_
  obtain ⟨it, fp, tn, J, H2, e, I2, T, st2, f2, q⟩ := h2
  subst e
  refine wpAny_newObj_type (newEnv_comp ⟨rfl, ?_⟩) (by show 0 ≤ sizeLine; decide)
  generalize hD : s2.heap.objs.size = D
  have hDn : H2 D = none := I2.hok.fresh (Nat.le_of_eq hD)
  obtain ⟨W, ⟨m0, w0⟩, turn⟩ := q D hDn
  generalize hs3 : ({ s2 with heap := s2.heap.push { cls := .type "list", data := .seq ([] : List Value).toArray } } : Shared) = s3
  have I3 : Inv X pins σ (upd H2 D (.lst [])) s3 := by
    rw [← hs3]
    refine I2.laid (t' := s2.toks) (fun _ _ q => Heap.get?_push_of_some _ q) (Nat.le_of_eq hD) ⟨Nat.zero_le _, [], 0, .nil, ?_⟩
    rw [← hD]
    exact Heap.get?_push_size _ rfl
  have h3 : s3.heap = s2.heap.push { cls := .type "list", data := .seq ([] : List Value).toArray } := by rw [← hs3]
  have below : ∀ b ∈ fp, b < s2.heap.objs.size := fun b hb => by
    obtain ⟨o, q, _⟩ := T.obj _ _ st2 b hb
    exact Heap.lt_size q
  have f3 : ∀ b ∈ fp, FpOk X pins (upd H2 D (.lst [])) b ∧ b < s3.heap.objs.size := fun b hb => by
    have hlt := below b hb
    have hne : b ≠ D := by rw [← hD]; exact Nat.ne_of_lt hlt
    exact ⟨⟨by rw [upd_ne hne]; exact (f2 b hb).1, (f2 b hb).2⟩, by rw [h3, Heap.size_push]; exact Nat.lt_succ_of_lt hlt⟩
  have st3 : tn 0 s3.heap := T.keep _ _ _ st2 fun _ _ _ q => by rw [h3]; exact Heap.get?_push_of_some _ q
  have I4 := block_start I3 ok hN f3
  generalize hcl : cellsFrom (s3.heap.objs.size + 1) scope.names (cloFrom X.env.cells scope.names []) = cl at I4
  have pg := hg s3 (upd H2 D (.lst [])) s3.heap.objs.size cl fp
  have pt := ht s3 (upd H2 D (.lst [])) s3.heap.objs.size cl fp
  have pe := he s3 (upd H2 D (.lst [])) s3.heap.objs.size cl fp
  show codeAny _ _ (.compStart (.ListComp elt [⟨tg, iter, ifs, 0⟩] scope pos) 0 (.ref it) (.ref D) (compEnvC scope cl s3.heap.objs.size X.env)) (postX (model X.prog X.w) X.A X.xe X.env.frame use Qf (.ref D) s3.heap.objs.size) { s3 with heap := pushCells (s3.heap.push { cls := .type "dict", data := .dict #[] }) scope.names }
  have nfp : ∀ b ∈ fp, (upd H2 D (.lst [])) b = none := fun b hb => (f3 b hb).1.1
  generalize hce : compEnvC scope cl s3.heap.objs.size X.env = ce at I4 pg pt pe ⊢
  have cL : ce.locals = s3.heap.objs.size := by subst hce; rfl
  have cF : ce.frame = X.env.frame := by subst hce; rfl
  generalize hH3 : upd H2 D (.lst []) = H3 at I3 I4 pg pt pe w0 nfp f3
  generalize hs4 : ({ s3 with heap := pushCells (s3.heap.push { cls := .type "dict", data := .dict #[] }) scope.names } : Shared) = s4 at I4 ⊢
  have st4 : tn 0 s4.heap := T.keep _ _ _ st3 fun _ _ _ q => by rw [← hs4]; exact pushCells_keeps _ _ _ _ (Heap.get?_push_of_some _ q)
  have stat : ∀ {τ : L2.St} {G : Hp} {t : Shared}, Inv (X.blk s3 H3 scope ce fp) [] τ G t → (∀ b ∈ fp, G b = none) → ∀ b ∈ fp, FpOk (X.blk s3 H3 scope ce fp) [] G b := fun {τ G t} J hn b hb =>
    ⟨hn b hb, (J.ok.exf b hb).1, J.ok.exfs b hb, .inl hb, fun x c e => (J.ok.exf b hb).2 x c e, fun p hp => nomatch (show p ∈ ([] : List (Addr × Obj)) from hp)⟩
  -- what an element lets out
  have out : ∀ {u : Value} {t : Shared}, XE (X.blk s3 H3 scope ce fp) (fun cls d _ G => E1 cls d G) u t → notedBy (model X.prog X.w) X.A ce (fun x t => postX (model X.prog X.w) X.A X.xe X.env.frame use Qf (.ref D) s3.heap.objs.size (.error x) t) u t := fun {u t} hx =>
    err_out hst hfl I3 f3 cL cF tk hx
  have none' : ∀ {u : Value} {t : Shared}, False → notedBy (model X.prog X.w) X.A ce (fun x t => postX (model X.prog X.w) X.A X.xe X.env.frame use Qf (.ref D) s3.heap.objs.size (.error x) t) u t := fun h => h.elim
  have loop : codeAny (model X.prog X.w) X.A (.compLoop (.ListComp elt [⟨tg, iter, ifs, 0⟩] scope pos) 0 (.ref it) (.ref D) ce) (postX (model X.prog X.w) X.A X.xe X.env.frame use Qf (.ref D) s3.heap.objs.size) s4 := by
    refine compLoop_any (fun n t => ∃ i G, Inv (X.blk s3 H3 scope ce fp) [] (wipe σ (own.map (·.2))) G t ∧ tn i t.heap ∧ (∀ b ∈ fp, G b = none) ∧ W i n G) ?_ m0 ⟨0, H3, I4, st4, nfp, w0⟩
    rintro n s5 ⟨i, H5, I5, st5, n5, w5⟩
    rcases turn i n H5 w5 with ⟨stop, qq⟩ | ⟨go, Nx, hNx, step⟩
    · refine thnF (T.done (X.blk s3 H3 scope ce fp) rfl rfl rfl hc i [] s5 _ H5 (fun _ _ => False) I5 (stat I5 n5) st5 stop) fun r s6 hr6 => ?_
      obtain ⟨hr, I6⟩ := hr6
      subst hr
      have I7 : Inv X pins σ H5 s6 := by
        refine I3.call' (ch := fp) I6.os I6.base I6.hok I6.bare fun b hb => ?_
        obtain ⟨_, y1, _, y2, y3, y4⟩ := (f3 b hb).1
        exact ⟨y2, y1, y3, y4⟩
      have nC : H5 s3.heap.objs.size = none := by
        have z : H5 ce.locals = none := I6.free
        rwa [cL] at z
      obtain ⟨m, hn, _⟩ := I6.loc
      have hn : s6.heap.Ns ce.locals m := hn
      rw [cL] at hn
      exact hRR D s3.heap.objs.size s6 m H5 I7 qq hn (I3.fpOk (Nat.le_refl _) nC)
    · refine thnF (T.item (X.blk s3 H3 scope ce fp) rfl rfl rfl hc i [] s5 _ H5 (fun _ _ => False) I5 (stat I5 n5) st5 go) fun r s6 hr6 => ?_
      obtain ⟨u, hr, h6⟩ := hr6
      subst hr
      refine thnF h6 fun _ s7 h7 => ?_
      obtain ⟨x, H7, I7, r7, y7, st7, n7⟩ := h7
      have I7' := I7.pinned (stat I7 n7) (T.obj _ _ st7)
      refine thnF (pg.run _ s7 _ H7 x u _ I7' r7 (step x H7 y7)) fun _ s8 h8 => ?_
      obtain ⟨τ, H8, I8, hw8, q8⟩ := h8
      refine thnF (pt.run _ s8 τ H8 _ I8 q8) fun b s9 h9 => ?_
      obtain ⟨H9, I9, q9⟩ := h9
      have fin : ∀ {t : Shared} {G : Hp}, Inv (X.blk s3 H3 scope ce fp) ([] ++ pinsAt fp s7.heap) τ G t → Nx G → ∃ m, m < n ∧ ∃ i G, Inv (X.blk s3 H3 scope ce fp) [] (wipe σ (own.map (·.2))) G t ∧ tn i t.heap ∧ (∀ b ∈ fp, G b = none) ∧ W i m G := fun {t G} J nx => by
        obtain ⟨m', hm, w'⟩ := hNx G nx
        have held : ∀ b ∈ fp, ∀ o, s7.heap.get? b = some o → t.heap.get? b = some o ∧ G b = none := fun b hb o q => by
          obtain ⟨y1, y2, _⟩ := J.pin (b, o) (List.mem_append_right _ (List.mem_append_right _ (mem_pinsAt hb q)))
          exact ⟨y1, y2⟩
        have hl : (wipe σ (own.map (·.2))).length = τ.length := by rw [← hw8, wipe_length]
        refine ⟨m', hm, i + 1, G, (J.unpinned (pins := [])).weak hl (fun j v q => by rw [← hw8] at q; exact (wipe_some q).1), T.keep _ _ _ st7 fun b hb o q => (held b hb o q).1, fun b hb => ?_, w'⟩
        obtain ⟨o, q, _⟩ := T.obj _ _ st7 b hb
        exact (held b hb o q).2
      cases b with
      | false =>
        simp only [Bool.false_eq_true, if_false] at q9 ⊢
        exact fin I9 q9
      | true =>
        simp only [if_true] at q9 ⊢
        have pe' := pe ((X.blk s3 H3 scope ce fp).pn ++ ([] ++ pinsAt fp s7.heap)) (fun u t => XE (X.blk s3 H3 scope ce fp) (fun cls d _ G => E1 cls d G) u t) fun u t hx => XE.ofTr hx
        refine wpAny_mono (pe'.run _ s9 τ H9 _ (I9.toTry _) q9) (fun z s10 h10 => ?_) fun u t hx => out hx
        obtain ⟨yv, H10, I10, r10, acc, hD10, hz10, nx⟩ := h10
        exact app_ok (X := X.blk s3 H3 scope ce fp) (I10.ofTry I9.ok) hD10 hz10 r10 fun s11 I11 => fin I11 nx
  exact codeAny_compStart_list loop (T.self X.A 0 _ _ _ st4 loop)
/-- as a value -/
theorem pe_lcX {elt tg iter : Expr} {ifs : List Expr} {scope : Scope} {own : List (Str × Nat)} {pos : Pos} {wi : TI} {g : TG} {tt : TT} {te : TE} {E1 : XK} (tk : Takes X fun cls d _ G => E1 cls d G) (hst : X.stack = X.env :: X.outer) (hfl : X.env.frame = some X.env.locals) (hc : X.calm = true) (hN : X.N.Nodup) (hi : PI X tg iter wi) (ok : BlkOk X.N X.env.scope scope own)
    (hg : ∀ (s : Shared) (H : Hp) (C : Addr) (cl : List (Str × Addr)) (fp : List Addr), PG (X.blk s H scope (compEnvC scope cl C X.env) fp) tg g)
    (ht : ∀ (s : Shared) (H : Hp) (C : Addr) (cl : List (Str × Addr)) (fp : List Addr), PTs (X.blk s H scope (compEnvC scope cl C X.env) fp) ifs tt)
    (he : ∀ (s : Shared) (H : Hp) (C : Addr) (cl : List (Str × Addr)) (fp : List Addr) (pn : List (Addr × Obj)) (xe : Value → Shared → Prop), Takes (X.blkX s H scope (compEnvC scope cl C X.env) fp pn xe) (fun cls d _ G => E1 cls d G) → PE (X.blkX s H scope (compEnvC scope cl C X.env) fp pn xe) elt te)
    (hs : ∀ x, foldedSetIterable iter X.env x = pure x := by intro _; rfl) :
    PE X (.ListComp elt [⟨tg, iter, ifs, 0⟩] scope pos) (tLc wi g tt te (own.map (·.2))) := by
  refine ⟨fun pins s σ H Q I h => ?_⟩
  rw [eval_ListComp]
  refine lcX_core hc hN hst hfl tk I (fun R q => hi.run pins s σ H R I q) ok hg ht he hs h fun D C t m G J q hn f => ⟨m, hn, fun g2 sb => ?_⟩
  obtain ⟨f0, f1, f2, f3, f4, f5⟩ := f
  exact ⟨.ref D, G, J.turned (t' := t.toks) (fun b o hb e => (sb.2 b hb).trans e) f0 f1 f3 f4 f5, rfl, q⟩
/-- name = [..] on one line, the name a local -/
theorem ps_setLcX {i : Nat} {y : Str} {py : Pos} {elt tg iter : Expr} {ifs : List Expr} {scope : Scope} {own : List (Str × Nat)} {pos spos : Pos} {wi : TI} {g : TG} {tt : TT} {te : TE} {E1 : XK} (tk : Takes X fun cls d _ G => E1 cls d G) (hst : X.stack = X.env :: X.outer) (hfl : X.env.frame = some X.env.locals) (hc : X.calm = true) (hN : X.N.Nodup) (hy : X.N[i]? = some y) (hyl : X.env.scope.names.lookup y = some .local)
    (hsw : swapsWith (.ListComp elt [⟨tg, iter, ifs, 0⟩] scope pos) (some (.Name y py)) spos.line X.env = pure true) (hi : PI X tg iter wi) (ok : BlkOk X.N X.env.scope scope own)
    (hg : ∀ (s : Shared) (H : Hp) (C : Addr) (cl : List (Str × Addr)) (fp : List Addr), PG (X.blk s H scope (compEnvC scope cl C X.env) fp) tg g)
    (ht : ∀ (s : Shared) (H : Hp) (C : Addr) (cl : List (Str × Addr)) (fp : List Addr), PTs (X.blk s H scope (compEnvC scope cl C X.env) fp) ifs tt)
    (he : ∀ (s : Shared) (H : Hp) (C : Addr) (cl : List (Str × Addr)) (fp : List Addr) (pn : List (Addr × Obj)) (xe : Value → Shared → Prop), Takes (X.blkX s H scope (compEnvC scope cl C X.env) fp pn xe) (fun cls d _ G => E1 cls d G) → PE (X.blkX s H scope (compEnvC scope cl C X.env) fp pn xe) elt te)
    (hs : ∀ x, foldedSetIterable iter X.env x = pure x := by intro _; rfl) :
    L2.PS X (.Assign [.Name y py] (.ListComp elt [⟨tg, iter, ifs, 0⟩] scope pos) spos) (tAsg (tLc wi g tt te (own.map (·.2))) (gName i)) := by
  refine ⟨fun pins s σ H D I h => ?_⟩
  rw [exec_Assign_Name_used _ _ _ _ hsw]
  refine wpAny_bind (wpAny_standAt (wpAny_bind ?_))
  have h : tLc wi g tt te (own.map (·.2)) σ H (fun x H1 => gName i x σ H1 D.nx) := h
  have core := lcX_core (pos := pos) (pos' := firstIterPos [⟨tg, iter, ifs, 0⟩] pos) (use := some (assign (.Name y py) X.env)) (Qf := fun _ t => SP X pins D .next t) hc hN hst hfl tk I (fun R q => hi.run pins s σ H R I q) ok hg ht he hs h fun L C t m G J q hn f => by
    show wpAny _ _ (assign (.Name y py) X.env (.ref L)) _ _ _
    refine wpAny_assign_Name (store_ok2 (v := V.ref L) J hN hy (.inl hyl) rfl (fun t2 J2 hx => ?_) (.inr hyl))
    obtain ⟨a, sb, ha⟩ := hx
    obtain ⟨f0, f1, f2, f3, f4, f5⟩ := f
    have haC : C ≠ a := by
      rcases ha with z | z
      · rw [z]; exact f1
      · exact fun e => f4 y a z e.symm
    refine ⟨m, hn.sameBut sb haC, fun g3 sb3 => ?_⟩
    exact ⟨_, G, J2.turned (t' := t2.toks) (fun b o hb e => (sb3.2 b hb).trans e) f0 f1 f3 f4 f5, q⟩
  exact wpAny_bind (thn core fun _ _ hq => wpAny_pure (wpAny_pure hq))
end
section
variable {K : PySem.W.Frag} {σ : L2.St} {H H1 : Hp} {tl te : TE} {tt : TT} {vs : List Nat} {j : Nat}
/-- some elements are left out -/
theorem lc_filt {J : It} {G : Hp → Prop} {Y : Nat → Hp → V → Hp → Prop} {xs : List V} {D : Addr} {Qd : Hp → Prop} (w : Walk J xs.length G Y) (hY : ∀ i H x H', i < xs.length → Y i H x H' → H' = H ∧ xs[i]? = some x)
    (hz : xs.length ≤ 90000) (hw : ∀ x, wipe ((wipe σ vs).set j (some x)) vs = wipe σ vs) (p : V → Bool) (f : V → V) (hG : ∀ H', Ex H1 H' → G H') (ht : ∀ x ∈ xs, ∀ H', Ex H1 H' → EvT tt ((wipe σ vs).set j (some x)) H' (p x))
    (he : ∀ x ∈ xs, p x = true → ∀ H', Ex H1 H' → Ev te ((wipe σ vs).set j (some x)) H' (f x)) (hD : H1 D = none) (k : ∀ H', Ex H1 H' → H' D = some (.lst ((xs.filter p).map f)) → Qd H') :
    ∃ W : Nat → Nat → Hp → Prop, (∃ m, W 0 m (upd H1 D (.lst []))) ∧ ∀ i m H, W i m H →
      (J.stop i H ∧ Qd H) ∨ (J.go i H ∧ ∃ Nx : Hp → Prop, (∀ H', Nx H' → ∃ m', m' < m ∧ W (i + 1) m' H') ∧ ∀ x H', J.yld i H x H' → gName j x (wipe σ vs) H' fun σ2 H2 => wipe σ2 vs = wipe σ vs ∧ tt σ2 H2 fun b H3 =>
        if b = true then te σ2 H3 fun y H4 => ∃ acc, H4 D = some (.lst acc) ∧ acc.length < sizeLine ∧ Nx (upd H4 D (.lst (acc ++ [y]))) else Nx H3) := by
  refine lc_it w (fun i H' => Ex H1 H' ∧ H' D = some (.lst (((xs.take i).filter p).map f))) ⟨Ex.new hD, upd_same⟩ (fun i H' _ q => hG H' q.1) ?_ (fun H' q => k H' q.1 (by rw [q.2, List.take_length]))
  intro i x H2 H3 hi q y
  obtain ⟨e, hx⟩ := hY i H2 x H3 hi y
  subst e
  obtain ⟨q1, q2⟩ := q
  have m := List.mem_of_getElem? hx
  refine ⟨hw x, ht x m H3 q1 H3 (Ex.refl H3) _ fun H5 e5 => ?_⟩
  have hfl : ((xs.take i).filter p).length ≤ 90000 := Nat.le_trans (List.length_filter_le _ _) (by rw [List.length_take]; omega)
  cases c : p x with
  | true =>
    rw [if_pos rfl]
    refine he x m c H5 (q1.trans e5) H5 (Ex.refl H5) _ fun H4 e4 => ⟨((xs.take i).filter p).map f, e4 D _ (e5 D _ q2), sz_lt (by rw [List.length_map]; omega), Ex.mut (q1.trans (e5.trans e4)) hD, ?_⟩
    rw [upd_same, take_snoc hx, List.filter_append, List.map_append, List.filter_cons, if_pos c]
    rfl
  | false =>
    rw [if_neg Bool.false_ne_true]
    refine ⟨q1.trans e5, ?_⟩
    rw [e5 D _ q2, take_snoc hx, List.filter_append, List.filter_cons, if_neg (by rw [c]; exact Bool.false_ne_true)]
    show _ = some (HO.lst (((xs.take i).filter p ++ []).map f))
    rw [List.append_nil]
theorem el_filtS {z : Str} (p : V → Bool) (f : V → V) (h : Ev tl σ H (.str z)) (hz : z.cps.size ≤ 90000) (hw : ∀ x, wipe ((wipe σ vs).set j (some x)) vs = wipe σ vs)
    (ht : ∀ c ∈ z.cps.toList, ∀ H1, Ex H H1 → EvT tt ((wipe σ vs).set j (some (.str ⟨#[c]⟩))) H1 (p (.str ⟨#[c]⟩)))
    (he : ∀ c ∈ z.cps.toList, p (.str ⟨#[c]⟩) = true → ∀ H1, Ex H H1 → Ev te ((wipe σ vs).set j (some (.str ⟨#[c]⟩))) H1 (f (.str ⟨#[c]⟩))) : EvL (tLc (iStr tl) (gName j) tt te vs) σ H (((sgns z).filter p).map f) := fun H0 e Q q =>
  h H0 e _ fun H1 e1 => ⟨z, rfl, fun D hD => lc_filt (walk_signs z) (fun _ _ _ _ _ y => y) (by rw [sgns_len]; exact hz) hw p f (fun _ _ => trivial) (fun x m H' e' => by
    obtain ⟨c, hc, rfl⟩ := List.mem_map.mp m
    exact ht c hc H' ((e.trans e1).trans e')) (fun x m hp H' e' => by
    obtain ⟨c, hc, rfl⟩ := List.mem_map.mp m
    exact he c hc hp H' ((e.trans e1).trans e')) hD (fun H' e' hd => q D H' (fresh_back e1 hD) (e1.trans e') hd)⟩
/-- over a list, the element at n lets an exception out -/
theorem lc_leaves {J : It} {G : Hp → Prop} {Y : Nat → Hp → V → Hp → Prop} {xs : List V} {D : Addr} {Qd : Hp → Prop} {n : Nat} {x : V} (w : Walk J xs.length G Y) (hY : ∀ i H x H', i < xs.length → Y i H x H' → H' = H ∧ xs[i]? = some x)
    (hz : xs.length ≤ 90000) (hw : ∀ x, wipe ((wipe σ vs).set j (some x)) vs = wipe σ vs) (f : V → V) (hG : ∀ H', Ex H1 H' → G H') (hn : xs[n]? = some x) (he : ∀ i y, i < n → xs[i]? = some y → ∀ H', Ex H1 H' → Ev te ((wipe σ vs).set j (some y)) H' (f y))
    (hx : ∀ H', Ex H1 H' → ∀ Q : VK, te ((wipe σ vs).set j (some x)) H' Q) (hD : H1 D = none) :
    ∃ W : Nat → Nat → Hp → Prop, (∃ m, W 0 m (upd H1 D (.lst []))) ∧ ∀ i m H, W i m H →
      (J.stop i H ∧ Qd H) ∨ (J.go i H ∧ ∃ Nx : Hp → Prop, (∀ H', Nx H' → ∃ m', m' < m ∧ W (i + 1) m' H') ∧ ∀ x H', J.yld i H x H' → gName j x (wipe σ vs) H' fun σ2 H2 => wipe σ2 vs = wipe σ vs ∧ tYes σ2 H2 fun b H3 =>
        if b = true then te σ2 H3 fun y H4 => ∃ acc, H4 D = some (.lst acc) ∧ acc.length < sizeLine ∧ Nx (upd H4 D (.lst (acc ++ [y]))) else Nx H3) := by
  have hnl := (List.getElem?_eq_some_iff.mp hn).1
  refine lc_it w (fun i H' => i ≤ n ∧ Ex H1 H' ∧ H' D = some (.lst ((xs.take i).map f))) ⟨Nat.zero_le _, Ex.new hD, upd_same⟩ (fun i H' _ q => hG H' q.2.1) ?_ (fun H' q => by
    have := q.1
    omega)
  intro i y H2 H3 hi q yy
  obtain ⟨e, hy⟩ := hY i H2 y H3 hi yy
  subst e
  obtain ⟨q0, q1, q2⟩ := q
  refine ⟨hw y, ?_⟩
  dsimp only [tYes]
  rw [if_pos rfl]
  by_cases c : i = n
  · subst c
    rw [hn] at hy
    cases hy
    exact hx H3 q1 _
  · refine he i y (by omega) hy H3 q1 H3 (Ex.refl H3) _ fun H4 e4 => ⟨(xs.take i).map f, e4 D _ q2, sz_lt (by rw [List.length_map, List.length_take]; omega), by omega, Ex.mut (q1.trans e4) hD, ?_⟩
    rw [upd_same, take_snoc hy, List.map_append]
    rfl
theorem ex_lcL {a : Addr} {xs : List V} {n : Nat} {x : V} (f : V → V) (h : Ev tl σ H (.ref a)) (hS : SqL K H a xs) (hz : xs.length ≤ 90000) (hw : ∀ x, wipe ((wipe σ vs).set j (some x)) vs = wipe σ vs) (hn : xs[n]? = some x)
    (he : ∀ i y, i < n → xs[i]? = some y → ∀ H', Ex H H' → Ev te ((wipe σ vs).set j (some y)) H' (f y)) (hx : ∀ H', Ex H H' → ∀ Q : VK, te ((wipe σ vs).set j (some x)) H' Q) (Q : VK) : tLc (iList K tl) (gName j) tYes te vs σ H Q :=
  h H (Ex.refl H) _ fun H1 e1 => ⟨a, rfl, ⟨xs, ex_l e1 hS⟩, fun D hD => lc_leaves walk_list (fun _ _ _ _ _ y => y) hz hw f (fun H' e' => ex_l (e1.trans e') hS) hn (fun i y hi hy H' e' => he i y hi hy H' (e1.trans e')) (fun H' e' => hx H' (e1.trans e')) hD⟩
end
end Gd

set_option Elab.async false
set_option linter.all false
set_option maxRecDepth 100000
set_option maxHeartbeats 4000000
/-! Of our own: a call with a written number at its end leaves a token out; a list comprehension whose walk wants one. -/
namespace Gd
open PySem PySem.Spec PyProof.Rows L2 Evl CwR
section
variable {X : Cx} {CX : CXT} {k : Nat} {f : Addr} {fd : FuncData} {ps : List Str} {sp : Sp} {dvs : List V} {ds : List Value} {E : XK} {x y : Str} {p pos cp py spos : Pos} {e : Expr} {te : TE} {n : Int} {j i : Nat} {rest : List Stmt} {u : TS}
/-- y = f(e, 14) .. : behind it a token is out -/
theorem pss_callI (hN : X.N.Nodup) (hi : X.N[i]? = some y) (hx : Loc X.env.scope y) (F : FnOk X.prog X.w X.K X.mg X.base CX k f fd ps sp) (hr : Room k X.A) (hg : Gl X x) (hm : X.mg x = some (.ref f)) (hk : PySem.W.keepIn X.K (.ref f) = true) (hb : Binds X.K fd ps ds) (hd : Vals dvs ds) (hp : Passes CX X E)
    (ha : PE X e te) (h2 : PSsT X rest u)
    (hdb : (x == ("__debug__" : Str)) = false := by decide) (he : starEach [e, .Constant (.int n) j cp] X.env = (false, eval e X.env) :: starEach [.Constant (.int n) j cp] X.env := by rfl) (hpl : (backTo pos (starEach [.Constant (.int n) j cp] X.env)).any (·.1) = false := by rfl)
    (hs : swapsWith (.Call (.Name x p) [e, .Constant (.int n) j cp] [] pos) (some (.Name y py)) spos.line X.env = pure false := by rfl) (hf : X.fn y = true ∨ X.env.scope.names.lookup y = some .local := by first | exact .inl rfl | exact .inr rfl | assumption) :
    PSs X (.Assign [.Name y py] (.Call (.Name x p) [e, .Constant (.int n) j cp] [] pos) spos :: rest) (tSeq (tAsg (tCall sp dvs E (tCons te (tCons (tC (.int n)) tNil))) (gName i)) u) := by
  refine ⟨fun pins s σ H D I h => ?_⟩
  have h : te σ H fun v H1 => sp ([v, .int n] ++ dvs) H1 (fun v H2 => u D (σ.set i (some v)) H2) E := h
  have step : wpAny (model X.prog X.w) X.A (eval (.Call (.Name x p) [e, .Constant (.int n) j cp] [] pos) X.env) (fun v s1 => 1 ≤ s1.toks ∧ EP X pins σ (fun v H2 => u D (σ.set i (some v)) H2) v s1) X.xe s := by
    refine wpAny_Call_Name_kw (ld_glob I hg hm ?_ hdb)
    have args : wpAny (model X.prog X.w) X.A (spliced (backTo pos (starEach [e, .Constant (.int n) j cp] X.env))) (fun us s1 => 1 ≤ s1.toks ∧ AP X pins σ (fun vs H1 => sp (vs ++ dvs) H1 (fun v H2 => u D (σ.set i (some v)) H2) E) us s1) X.xe s := by
      rw [he]
      show wpAny _ _ (spliced ((false, eval e X.env) :: backTo pos (starEach [.Constant (.int n) j cp] X.env))) _ _ s
      refine Calls.spliced_cons (thn (ha.run pins s σ H _ I h) fun v s1 ⟨x1, H1, I1, r1, q1⟩ => ?_)
      show wpAny _ _ (spliced ((false, eval (.Constant (.int n) j cp) X.env) :: backTo pos (starEach [] X.env))) _ _ s1
      refine Calls.spliced_cons (wpAny_Constant_int (Calls.spliced_nil ⟨by show 1 ≤ s1.toks + 1; omega, [x1, .int n], H1, I1.tok _, .cons r1 (.cons ⟨_, rfl⟩ .nil), q1⟩))
    refine PySem.W.callWith_K (h₀ := X.base) I.ok.mod.kin hk (thn args fun us s1 ⟨h1, vs, H1, I1, r, q⟩ => ⟨I1.kIn, ?_⟩) he hpl
    exact wpAny_mono (PySem.wpAny_toks (run_fn F hr hb hd hp I1 r q)) (fun v s2 q => ⟨Nat.le_trans h1 q.1, q.2⟩) fun _ _ z => z.2
  refine wpAny_execs_cons (wpAny_Assign_Name (thn step fun v s1 ⟨h1, y1, H1, I1, r1, q1⟩ => ?_) hs)
  refine wpAny_mono (PySem.wpAny_toks (store_ok (Q := fun _ s2 => Inv X pins (σ.set i (some y1)) H1 s2) I1 hN hi hx r1 (fun s2 I2 => I2) hf)) (fun _ s2 q => ?_) fun _ _ z => z.2
  exact h2 pins s2 _ H1 D (Nat.le_trans h1 q.1) q.2 q1
end
theorem pit_strT {X : Cx} {tg e : Expr} {te : TE} (he : PET X e te) : PIT X tg e (iStr te) := by
  intro pins s σ H R h0 I h
  refine thn (he pins s σ H _ h0 I h) fun v s1 ⟨y, H1, I1, r1, x, ex, q⟩ => ?_
  subst ex
  obtain ⟨t, rfl⟩ := r1
  cases ha : x.cps.all (· < 128)
  · exact wpAny_pyIter_wide ha (pi_one (tk := s1.toks) I1 _ (turn_str _ x t "str_iterator" (.inr rfl)) ⟨_, Heap.get?_push_size _ rfl, rfl, rfl⟩ q)
  · exact wpAny_pyIter_ascii ha (pi_one (tk := s1.toks) I1 _ (turn_str _ x t "str_ascii_iterator" (.inl rfl)) ⟨_, Heap.get?_push_size _ rfl, rfl, rfl⟩ q)
section
variable {X : Cx}
/-- name = [..] on one line, the name a local, one token out -/
theorem pst_setLcX {i : Nat} {y : Str} {py : Pos} {elt tg iter : Expr} {ifs : List Expr} {scope : Scope} {own : List (Str × Nat)} {pos spos : Pos} {wi : TI} {g : TG} {tt : TT} {te : TE} {E1 : XK} (tk : Takes X fun cls d _ G => E1 cls d G) (hst : X.stack = X.env :: X.outer) (hfl : X.env.frame = some X.env.locals) (hc : X.calm = true) (hN : X.N.Nodup) (hy : X.N[i]? = some y) (hyl : X.env.scope.names.lookup y = some .local)
    (hsw : swapsWith (.ListComp elt [⟨tg, iter, ifs, 0⟩] scope pos) (some (.Name y py)) spos.line X.env = pure true) (hi : PIT X tg iter wi) (ok : BlkOk X.N X.env.scope scope own)
    (hg : ∀ (s : Shared) (H : Hp) (C : Addr) (cl : List (Str × Addr)) (fp : List Addr), PG (X.blk s H scope (compEnvC scope cl C X.env) fp) tg g)
    (ht : ∀ (s : Shared) (H : Hp) (C : Addr) (cl : List (Str × Addr)) (fp : List Addr), PTs (X.blk s H scope (compEnvC scope cl C X.env) fp) ifs tt)
    (he : ∀ (s : Shared) (H : Hp) (C : Addr) (cl : List (Str × Addr)) (fp : List Addr) (pn : List (Addr × Obj)) (xe : Value → Shared → Prop), Takes (X.blkX s H scope (compEnvC scope cl C X.env) fp pn xe) (fun cls d _ G => E1 cls d G) → PE (X.blkX s H scope (compEnvC scope cl C X.env) fp pn xe) elt te)
    (hs : ∀ x, foldedSetIterable iter X.env x = pure x := by intro _; rfl) :
    PST X (.Assign [.Name y py] (.ListComp elt [⟨tg, iter, ifs, 0⟩] scope pos) spos) (tAsg (tLc wi g tt te (own.map (·.2))) (gName i)) := by
  intro pins s σ H D h0 I h
  rw [exec_Assign_Name_used _ _ _ _ hsw]
  refine wpAny_bind (wpAny_standAt (wpAny_bind ?_))
  have h : tLc wi g tt te (own.map (·.2)) σ H (fun x H1 => gName i x σ H1 D.nx) := h
  have core := lcX_core (pos := pos) (pos' := firstIterPos [⟨tg, iter, ifs, 0⟩] pos) (use := some (assign (.Name y py) X.env)) (Qf := fun _ t => SP X pins D .next t) hc hN hst hfl tk I (fun R q => hi pins s σ H R h0 I q) ok hg ht he hs h fun L C t m G J q hn f => by
    show wpAny _ _ (assign (.Name y py) X.env (.ref L)) _ _ _
    refine wpAny_assign_Name (store_ok2 (v := V.ref L) J hN hy (.inl hyl) rfl (fun t2 J2 hx => ?_) (.inr hyl))
    obtain ⟨a, sb, ha⟩ := hx
    obtain ⟨f0, f1, f2, f3, f4, f5⟩ := f
    have haC : C ≠ a := by
      rcases ha with z | z
      · rw [z]; exact f1
      · exact fun e => f4 y a z e.symm
    refine ⟨m, hn.sameBut sb haC, fun g3 sb3 => ?_⟩
    exact ⟨_, G, J2.turned (t' := t2.toks) (fun b o hb e => (sb3.2 b hb).trans e) f0 f1 f3 f4 f5, q⟩
  exact wpAny_bind (thn core fun _ _ hq => wpAny_pure (wpAny_pure hq))
end
end Gd

set_option Elab.async false
set_option linter.all false
set_option maxRecDepth 100000
set_option maxHeartbeats 4000000
set_option exponentiation.threshold 600
namespace K19
open PySem PySem.Spec PyProof.Rows L2 Evl Gd
open PySem.NumText (AllDigits digitsVal)
/-! ### the text -/
def topS (i : Nat) : Stmt := PySem.Challenge.pw_plinth_k19_listings_are_read_back.main.body.getD i (.Pass ⟨0, 0, 0, 0⟩)
abbrev sI_NotListable : Stmt := inClass (topS 4) 0
abbrev s_nodes_of : Stmt := topS 6
abbrev N_nodes_of : List Str := ["image", "start"]
theorem sc_nodes_of : FnScope N_nodes_of ["image"] (defScope s_nodes_of) := ⟨rfl, rfl, rfl, by decide +kernel, rfl, by decide +kernel, by decide +kernel⟩
abbrev s_is_character : Stmt := topS 16
abbrev N_is_character : List Str := ["code"]
theorem sc_is_character : FnScope N_is_character ["code"] (defScope s_is_character) := ⟨rfl, rfl, rfl, by decide +kernel, rfl, by decide +kernel, by decide +kernel⟩
abbrev s_is_digit : Stmt := topS 17
abbrev N_is_digit : List Str := ["code"]
theorem sc_is_digit : FnScope N_is_digit ["code"] (defScope s_is_digit) := ⟨rfl, rfl, rfl, by decide +kernel, rfl, by decide +kernel, by decide +kernel⟩
abbrev s_with_digit : Stmt := topS 18
abbrev N_with_digit : List Str := ["number", "code"]
theorem sc_with_digit : FnScope N_with_digit ["number", "code"] (defScope s_with_digit) := ⟨rfl, rfl, rfl, by decide +kernel, rfl, by decide +kernel, by decide +kernel⟩
abbrev s_character : Stmt := topS 19
abbrev N_character : List Str := ["code"]
theorem sc_character : FnScope N_character ["code"] (defScope s_character) := ⟨rfl, rfl, rfl, by decide +kernel, rfl, by decide +kernel, by decide +kernel⟩
abbrev s_text_of : Stmt := topS 20
abbrev N_text_of : List Str := ["codes", "code"]
theorem sc_text_of : FnScope N_text_of ["codes"] (defScope s_text_of) := ⟨rfl, rfl, rfl, by decide +kernel, rfl, by decide +kernel, by decide +kernel⟩
abbrev s_has_numeral : Stmt := topS 21
abbrev N_has_numeral : List Str := ["number"]
theorem sc_has_numeral : FnScope N_has_numeral ["number"] (defScope s_has_numeral) := ⟨rfl, rfl, rfl, by decide +kernel, rfl, by decide +kernel, by decide +kernel⟩
abbrev s_numeral : Stmt := topS 22
abbrev N_numeral : List Str := ["number"]
theorem sc_numeral : FnScope N_numeral ["number"] (defScope s_numeral) := ⟨rfl, rfl, rfl, by decide +kernel, rfl, by decide +kernel, by decide +kernel⟩
abbrev s_is_listed_number : Stmt := topS 25
abbrev N_is_listed_number : List Str := ["number"]
theorem sc_is_listed_number : FnScope N_is_listed_number ["number"] (defScope s_is_listed_number) := ⟨rfl, rfl, rfl, by decide +kernel, rfl, by decide +kernel, by decide +kernel⟩
abbrev s_is_listed_sign : Stmt := topS 26
abbrev N_is_listed_sign : List Str := ["operation"]
theorem sc_is_listed_sign : FnScope N_is_listed_sign ["operation"] (defScope s_is_listed_sign) := ⟨rfl, rfl, rfl, by decide +kernel, rfl, by decide +kernel, by decide +kernel⟩
abbrev s_fits : Stmt := topS 27
abbrev N_fits : List Str := ["node", "number", "operation", "argument", "successor", "part"]
theorem sc_fits : FnScope N_fits ["node"] (defScope s_fits) := ⟨rfl, rfl, rfl, by decide +kernel, rfl, by decide +kernel, by decide +kernel⟩
abbrev s_misfit : Stmt := topS 28
abbrev N_misfit : List Str := ["image", "nodes", "at", "node"]
theorem sc_misfit : FnScope N_misfit ["image"] (defScope s_misfit) := ⟨rfl, rfl, rfl, by decide +kernel, rfl, by decide +kernel, by decide +kernel⟩
abbrev s_can_list : Stmt := topS 29
abbrev N_can_list : List Str := ["image"]
theorem sc_can_list : FnScope N_can_list ["image"] (defScope s_can_list) := ⟨rfl, rfl, rfl, by decide +kernel, rfl, by decide +kernel, by decide +kernel⟩
abbrev s_line : Stmt := topS 30
abbrev N_line : List Str := ["node", "expected", "number", "operation", "argument", "successor", "place", "shown"]
theorem sc_line : FnScope N_line ["node", "expected"] (defScope s_line) := ⟨rfl, rfl, rfl, by decide +kernel, rfl, by decide +kernel, by decide +kernel⟩
abbrev s_listing : Stmt := topS 31
abbrev N_listing : List Str := ["image", "at", "lines", "expected", "node"]
theorem sc_listing : FnScope N_listing ["image"] (defScope s_listing) := ⟨rfl, rfl, rfl, by decide +kernel, rfl, by decide +kernel, by decide +kernel⟩
abbrev s_ShortReader_init : Stmt := inClass (topS 34) 0
abbrev N_ShortReader_init : List Str := ["self"]
theorem sc_ShortReader_init : FnScope N_ShortReader_init ["self"] (defScope s_ShortReader_init) := ⟨rfl, rfl, rfl, by decide +kernel, rfl, by decide +kernel, by decide +kernel⟩
abbrev s_ShortReader_feed : Stmt := inClass (topS 34) 1
abbrev N_ShortReader_feed : List Str := ["self", "codes", "code"]
theorem sc_ShortReader_feed : FnScope N_ShortReader_feed ["self", "codes"] (defScope s_ShortReader_feed) := ⟨rfl, rfl, rfl, by decide +kernel, rfl, by decide +kernel, by decide +kernel⟩
abbrev s_ShortReader_image : Stmt := inClass (topS 34) 2
abbrev N_ShortReader_image : List Str := ["self"]
theorem sc_ShortReader_image : FnScope N_ShortReader_image ["self"] (defScope s_ShortReader_image) := ⟨rfl, rfl, rfl, by decide +kernel, rfl, by decide +kernel, by decide +kernel⟩
abbrev s_ShortReader_take : Stmt := inClass (topS 34) 3
abbrev N_ShortReader_take : List Str := ["self", "code"]
theorem sc_ShortReader_take : FnScope N_ShortReader_take ["self", "code"] (defScope s_ShortReader_take) := ⟨rfl, rfl, rfl, by decide +kernel, rfl, by decide +kernel, by decide +kernel⟩
abbrev s_ShortReader_take_sign : Stmt := inClass (topS 34) 4
abbrev N_ShortReader_take_sign : List Str := ["self", "code"]
theorem sc_ShortReader_take_sign : FnScope N_ShortReader_take_sign ["self", "code"] (defScope s_ShortReader_take_sign) := ⟨rfl, rfl, rfl, by decide +kernel, rfl, by decide +kernel, by decide +kernel⟩
abbrev s_ShortReader_emit : Stmt := inClass (topS 34) 5
abbrev N_ShortReader_emit : List Str := ["self", "operation", "argument", "successor"]
theorem sc_ShortReader_emit : FnScope N_ShortReader_emit ["self", "operation", "argument", "successor"] (defScope s_ShortReader_emit) := ⟨rfl, rfl, rfl, by decide +kernel, rfl, by decide +kernel, by decide +kernel⟩
abbrev s_translate_short : Stmt := topS 35
abbrev N_translate_short : List Str := ["codes", "reader"]
theorem sc_translate_short : FnScope N_translate_short ["codes"] (defScope s_translate_short) := ⟨rfl, rfl, rfl, by decide +kernel, rfl, by decide +kernel, by decide +kernel⟩
abbrev s_law_number : Stmt := topS 37
abbrev N_law_number : List Str := ["cell"]
theorem sc_law_number : FnScope N_law_number ["cell"] (defScope s_law_number) := ⟨rfl, rfl, rfl, by decide +kernel, rfl, by decide +kernel, by decide +kernel⟩
abbrev s_law_draws : Stmt := topS 38
abbrev N_law_draws : List Str := ["script", "draws", "seed", "cell", "rest", "k", "once", "twice"]
theorem sc_law_draws : FnScope N_law_draws ["script"] (defScope s_law_draws) := ⟨rfl, rfl, rfl, by decide +kernel, rfl, by decide +kernel, by decide +kernel⟩
abbrev s_law_draw : Stmt := topS 39
abbrev N_law_draw : List Str := ["draws"]
theorem sc_law_draw : FnScope N_law_draw ["draws"] (defScope s_law_draw) := ⟨rfl, rfl, rfl, by decide +kernel, rfl, by decide +kernel, by decide +kernel⟩
abbrev s_law_pick : Stmt := topS 40
abbrev N_law_pick : List Str := ["draws", "many"]
theorem sc_law_pick : FnScope N_law_pick ["draws", "many"] (defScope s_law_pick) := ⟨rfl, rfl, rfl, by decide +kernel, rfl, by decide +kernel, by decide +kernel⟩
abbrev s_law_is_integer : Stmt := topS 41
abbrev N_law_is_integer : List Str := ["actual"]
theorem sc_law_is_integer : FnScope N_law_is_integer ["actual"] (defScope s_law_is_integer) := ⟨rfl, rfl, rfl, by decide +kernel, rfl, by decide +kernel, by decide +kernel⟩
abbrev s_law_is_cells : Stmt := topS 42
abbrev N_law_is_cells : List Str := ["actual", "number"]
theorem sc_law_is_cells : FnScope N_law_is_cells ["actual"] (defScope s_law_is_cells) := ⟨rfl, rfl, rfl, by decide +kernel, rfl, by decide +kernel, by decide +kernel⟩
abbrev s_law_sign : Stmt := topS 43
abbrev N_law_sign : List Str := ["draws", "signs"]
theorem sc_law_sign : FnScope N_law_sign ["draws"] (defScope s_law_sign) := ⟨rfl, rfl, rfl, by decide +kernel, rfl, by decide +kernel, by decide +kernel⟩
abbrev s_law_value : Stmt := topS 44
abbrev N_law_value : List Str := ["draws", "kind"]
theorem sc_law_value : FnScope N_law_value ["draws"] (defScope s_law_value) := ⟨rfl, rfl, rfl, by decide +kernel, rfl, by decide +kernel, by decide +kernel⟩
abbrev s_law_node : Stmt := topS 45
abbrev N_law_node : List Str := ["draws", "expected", "number", "op"]
theorem sc_law_node : FnScope N_law_node ["draws", "expected"] (defScope s_law_node) := ⟨rfl, rfl, rfl, by decide +kernel, rfl, by decide +kernel, by decide +kernel⟩
abbrev s_law_image : Stmt := topS 46
abbrev N_law_image : List Str := ["draws", "many", "cells", "expected", "k", "node"]
theorem sc_law_image : FnScope N_law_image ["draws", "many"] (defScope s_law_image) := ⟨rfl, rfl, rfl, by decide +kernel, rfl, by decide +kernel, by decide +kernel⟩
abbrev s_law : Stmt := topS 47
abbrev N_law : List Str := ["script", "draws", "cells", "text", "codes", "char", "back", "spaced"]
theorem sc_law : FnScope N_law ["script"] (defScope s_law) := ⟨rfl, rfl, rfl, by decide +kernel, rfl, by decide +kernel, by decide +kernel⟩
abbrev str_FROM_AMPERSAND : Str := "&'()*+,-./0123456789:;<=>?@ABCDEFGHIJKLMNOPQRSTUVWXYZ[\\]^_`abcdefghijklmnopqrstuvwxyz{|}~"
abbrev str_FROM_SPACE : Str := " !\"#$"
/-! ### what the top has written -/
structure Txt (K : PySem.W.Frag) (mg : Str → Option Value) where
  C_ShortReader : Addr
  f_nodes_of : Addr
  d_nodes_of : FuncData
  F_nodes_of : Fun K "nodes_of" "nodes_of" s_nodes_of f_nodes_of d_nodes_of
  b_nodes_of : Binds K d_nodes_of ["image"] []
  g_nodes_of : mg "nodes_of" = some (.ref f_nodes_of)
  f_is_character : Addr
  d_is_character : FuncData
  F_is_character : Fun K "is_character" "is_character" s_is_character f_is_character d_is_character
  b_is_character : Binds K d_is_character ["code"] []
  g_is_character : mg "is_character" = some (.ref f_is_character)
  f_is_digit : Addr
  d_is_digit : FuncData
  F_is_digit : Fun K "is_digit" "is_digit" s_is_digit f_is_digit d_is_digit
  b_is_digit : Binds K d_is_digit ["code"] []
  g_is_digit : mg "is_digit" = some (.ref f_is_digit)
  f_with_digit : Addr
  d_with_digit : FuncData
  F_with_digit : Fun K "with_digit" "with_digit" s_with_digit f_with_digit d_with_digit
  b_with_digit : Binds K d_with_digit ["number", "code"] []
  g_with_digit : mg "with_digit" = some (.ref f_with_digit)
  f_character : Addr
  d_character : FuncData
  F_character : Fun K "_character" "_character" s_character f_character d_character
  b_character : Binds K d_character ["code"] []
  g_character : mg "_character" = some (.ref f_character)
  f_text_of : Addr
  d_text_of : FuncData
  F_text_of : Fun K "text_of" "text_of" s_text_of f_text_of d_text_of
  b_text_of : Binds K d_text_of ["codes"] []
  g_text_of : mg "text_of" = some (.ref f_text_of)
  f_has_numeral : Addr
  d_has_numeral : FuncData
  F_has_numeral : Fun K "has_numeral" "has_numeral" s_has_numeral f_has_numeral d_has_numeral
  b_has_numeral : Binds K d_has_numeral ["number"] []
  g_has_numeral : mg "has_numeral" = some (.ref f_has_numeral)
  f_numeral : Addr
  d_numeral : FuncData
  F_numeral : Fun K "numeral" "numeral" s_numeral f_numeral d_numeral
  b_numeral : Binds K d_numeral ["number"] []
  g_numeral : mg "numeral" = some (.ref f_numeral)
  f_is_listed_number : Addr
  d_is_listed_number : FuncData
  F_is_listed_number : Fun K "_is_listed_number" "_is_listed_number" s_is_listed_number f_is_listed_number d_is_listed_number
  b_is_listed_number : Binds K d_is_listed_number ["number"] []
  g_is_listed_number : mg "_is_listed_number" = some (.ref f_is_listed_number)
  f_is_listed_sign : Addr
  d_is_listed_sign : FuncData
  F_is_listed_sign : Fun K "_is_listed_sign" "_is_listed_sign" s_is_listed_sign f_is_listed_sign d_is_listed_sign
  b_is_listed_sign : Binds K d_is_listed_sign ["operation"] []
  g_is_listed_sign : mg "_is_listed_sign" = some (.ref f_is_listed_sign)
  f_fits : Addr
  d_fits : FuncData
  F_fits : Fun K "_fits" "_fits" s_fits f_fits d_fits
  b_fits : Binds K d_fits ["node"] []
  g_fits : mg "_fits" = some (.ref f_fits)
  f_misfit : Addr
  d_misfit : FuncData
  F_misfit : Fun K "_misfit" "_misfit" s_misfit f_misfit d_misfit
  b_misfit : Binds K d_misfit ["image"] []
  g_misfit : mg "_misfit" = some (.ref f_misfit)
  f_can_list : Addr
  d_can_list : FuncData
  F_can_list : Fun K "can_list" "can_list" s_can_list f_can_list d_can_list
  b_can_list : Binds K d_can_list ["image"] []
  g_can_list : mg "can_list" = some (.ref f_can_list)
  f_line : Addr
  d_line : FuncData
  F_line : Fun K "_line" "_line" s_line f_line d_line
  b_line : Binds K d_line ["node", "expected"] []
  g_line : mg "_line" = some (.ref f_line)
  f_listing : Addr
  d_listing : FuncData
  F_listing : Fun K "listing" "listing" s_listing f_listing d_listing
  b_listing : Binds K d_listing ["image"] []
  g_listing : mg "listing" = some (.ref f_listing)
  f_ShortReader_init : Addr
  d_ShortReader_init : FuncData
  F_ShortReader_init : Fun K "__init__" "ShortReader.__init__" s_ShortReader_init f_ShortReader_init d_ShortReader_init
  b_ShortReader_init : Binds K d_ShortReader_init ["self"] []
  m_ShortReader_init : Mk K C_ShortReader f_ShortReader_init
  f_ShortReader_feed : Addr
  d_ShortReader_feed : FuncData
  F_ShortReader_feed : Fun K "feed" "ShortReader.feed" s_ShortReader_feed f_ShortReader_feed d_ShortReader_feed
  b_ShortReader_feed : Binds K d_ShortReader_feed ["self", "codes"] []
  m_ShortReader_feed : Meth K C_ShortReader "feed" f_ShortReader_feed
  f_ShortReader_image : Addr
  d_ShortReader_image : FuncData
  F_ShortReader_image : Fun K "image" "ShortReader.image" s_ShortReader_image f_ShortReader_image d_ShortReader_image
  b_ShortReader_image : Binds K d_ShortReader_image ["self"] []
  m_ShortReader_image : Meth K C_ShortReader "image" f_ShortReader_image
  f_ShortReader_take : Addr
  d_ShortReader_take : FuncData
  F_ShortReader_take : Fun K "_take" "ShortReader._take" s_ShortReader_take f_ShortReader_take d_ShortReader_take
  b_ShortReader_take : Binds K d_ShortReader_take ["self", "code"] []
  m_ShortReader_take : Meth K C_ShortReader "_take" f_ShortReader_take
  f_ShortReader_take_sign : Addr
  d_ShortReader_take_sign : FuncData
  F_ShortReader_take_sign : Fun K "_take_sign" "ShortReader._take_sign" s_ShortReader_take_sign f_ShortReader_take_sign d_ShortReader_take_sign
  b_ShortReader_take_sign : Binds K d_ShortReader_take_sign ["self", "code"] []
  m_ShortReader_take_sign : Meth K C_ShortReader "_take_sign" f_ShortReader_take_sign
  f_ShortReader_emit : Addr
  d_ShortReader_emit : FuncData
  F_ShortReader_emit : Fun K "_emit" "ShortReader._emit" s_ShortReader_emit f_ShortReader_emit d_ShortReader_emit
  b_ShortReader_emit : Binds K d_ShortReader_emit ["self", "operation", "argument", "successor"] []
  m_ShortReader_emit : Meth K C_ShortReader "_emit" f_ShortReader_emit
  f_translate_short : Addr
  d_translate_short : FuncData
  F_translate_short : Fun K "translate_short" "translate_short" s_translate_short f_translate_short d_translate_short
  b_translate_short : Binds K d_translate_short ["codes"] []
  g_translate_short : mg "translate_short" = some (.ref f_translate_short)
  f_law_number : Addr
  d_law_number : FuncData
  F_law_number : Fun K "_law_number" "_law_number" s_law_number f_law_number d_law_number
  b_law_number : Binds K d_law_number ["cell"] []
  g_law_number : mg "_law_number" = some (.ref f_law_number)
  f_law_draws : Addr
  d_law_draws : FuncData
  F_law_draws : Fun K "_law_draws" "_law_draws" s_law_draws f_law_draws d_law_draws
  b_law_draws : Binds K d_law_draws ["script"] []
  g_law_draws : mg "_law_draws" = some (.ref f_law_draws)
  f_law_draw : Addr
  d_law_draw : FuncData
  F_law_draw : Fun K "_law_draw" "_law_draw" s_law_draw f_law_draw d_law_draw
  b_law_draw : Binds K d_law_draw ["draws"] []
  g_law_draw : mg "_law_draw" = some (.ref f_law_draw)
  f_law_pick : Addr
  d_law_pick : FuncData
  F_law_pick : Fun K "_law_pick" "_law_pick" s_law_pick f_law_pick d_law_pick
  b_law_pick : Binds K d_law_pick ["draws", "many"] []
  g_law_pick : mg "_law_pick" = some (.ref f_law_pick)
  f_law_is_integer : Addr
  d_law_is_integer : FuncData
  F_law_is_integer : Fun K "_law_is_integer" "_law_is_integer" s_law_is_integer f_law_is_integer d_law_is_integer
  b_law_is_integer : Binds K d_law_is_integer ["actual"] []
  g_law_is_integer : mg "_law_is_integer" = some (.ref f_law_is_integer)
  f_law_is_cells : Addr
  d_law_is_cells : FuncData
  F_law_is_cells : Fun K "_law_is_cells" "_law_is_cells" s_law_is_cells f_law_is_cells d_law_is_cells
  b_law_is_cells : Binds K d_law_is_cells ["actual"] []
  g_law_is_cells : mg "_law_is_cells" = some (.ref f_law_is_cells)
  f_law_sign : Addr
  d_law_sign : FuncData
  F_law_sign : Fun K "_law_sign" "_law_sign" s_law_sign f_law_sign d_law_sign
  b_law_sign : Binds K d_law_sign ["draws"] []
  g_law_sign : mg "_law_sign" = some (.ref f_law_sign)
  f_law_value : Addr
  d_law_value : FuncData
  F_law_value : Fun K "_law_value" "_law_value" s_law_value f_law_value d_law_value
  b_law_value : Binds K d_law_value ["draws"] []
  g_law_value : mg "_law_value" = some (.ref f_law_value)
  f_law_node : Addr
  d_law_node : FuncData
  F_law_node : Fun K "_law_node" "_law_node" s_law_node f_law_node d_law_node
  b_law_node : Binds K d_law_node ["draws", "expected"] []
  g_law_node : mg "_law_node" = some (.ref f_law_node)
  f_law_image : Addr
  d_law_image : FuncData
  F_law_image : Fun K "_law_image" "_law_image" s_law_image f_law_image d_law_image
  b_law_image : Binds K d_law_image ["draws", "many"] []
  g_law_image : mg "_law_image" = some (.ref f_law_image)
  f_law : Addr
  d_law : FuncData
  F_law : Fun K "law" "law" s_law f_law d_law
  b_law : Binds K d_law ["script"] []
  g_law : mg "law" = some (.ref f_law)
  h_law : ∀ (s : Shared) (v : Value), BindsTo s d_law ⟨[v], []⟩ [("script", v)]
  C_PlinthError : Addr
  g_PlinthError : mg "PlinthError" = some (.ref C_PlinthError)
  k_PlinthError : PySem.W.keepIn K (.ref C_PlinthError) = true
  x_PlinthError : PySem.W.excIn K C_PlinthError [.type "ValueError", .type "Exception", .type "BaseException", .type "object"] "ValueError.__new__" = true
  b_PlinthError : PySem.W.subIn K (.ref C_PlinthError) (.type "BaseException") = some true
  t_PlinthError : PySem.W.typeIn K (.ref C_PlinthError) = some (.type "type")
  hd_PlinthError : PySem.W.hasDictIn K C_PlinthError = true
  s_PlinthError : PySem.W.subIn K (.ref C_PlinthError) (.ref C_PlinthError) = some true
  i_PlinthError : PySem.W.isClsIn K C_PlinthError = true
  C_NotText : Addr
  g_NotText : mg "NotText" = some (.ref C_NotText)
  k_NotText : PySem.W.keepIn K (.ref C_NotText) = true
  x_NotText : PySem.W.excIn K C_NotText [.type "ValueError", .type "Exception", .type "BaseException", .type "object"] "ValueError.__new__" = true
  b_NotText : PySem.W.subIn K (.ref C_NotText) (.type "BaseException") = some true
  t_NotText : PySem.W.typeIn K (.ref C_NotText) = some (.type "type")
  hd_NotText : PySem.W.hasDictIn K C_NotText = true
  s_NotText : PySem.W.subIn K (.ref C_NotText) (.ref C_NotText) = some true
  i_NotText : PySem.W.isClsIn K C_NotText = true
  C_NotNumeral : Addr
  g_NotNumeral : mg "NotNumeral" = some (.ref C_NotNumeral)
  k_NotNumeral : PySem.W.keepIn K (.ref C_NotNumeral) = true
  x_NotNumeral : PySem.W.excIn K C_NotNumeral [.type "ValueError", .type "Exception", .type "BaseException", .type "object"] "ValueError.__new__" = true
  b_NotNumeral : PySem.W.subIn K (.ref C_NotNumeral) (.type "BaseException") = some true
  t_NotNumeral : PySem.W.typeIn K (.ref C_NotNumeral) = some (.type "type")
  hd_NotNumeral : PySem.W.hasDictIn K C_NotNumeral = true
  s_NotNumeral : PySem.W.subIn K (.ref C_NotNumeral) (.ref C_NotNumeral) = some true
  i_NotNumeral : PySem.W.isClsIn K C_NotNumeral = true
  C_NotListable : Addr
  g_NotListable : mg "NotListable" = some (.ref C_NotListable)
  k_NotListable : PySem.W.keepIn K (.ref C_NotListable) = true
  fI_NotListable : Addr
  dI_NotListable : FuncData
  cc_NotListable : Addr
  cda_NotListable : Addr
  supf_NotListable : Gd.SupF K C_NotListable fI_NotListable cc_NotListable cda_NotListable "NotListable.__init__" sI_NotListable dI_NotListable
  oex_NotListable : OexC K C_NotListable
  ii_NotListable : PySem.W.findIn K (.ref C_NotListable) "__init__" = some (some (.ref fI_NotListable))
  ti_NotListable : PySem.W.typeIn K (.ref fI_NotListable) = some (.type "function")
  na_NotListable : PySem.W.findIn K (.ref C_NotListable) "at" = some none
  bI_NotListable : Binds K dI_NotListable ["self", "at"] []
  b_NotListable : PySem.W.subIn K (.ref C_NotListable) (.type "BaseException") = some true
  t_NotListable : PySem.W.typeIn K (.ref C_NotListable) = some (.type "type")
  hd_NotListable : PySem.W.hasDictIn K C_NotListable = true
  s_NotListable : PySem.W.subIn K (.ref C_NotListable) (.ref C_NotListable) = some true
  i_NotListable : PySem.W.isClsIn K C_NotListable = true
  gc_ShortReader : mg "ShortReader" = some (.ref C_ShortReader)
  cl_ShortReader : Cls K C_ShortReader
  na_ShortReader_m : NoAttr K C_ShortReader "m"
  na_ShortReader_r : NoAttr K C_ShortReader "r"
  na_ShortReader_waiting : NoAttr K C_ShortReader "waiting"
  na_ShortReader_finished : NoAttr K C_ShortReader "finished"
  na_ShortReader_cells : NoAttr K C_ShortReader "_cells"
  D_NOT_IN_LISTINGS : Addr
  g_NOT_IN_LISTINGS : mg "_NOT_IN_LISTINGS" = some (.ref D_NOT_IN_LISTINGS)
  tup_NOT_IN_LISTINGS : TupK K D_NOT_IN_LISTINGS ([(37 : Int), (39 : Int), (58 : Int), (62 : Int)].map V.int)
  t_COLON : Tok
  c_COLON : mg "COLON" = some (.int 58 t_COLON)
  t_NEWLINE : Tok
  c_NEWLINE : mg "NEWLINE" = some (.int 10 t_NEWLINE)
  t_NOP : Tok
  c_NOP : mg "NOP" = some (.int 32 t_NOP)
  t_PUSH : Tok
  c_PUSH : mg "PUSH" = some (.int 35 t_PUSH)
  t_QUOTE : Tok
  c_QUOTE : mg "QUOTE" = some (.int 39 t_QUOTE)
  t_SPACE : Tok
  c_SPACE : mg "SPACE" = some (.int 32 t_SPACE)
  t_FROM_AMPERSAND : Tok
  c_FROM_AMPERSAND : mg "_FROM_AMPERSAND" = some (.str str_FROM_AMPERSAND t_FROM_AMPERSAND)
  t_FROM_SPACE : Tok
  c_FROM_SPACE : mg "_FROM_SPACE" = some (.str str_FROM_SPACE t_FROM_SPACE)
  t_GREATER : Tok
  c_GREATER : mg "_GREATER" = some (.int 62 t_GREATER)
  n_abs : mg "abs" = none
  n_all : mg "all" = none
  n_bool : mg "bool" = none
  n_enumerate : mg "enumerate" = none
  n_int : mg "int" = none
  n_isinstance : mg "isinstance" = none
  n_len : mg "len" = none
  n_list : mg "list" = none
  n_ord : mg "ord" = none
  n_range : mg "range" = none
  n_str : mg "str" = none
  n_super : mg "super" = none
  n_tuple : mg "tuple" = none

end K19

set_option Elab.async false
set_option linter.all false
set_option maxRecDepth 100000
set_option maxHeartbeats 4000000
set_option exponentiation.threshold 600
namespace K19
open PySem PySem.Spec PyProof.Rows L2 Evl Gd
open PySem.NumText (AllDigits digitsVal)
/-! ### how expressions are evaluated, without a word of ours -/
local macro_rules | `(tactic| walk_at "ev") => `(tactic| exact ev_c)
local macro_rules | `(tactic| walk_at "ev") => `(tactic| exact ev_var rfl)
local macro_rules | `(tactic| walk_at "ev") => `(tactic| (refine' ev_op ?k1 ?k2 ?k3; (case k1 => walk_at "ev"); (case k2 => walk_at "ev"); (case k3 => walk_at "rv")))
local macro_rules | `(tactic| walk_at "ev") => `(tactic| (refine' ev_cb ?k1 ?k2; (case k1 => walk_at "ea"); (case k2 => walk_at "rc")))
local macro_rules | `(tactic| walk_at "ev") => `(tactic| (refine' ev_call ?k1 ?k2; (case k1 => walk_at "ea"); (case k2 => walk_at "sp")))
local macro_rules | `(tactic| walk_at "ev") => `(tactic| (refine' ev_chain ?k1 ?k2 ?k3 (fun _ => ?k4) (fun _ => ?k5); (case k1 => walk_at "ev"); (case k2 => walk_at "ev"); (case k3 => walk_at "rv"); (case k4 => walk_at "ev"); (case k5 => walk_at "rv")))
local macro_rules | `(tactic| walk_at "ev") => `(tactic| (refine' ev_orV ?k1 (fun _ => ?k2); (case k1 => walk_at "ev"); (case k2 => walk_at "ev")))
local macro_rules | `(tactic| walk_at "ev") => `(tactic| (refine' ev_andV ?k1 (fun _ => ?k2); (case k1 => walk_at "ev"); (case k2 => walk_at "ev")))
local macro_rules | `(tactic| walk_at "ev") => `(tactic| (refine' ev_notV ?k1; (case k1 => walk_at "ev")))
local macro_rules | `(tactic| walk_at "ea") => `(tactic| exact ea_nil)
local macro_rules | `(tactic| walk_at "ea") => `(tactic| (refine' ea_cons ?k1 ?k2; (case k1 => walk_at "ev"); (case k2 => walk_at "ea")))
local macro_rules | `(tactic| walk_at "rv") => `(tactic| exact rv_I0)
local macro_rules | `(tactic| walk_at "rv") => `(tactic| exact rv_eqI)
local macro_rules | `(tactic| walk_at "rv") => `(tactic| exact rv_neI)
local macro_rules | `(tactic| walk_at "rv") => `(tactic| exact rv_eqS)
local macro_rules | `(tactic| walk_at "rv") => `(tactic| exact rv_neS)
local macro_rules | `(tactic| walk_at "rv") => `(tactic| exact rv_mod (by decide))
local macro_rules | `(tactic| walk_at "rv") => `(tactic| exact rv_fdiv (by decide) (by decide))
local macro_rules | `(tactic| walk_at "rv") => `(tactic| exact rv_mulR (by decide))
local macro_rules | `(tactic| walk_at "rv") => `(tactic| exact rv_pow (by decide))
local macro_rules | `(tactic| walk_at "rc") => `(tactic| exact rc_int)
local macro_rules | `(tactic| walk_at "rc") => `(tactic| exact rc_ord)
local macro_rules | `(tactic| walk_at "et") => `(tactic| (refine' et_test ?k1; (case k1 => walk_at "ev")))
local macro_rules | `(tactic| walk_at "et") => `(tactic| (refine' et_B ?k1; (case k1 => walk_at "ev")))
local macro_rules | `(tactic| walk_at "et") => `(tactic| (refine' et_not ?k1; (case k1 => walk_at "et")))
local macro_rules | `(tactic| walk_at "et") => `(tactic| (refine' et_or ?k1 (fun _ => ?k2); (case k1 => walk_at "et"); (case k2 => walk_at "et")))
local macro_rules | `(tactic| walk_at "et") => `(tactic| (refine' et_and ?k1 (fun _ => ?k2); (case k1 => walk_at "et"); (case k2 => walk_at "et")))
section
variable {P : Program} {w : World} {K : PySem.W.Frag} {mg : Str → Option Value} {base : Heap}
/-! ### the draws -/
def sp_law_number (K : PySem.W.Frag) : Sp := fun vs H Q _ => ∃ c : Int, vs = [.int c] ∧ ∀ d : Int, RetV (.int (if c < 0 then 0 - c else c)) H Q
theorem v_law_number {c : Int} {H : Hp} : SpV (sp_law_number K) [.int c] H (.int (if c < 0 then 0 - c else c)) := fun _ _ _ q _ => ⟨c, rfl, fun _ => q⟩
theorem ok_law_number (T : Txt K mg) : FnOk P w K mg base CX0 1 T.f_law_number T.d_law_number ["cell"] (sp_law_number K) := by
  refine T.F_law_number.ok sc_law_number (fun vs H Q E h => ?_) (fun cdv A outer s H vs Q E hr h => ?_)
  · obtain ⟨c, rfl, _⟩ := h
    rfl
  · obtain ⟨c, rfl, k⟩ := h
    refine ⟨_, (pss_cons (ps_if (pt_cmpR op_lt (pv 0) pe_int (nomark _)) (pss_one (ps_ret (pe_op op_sub pe_int (pv 0)))) pss_nil)
        (pss_one (ps_ret (pv 0)))), ?_⟩
    have k := k 0
    refine q_when (b := decide (c < 0)) (by walk_at "et") (fun hb H1 e1 => ?_) (fun hb H1 e1 => ?_)
    · rw [if_pos (of_decide_eq_true hb)] at k
      exact s_ret (by walk_at "ev") fun H2 e2 => k H2 (e1.trans e2)
    · rw [if_neg (of_decide_eq_false hb)] at k
      exact s_ret (ev_var rfl) fun H2 e2 => k H2 (e1.trans e2)
def sp_law_draws (K : PySem.W.Frag) : Sp := fun vs H Q _ => ∃ (a : Addr) (ns : List Int), vs = [.ref a] ∧ SqL K H a (ns.map V.int) ∧ ns.length ≤ 63 ∧ ∀ p H2, H p = none → Ex H H2 → Drw p H2 → Q (.ref p) H2
theorem ok_law_draws (T : Txt K mg) : FnOk P w K mg base CX0 2 T.f_law_draws T.d_law_draws ["script"] (sp_law_draws K) := by
  refine T.F_law_draws.ok sc_law_draws (fun vs H Q E h => ?_) (fun cdv A outer s H vs Q E hr h => ?_)
  · obtain ⟨a, ns, rfl, _⟩ := h
    rfl
  · obtain ⟨a, ns, rfl, hS, hl, k⟩ := h
    refine ⟨_, (pss_cons (ps_set (i := 1) sc_law_draws.nd rfl (Or.inl rfl) (pe_lst pa_nil))
        (pss_cons (ps_set (i := 2) sc_law_draws.nd rfl (Or.inl rfl) pe_int)
        (pss_cons (ps_for PassesOwn.never rfl (pi_list (pv 0)) (pg_name (i := 3) sc_law_draws.nd rfl (Or.inl rfl)) (pss_cons (ps_set (i := 4) sc_law_draws.nd rfl (Or.inl rfl) (pe_call (ok_law_number (P := P) T) (hr.mono (by decide)) (by rfl) T.g_law_number T.F_law_number.kp T.b_law_number .nil pass0 (pa_cons (pv 3) pa_nil)))
        (pss_cons (ps_set (i := 2) sc_law_draws.nd rfl (Or.inl rfl) (pe_op op_modN (pe_callTy call_int1 (by rfl) T.n_int (by decide +kernel) (pa_cons (pe_op op_add (pe_op op_mul (pv 2) pe_int) (pv 4)) pa_nil)) pe_int))
        (pss_one (ps_if (pt_cmpR op_ge (pv 4) pe_int (nomark _)) (pss_one (ps_for PassesOwn.never rfl (pi_range1 (by rfl) T.n_range (pa_cons pe_int pa_nil)) (pg_name (i := 5) sc_law_draws.nd rfl (Or.inl rfl)) (pss_cons (ps_if (pt_cmpR op_eq (pv 4) pe_int (nomark _)) (pss_one ps_break) pss_nil)
        (pss_cons (ps_expr (pe_bm PySem.F.plainAttrs_list PySem.F.slot_list_append PySem.F.type_list_append mt_append (pv 1) (pa_cons (pe_op op_modN (pe_callTy call_int1 (by rfl) T.n_int (by decide +kernel) (pa_cons (pv 4) pa_nil)) pe_int) pa_nil)))
        (pss_one (ps_set (i := 4) sc_law_draws.nd rfl (Or.inl rfl) (pe_op op_fdivN (pv 4) pe_int))))))) (pss_cons (ps_set (i := 6) sc_law_draws.nd rfl (Or.inl rfl) (pe_op op_modN (pe_callTy call_int1 (by rfl) T.n_int (by decide +kernel) (pa_cons (pe_op op_add (pe_op op_mul (pv 4) pe_int) pe_int) pa_nil)) pe_int))
        (pss_cons (ps_set (i := 7) sc_law_draws.nd rfl (Or.inl rfl) (pe_op op_modN (pe_callTy call_int1 (by rfl) T.n_int (by decide +kernel) (pa_cons (pe_op op_add (pe_op op_mul (pv 6) pe_int) (pv 4)) pa_nil)) pe_int))
        (pss_one (ps_expr (pe_bm PySem.F.plainAttrs_list PySem.F.slot_list_extend PySem.F.type_list_extend mt_extend (pv 1) (pa_cons (pe_lst (pa_cons (pe_op op_modN (pe_callTy call_int1 (by rfl) T.n_int (by decide +kernel) (pa_cons (pv 4) pa_nil)) pe_int) (pa_cons (pe_op op_modN (pe_callTy call_int1 (by rfl) T.n_int (by decide +kernel) (pa_cons (pv 6) pa_nil)) pe_int) (pa_cons (pe_op op_modN (pe_callTy call_int1 (by rfl) T.n_int (by decide +kernel) (pa_cons (pv 7) pa_nil)) pe_int) pa_nil)))) pa_nil)))))))))))
        (pss_cons (ps_for PassesOwn.never rfl (pi_range1 (by rfl) T.n_range (pa_cons pe_int pa_nil)) (pg_name (i := 5) sc_law_draws.nd rfl (Or.inl rfl)) (pss_cons (ps_set (i := 2) sc_law_draws.nd rfl (Or.inl rfl) (pe_op op_modN (pe_callTy call_int1 (by rfl) T.n_int (by decide +kernel) (pa_cons (pe_op op_add (pe_op op_mul (pv 2) pe_int) pe_int) pa_nil)) pe_int))
        (pss_one (ps_expr (pe_bm PySem.F.plainAttrs_list PySem.F.slot_list_append PySem.F.type_list_append mt_append (pv 1) (pa_cons (pe_op op_modN (pe_callTy call_int1 (by rfl) T.n_int (by decide +kernel) (pa_cons (pe_op op_fdivN (pv 2) pe_int) pa_nil)) pe_int) pa_nil))))))
        (pss_cons (ps_expr (pe_bm0 PySem.F.plainAttrs_list PySem.F.slot_list_reverse PySem.F.type_list_reverse mt_reverse (pv 1)))
        (pss_one (ps_ret (pv 1)))))))), ?_⟩
    refine q_asgL (el_lst ea_nil (by decide)) (fun p H1 hp e1 d1 => ?_)
    refine q_asg ev_c (fun H2 e2 => ?_)
    have hS2 := ex_l (e1.trans e2) hS
    refine q_forLn (ev_var rfl) hS2 (fun i σ' H' => Ex H H' ∧ ∃ (ds : List Int) (sd : Int) (y3 y4 y5 y6 y7 : Option V), H' p = some (.lst (ds.map V.int)) ∧ (∀ d ∈ ds, 0 ≤ d ∧ d < 1000) ∧ ds.length ≤ 60 * i ∧
      σ' = [some (.ref a), some (.ref p), some (.int sd), y3, y4, y5, y6, y7]) ?_ ?_ ?_ ?_
    · intro H3 e3
      exact ⟨e1.trans (e2.trans e3), [], 7, none, none, none, none, none, e3 _ _ (e2 _ _ d1), Small.nil.1, Nat.zero_le _, rfl⟩
    · rintro i σ' H' _ ⟨e3, _⟩
      exact ex_l e3 hS
    · rintro i x σ' H' hx ⟨e3, ds, sd, y3, y4, y5, y6, y7, hd, hs, hlen, rfl⟩
      obtain ⟨c, hc, rfl⟩ := map_at hx
      have hi : i < 63 := by
        have := (List.getElem?_eq_some_iff.mp hc).1
        omega
      refine q_asg (ev_call (ea_cons (ev_var rfl) ea_nil) v_law_number) (fun H4 e4 => ?_)
      generalize (if c < 0 then 0 - c else c) = rest
      refine q_asg (ev_op (ev_cb (ea_cons (ev_op (ev_op (ev_var rfl) ev_c (rv_mulR (by decide))) (ev_var rfl) rv_I0) ea_nil) rc_int) ev_c (rv_mod (by decide))) (fun H5 e5 => ?_)
      generalize (sd * 48271 + rest).fmod 2147483647 = sd
      refine s_if (b := decide (1000000000000000000 ≤ rest)) (by walk_at "et") (fun hb H6 e6 => ?_) (fun hb H6 e6 => ?_)
      · refine s_forR1 (n := 60) (ea_cons ev_c ea_nil) (by decide) (fun j σ' H' => Ex H H' ∧ ∃ (es : List Int) (rs : Int) (y5 : Option V), H' p = some (.lst (es.map V.int)) ∧ (∀ d ∈ es, 0 ≤ d ∧ d < 1000) ∧ es.length ≤ 60 * i + j ∧
          σ' = [some (.ref a), some (.ref p), some (.int sd), some (.int c), some (.int rs), y5, y6, y7]) ?_ ?_ ?_
        · intro H7 e7
          exact ⟨e3.trans (e4.trans (e5.trans (e6.trans e7))), ds, rest, y5, e7 _ _ (e6 _ _ (e5 _ _ (e4 _ _ hd))), hs, hlen, rfl⟩
        · rintro j σ' H' hj ⟨e7, es, rs, z5, he, hes, hel, rfl⟩
          refine q_when (b := decide (rs = 0)) (by walk_at "et") (fun hb H8 e8 => ?_) (fun hb H8 e8 => ?_)
          · exact ⟨e7.trans e8, es, sd, _, _, _, _, _, e8 _ _ he, hes, by omega, rfl⟩
          · refine q_app (e8 _ _ he) (ev_var rfl) (ev_op (ev_cb (ea_cons (ev_var rfl) ea_nil) rc_int) ev_c (rv_mod (by decide))) (by rw [List.length_map]; omega) (fun H9 e9 => ?_)
            refine s_asg (ev_op (ev_var rfl) ev_c (rv_fdiv (by decide) (by decide))) (fun H10 e10 => ?_)
            refine ⟨((Ex.mut ((e7.trans e8).trans e9) hp).trans e10), es ++ [rs.fmod 1000], rs.fdiv 1000, some (.int (j : Int)), ?_, Small.one hes (fmod_in rs (by decide)), by rw [List.length_append]; simp; omega, rfl⟩
            rw [List.map_append]
            exact e10 _ _ upd_same
        · rintro σ' H' ⟨e7, es, rs, z5, he, hes, hel, rfl⟩
          exact ⟨e7, es, sd, _, _, _, _, _, he, hes, by have : ((60 : Int).toNat) = 60 := rfl; omega, rfl⟩
      · refine q_asg (ev_op (ev_cb (ea_cons (ev_op (ev_op (ev_var rfl) ev_c (rv_mulR (by decide))) ev_c rv_I0) ea_nil) rc_int) ev_c (rv_mod (by decide))) (fun H7 e7 => ?_)
        refine q_asg (ev_op (ev_cb (ea_cons (ev_op (ev_op (ev_var rfl) ev_c (rv_mulR (by decide))) (ev_var rfl) rv_I0) ea_nil) rc_int) ev_c (rv_mod (by decide))) (fun H8 e8 => ?_)
        generalize (rest * 48271 + 11).fmod 2147483647 = once
        generalize (once * 69621 + rest).fmod 2147483629 = twice
        refine s_ext (xs := ds.map V.int) (e8 _ _ (e7 _ _ (e6 _ _ (e5 _ _ (e4 _ _ hd))))) (ev_var rfl) (el_lst (vs := [.int (rest.fmod 1000), .int (once.fmod 1000), .int (twice.fmod 1000)]) (ea_cons (ev_op (ev_cb (ea_cons (ev_var rfl) ea_nil) rc_int) ev_c (rv_mod (by decide))) (ea_cons (ev_op (ev_cb (ea_cons (ev_var rfl) ea_nil) rc_int) ev_c (rv_mod (by decide))) (ea_cons (ev_op (ev_cb (ea_cons (ev_var rfl) ea_nil) rc_int) ev_c (rv_mod (by decide))) ea_nil))) (by show 3 ≤ 100000; decide)) (by rw [List.length_map]; show ds.length + 3 ≤ 100000; omega) (fun H9 e9 => ?_)
        refine ⟨Ex.mut (e3.trans (e4.trans (e5.trans (e6.trans (e7.trans (e8.trans e9)))))) hp, ds ++ [rest.fmod 1000, once.fmod 1000, twice.fmod 1000], sd, _, _, _, _, _, ?_, Small.app hs ?_, ?_, rfl⟩
        · rw [List.map_append]
          exact upd_same
        · intro d hd'
          simp only [List.mem_cons, List.not_mem_nil, or_false] at hd'
          rcases hd' with rfl | rfl | rfl <;> exact fmod_in _ (by decide)
        · rw [List.length_append]
          show ds.length + 3 ≤ 60 * (i + 1)
          omega
    · rintro σ' H' ⟨e3, ds, sd, y3, y4, y5, y6, y7, hd, hs, hlen, rfl⟩
      rw [List.length_map] at hlen
      refine q_forR1 (n := 200) (ea_cons ev_c ea_nil) (by decide) (fun j σ' H' => Ex H H' ∧ ∃ (es : List Int) (sd : Int) (y5 : Option V), H' p = some (.lst (es.map V.int)) ∧ (∀ d ∈ es, 0 ≤ d ∧ d < 1000) ∧ es.length ≤ 60 * 63 + j ∧
          σ' = [some (.ref a), some (.ref p), some (.int sd), y3, y4, y5, y6, y7]) ?_ ?_ ?_
      · intro H4 e4
        exact ⟨e3.trans e4, ds, sd, y5, e4 _ _ hd, hs, by omega, rfl⟩
      · rintro j σ' H' hj ⟨e4, es, sd, z5, he, hes, hel, rfl⟩
        refine q_asg (ev_op (ev_cb (ea_cons (ev_op (ev_op (ev_var rfl) ev_c (rv_mulR (by decide))) ev_c rv_I0) ea_nil) rc_int) ev_c (rv_mod (by decide))) (fun H5 e5 => ?_)
        generalize (sd * 48271 + 12345).fmod 2147483647 = sd
        refine s_app (e5 _ _ he) (ev_var rfl) (ev_op (ev_cb (ea_cons (ev_op (ev_var rfl) ev_c (rv_fdiv (by decide) (by decide))) ea_nil) rc_int) ev_c (rv_mod (by decide))) (by rw [List.length_map]; omega) (fun H6 e6 => ?_)
        refine ⟨Ex.mut (e4.trans (e5.trans e6)) hp, es ++ [(sd.fdiv 7).fmod 1000], sd, some (.int (j : Int)), ?_, Small.one hes (fmod_in _ (by decide)), by rw [List.length_append]; simp; omega, rfl⟩
        rw [List.map_append]
        exact upd_same
      · rintro σ' H' ⟨e4, es, sd, z5, he, hes, hel, rfl⟩
        refine q_rev he (ev_var rfl) (fun H5 e5 => ?_)
        refine s_ret (ev_var rfl) (fun H6 e6 => k p H6 hp ((Ex.mut (e4.trans e5) hp).trans e6) ⟨es.reverse, ?_, fun d hd' => hes d (List.mem_reverse.mp hd'), ?_⟩)
        · rw [List.map_reverse]
          exact e6 _ _ upd_same
        · rw [List.length_reverse]
          have : ((200 : Int).toNat) = 200 := rfl
          omega
def sp_law_draw (K : PySem.W.Frag) : Sp := fun vs H Q _ => ∃ p : Addr, vs = [.ref p] ∧ Drw p H ∧ ∀ v H', DP p H (fun d => 0 ≤ d ∧ d < 1000) v H' → Q v H'
theorem ok_law_draw (T : Txt K mg) : FnOk P w K mg base CX0 1 T.f_law_draw T.d_law_draw ["draws"] (sp_law_draw K) := by
  refine T.F_law_draw.ok sc_law_draw (fun vs H Q E h => ?_) (fun cdv A outer s H vs Q E hr h => ?_)
  · obtain ⟨p, rfl, _⟩ := h
    rfl
  · obtain ⟨p, rfl, hD, k⟩ := h
    refine ⟨_, (pss_cons (ps_if (pt_truth (pv 0) (by intro _; rfl)) (pss_one (ps_ret (pe_bm0 PySem.F.plainAttrs_list PySem.F.slot_list_pop PySem.F.type_list_pop mt_pop (pv 0)))) pss_nil)
        (pss_one (ps_ret pe_int))), ?_⟩
    obtain ⟨ds, hd, hs, hlen⟩ := hD
    refine q_when (et_truL (K := K) (ev_var rfl) (sq_of hd)) (fun hb H1 e1 => ?_) (fun hb H1 e1 => ?_)
    · have hne : ds ≠ [] := by intro z; subst z; cases hb
      obtain ⟨es, d, rfl⟩ : ∃ es d, ds = es ++ [d] := ⟨ds.dropLast, ds.getLast hne, (List.dropLast_concat_getLast hne).symm⟩
      have hm : (es ++ [d]).map V.int = es.map V.int ++ [.int d] := by rw [List.map_append]; rfl
      rw [hm] at hd
      refine ⟨_, rfl, .inl ⟨rfl, _, sq_of (e1 _ _ hd)⟩, p, es.map V.int ++ [.int d], .int d, rfl, rfl, e1 _ _ hd, ?_, ?_⟩
      · rw [List.length_append]
        simp
      · have hd2 := hs d (List.mem_append_right _ (List.mem_singleton.mpr rfl))
        refine k _ _ ⟨d, rfl, hd2, ⟨es, ?_, fun x hx => hs x (List.mem_append_left _ hx), ?_⟩, but_mut (ex_but e1) rfl⟩
        · rw [List.dropLast_concat]
          exact upd_same
        · rw [List.length_append] at hlen
          omega
    · exact s_ret ev_c fun H2 e2 => k _ H2 ⟨0, rfl, by decide, ⟨ds, e2 _ _ (e1 _ _ hd), hs, hlen⟩, ex_but (e1.trans e2)⟩
theorem ep_draw {p : Addr} {i : Nat} {σ : L2.St} {H : Hp} (hi : σ[i]? = some (some (.ref p))) (hD : Drw p H) : EvP (tCall (sp_law_draw K) [] E0 (tCons (tVar i) tNil)) σ H (DP p H fun d => 0 ≤ d ∧ d < 1000) := fun Q q => ⟨_, hi, p, rfl, hD, q⟩
def sp_law_pick (K : PySem.W.Frag) : Sp := fun vs H Q _ => ∃ (p : Addr) (m : Int), vs = [.ref p, .int m] ∧ Drw p H ∧ 0 < m ∧ ∀ v H', DP p H (fun d => 0 ≤ d ∧ d < m) v H' → Q v H'
theorem ok_law_pick (T : Txt K mg) : FnOk P w K mg base CX0 2 T.f_law_pick T.d_law_pick ["draws", "many"] (sp_law_pick K) := by
  refine T.F_law_pick.ok sc_law_pick (fun vs H Q E h => ?_) (fun cdv A outer s H vs Q E hr h => ?_)
  · obtain ⟨p, m, rfl, _⟩ := h
    rfl
  · obtain ⟨p, m, rfl, hD, hm, k⟩ := h
    refine ⟨_, (pss_one (ps_ret (pe_op op_modN (pe_callTy call_int1 (by rfl) T.n_int (by decide +kernel) (pa_cons (pe_call (ok_law_draw (P := P) T) (hr.mono (by decide)) (by rfl) T.g_law_draw T.F_law_draw.kp T.b_law_draw .nil pass0 (pa_cons (pv 0) pa_nil)) pa_nil)) (pv 1)))), ?_⟩
    refine ⟨_, rfl, p, rfl, hD, fun v H1 hv => ?_⟩
    obtain ⟨d, rfl, hd, hD1, b⟩ := hv
    refine .inl ⟨d, rfl, _, rfl, d, m, rfl, rfl, by omega, ?_⟩
    exact k _ H1 ⟨_, rfl, fmod_in d hm, hD1, b⟩
theorem ep_pick {p : Addr} {i : Nat} {m : Int} {σ : L2.St} {H : Hp} {tm : TE} (hi : σ[i]? = some (some (.ref p))) (hD : Drw p H) (hm : Ev tm σ H (.int m)) (h0 : 0 < m) : EvP (tCall (sp_law_pick K) [] E0 (tCons (tVar i) (tCons tm tNil))) σ H (DP p H fun d => 0 ≤ d ∧ d < m) := fun Q q =>
  ⟨_, hi, hm H (Ex.refl H) _ fun H2 e2 => ⟨p, m, rfl, hD.ex e2, h0, fun v H' ⟨d, hv, hd, hD', b⟩ => q v H' ⟨d, hv, hd, hD', (ex_but e2).trans b⟩⟩⟩
def sp_law_is_integer (K : PySem.W.Frag) : Sp := fun vs H Q _ => ∃ i : Int, vs = [.int i] ∧ RetV (.bl true) H Q
theorem v_law_is_integer {i : Int} {H : Hp} : SpV (sp_law_is_integer K) [.int i] H (.bl true) := fun _ _ _ q _ => ⟨i, rfl, q⟩
theorem ok_law_is_integer (T : Txt K mg) : FnOk P w K mg base CX0 1 T.f_law_is_integer T.d_law_is_integer ["actual"] (sp_law_is_integer K) := by
  refine T.F_law_is_integer.ok sc_law_is_integer (fun vs H Q E h => ?_) (fun cdv A outer s H vs Q E hr h => ?_)
  · obtain ⟨i, rfl, _⟩ := h
    rfl
  · obtain ⟨i, rfl, k⟩ := h
    refine ⟨_, (pss_one (ps_ret (pe_and (pe_callB call_isi (by rfl) T.n_isinstance (by decide +kernel) (pa_cons (pv 0) (pa_cons (pe_bltn (v := .ty "int") (by rfl) T.n_int (by decide +kernel) rfl) pa_nil))) (pe_one (pe_not (pe_callB call_isi (by rfl) T.n_isinstance (by decide +kernel) (pa_cons (pv 0) (pa_cons (pe_bltn (v := .ty "bool") (by rfl) T.n_bool (by decide +kernel) rfl) pa_nil)))))))), ?_⟩
    exact s_ret (v := .bl (true && !false)) (ev_andV (ev_cb (ea_cons (ev_var rfl) (ea_cons ev_c ea_nil)) rc_isInt) (fun _ => ev_notV (ev_cb (ea_cons (ev_var rfl) (ea_cons ev_c ea_nil)) rc_isIntB))) k
def sp_law_is_cells (K : PySem.W.Frag) : Sp := fun vs H Q _ => ∃ (p : Addr) (ns : List Int), vs = [.ref p] ∧ H p = some (.lst (ns.map V.int)) ∧ RetV (.bl true) H Q
theorem v_law_is_cells {p : Addr} {ns : List Int} {H : Hp} (h : H p = some (.lst (ns.map V.int))) : SpV (sp_law_is_cells K) [.ref p] H (.bl true) := fun _ e _ q _ => ⟨p, ns, rfl, e _ _ h, q⟩
theorem ok_law_is_cells (T : Txt K mg) : FnOk P w K mg base CX0 2 T.f_law_is_cells T.d_law_is_cells ["actual"] (sp_law_is_cells K) := by
  refine T.F_law_is_cells.ok sc_law_is_cells (fun vs H Q E h => ?_) (fun cdv A outer s H vs Q E hr h => ?_)
  · obtain ⟨p, ns, rfl, _⟩ := h
    rfl
  · obtain ⟨p, ns, rfl, hp, k⟩ := h
    refine ⟨_, (pss_cons (ps_if (pt_not (pt_val (pe_callB call_isi (by rfl) T.n_isinstance (by decide +kernel) (pa_cons (pv 0) (pa_cons (pe_bltn (v := .ty "list") (by rfl) T.n_list (by decide +kernel) rfl) pa_nil))))) (pss_one (ps_ret pe_bl)) pss_nil)
        (pss_cons (ps_for PassesOwn.never rfl (pi_list (pv 0)) (pg_name (i := 1) sc_law_is_cells.nd rfl (Or.inl rfl)) (pss_one (ps_if (pt_not (pt_val (pe_call (ok_law_is_integer (P := P) T) (hr.mono (by decide)) (by rfl) T.g_law_is_integer T.F_law_is_integer.kp T.b_law_is_integer .nil pass0 (pa_cons (pv 1) pa_nil)))) (pss_one (ps_ret pe_bl)) pss_nil)))
        (pss_one (ps_ret pe_bl)))), ?_⟩
    refine q_when (b := !true) (et_not (et_B (ev_cb (ea_cons (ev_var rfl) (ea_cons ev_c ea_nil)) (rc_isList hp)))) (fun hb => nomatch hb) (fun _ H1 e1 => ?_)
    refine q_forLn (ev_var rfl) (sq_of (e1 _ _ hp)) (fun i σ' H' => Ex H H' ∧ ∃ y, σ' = [some (.ref p), y]) (fun H2 e2 => ⟨e1.trans e2, none, rfl⟩) (fun i σ' H' _ hq => sq_of (hq.1 _ _ hp)) ?_ ?_
    · rintro i x σ' H' hx ⟨e2, y, rfl⟩
      obtain ⟨c, hc, rfl⟩ := map_at hx
      exact s_when (b := !true) (et_not (et_B (ev_call (ea_cons (ev_var rfl) ea_nil) v_law_is_integer))) (fun hb => nomatch hb) (fun _ H3 e3 => ⟨e2.trans e3, _, rfl⟩)
    · rintro σ' H' ⟨e2, y, rfl⟩
      exact s_ret ev_c fun H3 e3 => k H3 (e2.trans e3)

/-! ### digits read -/
def sp_is_digit (K : PySem.W.Frag) : Sp := fun vs H Q _ => ∃ c : Int, vs = [.int c] ∧ RetV (.bl (isDg c)) H Q
theorem v_is_digit {c : Int} {H : Hp} : SpV (sp_is_digit K) [.int c] H (.bl (isDg c)) := fun _ _ _ q _ => ⟨c, rfl, q⟩
theorem ok_is_digit (T : Txt K mg) : FnOk P w K mg base CX0 1 T.f_is_digit T.d_is_digit ["code"] (sp_is_digit K) := by
  refine T.F_is_digit.ok sc_is_digit (fun vs H Q E h => ?_) (fun cdv A outer s H vs Q E hr h => ?_)
  · obtain ⟨c, rfl, _⟩ := h
    rfl
  · obtain ⟨c, rfl, k⟩ := h
    refine ⟨_, (pss_one (ps_ret (pe_chain op_le op_le pe_int (pv 0) pe_int))), ?_⟩
    exact s_ret (by walk_at "ev") k
def sp_with_digit (K : PySem.W.Frag) : Sp := fun vs H Q _ => ∃ n c : Int, vs = [.int n, .int c] ∧ RetV (.int (10 * n + c - 48)) H Q
theorem v_with_digit {n c : Int} {H : Hp} : SpV (sp_with_digit K) [.int n, .int c] H (.int (10 * n + c - 48)) := fun _ _ _ q _ => ⟨n, c, rfl, q⟩
theorem ok_with_digit (T : Txt K mg) : FnOk P w K mg base CX0 1 T.f_with_digit T.d_with_digit ["number", "code"] (sp_with_digit K) := by
  refine T.F_with_digit.ok sc_with_digit (fun vs H Q E h => ?_) (fun cdv A outer s H vs Q E hr h => ?_)
  · obtain ⟨n, c, rfl, _⟩ := h
    rfl
  · obtain ⟨n, c, rfl, k⟩ := h
    refine ⟨_, (pss_one (ps_ret (pe_op op_sub (pe_op op_add (pe_op op_mul pe_int (pv 0)) (pv 1)) pe_int))), ?_⟩
    exact s_ret (ev_op (ev_op (ev_op ev_c (ev_var rfl) (rv_mulL (by decide))) (ev_var rfl) rv_I0) ev_c rv_I0) k

def sp_nodes_of (K : PySem.W.Frag) : Sp := fun vs H Q _ => ∃ (a : Addr) (im : List Int), vs = [.ref a] ∧ SqL K H a (im.map V.int) ∧ im.length ≤ 60000 ∧ ∀ p xs H2, H p = none → Ex H H2 → H2 p = some (.lst xs) → DpAll K H2 xs ((rowsOf im).map rowD) → Q (.ref p) H2
theorem eld_nodes_of {te : TE} {σ : L2.St} {H : Hp} {a : Addr} {im : List Int} {E : XK} (h : Ev te σ H (.ref a)) (hS : SqL K H a (im.map V.int)) (hl : im.length ≤ 60000) : EvLD K (tCall (sp_nodes_of K) [] E (tCons te tNil)) σ H ((rowsOf im).map rowD) := fun H1 e Q q =>
  h H1 e _ fun H2 e2 => ⟨a, im, rfl, ex_l (e.trans e2) hS, hl, fun p xs H3 hp e3 h3 hd => q p xs H3 (fresh_back e2 hp) (e2.trans e3) h3 hd⟩
theorem ok_nodes_of (T : Txt K mg) : FnOk P w K mg base CX0 1 T.f_nodes_of T.d_nodes_of ["image"] (sp_nodes_of K) := by
  refine T.F_nodes_of.ok sc_nodes_of (fun vs H Q E h => ?_) (fun cdv A outer s H vs Q E hr h => ?_)
  · obtain ⟨a, im, rfl, _⟩ := h
    rfl
  · obtain ⟨a, im, rfl, hS, hl, k⟩ := h
    refine ⟨_, (pss_one (ps_ret (pe_lc (own := [("start", 1)]) (by rfl) sc_nodes_of.nd (pi_range3 (by rfl) T.n_range (pa_cons pe_int (pa_cons (pe_op op_sub (pe_callB call_len_seq (by rfl) T.n_len (by decide +kernel) (pa_cons (pv 0) pa_nil)) pe_int) (pa_cons pe_int pa_nil)))) (blkOk_by (own := [("start", 1)]) (N := N_nodes_of) (sc := defScope s_nodes_of) (by decide +kernel)) (fun _ _ _ _ _ => pg_name (i := 1) sc_nodes_of.nd rfl (Or.inl rfl)) (fun _ _ _ _ _ => pts_nil) (fun _ _ _ _ _ => (pe_callTy (Gd.call_tuple_ofK (K := K) rfl) (by rfl) T.n_tuple (by decide +kernel) (pa_cons (pe_slice (Gd.sl_listK (K := K) rfl) (pv 0) (po_some (pv 1)) (po_some (pe_op op_add (pv 1) pe_int))) pa_nil)))))), ?_⟩
    have hn : im.length / 4 = (rowsOf im).length := (rows_len im).symm
    have hlen : Ev (tCB (rLenS K) (tCons (tVar 0) tNil)) (L2.start N_nodes_of [.ref a]) H (.int ((im.map V.int).length : Int)) := ev_len (ev_var rfl) hS
    rw [List.length_map] at hlen
    refine s_retLD (K := K) (ds := givD (im.length / 4) (fun _ => true) fun i => rowD ((rowsOf im).getD i (0, 0, 0, 0))) (eld_lcC (ea_cons ev_c (ea_cons (ev_op hlen ev_c (rv_I0 (g := fun i j => .int (i - j)))) (ea_cons ev_c ea_nil))) (rgC4 im.length (by omega)) (by omega) (fun _ => rfl) (fun i hi => by
        unfold rowD
        rw [tupO]
        exact tupOs_at fun d m => by
          obtain ⟨z, _, rfl⟩ := List.mem_map.mp m
          rfl) (fun i hi H' e' => et_yes) (fun i hi _ H' e' => ?_)) (fun p xs H1 hp e1 h1 hd => k p xs H1 hp e1 h1 ?_)
    · have hi' : i < (rowsOf im).length := by omega
      have hg : (rowsOf im)[i]? = some ((rowsOf im).getD i (0, 0, 0, 0)) := by rw [List.getD_eq_getElem?_getD, List.getElem?_eq_getElem hi']; rfl
      have hr := rows_at im i _ hg
      generalize (rowsOf im).getD i (0, 0, 0, 0) = r at hr
      have e4 : (0 : Int) + ((i : Nat) : Int) * 4 = ((4 * i : Nat) : Int) := by omega
      rw [e4]
      have hc : cutV (im.map V.int) (some ((4 * i : Nat) : Int)) (some ((4 * i + 4 : Nat) : Int)) = (rowL r).map V.int := by
        rw [cut_ints, show 4 * i + 4 - 4 * i = 4 by omega, hr]
      refine ed_tupOfL (ed_L (xs := (rowL r).map V.int) ?_ (dpAll_ints _))
      rw [← hc]
      exact el_sl (ev_var rfl) (eo_some (ev_var rfl)) (eo_some (ev_op (z := .int ((4 * i + 4 : Nat) : Int)) (ev_var rfl) ev_c (by
        have : (((4 * i + 4 : Nat) : Int)) = ((4 * i : Nat) : Int) + 4 := by omega
        rw [this]
        exact rv_I0 (g := fun i j => .int (i + j))))) (ex_l e' hS)
    · have := filter_range_map (rowsOf im) (fun _ => true) rowD (0, 0, 0, 0)
      rw [Gd.filter_all] at this
      rw [← this, ← hn]
      exact hd


end
end K19

set_option Elab.async false
set_option linter.all false
set_option maxRecDepth 100000
set_option maxHeartbeats 4000000
set_option exponentiation.threshold 600
namespace K19
open PySem PySem.Spec PyProof.Rows L2 Evl Gd
open PySem.NumText (AllDigits digitsVal)
/-! ### how expressions are evaluated, without a word of ours -/
local macro_rules | `(tactic| walk_at "ev") => `(tactic| exact ev_c)
local macro_rules | `(tactic| walk_at "ev") => `(tactic| exact ev_var rfl)
local macro_rules | `(tactic| walk_at "ev") => `(tactic| (refine' ev_op ?k1 ?k2 ?k3; (case k1 => walk_at "ev"); (case k2 => walk_at "ev"); (case k3 => walk_at "rv")))
local macro_rules | `(tactic| walk_at "ev") => `(tactic| (refine' ev_cb ?k1 ?k2; (case k1 => walk_at "ea"); (case k2 => walk_at "rc")))
local macro_rules | `(tactic| walk_at "ev") => `(tactic| (refine' ev_call ?k1 ?k2; (case k1 => walk_at "ea"); (case k2 => walk_at "sp")))
local macro_rules | `(tactic| walk_at "ev") => `(tactic| (refine' ev_chain ?k1 ?k2 ?k3 (fun _ => ?k4) (fun _ => ?k5); (case k1 => walk_at "ev"); (case k2 => walk_at "ev"); (case k3 => walk_at "rv"); (case k4 => walk_at "ev"); (case k5 => walk_at "rv")))
local macro_rules | `(tactic| walk_at "ev") => `(tactic| (refine' ev_orV ?k1 (fun _ => ?k2); (case k1 => walk_at "ev"); (case k2 => walk_at "ev")))
local macro_rules | `(tactic| walk_at "ev") => `(tactic| (refine' ev_andV ?k1 (fun _ => ?k2); (case k1 => walk_at "ev"); (case k2 => walk_at "ev")))
local macro_rules | `(tactic| walk_at "ev") => `(tactic| (refine' ev_notV ?k1; (case k1 => walk_at "ev")))
local macro_rules | `(tactic| walk_at "ea") => `(tactic| exact ea_nil)
local macro_rules | `(tactic| walk_at "ea") => `(tactic| (refine' ea_cons ?k1 ?k2; (case k1 => walk_at "ev"); (case k2 => walk_at "ea")))
local macro_rules | `(tactic| walk_at "rv") => `(tactic| exact rv_I0)
local macro_rules | `(tactic| walk_at "rv") => `(tactic| exact rv_eqI)
local macro_rules | `(tactic| walk_at "rv") => `(tactic| exact rv_neI)
local macro_rules | `(tactic| walk_at "rv") => `(tactic| exact rv_eqS)
local macro_rules | `(tactic| walk_at "rv") => `(tactic| exact rv_neS)
local macro_rules | `(tactic| walk_at "rv") => `(tactic| exact rv_mod (by decide))
local macro_rules | `(tactic| walk_at "rv") => `(tactic| exact rv_fdiv (by decide) (by decide))
local macro_rules | `(tactic| walk_at "rv") => `(tactic| exact rv_mulR (by decide))
local macro_rules | `(tactic| walk_at "rv") => `(tactic| exact rv_pow (by decide))
local macro_rules | `(tactic| walk_at "rc") => `(tactic| exact rc_int)
local macro_rules | `(tactic| walk_at "rc") => `(tactic| exact rc_ord)
local macro_rules | `(tactic| walk_at "et") => `(tactic| (refine' et_test ?k1; (case k1 => walk_at "ev")))
local macro_rules | `(tactic| walk_at "et") => `(tactic| (refine' et_B ?k1; (case k1 => walk_at "ev")))
local macro_rules | `(tactic| walk_at "et") => `(tactic| (refine' et_not ?k1; (case k1 => walk_at "et")))
local macro_rules | `(tactic| walk_at "et") => `(tactic| (refine' et_or ?k1 (fun _ => ?k2); (case k1 => walk_at "et"); (case k2 => walk_at "et")))
local macro_rules | `(tactic| walk_at "et") => `(tactic| (refine' et_and ?k1 (fun _ => ?k2); (case k1 => walk_at "et"); (case k2 => walk_at "et")))
section
variable {P : Program} {w : World} {K : PySem.W.Frag} {mg : Str → Option Value} {base : Heap}
/-! ### numerals -/
def big60 : Int := 10 ^ 60
def sp_has_numeral (K : PySem.W.Frag) : Sp := fun vs H Q _ => ∃ i : Int, vs = [.int i] ∧ RetV (.bl (decide (i.natAbs < 10 ^ 60))) H Q
theorem v_has_numeral {i : Int} {H : Hp} : SpV (sp_has_numeral K) [.int i] H (.bl (decide (i.natAbs < 10 ^ 60))) := fun _ _ _ q _ => ⟨i, rfl, q⟩
theorem abs_lt {i : Int} : decide ((if i < 0 then -i else i) < (10 : Int) ^ (60 : Int).toNat) = decide (i.natAbs < 10 ^ 60) := by
  have e : (10 : Int) ^ (60 : Int).toNat = ((10 ^ 60 : Nat) : Int) := by decide +kernel
  rw [e]
  generalize 10 ^ 60 = b
  by_cases h : i < 0
  · rw [if_pos h]
    exact decide_eq_decide.mpr ⟨fun g => by omega, fun g => by omega⟩
  · rw [if_neg h]
    exact decide_eq_decide.mpr ⟨fun g => by omega, fun g => by omega⟩
theorem ok_has_numeral (T : Txt K mg) : FnOk P w K mg base CX0 1 T.f_has_numeral T.d_has_numeral ["number"] (sp_has_numeral K) := by
  refine T.F_has_numeral.ok sc_has_numeral (fun vs H Q E h => ?_) (fun cdv A outer s H vs Q E hr h => ?_)
  · obtain ⟨i, rfl, _⟩ := h
    rfl
  · obtain ⟨i, rfl, k⟩ := h
    refine ⟨_, (pss_one (ps_ret (pe_cmpR op_lt (pe_callB call_abs (by rfl) T.n_abs (by decide +kernel) (pa_cons (pv 0) pa_nil)) (pe_op op_pow pe_int pe_int) (nomark _)))), ?_⟩
    rw [← abs_lt] at k
    exact s_ret (ev_op (ev_cb (ea_cons (ev_var rfl) ea_nil) rc_abs) (ev_op ev_c ev_c (rv_pow (by decide))) rv_I0) k
def sp_numeral (K : PySem.W.Frag) (C : Addr) : Sp := fun vs H Q E => ∃ i : Int, vs = [.int i] ∧ i.natAbs < 10 ^ 500 ∧ (i.natAbs < 10 ^ 60 → RetV (.str (toString i)) H Q) ∧ (¬ i.natAbs < 10 ^ 60 → ∀ H2, Ex H H2 → E (.ref C) none H2)
theorem ok_numeral (T : Txt K mg) : FnOk P w K mg base (L2.CX P w) 2 T.f_numeral T.d_numeral ["number"] (sp_numeral K T.C_NotNumeral) := by
  refine T.F_numeral.okX sc_numeral (fun vs H Q E h => ?_) (fun cdv A outer s H vs Q E hr h => ?_)
  · obtain ⟨i, rfl, _⟩ := h
    rfl
  · obtain ⟨i, rfl, hb, kG, kB⟩ := h
    refine ⟨_, (pss_cons (ps_if (pt_not (pt_val (pe_call (ok_has_numeral (P := P) T) (hr.mono (by decide)) (by rfl) T.g_has_numeral T.F_has_numeral.kp T.b_has_numeral .nil pass0 (pa_cons (pv 0) pa_nil)))) (pss_one (ps_raise rfl (takes_of rfl rfl rfl rfl) (pmk_own PySem.F.excBase_ValueError T.x_NotNumeral T.g_NotNumeral T.k_NotNumeral (raises_own T.b_NotNumeral T.t_NotNumeral) (by rfl)))) pss_nil)
        (pss_one (ps_ret (pe_callTy call_str_int (by rfl) T.n_str (by decide +kernel) (pa_cons (pv 0) pa_nil))))), ?_⟩
    refine q_when (b := !decide (i.natAbs < 10 ^ 60)) (et_not (et_B (ev_call (ea_cons (ev_var rfl) ea_nil) v_has_numeral))) (fun hb H1 e1 => kB (by simpa using hb) H1 e1) (fun h1 H1 e1 => ?_)
    have h1 : i.natAbs < 10 ^ 60 := by simpa using h1
    exact s_ret (ev_cb (ea_cons (ev_var rfl) ea_nil) (rc_strI hb)) fun H2 e2 => kG h1 H2 (e1.trans e2)

def isCh (c : Int) : Bool := decide (c = 10) || (decide (32 ≤ c) && decide (c ≤ 36) || decide (38 ≤ c) && decide (c ≤ 126))
def sp_is_character (K : PySem.W.Frag) : Sp := fun vs H Q _ => ∃ c : Int, vs = [.int c] ∧ RetV (.bl (isCh c)) H Q
theorem v_is_character {c : Int} {H : Hp} : SpV (sp_is_character K) [.int c] H (.bl (isCh c)) := fun _ _ _ q _ => ⟨c, rfl, q⟩
local macro_rules | `(tactic| walk_at "sp") => `(tactic| exact v_is_character)
theorem ok_is_character (T : Txt K mg) : FnOk P w K mg base CX0 1 T.f_is_character T.d_is_character ["code"] (sp_is_character K) := by
  refine T.F_is_character.ok sc_is_character (fun vs H Q E h => ?_) (fun cdv A outer s H vs Q E hr h => ?_)
  · obtain ⟨c, rfl, _⟩ := h
    rfl
  · obtain ⟨c, rfl, k⟩ := h
    refine ⟨_, (pss_one (ps_ret (pe_or (pe_cmpR op_eq (pv 0) (pe_glob (v := .int 10) (by rfl) T.c_NEWLINE ⟨_, rfl⟩) (nomark _)) (pe_or (pe_chain op_le op_le pe_int (pv 0) pe_int) (pe_one (pe_chain op_le op_le pe_int (pv 0) pe_int)))))), ?_⟩
    exact s_ret (v := .bl (isCh c)) (by walk_at "ev") k

/-! ### text_of -/
def sp_character (K : PySem.W.Frag) (C : Addr) : Sp := fun vs H Q E => ∃ c : Int, vs = [.int c] ∧ (isCh c = true → RetV (.str ⟨#[c.toNat]⟩) H Q) ∧ (isCh c = false → ∀ H2, Ex H H2 → E (.ref C) none H2)
theorem v_character {C : Addr} {c : Int} {H : Hp} (h : isCh c = true) : SpV (sp_character K C) [.int c] H (.str ⟨#[c.toNat]⟩) := fun _ _ _ q _ => ⟨c, rfl, fun _ => q, fun z => by rw [h] at z; cases z⟩
theorem sp_tab : ∀ k < 5, str_FROM_SPACE.cps.toList[k]? = some (k + 32) := by decide +kernel
theorem amp_tab : ∀ k < 89, str_FROM_AMPERSAND.cps.toList[k]? = some (k + 38) := by decide +kernel
theorem at_off {xs : List Nat} {c o n : Int} (h0 : 0 ≤ c - o) (hn : c - o < n) (ho : 0 ≤ o) (tab : ∀ k < n.toNat, xs[k]? = some (k + o.toNat)) : atI xs (c - o) = some c.toNat := by
  have e : c - o = (((c - o).toNat : Nat) : Int) := by omega
  rw [e]
  refine atI_nat ?_
  rw [tab _ (by omega)]
  congr 1
  omega
theorem ok_character (T : Txt K mg) : FnOk P w K mg base (L2.CX P w) 2 T.f_character T.d_character ["code"] (sp_character K T.C_NotText) := by
  refine T.F_character.okX sc_character (fun vs H Q E h => ?_) (fun cdv A outer s H vs Q E hr h => ?_)
  · obtain ⟨c, rfl, _⟩ := h
    rfl
  · obtain ⟨c, rfl, kG, kB⟩ := h
    refine ⟨_, (pss_cons (ps_if (pt_not (pt_val (pe_call (ok_is_character (P := P) T) (hr.mono (by decide)) (by rfl) T.g_is_character T.F_is_character.kp T.b_is_character .nil pass0 (pa_cons (pv 0) pa_nil)))) (pss_one (ps_raise rfl (takes_of rfl rfl rfl rfl) (pmk_own PySem.F.excBase_ValueError T.x_NotText T.g_NotText T.k_NotText (raises_own T.b_NotText T.t_NotText) (by rfl)))) pss_nil)
        (pss_cons (ps_if (pt_cmpR op_eq (pv 0) (pe_glob (v := .int 10) (by rfl) T.c_NEWLINE ⟨_, rfl⟩) (nomark _)) (pss_one (ps_ret pe_str)) pss_nil)
        (pss_cons (ps_if (pt_cmpR op_le (pv 0) pe_int (nomark _)) (pss_one (ps_ret (pe_ix ix_str (pe_glob (v := .str str_FROM_SPACE) (by rfl) T.c_FROM_SPACE ⟨_, rfl⟩) (pe_op op_sub (pv 0) pe_int) (fun _ _ => rfl)))) pss_nil)
        (pss_one (ps_ret (pe_ix ix_str (pe_glob (v := .str str_FROM_AMPERSAND) (by rfl) T.c_FROM_AMPERSAND ⟨_, rfl⟩) (pe_op op_sub (pv 0) pe_int) (fun _ _ => rfl))))))), ?_⟩
    refine q_when (b := !isCh c) (by walk_at "et") (fun hb H1 e1 => kB (by simpa using hb) H1 e1) (fun hb H1 e1 => ?_)
    have hc : isCh c = true := by simpa using hb
    have kG := kG hc
    refine q_when (b := decide (c = 10)) (by walk_at "et") (fun hb H2 e2 => ?_) (fun hb H2 e2 => ?_)
    · have e : c = 10 := of_decide_eq_true hb
      subst e
      exact s_ret ev_c fun H3 e3 => kG H3 (e1.trans (e2.trans e3))
    have n10 : c ≠ 10 := of_decide_eq_false hb
    unfold isCh at hc
    simp only [decide_eq_false n10, Bool.false_or, Bool.or_eq_true, Bool.and_eq_true, decide_eq_true_eq] at hc
    refine q_when (b := decide (c ≤ 36)) (by walk_at "et") (fun hb H3 e3 => ?_) (fun hb H3 e3 => ?_)
    · have h36 : c ≤ 36 := of_decide_eq_true hb
      refine s_ret (v := .str ⟨#[c.toNat]⟩) (ev_op ev_c (by walk_at "ev") (rv_ixS (by decide) (at_off (n := 5) (o := 32) (by omega) (by omega) (by decide) sp_tab))) fun H4 e4 => kG H4 (e1.trans (e2.trans (e3.trans e4)))
    · have h36 : ¬ c ≤ 36 := of_decide_eq_false hb
      refine s_ret (v := .str ⟨#[c.toNat]⟩) (ev_op ev_c (by walk_at "ev") (rv_ixS (by decide) (at_off (n := 89) (o := 38) (by omega) (by omega) (by decide) amp_tab))) fun H4 e4 => kG H4 (e1.trans (e2.trans (e3.trans e4)))
def textOf (ns : List Int) : Str := ⟨(ns.map Int.toNat).toArray⟩
def sp_text_of (K : PySem.W.Frag) : Sp := fun vs H Q _ => ∃ (a : Addr) (ns : List Int), vs = [.ref a] ∧ SqL K H a (ns.map V.int) ∧ ns.length ≤ 1000 ∧ ns.all isCh = true ∧ RetV (.str (textOf ns)) H Q
theorem v_text_of {a : Addr} {ns : List Int} {H : Hp} (h : SqL K H a (ns.map V.int)) (hl : ns.length ≤ 1000) (hc : ns.all isCh = true) : SpV (sp_text_of K) [.ref a] H (.str (textOf ns)) := fun _ e _ q _ => ⟨a, ns, rfl, ex_l e h, hl, hc, q⟩
theorem ok_text_of (T : Txt K mg) : FnOk P w K mg base (L2.CX P w) 3 T.f_text_of T.d_text_of ["codes"] (sp_text_of K) := by
  refine T.F_text_of.okX sc_text_of (fun vs H Q E h => ?_) (fun cdv A outer s H vs Q E hr h => ?_)
  · obtain ⟨a, ns, rfl, _⟩ := h
    rfl
  · obtain ⟨a, ns, rfl, hS, hl, hc, k⟩ := h
    refine ⟨_, (pss_one (ps_ret (pe_join pe_str (pe_lc (own := [("code", 1)]) (by rfl) sc_text_of.nd (pi_list (pv 0)) (blkOk_by (own := [("code", 1)]) (N := N_text_of) (sc := defScope s_text_of) (by decide +kernel)) (fun _ _ _ _ _ => pg_name (i := 1) sc_text_of.nd rfl (Or.inl rfl)) (fun _ _ _ _ _ => pts_nil) (fun _ _ _ _ _ => (pe_call (ok_character (P := P) T) (hr.mono (by decide)) (by rfl) T.g_character T.F_character.kp T.b_character .nil passL (pa_cons (pv 1) pa_nil))))))), ?_⟩
    let f : V → V := fun v => match v with | .int c => .str ⟨#[c.toNat]⟩ | _ => .non
    have hE : EvL _ (L2.start N_text_of [.ref a]) H ((ns.map V.int).map f) := el_mapL (K := K) (σ := L2.start N_text_of [.ref a]) (H := H) (te := tCall (sp_character K T.C_NotText) [] E0 (tCons (tVar 1) tNil)) (tl := tVar 0) (j := 1) (vs := [1]) f (ev_var rfl) hS (by rw [List.length_map]; omega) (fun _ => rfl) (fun x hx H1 _ => by
      obtain ⟨c, hcm, rfl⟩ := List.mem_map.mp hx
      exact ev_call (ea_cons (ev_var rfl) ea_nil) (v_character (List.all_eq_true.mp hc c hcm)))
    have hm : (ns.map V.int).map f = (ns.map fun c => (⟨#[c.toNat]⟩ : Str)).map V.str := by
      rw [List.map_map, List.map_map]
      rfl
    rw [hm] at hE
    have ht : Txt.join "" (ns.map fun c => (⟨#[c.toNat]⟩ : Str)) = textOf ns := by
      refine str_ext ?_
      rw [joinE, List.map_map]
      unfold textOf
      show (ns.map fun c => [c.toNat]).flatten = ns.map Int.toNat
      clear hS hl hc k hE hm
      induction ns with
      | nil => rfl
      | cons c r ih => rw [List.map_cons, List.flatten_cons, ih]; rfl
    rw [← ht] at k
    refine s_ret (ev_joinL ev_c hE ?_) k
    have hs : ((ns.map fun c => (⟨#[c.toNat]⟩ : Str)).map (·.length)).sum = ns.length := by
      clear hS hl hc k hE hm ht
      induction ns with
      | nil => rfl
      | cons c r ih => rw [List.map_cons, List.map_cons, List.sum_cons, ih, List.length_cons]; show 1 + r.length = r.length + 1; omega
    rw [hs, List.length_map]
    show ns.length + ns.length * 0 ≤ 16777216
    omega

abbrev NI_NotListable : List Str := ["self", "at", "__class__"]
theorem nsc_NotListable : NdefX.NScope NI_NotListable ["self", "at"] ["__class__"] (defScope sI_NotListable) := NdefX.nscope_by (by decide +kernel)
theorem ok_NotListable_init [ProgOk P] (T : Txt K mg) : FnOk P w K mg base CX0 1 T.fI_NotListable T.dI_NotListable ["self", "at"] (spXI T.C_NotListable "at") := by
  refine sup_ok (k := 0) (N := NI_NotListable) T.supf_NotListable T.oex_NotListable T.n_super nsc_NotListable rfl rfl rfl (fun _ => rfl) (fun _ => rfl) (fun _ => rfl) (fun _ => ⟨_, rfl⟩) (fun vs H Q E h => ?_) (fun A outer s H vs Q E hr h => ?_)
  · obtain ⟨a, y, rfl, _⟩ := h
    rfl
  · obtain ⟨a, y, rfl, hy, ha, k⟩ := h
    refine ⟨a, [y], _, _, rfl, ha, pe_joined (.cons pe_str (.cons (pe_fmt (pv 1)) .nil)), ps_ost (pv 0) (pv 1), ?_⟩
    refine js_c (n := 0) (by decide) (by decide) (by decide) fun lz => ?_
    refine js_y hy (ev_var rfl) lz (by decide) fun z H1 e1 lz => ?_
    exact ⟨e1 _ _ ha, s_ost T.oex_NotListable T.na_NotListable (e1 _ _ ha) (fun _ => ev_var rfl) (ev_var rfl) fun H2 dx e2 nd ne => k H2 dx (e1.trans e2) nd ne⟩


end
end K19

set_option Elab.async false
set_option linter.all false
set_option maxRecDepth 100000
set_option maxHeartbeats 4000000
set_option exponentiation.threshold 600
namespace K19
open PySem PySem.Spec PyProof.Rows L2 Evl Gd
open PySem.NumText (AllDigits digitsVal)
/-! ### how expressions are evaluated, without a word of ours -/
local macro_rules | `(tactic| walk_at "ev") => `(tactic| exact ev_c)
local macro_rules | `(tactic| walk_at "ev") => `(tactic| exact ev_var rfl)
local macro_rules | `(tactic| walk_at "ev") => `(tactic| (refine' ev_op ?k1 ?k2 ?k3; (case k1 => walk_at "ev"); (case k2 => walk_at "ev"); (case k3 => walk_at "rv")))
local macro_rules | `(tactic| walk_at "ev") => `(tactic| (refine' ev_cb ?k1 ?k2; (case k1 => walk_at "ea"); (case k2 => walk_at "rc")))
local macro_rules | `(tactic| walk_at "ev") => `(tactic| (refine' ev_call ?k1 ?k2; (case k1 => walk_at "ea"); (case k2 => walk_at "sp")))
local macro_rules | `(tactic| walk_at "ev") => `(tactic| (refine' ev_chain ?k1 ?k2 ?k3 (fun _ => ?k4) (fun _ => ?k5); (case k1 => walk_at "ev"); (case k2 => walk_at "ev"); (case k3 => walk_at "rv"); (case k4 => walk_at "ev"); (case k5 => walk_at "rv")))
local macro_rules | `(tactic| walk_at "ev") => `(tactic| (refine' ev_orV ?k1 (fun _ => ?k2); (case k1 => walk_at "ev"); (case k2 => walk_at "ev")))
local macro_rules | `(tactic| walk_at "ev") => `(tactic| (refine' ev_andV ?k1 (fun _ => ?k2); (case k1 => walk_at "ev"); (case k2 => walk_at "ev")))
local macro_rules | `(tactic| walk_at "ev") => `(tactic| (refine' ev_notV ?k1; (case k1 => walk_at "ev")))
local macro_rules | `(tactic| walk_at "ea") => `(tactic| exact ea_nil)
local macro_rules | `(tactic| walk_at "ea") => `(tactic| (refine' ea_cons ?k1 ?k2; (case k1 => walk_at "ev"); (case k2 => walk_at "ea")))
local macro_rules | `(tactic| walk_at "rv") => `(tactic| exact rv_I0)
local macro_rules | `(tactic| walk_at "rv") => `(tactic| exact rv_eqI)
local macro_rules | `(tactic| walk_at "rv") => `(tactic| exact rv_neI)
local macro_rules | `(tactic| walk_at "rv") => `(tactic| exact rv_eqS)
local macro_rules | `(tactic| walk_at "rv") => `(tactic| exact rv_neS)
local macro_rules | `(tactic| walk_at "rv") => `(tactic| exact rv_mod (by decide))
local macro_rules | `(tactic| walk_at "rv") => `(tactic| exact rv_fdiv (by decide) (by decide))
local macro_rules | `(tactic| walk_at "rv") => `(tactic| exact rv_mulR (by decide))
local macro_rules | `(tactic| walk_at "rv") => `(tactic| exact rv_pow (by decide))
local macro_rules | `(tactic| walk_at "rc") => `(tactic| exact rc_int)
local macro_rules | `(tactic| walk_at "rc") => `(tactic| exact rc_ord)
local macro_rules | `(tactic| walk_at "et") => `(tactic| (refine' et_test ?k1; (case k1 => walk_at "ev")))
local macro_rules | `(tactic| walk_at "et") => `(tactic| (refine' et_B ?k1; (case k1 => walk_at "ev")))
local macro_rules | `(tactic| walk_at "et") => `(tactic| (refine' et_not ?k1; (case k1 => walk_at "et")))
local macro_rules | `(tactic| walk_at "et") => `(tactic| (refine' et_or ?k1 (fun _ => ?k2); (case k1 => walk_at "et"); (case k2 => walk_at "et")))
local macro_rules | `(tactic| walk_at "et") => `(tactic| (refine' et_and ?k1 (fun _ => ?k2); (case k1 => walk_at "et"); (case k2 => walk_at "et")))
section
variable {P : Program} {w : World} {K : PySem.W.Frag} {mg : Str → Option Value} {base : Heap}
/-! ### the reader's state -/
structure SS where
  m : Int
  r : Int
  w : Bool
  f : Bool
  cs : List Int
def FF (s : SS) (q : Addr) : List (Str × V) := [("m", .int s.m), ("r", .int s.r), ("waiting", .bl s.w), ("finished", .bl s.f), ("_cells", .ref q)]
def emitS (s : SS) (op arg su : Int) : SS := ⟨s.m + 1, 0, s.w, s.f, s.cs ++ [s.m, op, arg, su]⟩
def signS (s : SS) (c : Int) : SS := if c = 39 then ⟨s.m, s.r, true, s.f, s.cs⟩ else if c = 58 then ⟨s.r, 0, s.w, s.f, s.cs⟩ else if c = 62 then emitS s 32 0 s.r else emitS s c s.r (s.m + 1)
def stepS (s : SS) (c : Int) : SS := if c < 0 then ⟨s.m, s.r, false, true, s.cs⟩ else if s.w = true then emitS ⟨s.m, s.r, false, s.f, s.cs⟩ 35 c (s.m + 1) else if isDg c = true then ⟨s.m, 10 * s.r + c - 48, s.w, s.f, s.cs⟩ else if 32 < c then signS s c else s
def feedS (s : SS) (c : Int) : SS := if s.f = true then s else stepS s c
def s0 : SS := ⟨0, 0, false, false, []⟩
def runS (l : List Int) : SS := l.foldl feedS s0
theorem feedS_len (s : SS) (c : Int) : (feedS s c).cs.length ≤ s.cs.length + 4 := by
  unfold feedS stepS signS emitS
  repeat' split
  all_goals simp
theorem run_len (l : List Int) (s : SS) : (l.foldl feedS s).cs.length ≤ s.cs.length + 4 * l.length := by
  induction l generalizing s with
  | nil => simp
  | cons c r ih =>
    have h1 := ih (feedS s c)
    have h2 := feedS_len s c
    rw [List.foldl_cons, List.length_cons]
    omega
/-- a reader of state s stands at x, its cells at q -/
def RA (C : Addr) (H : Hp) (x q : Addr) (s : SS) : Prop := (∃ dx, H x = some (.ins C dx (FF s q))) ∧ H q = some (.lst (s.cs.map V.int))
theorem RA.ne {C x q : Addr} {H : Hp} {s : SS} (h : RA C H x q s) : q ≠ x := by
  obtain ⟨⟨dx, h1⟩, h2⟩ := h
  exact ne_of h2 h1 (by intro z; cases z)
theorem RA.ex {C x q : Addr} {H H' : Hp} {s : SS} (h : RA C H x q s) (e : Ex H H') : RA C H' x q s := let ⟨⟨dx, h1⟩, h2⟩ := h; ⟨⟨dx, e _ _ h1⟩, e _ _ h2⟩
def But2 (x q : Addr) (H H' : Hp) : Prop := ∀ b o, b ≠ x → b ≠ q → H b = some o → H' b = some o
theorem But2.refl {x q : Addr} {H : Hp} : But2 x q H H := fun _ _ _ _ h => h
theorem But2.trans {x q : Addr} {H H1 H2 : Hp} (a : But2 x q H H1) (b : But2 x q H1 H2) : But2 x q H H2 := fun c o n1 n2 h => b c o n1 n2 (a c o n1 n2 h)
theorem ex_b2 {x q : Addr} {H H' : Hp} (e : Ex H H') : But2 x q H H' := fun b o _ _ h => e b o h
theorem but2_x {x q : Addr} {H : Hp} {o : HO} : But2 x q H (upd H x o) := fun b u n _ h => by rw [upd_ne n]; exact h
theorem but2_q {x q : Addr} {H : Hp} {o : HO} : But2 x q H (upd H q o) := fun b u _ n h => by rw [upd_ne n]; exact h
theorem ra_x {C dx x q : Addr} {H : Hp} {s : SS} (h : H q = some (.lst (s.cs.map V.int))) (n : q ≠ x) : RA C (upd H x (.ins C dx (FF s q))) x q s := ⟨⟨dx, upd_same⟩, by rw [upd_ne n]; exact h⟩
theorem put_m {s : SS} {q : Addr} {z : Int} : putF "m" (.int z) (FF s q) = FF ⟨z, s.r, s.w, s.f, s.cs⟩ q := rfl
theorem put_r {s : SS} {q : Addr} {z : Int} : putF "r" (.int z) (FF s q) = FF ⟨s.m, z, s.w, s.f, s.cs⟩ q := rfl
theorem put_w {s : SS} {q : Addr} {b : Bool} : putF "waiting" (.bl b) (FF s q) = FF ⟨s.m, s.r, b, s.f, s.cs⟩ q := rfl
theorem put_f {s : SS} {q : Addr} {b : Bool} : putF "finished" (.bl b) (FF s q) = FF ⟨s.m, s.r, s.w, b, s.cs⟩ q := rfl
theorem lk_m {s : SS} {q : Addr} : (FF s q).lookup ("m" : Str) = some (.int s.m) := rfl
theorem lk_r {s : SS} {q : Addr} : (FF s q).lookup ("r" : Str) = some (.int s.r) := rfl
theorem lk_w {s : SS} {q : Addr} : (FF s q).lookup ("waiting" : Str) = some (.bl s.w) := rfl
theorem lk_f {s : SS} {q : Addr} : (FF s q).lookup ("finished" : Str) = some (.bl s.f) := rfl
theorem lk_c {s : SS} {q : Addr} : (FF s q).lookup ("_cells" : Str) = some (.ref q) := rfl
theorem ff_len {s : SS} {q : Addr} : (FF s q).length < 1000 := by show 5 < 1000; decide
/-! ### its methods -/
def sp_ShortReader_init (K : PySem.W.Frag) (C : Addr) : Sp := fun vs H Q _ => ∃ x dx : Addr, vs = [.ref x] ∧ H x = some (.ins C dx []) ∧ ∀ q H', H q = none → RA C H' x q s0 → (∀ b o, b ≠ x → H b = some o → H' b = some o) → Q .non H'
theorem ok_ShortReader_init (T : Txt K mg) : FnOk P w K mg base CX0 1 T.f_ShortReader_init T.d_ShortReader_init ["self"] (sp_ShortReader_init K T.C_ShortReader) := by
  refine T.F_ShortReader_init.ok sc_ShortReader_init (fun vs H Q E h => ?_) (fun cdv A outer s H vs Q E hr h => ?_)
  · obtain ⟨x, dx, rfl, _⟩ := h
    rfl
  · obtain ⟨x, dx, rfl, hx, k⟩ := h
    refine ⟨_, (pss_cons (ps_fld (pv 0) pe_int rfl)
        (pss_cons (ps_fld (pv 0) pe_int rfl)
        (pss_cons (ps_fld (pv 0) pe_bl rfl)
        (pss_cons (ps_fld (pv 0) pe_bl rfl)
        (pss_one (ps_fld (pv 0) (pe_lst pa_nil) rfl)))))), ?_⟩
    refine q_fld ev_c (ev_var rfl) hx T.cl_ShortReader T.na_ShortReader_m (by decide) (fun H1 e1 => ?_)
    refine q_fld ev_c (ev_var rfl) upd_same T.cl_ShortReader T.na_ShortReader_r (by show 1 < 1000; decide) (fun H2 e2 => ?_)
    refine q_fld ev_c (ev_var rfl) upd_same T.cl_ShortReader T.na_ShortReader_waiting (by show 2 < 1000; decide) (fun H3 e3 => ?_)
    refine q_fld ev_c (ev_var rfl) upd_same T.cl_ShortReader T.na_ShortReader_finished (by show 3 < 1000; decide) (fun H4 e4 => ?_)
    refine s_fldL (el_lst ea_nil (by decide)) (ev_var rfl) upd_same T.cl_ShortReader T.na_ShortReader_cells (by show 4 < 1000; decide) (fun q H5 hq e5 h5 => ?_)
    have hb : ∀ b o, b ≠ x → H b = some o → H5 b = some o := fun b o n h => e5 _ _ (by rw [upd_ne n]; exact e4 _ _ (by rw [upd_ne n]; exact e3 _ _ (by rw [upd_ne n]; exact e2 _ _ (by rw [upd_ne n]; exact e1 _ _ h))))
    have hqx : q ≠ x := fun e => by rw [e, upd_same] at hq; cases hq
    refine k q _ ?_ (ra_x (s := s0) h5 hqx) (fun b o n h => by rw [upd_ne n]; exact hb b o n h)
    cases e : H q with
    | none => rfl
    | some o =>
      rw [upd_ne hqx] at hq
      have z : H4 q = some o := e4 _ _ (by rw [upd_ne hqx]; exact e3 _ _ (by rw [upd_ne hqx]; exact e2 _ _ (by rw [upd_ne hqx]; exact e1 _ _ e)))
      rw [hq] at z
      cases z
def Goes (C : Addr) (x q : Addr) (H : Hp) (s' : SS) : V → Hp → Prop := fun v H' => v = .non ∧ RA C H' x q s' ∧ But2 x q H H'
theorem goes_bk {C x q : Addr} {H H1 : Hp} {s' : SS} {v : V} {H' : Hp} (h : Goes C x q H1 s' v H') (b : But2 x q H H1) : Goes C x q H s' v H' := ⟨h.1, h.2.1, b.trans h.2.2⟩
def sp_ShortReader_emit (K : PySem.W.Frag) (C : Addr) : Sp := fun vs H Q _ => ∃ (x q : Addr) (s : SS) (op arg su : Int), vs = [.ref x, .int op, .int arg, .int su] ∧ RA C H x q s ∧ s.cs.length ≤ 50000 ∧ ∀ v H', Goes C x q H (emitS s op arg su) v H' → Q v H'
theorem ok_ShortReader_emit (T : Txt K mg) : FnOk P w K mg base CX0 1 T.f_ShortReader_emit T.d_ShortReader_emit ["self", "operation", "argument", "successor"] (sp_ShortReader_emit K T.C_ShortReader) := by
  refine T.F_ShortReader_emit.ok sc_ShortReader_emit (fun vs H Q E h => ?_) (fun cdv A outer s H vs Q E hr h => ?_)
  · obtain ⟨x, q, s, op, arg, su, rfl, _⟩ := h
    rfl
  · obtain ⟨x, q, s, op, arg, su, rfl, hR, hz, k⟩ := h
    refine ⟨_, (pss_cons (ps_expr (pe_bm PySem.F.plainAttrs_list PySem.F.slot_list_extend PySem.F.type_list_extend mt_extend (pe_fld (pv 0) rfl) (pa_cons (pe_lst (pa_cons (pe_fld (pv 0) rfl) (pa_cons (pv 1) (pa_cons (pv 2) (pa_cons (pv 3) pa_nil))))) pa_nil)))
        (pss_cons (ps_fldaug (pv 0) pe_int in_add)
        (pss_one (ps_fld (pv 0) pe_int rfl)))), ?_⟩
    have hn := hR.ne
    obtain ⟨⟨dx, hx⟩, hq⟩ := hR
    have fld : ∀ {H1 : Hp}, Ex H H1 → Ev (tFld K (tVar 0) "m") (L2.start N_ShortReader_emit [.ref x, .int op, .int arg, .int su]) H1 (.int s.m) := fun e => ev_fld (ev_var rfl) (e _ _ hx) T.cl_ShortReader T.na_ShortReader_m lk_m
    refine q_ext hq (ev_fld (ev_var rfl) hx T.cl_ShortReader T.na_ShortReader_cells lk_c) (el_lst (vs := [.int s.m, .int op, .int arg, .int su]) (ea_cons (fld (Ex.refl H)) (ea_cons (ev_var rfl) (ea_cons (ev_var rfl) (ea_cons (ev_var rfl) ea_nil)))) (by show 4 ≤ 100000; decide)) (by rw [List.length_map]; show s.cs.length + 4 ≤ 100000; omega) (fun H1 e1 => ?_)
    refine q_fldaug (ev_var rfl) (by rw [upd_ne (Ne.symm hn)]; exact e1 _ _ hx) T.cl_ShortReader T.na_ShortReader_m lk_m (fun _ _ => ev_c) ff_len (fun H2 e2 => ?_)
    rw [put_m]
    refine s_fld ev_c (ev_var rfl) upd_same T.cl_ShortReader T.na_ShortReader_r ff_len (fun H3 e3 => ?_)
    rw [put_r]
    have hq3 : H3 q = some (.lst ((emitS s op arg su).cs.map V.int)) := by
      refine e3 _ _ ?_
      rw [upd_ne hn]
      refine e2 _ _ ?_
      rw [upd_same]
      unfold emitS
      rw [List.map_append]
      rfl
    refine k _ _ ⟨rfl, ra_x (s := emitS s op arg su) hq3 hn, ?_⟩
    exact (((ex_b2 e1).trans but2_q).trans ((ex_b2 e2).trans but2_x)).trans ((ex_b2 e3).trans but2_x)
theorem ep_emit {C x q : Addr} {s : SS} {op arg su : Int} {σ : L2.St} {H : Hp} {to : TE} {t : TA} (ho : Ev to σ H (.ref x)) (hR : RA C H x q s) (hz : s.cs.length ≤ 50000) (ht : EvA t σ H [.int op, .int arg, .int su]) : EvP (tMeth C "_emit" (sp_ShortReader_emit K C) [] E0 to t) σ H (Goes C x q H (emitS s op arg su)) := by
  obtain ⟨⟨dx, hx⟩, hq⟩ := id hR
  exact ep_meth ho hx (by rfl) ht fun H1 e1 Q k => ⟨x, q, s, op, arg, su, rfl, hR.ex e1, hz, fun v H' h => k v H' (goes_bk h (ex_b2 e1))⟩
def sp_ShortReader_take_sign (K : PySem.W.Frag) (C : Addr) : Sp := fun vs H Q _ => ∃ (x q : Addr) (s : SS) (c : Int), vs = [.ref x, .int c] ∧ RA C H x q s ∧ s.cs.length ≤ 50000 ∧ ∀ v H', Goes C x q H (signS s c) v H' → Q v H'
theorem ok_ShortReader_take_sign (T : Txt K mg) : FnOk P w K mg base CX0 2 T.f_ShortReader_take_sign T.d_ShortReader_take_sign ["self", "code"] (sp_ShortReader_take_sign K T.C_ShortReader) := by
  refine T.F_ShortReader_take_sign.ok sc_ShortReader_take_sign (fun vs H Q E h => ?_) (fun cdv A outer s H vs Q E hr h => ?_)
  · obtain ⟨x, q, s, c, rfl, _⟩ := h
    rfl
  · obtain ⟨x, q, s, c, rfl, hR, hz, k⟩ := h
    refine ⟨_, (pss_one (ps_if (pt_cmpR op_eq (pv 1) (pe_glob (v := .int 39) (by rfl) T.c_QUOTE ⟨_, rfl⟩) (nomark _)) (pss_one (ps_fld (pv 0) pe_bl rfl)) (pss_one (ps_if (pt_cmpR op_eq (pv 1) (pe_glob (v := .int 58) (by rfl) T.c_COLON ⟨_, rfl⟩) (nomark _)) (pss_cons (ps_fld (pv 0) (pe_fld (pv 0) rfl) rfl)
        (pss_one (ps_fld (pv 0) pe_int rfl))) (pss_one (ps_if (pt_cmpR op_eq (pv 1) (pe_glob (v := .int 62) (by rfl) T.c_GREATER ⟨_, rfl⟩) (nomark _)) (pss_one (ps_expr (pe_meth (pv 0) T.cl_ShortReader T.m_ShortReader_emit (ok_ShortReader_emit (P := P) T) (hr.mono (by decide)) T.b_ShortReader_emit .nil pass0 (pa_cons (pe_glob (v := .int 32) (by rfl) T.c_NOP ⟨_, rfl⟩) (pa_cons pe_int (pa_cons (pe_fld (pv 0) rfl) pa_nil)))))) (pss_one (ps_expr (pe_meth (pv 0) T.cl_ShortReader T.m_ShortReader_emit (ok_ShortReader_emit (P := P) T) (hr.mono (by decide)) T.b_ShortReader_emit .nil pass0 (pa_cons (pv 1) (pa_cons (pe_fld (pv 0) rfl) (pa_cons (pe_op op_add (pe_fld (pv 0) rfl) pe_int) pa_nil)))))))))))), ?_⟩
    have hn := hR.ne
    refine s_if (b := decide (c = 39)) (by walk_at "et") (fun hb H1 e1 => ?_) (fun hb H1 e1 => ?_)
    · have hs : signS s c = ⟨s.m, s.r, true, s.f, s.cs⟩ := by unfold signS; rw [if_pos (of_decide_eq_true hb)]
      rw [hs] at k
      obtain ⟨⟨dx, hx⟩, hq⟩ := hR.ex e1
      refine s_fld ev_c (ev_var rfl) hx T.cl_ShortReader T.na_ShortReader_waiting ff_len (fun H2 e2 => ?_)
      rw [put_w]
      exact k _ _ ⟨rfl, ra_x (s := ⟨s.m, s.r, true, s.f, s.cs⟩) (e2 _ _ hq) hn, (ex_b2 (e1.trans e2)).trans but2_x⟩
    have n39 : ¬ c = 39 := of_decide_eq_false hb
    refine s_if (b := decide (c = 58)) (by walk_at "et") (fun hb H2 e2 => ?_) (fun hb H2 e2 => ?_)
    · have hs : signS s c = ⟨s.r, 0, s.w, s.f, s.cs⟩ := by unfold signS; rw [if_neg n39, if_pos (of_decide_eq_true hb)]
      rw [hs] at k
      obtain ⟨⟨dx, hx⟩, hq⟩ := hR.ex (e1.trans e2)
      refine q_fld (ev_fld (ev_var rfl) hx T.cl_ShortReader T.na_ShortReader_r lk_r) (ev_var rfl) hx T.cl_ShortReader T.na_ShortReader_m ff_len (fun H3 e3 => ?_)
      rw [put_m]
      refine s_fld ev_c (ev_var rfl) upd_same T.cl_ShortReader T.na_ShortReader_r ff_len (fun H4 e4 => ?_)
      rw [put_r]
      refine k _ _ ⟨rfl, ra_x (s := ⟨s.r, 0, s.w, s.f, s.cs⟩) (e4 _ _ (by rw [upd_ne hn]; exact e3 _ _ hq)) hn, ((ex_b2 (e1.trans (e2.trans e3))).trans but2_x).trans ((ex_b2 e4).trans but2_x)⟩
    have n58 : ¬ c = 58 := of_decide_eq_false hb
    refine s_if (b := decide (c = 62)) (by walk_at "et") (fun hb H3 e3 => ?_) (fun hb H3 e3 => ?_)
    · have hs : signS s c = emitS s 32 0 s.r := by unfold signS; rw [if_neg n39, if_neg n58, if_pos (of_decide_eq_true hb)]
      rw [hs] at k
      have hR3 := hR.ex (e1.trans (e2.trans e3))
      obtain ⟨⟨dx, hx⟩, hq⟩ := id hR3
      exact s_dropP (ep_emit (ev_var rfl) hR3 hz (ea_cons ev_c (ea_cons ev_c (ea_cons (ev_fld (ev_var rfl) hx T.cl_ShortReader T.na_ShortReader_r lk_r) ea_nil)))) fun v H4 h => by
        rw [← h.1]
        exact k v H4 (goes_bk h (ex_b2 (e1.trans (e2.trans e3))))
    · have hs : signS s c = emitS s c s.r (s.m + 1) := by unfold signS; rw [if_neg n39, if_neg n58, if_neg (of_decide_eq_false hb)]
      rw [hs] at k
      have hR3 := hR.ex (e1.trans (e2.trans e3))
      obtain ⟨⟨dx, hx⟩, hq⟩ := id hR3
      exact s_dropP (ep_emit (ev_var rfl) hR3 hz (ea_cons (ev_var rfl) (ea_cons (ev_fld (ev_var rfl) hx T.cl_ShortReader T.na_ShortReader_r lk_r) (ea_cons (ev_op (ev_fld (ev_var rfl) hx T.cl_ShortReader T.na_ShortReader_m lk_m) ev_c rv_I0) ea_nil)))) fun v H4 h => by
        rw [← h.1]
        exact k v H4 (goes_bk h (ex_b2 (e1.trans (e2.trans e3))))
theorem ep_sign {C x q : Addr} {s : SS} {c : Int} {σ : L2.St} {H : Hp} {to : TE} {t : TA} (ho : Ev to σ H (.ref x)) (hR : RA C H x q s) (hz : s.cs.length ≤ 50000) (ht : EvA t σ H [.int c]) : EvP (tMeth C "_take_sign" (sp_ShortReader_take_sign K C) [] E0 to t) σ H (Goes C x q H (signS s c)) := by
  obtain ⟨⟨dx, hx⟩, hq⟩ := id hR
  exact ep_meth ho hx (by rfl) ht fun H1 e1 Q k => ⟨x, q, s, c, rfl, hR.ex e1, hz, fun v H' h => k v H' (goes_bk h (ex_b2 e1))⟩
def sp_ShortReader_take (K : PySem.W.Frag) (C : Addr) : Sp := fun vs H Q _ => ∃ (x q : Addr) (s : SS) (c : Int), vs = [.ref x, .int c] ∧ RA C H x q s ∧ s.cs.length ≤ 50000 ∧ ∀ v H', Goes C x q H (stepS s c) v H' → Q v H'
theorem ok_ShortReader_take (T : Txt K mg) : FnOk P w K mg base CX0 3 T.f_ShortReader_take T.d_ShortReader_take ["self", "code"] (sp_ShortReader_take K T.C_ShortReader) := by
  refine T.F_ShortReader_take.ok sc_ShortReader_take (fun vs H Q E h => ?_) (fun cdv A outer s H vs Q E hr h => ?_)
  · obtain ⟨x, q, s, c, rfl, _⟩ := h
    rfl
  · obtain ⟨x, q, s, c, rfl, hR, hz, k⟩ := h
    refine ⟨_, (pss_one (ps_if (pt_cmpR op_lt (pv 1) pe_int (nomark _)) (pss_cons (ps_fld (pv 0) pe_bl rfl)
        (pss_one (ps_fld (pv 0) pe_bl rfl))) (pss_one (ps_if (pt_val (pe_fld (pv 0) rfl)) (pss_cons (ps_fld (pv 0) pe_bl rfl)
        (pss_one (ps_expr (pe_meth (pv 0) T.cl_ShortReader T.m_ShortReader_emit (ok_ShortReader_emit (P := P) T) (hr.mono (by decide)) T.b_ShortReader_emit .nil pass0 (pa_cons (pe_glob (v := .int 35) (by rfl) T.c_PUSH ⟨_, rfl⟩) (pa_cons (pv 1) (pa_cons (pe_op op_add (pe_fld (pv 0) rfl) pe_int) pa_nil))))))) (pss_one (ps_if (pt_val (pe_call (ok_is_digit (P := P) T) (hr.mono (by decide)) (by rfl) T.g_is_digit T.F_is_digit.kp T.b_is_digit .nil pass0 (pa_cons (pv 1) pa_nil))) (pss_one (ps_fld (pv 0) (pe_call (ok_with_digit (P := P) T) (hr.mono (by decide)) (by rfl) T.g_with_digit T.F_with_digit.kp T.b_with_digit .nil pass0 (pa_cons (pe_fld (pv 0) rfl) (pa_cons (pv 1) pa_nil))) rfl)) (pss_one (ps_if (pt_cmpR op_gt (pv 1) (pe_glob (v := .int 32) (by rfl) T.c_SPACE ⟨_, rfl⟩) (nomark _)) (pss_one (ps_expr (pe_meth (pv 0) T.cl_ShortReader T.m_ShortReader_take_sign (ok_ShortReader_take_sign (P := P) T) (hr.mono (by decide)) T.b_ShortReader_take_sign .nil pass0 (pa_cons (pv 1) pa_nil)))) pss_nil)))))))), ?_⟩
    have hn := hR.ne
    refine s_if (b := decide (c < 0)) (by walk_at "et") (fun hb H1 e1 => ?_) (fun hb H1 e1 => ?_)
    · have hs : stepS s c = ⟨s.m, s.r, false, true, s.cs⟩ := by unfold stepS; rw [if_pos (of_decide_eq_true hb)]
      rw [hs] at k
      obtain ⟨⟨dx, hx⟩, hq⟩ := hR.ex e1
      refine q_fld ev_c (ev_var rfl) hx T.cl_ShortReader T.na_ShortReader_finished ff_len (fun H2 e2 => ?_)
      rw [put_f]
      refine s_fld ev_c (ev_var rfl) upd_same T.cl_ShortReader T.na_ShortReader_waiting ff_len (fun H3 e3 => ?_)
      rw [put_w]
      exact k _ _ ⟨rfl, ra_x (s := ⟨s.m, s.r, false, true, s.cs⟩) (e3 _ _ (by rw [upd_ne hn]; exact e2 _ _ hq)) hn, ((ex_b2 (e1.trans e2)).trans but2_x).trans ((ex_b2 e3).trans but2_x)⟩
    have n0 : ¬ c < 0 := of_decide_eq_false hb
    obtain ⟨⟨dx, hx⟩, hq⟩ := hR.ex e1
    refine s_if (b := s.w) (et_B (ev_fld (ev_var rfl) hx T.cl_ShortReader T.na_ShortReader_waiting lk_w)) (fun hw H2 e2 => ?_) (fun hw H2 e2 => ?_)
    · have hs : stepS s c = emitS ⟨s.m, s.r, false, s.f, s.cs⟩ 35 c (s.m + 1) := by unfold stepS; rw [if_neg n0, if_pos hw]
      rw [hs] at k
      refine q_fld ev_c (ev_var rfl) (e2 _ _ hx) T.cl_ShortReader T.na_ShortReader_waiting ff_len (fun H3 e3 => ?_)
      rw [put_w]
      have hR3 : RA T.C_ShortReader (upd H3 x (.ins T.C_ShortReader dx (FF ⟨s.m, s.r, false, s.f, s.cs⟩ q))) x q ⟨s.m, s.r, false, s.f, s.cs⟩ := ra_x (e3 _ _ (e2 _ _ hq)) hn
      obtain ⟨⟨dy, hy⟩, hq3⟩ := id hR3
      exact s_dropP (ep_emit (ev_var rfl) hR3 hz (ea_cons ev_c (ea_cons (ev_var rfl) (ea_cons (ev_op (ev_fld (ev_var rfl) hy T.cl_ShortReader T.na_ShortReader_m lk_m) ev_c rv_I0) ea_nil)))) fun v H4 h => by
        rw [← h.1]
        exact k v H4 (goes_bk h ((ex_b2 (e1.trans (e2.trans e3))).trans but2_x))
    have hw' : ¬ s.w = true := by rw [hw]; exact Bool.false_ne_true
    refine s_if (b := isDg c) (et_B (ev_call (ea_cons (ev_var rfl) ea_nil) v_is_digit)) (fun hd H3 e3 => ?_) (fun hd H3 e3 => ?_)
    · have hs : stepS s c = ⟨s.m, 10 * s.r + c - 48, s.w, s.f, s.cs⟩ := by unfold stepS; rw [if_neg n0, if_neg hw', if_pos hd]
      rw [hs] at k
      have hx3 := e3 _ _ (e2 _ _ hx)
      refine s_fld (ev_call (ea_cons (ev_fld (ev_var rfl) hx3 T.cl_ShortReader T.na_ShortReader_r lk_r) (ea_cons (ev_var rfl) ea_nil)) v_with_digit) (ev_var rfl) hx3 T.cl_ShortReader T.na_ShortReader_r ff_len (fun H4 e4 => ?_)
      rw [put_r]
      exact k _ _ ⟨rfl, ra_x (s := ⟨s.m, 10 * s.r + c - 48, s.w, s.f, s.cs⟩) (e4 _ _ (e3 _ _ (e2 _ _ hq))) hn, (ex_b2 (e1.trans (e2.trans (e3.trans e4)))).trans but2_x⟩
    have hd' : ¬ isDg c = true := by rw [hd]; exact Bool.false_ne_true
    refine s_when (b := decide (32 < c)) (by walk_at "et") (fun hb H4 e4 => ?_) (fun hb H4 e4 => ?_)
    · have hs : stepS s c = signS s c := by unfold stepS; rw [if_neg n0, if_neg hw', if_neg hd', if_pos (of_decide_eq_true hb)]
      rw [hs] at k
      exact s_dropP (ep_sign (ev_var rfl) (hR.ex (e1.trans (e2.trans (e3.trans e4)))) hz (ea_cons (ev_var rfl) ea_nil)) fun v H5 h => by
        rw [← h.1]
        exact k v H5 (goes_bk h (ex_b2 (e1.trans (e2.trans (e3.trans e4)))))
    · have hs : stepS s c = s := by unfold stepS; rw [if_neg n0, if_neg hw', if_neg hd', if_neg (of_decide_eq_false hb)]
      rw [hs] at k
      exact k _ _ ⟨rfl, hR.ex (e1.trans (e2.trans (e3.trans e4))), ex_b2 (e1.trans (e2.trans (e3.trans e4)))⟩
theorem ep_take {C x q : Addr} {s : SS} {c : Int} {σ : L2.St} {H : Hp} {to : TE} {t : TA} (ho : Ev to σ H (.ref x)) (hR : RA C H x q s) (hz : s.cs.length ≤ 50000) (ht : EvA t σ H [.int c]) : EvP (tMeth C "_take" (sp_ShortReader_take K C) [] E0 to t) σ H (Goes C x q H (stepS s c)) := by
  obtain ⟨⟨dx, hx⟩, hq⟩ := id hR
  exact ep_meth ho hx (by rfl) ht fun H1 e1 Q k => ⟨x, q, s, c, rfl, hR.ex e1, hz, fun v H' h => k v H' (goes_bk h (ex_b2 e1))⟩
def sp_ShortReader_feed (K : PySem.W.Frag) (C : Addr) : Sp := fun vs H Q _ => ∃ (x q a : Addr) (s : SS) (ns : List Int), vs = [.ref x, .ref a] ∧ RA C H x q s ∧ a ≠ x ∧ a ≠ q ∧ H a = some (.lst (ns.map V.int)) ∧ s.cs.length + 4 * ns.length ≤ 50000 ∧ ∀ v H', Goes C x q H (ns.foldl feedS s) v H' → Q v H'
theorem ok_ShortReader_feed (T : Txt K mg) : FnOk P w K mg base CX0 4 T.f_ShortReader_feed T.d_ShortReader_feed ["self", "codes"] (sp_ShortReader_feed K T.C_ShortReader) := by
  refine T.F_ShortReader_feed.ok sc_ShortReader_feed (fun vs H Q E h => ?_) (fun cdv A outer s H vs Q E hr h => ?_)
  · obtain ⟨x, q, a, s, ns, rfl, _⟩ := h
    rfl
  · obtain ⟨x, q, a, s, ns, rfl, hR, nax, naq, hA, hz, k⟩ := h
    refine ⟨_, (pss_one (ps_for PassesOwn.never rfl (pi_list (pv 1)) (pg_name (i := 2) sc_ShortReader_feed.nd rfl (Or.inl rfl)) (pss_one (ps_if (pt_not (pt_val (pe_fld (pv 0) rfl))) (pss_one (ps_expr (pe_meth (pv 0) T.cl_ShortReader T.m_ShortReader_take (ok_ShortReader_take (P := P) T) (hr.mono (by decide)) T.b_ShortReader_take .nil pass0 (pa_cons (pv 2) pa_nil)))) pss_nil)))), ?_⟩
    refine s_forLn (ev_var rfl) (sq_of hA) (fun i σ' H' => RA T.C_ShortReader H' x q ((ns.take i).foldl feedS s) ∧ But2 x q H H' ∧ ∃ y, σ' = [some (.ref x), some (.ref a), y]) ?_ ?_ ?_ ?_
    · intro H1 e1
      exact ⟨hR.ex e1, ex_b2 e1, none, rfl⟩
    · rintro i σ' H' _ ⟨_, b, _⟩
      exact sq_of (b _ _ nax naq hA)
    · rintro i c' σ' H' hx ⟨hR1, b1, y, rfl⟩
      obtain ⟨c, hc, rfl⟩ := map_at hx
      have hlen := run_len (ns.take i) s
      rw [List.length_take] at hlen
      have hi := (List.getElem?_eq_some_iff.mp hc).1
      rw [foldl_snoc hc]
      generalize (ns.take i).foldl feedS s = s1 at hR1 hlen
      obtain ⟨⟨dx, hx1⟩, hq1⟩ := id hR1
      refine s_when (b := !s1.f) (et_not (et_B (ev_fld (ev_var rfl) hx1 T.cl_ShortReader T.na_ShortReader_finished lk_f))) (fun hb H2 e2 => ?_) (fun hb H2 e2 => ?_)
      · have hs : feedS s1 c = stepS s1 c := by unfold feedS; rw [if_neg (by simpa using hb)]
        rw [hs]
        exact s_dropP (ep_take (ev_var rfl) (hR1.ex e2) (by omega) (ea_cons (ev_var rfl) ea_nil)) fun v H3 h => ⟨h.2.1, b1.trans ((ex_b2 e2).trans h.2.2), _, rfl⟩
      · have hs : feedS s1 c = s1 := by unfold feedS; rw [if_pos (by simpa using hb)]
        rw [hs]
        exact ⟨hR1.ex e2, b1.trans (ex_b2 e2), _, rfl⟩
    · rintro σ' H' ⟨hR1, b1, y, rfl⟩
      rw [List.length_map, List.take_length] at hR1
      exact k _ _ ⟨rfl, hR1, b1⟩
theorem ep_feed {C x q a : Addr} {s : SS} {ns : List Int} {σ : L2.St} {H : Hp} {to : TE} {t : TA} (ho : Ev to σ H (.ref x)) (hR : RA C H x q s) (nx : a ≠ x) (nq : a ≠ q) (hA : H a = some (.lst (ns.map V.int))) (hz : s.cs.length + 4 * ns.length ≤ 50000) (ht : EvA t σ H [.ref a]) : EvP (tMeth C "feed" (sp_ShortReader_feed K C) [] E0 to t) σ H (Goes C x q H (ns.foldl feedS s)) := by
  obtain ⟨⟨dx, hx⟩, hq⟩ := id hR
  exact ep_meth ho hx (by rfl) ht fun H1 e1 Q k => ⟨x, q, a, s, ns, rfl, hR.ex e1, nx, nq, e1 _ _ hA, hz, fun v H' h => k v H' (goes_bk h (ex_b2 e1))⟩
def sp_ShortReader_image (K : PySem.W.Frag) (C : Addr) : Sp := fun vs H Q _ => ∃ (x q : Addr) (s : SS), vs = [.ref x] ∧ RA C H x q s ∧ RetL (s.cs.map V.int) H Q
theorem ok_ShortReader_image (T : Txt K mg) : FnOk P w K mg base CX0 1 T.f_ShortReader_image T.d_ShortReader_image ["self"] (sp_ShortReader_image K T.C_ShortReader) := by
  refine T.F_ShortReader_image.ok sc_ShortReader_image (fun vs H Q E h => ?_) (fun cdv A outer s H vs Q E hr h => ?_)
  · obtain ⟨x, q, s, rfl, _⟩ := h
    rfl
  · obtain ⟨x, q, s, rfl, hR, k⟩ := h
    refine ⟨_, (pss_one (ps_ret (pe_callTy call_list_of (by rfl) T.n_list (by decide +kernel) (pa_cons (pe_fld (pv 0) rfl) pa_nil)))), ?_⟩
    obtain ⟨⟨dx, hx⟩, hq⟩ := id hR
    exact s_retL (el_list (ev_fld (ev_var rfl) hx T.cl_ShortReader T.na_ShortReader_cells lk_c) (sq_of hq)) k
theorem el_image {C x q : Addr} {s : SS} {σ : L2.St} {H : Hp} {to : TE} (ho : Ev to σ H (.ref x)) (hR : RA C H x q s) : EvL (tMeth C "image" (sp_ShortReader_image K C) [] E0 to tNil) σ H (s.cs.map V.int) := fun H1 e Q k => by
  obtain ⟨⟨dx, hx⟩, hq⟩ := id hR
  exact ho H1 e _ fun H2 e2 => ⟨x, dx, _, rfl, e2 _ _ (e _ _ hx), by rfl, x, q, s, rfl, hR.ex (e.trans e2), fun p H3 hp e3 h3 => k p H3 (fresh_back e2 hp) (e2.trans e3) h3⟩
def sp_translate_short (K : PySem.W.Frag) : Sp := fun vs H Q _ => ∃ (a : Addr) (ns : List Int), vs = [.ref a] ∧ H a = some (.lst (ns.map V.int)) ∧ ns.length ≤ 12000 ∧ RetL ((runS ns).cs.map V.int) H Q
theorem l_translate_short {a : Addr} {ns : List Int} {H : Hp} (h : H a = some (.lst (ns.map V.int))) (hl : ns.length ≤ 12000) : SpL (sp_translate_short K) [.ref a] H ((runS ns).cs.map V.int) := fun _ e _ q _ => ⟨a, ns, rfl, e _ _ h, hl, q⟩
theorem ok_translate_short (T : Txt K mg) : FnOk P w K mg base CX0 5 T.f_translate_short T.d_translate_short ["codes"] (sp_translate_short K) := by
  refine T.F_translate_short.ok sc_translate_short (fun vs H Q E h => ?_) (fun cdv A outer s H vs Q E hr h => ?_)
  · obtain ⟨a, ns, rfl, _⟩ := h
    rfl
  · obtain ⟨a, ns, rfl, hA, hl, k⟩ := h
    refine ⟨_, (pss_cons (ps_set (i := 1) sc_translate_short.nd rfl (Or.inl rfl) (pe_make0 T.m_ShortReader_init (ok_ShortReader_init (P := P) T) (hr.mono (by decide)) (by rfl) T.gc_ShortReader T.b_ShortReader_init .nil pass0))
        (pss_cons (ps_expr (pe_meth (pv 1) T.cl_ShortReader T.m_ShortReader_feed (ok_ShortReader_feed (P := P) T) (hr.mono (by decide)) T.b_ShortReader_feed .nil pass0 (pa_cons (pv 0) pa_nil)))
        (pss_one (ps_ret (pe_meth0 (pv 1) T.cl_ShortReader T.m_ShortReader_image (ok_ShortReader_image (P := P) T) (hr.mono (by decide)) T.b_ShortReader_image .nil pass0))))), ?_⟩
    -- reader = ShortReader()
    refine q_asgP (P := fun v H' => ∃ x q, v = .ref x ∧ H x = none ∧ H q = none ∧ RA T.C_ShortReader H' x q s0 ∧ Ex H H') (fun Q k1 => fun x dx nx ndx nex => ⟨x, dx, rfl, upd_same, fun q H1 hq hR kp => ⟨rfl, k1 _ H1 ⟨x, q, rfl, nx, ?_, hR, ?_⟩⟩⟩) (fun v H1 hv => ?_)
    · have n1 : q ≠ x := fun e => by rw [e, upd_same] at hq; cases hq
      have n2 : q ≠ dx := fun e => by rw [e, upd_ne nex, upd_same] at hq; cases hq
      rw [upd_ne n1, upd_ne n2] at hq
      exact hq
    · intro b o e
      exact kp b o (ne_of_none e nx) (by rw [upd_ne (ne_of_none e nx), upd_ne (ne_of_none e ndx)]; exact e)
    obtain ⟨x, q, rfl, nx, nq, hR, e1⟩ := hv
    refine q_dropP (ep_feed (ev_var rfl) hR (ne_of_none hA nx) (ne_of_none hA nq) (e1 _ _ hA) (by show 0 + 4 * ns.length ≤ 50000; omega) (ea_cons (ev_var rfl) ea_nil)) (fun v H2 h2 => ?_)
    refine s_retL (el_image (ev_var rfl) h2.2.1) (fun p H3 hp e3 h3 => ?_)
    have b2 : Ex H H2 := fun b o e => h2.2.2 b o (ne_of_none e nx) (ne_of_none e nq) (e1 _ _ e)
    exact k p H3 (fresh_back b2 hp) (b2.trans e3) h3


end
end K19

set_option Elab.async false
set_option linter.all false
set_option maxRecDepth 100000
set_option maxHeartbeats 4000000
set_option exponentiation.threshold 600
namespace K19
open PySem PySem.Spec PyProof.Rows L2 Evl Gd
open PySem.NumText (AllDigits digitsVal)
/-! ### how expressions are evaluated, without a word of ours -/
local macro_rules | `(tactic| walk_at "ev") => `(tactic| exact ev_c)
local macro_rules | `(tactic| walk_at "ev") => `(tactic| exact ev_var rfl)
local macro_rules | `(tactic| walk_at "ev") => `(tactic| (refine' ev_op ?k1 ?k2 ?k3; (case k1 => walk_at "ev"); (case k2 => walk_at "ev"); (case k3 => walk_at "rv")))
local macro_rules | `(tactic| walk_at "ev") => `(tactic| (refine' ev_cb ?k1 ?k2; (case k1 => walk_at "ea"); (case k2 => walk_at "rc")))
local macro_rules | `(tactic| walk_at "ev") => `(tactic| (refine' ev_call ?k1 ?k2; (case k1 => walk_at "ea"); (case k2 => walk_at "sp")))
local macro_rules | `(tactic| walk_at "ev") => `(tactic| (refine' ev_chain ?k1 ?k2 ?k3 (fun _ => ?k4) (fun _ => ?k5); (case k1 => walk_at "ev"); (case k2 => walk_at "ev"); (case k3 => walk_at "rv"); (case k4 => walk_at "ev"); (case k5 => walk_at "rv")))
local macro_rules | `(tactic| walk_at "ev") => `(tactic| (refine' ev_orV ?k1 (fun _ => ?k2); (case k1 => walk_at "ev"); (case k2 => walk_at "ev")))
local macro_rules | `(tactic| walk_at "ev") => `(tactic| (refine' ev_andV ?k1 (fun _ => ?k2); (case k1 => walk_at "ev"); (case k2 => walk_at "ev")))
local macro_rules | `(tactic| walk_at "ev") => `(tactic| (refine' ev_notV ?k1; (case k1 => walk_at "ev")))
local macro_rules | `(tactic| walk_at "ea") => `(tactic| exact ea_nil)
local macro_rules | `(tactic| walk_at "ea") => `(tactic| (refine' ea_cons ?k1 ?k2; (case k1 => walk_at "ev"); (case k2 => walk_at "ea")))
local macro_rules | `(tactic| walk_at "rv") => `(tactic| exact rv_I0)
local macro_rules | `(tactic| walk_at "rv") => `(tactic| exact rv_eqI)
local macro_rules | `(tactic| walk_at "rv") => `(tactic| exact rv_neI)
local macro_rules | `(tactic| walk_at "rv") => `(tactic| exact rv_eqS)
local macro_rules | `(tactic| walk_at "rv") => `(tactic| exact rv_neS)
local macro_rules | `(tactic| walk_at "rv") => `(tactic| exact rv_mod (by decide))
local macro_rules | `(tactic| walk_at "rv") => `(tactic| exact rv_fdiv (by decide) (by decide))
local macro_rules | `(tactic| walk_at "rv") => `(tactic| exact rv_mulR (by decide))
local macro_rules | `(tactic| walk_at "rv") => `(tactic| exact rv_pow (by decide))
local macro_rules | `(tactic| walk_at "rc") => `(tactic| exact rc_int)
local macro_rules | `(tactic| walk_at "rc") => `(tactic| exact rc_ord)
local macro_rules | `(tactic| walk_at "et") => `(tactic| (refine' et_test ?k1; (case k1 => walk_at "ev")))
local macro_rules | `(tactic| walk_at "et") => `(tactic| (refine' et_B ?k1; (case k1 => walk_at "ev")))
local macro_rules | `(tactic| walk_at "et") => `(tactic| (refine' et_not ?k1; (case k1 => walk_at "et")))
local macro_rules | `(tactic| walk_at "et") => `(tactic| (refine' et_or ?k1 (fun _ => ?k2); (case k1 => walk_at "et"); (case k2 => walk_at "et")))
local macro_rules | `(tactic| walk_at "et") => `(tactic| (refine' et_and ?k1 (fun _ => ?k2); (case k1 => walk_at "et"); (case k2 => walk_at "et")))
section
variable {P : Program} {w : World} {K : PySem.W.Frag} {mg : Str → Option Value} {base : Heap}
variable [ProgOk P]
/-! ### listings -/
def badI (i : Int) : Bool := decide (i < 0) || !decide (i.natAbs < 10 ^ 60)
theorem good_i {i : Int} (h : badI i = false) : 0 ≤ i ∧ i.natAbs < 10 ^ 60 := by
  unfold badI at h
  simp only [Bool.or_eq_false_iff, Bool.not_eq_false', decide_eq_false_iff_not, decide_eq_true_eq] at h
  exact ⟨by omega, h.2⟩
theorem dec60 {i : Int} (h : i.natAbs < 10 ^ 60) : (decL i.natAbs).length ≤ 60 := dec_len_le 59 h
def signOk (op : Int) : Bool := (decide (33 ≤ op) && decide (op ≤ 126)) && (!decide (op ∈ ([37, 39, 58, 62] : List Int)) && !isDg op)
abbrev Row := Int × Nd
def fitsR (r : Row) : Bool := ((!badI r.1 && !badI r.2.2.1) && !badI r.2.2.2) && (if r.2.1 = 32 then decide (r.2.2.1 = 0) else signOk r.2.1 && decide (r.2.2.2 = r.1 + 1))
theorem fits_num {r : Row} (h : fitsR r = true) : badI r.1 = false ∧ badI r.2.2.1 = false ∧ badI r.2.2.2 = false := by
  unfold fitsR at h
  simp only [Bool.and_eq_true, Bool.not_eq_true'] at h
  exact ⟨h.1.1.1, h.1.1.2, h.1.2⟩
theorem fits_sign {r : Row} (h : fitsR r = true) (h32 : r.2.1 ≠ 32) : signOk r.2.1 = true := by
  unfold fitsR at h
  rw [if_neg h32] at h
  simp only [Bool.and_eq_true] at h
  exact h.2.1
theorem sign_ch {op : Int} (h : signOk op = true) : isCh op = true ∧ 33 ≤ op ∧ op ≤ 126 ∧ op ≠ 37 := by
  unfold signOk at h
  simp only [Bool.and_eq_true, decide_eq_true_eq, Bool.not_eq_true', decide_eq_false_iff_not, List.mem_cons, List.not_mem_nil, or_false, not_or] at h
  obtain ⟨⟨h1, h2⟩, ⟨h3, _⟩, _⟩ := h
  refine ⟨?_, h1, h2, h3⟩
  unfold isCh
  by_cases g : op ≤ 36
  · rw [decide_eq_true (show (32 : Int) ≤ op by omega), decide_eq_true g]; simp
  · rw [decide_eq_true (show (38 : Int) ≤ op by omega), decide_eq_true h2]; simp
def lineN (r : Row) (e : Int) : List Nat := (if r.1 = e then [] else decL r.1.natAbs ++ [58]) ++ (if r.2.1 = 32 then decL r.2.2.2.natAbs ++ [62, 10] else (if r.2.2.1 = 0 then [] else decL r.2.2.1.natAbs) ++ [r.2.1.toNat, 10])
def strN (l : List Nat) : Str := ⟨l.toArray⟩
theorem strN_ext {z : Str} {l : List Nat} (h : z.cps.toList = l) : z = strN l := str_ext (by rw [h]; unfold strN; simp)
theorem strN_len (l : List Nat) : (strN l).length = l.length := by show l.toArray.size = _; simp
theorem strN_list (l : List Nat) : (strN l).cps.toList = l := by unfold strN; simp
def rowZ : Row := (0, 0, 0, 0)
def expAt (rows : List Row) (i : Nat) : Int := if i = 0 then 0 else (rows.getD (i - 1) rowZ).1 + 1
def lineI (rows : List Row) (i : Nat) : List Nat := lineN (rows.getD i rowZ) (expAt rows i)
def linesI (rows : List Row) (i : Nat) : List (List Nat) := (List.range i).map (lineI rows)
theorem linesI_succ (rows : List Row) (i : Nat) : linesI rows (i + 1) = linesI rows i ++ [lineI rows i] := by
  unfold linesI
  rw [List.range_succ, List.map_append]
  rfl
def listN (rows : List Row) : List Nat := (linesI rows rows.length).flatten
def misfit (im : List Int) : Option Nat := match (rowsOf im).findIdx? (fun r => !fitsR r) with
  | some i => some i
  | none => if im.length = 4 * (rowsOf im).length then none else some (rowsOf im).length
theorem lineN_len {r : Row} {e : Int} (h : fitsR r = true) : (lineN r e).length ≤ 130 := by
  obtain ⟨h1, h2, h3⟩ := fits_num h
  have g1 := dec60 (good_i h1).2
  have g2 := dec60 (good_i h2).2
  have g3 := dec60 (good_i h3).2
  unfold lineN
  rw [List.length_append]
  split <;> split
  · simp <;> omega
  · split <;> (simp <;> omega)
  · simp <;> omega
  · split <;> (simp <;> omega)
theorem lines_len {rows : List Row} : ∀ (i : Nat), i ≤ rows.length → (∀ r ∈ rows, fitsR r = true) → (linesI rows i).flatten.length ≤ 130 * i
  | 0, _, _ => Nat.le_refl _
  | i + 1, hi, h => by
    rw [linesI_succ, List.flatten_append, List.length_append]
    have h1 := lines_len i (by omega) h
    have hr : fitsR (rows.getD i rowZ) = true := by
      rw [List.getD_eq_getElem?_getD, List.getElem?_eq_getElem (by omega)]
      exact h _ (List.getElem_mem _)
    have h2 := lineN_len (e := expAt rows i) hr
    have h3 : [lineI rows i].flatten.length = (lineI rows i).length := by simp
    rw [h3]
    unfold lineI
    omega
theorem lines_len2 {rows : List Row} {i : Nat} (hi : i ≤ rows.length) (h : ∀ r ∈ rows.take i, fitsR r = true) : (linesI rows i).flatten.length ≤ 130 * i := by
  have key : ∀ j, j ≤ i → (linesI rows j).flatten.length ≤ 130 * j := by
    intro j
    induction j with
    | zero => intro _; exact Nat.le_refl _
    | succ j ih =>
      intro hj
      rw [linesI_succ, List.flatten_append, List.length_append]
      have h1 := ih (by omega)
      have hr : fitsR (rows.getD j rowZ) = true := by
        rw [List.getD_eq_getElem?_getD, List.getElem?_eq_getElem (by omega)]
        exact h _ (List.mem_take_iff_getElem.mpr ⟨j, by omega, rfl⟩)
      have h2 := lineN_len (e := expAt rows j) hr
      have h3 : [lineI rows j].flatten.length = (lineI rows j).length := by simp
      rw [h3]
      unfold lineI
      omega
  exact key i (Nat.le_refl i)
def sp_is_listed_number (K : PySem.W.Frag) : Sp := fun vs H Q _ => ∃ i : Int, vs = [.int i] ∧ RetV (.bl (!badI i)) H Q
theorem v_is_listed_number {i : Int} {H : Hp} : SpV (sp_is_listed_number K) [.int i] H (.bl (!badI i)) := fun _ _ _ q _ => ⟨i, rfl, q⟩
theorem ok_is_listed_number (T : Txt K mg) : FnOk P w K mg base CX0 2 T.f_is_listed_number T.d_is_listed_number ["number"] (sp_is_listed_number K) := by
  refine T.F_is_listed_number.ok sc_is_listed_number (fun vs H Q E h => ?_) (fun cdv A outer s H vs Q E hr h => ?_)
  · obtain ⟨i, rfl, _⟩ := h
    rfl
  · obtain ⟨i, rfl, k⟩ := h
    refine ⟨_, (pss_one (ps_ret (pe_and (pe_cmpR op_ge (pv 0) pe_int (nomark _)) (pe_one (pe_call (ok_has_numeral (P := P) T) (hr.mono (by decide)) (by rfl) T.g_has_numeral T.F_has_numeral.kp T.b_has_numeral .nil pass0 (pa_cons (pv 0) pa_nil)))))), ?_⟩
    have e : (!badI i) = (decide (i ≥ 0) && decide (i.natAbs < 10 ^ 60)) := by
      unfold badI
      generalize 10 ^ 60 = b
      by_cases h : i < 0
      · rw [decide_eq_true h, decide_eq_false (show ¬ i ≥ 0 by omega)]; rfl
      · rw [decide_eq_false h, decide_eq_true (show i ≥ 0 by omega)]; simp
    rw [e] at k
    exact s_ret (ev_andV (ev_op (ev_var rfl) ev_c rv_I0) (fun _ => ev_call (ea_cons (ev_var rfl) ea_nil) v_has_numeral)) k
def sp_is_listed_sign (K : PySem.W.Frag) : Sp := fun vs H Q _ => ∃ i : Int, vs = [.int i] ∧ RetV (.bl (signOk i)) H Q
theorem v_is_listed_sign {i : Int} {H : Hp} : SpV (sp_is_listed_sign K) [.int i] H (.bl (signOk i)) := fun _ _ _ q _ => ⟨i, rfl, q⟩
theorem ok_is_listed_sign (T : Txt K mg) : FnOk P w K mg base CX0 2 T.f_is_listed_sign T.d_is_listed_sign ["operation"] (sp_is_listed_sign K) := by
  refine T.F_is_listed_sign.ok sc_is_listed_sign (fun vs H Q E h => ?_) (fun cdv A outer s H vs Q E hr h => ?_)
  · obtain ⟨i, rfl, _⟩ := h
    rfl
  · obtain ⟨i, rfl, k⟩ := h
    refine ⟨_, (pss_one (ps_ret (pe_and (pe_chain op_le op_le pe_int (pv 0) pe_int) (pe_and (pe_cmpR op_notIn_seq (pv 0) (pe_glob (v := .ref T.D_NOT_IN_LISTINGS) (by rfl) T.g_NOT_IN_LISTINGS rfl) (by rfl)) (pe_one (pe_not (pe_call (ok_is_digit (P := P) T) (hr.mono (by decide)) (by rfl) T.g_is_digit T.F_is_digit.kp T.b_is_digit .nil pass0 (pa_cons (pv 0) pa_nil)))))))), ?_⟩
    unfold signOk at k
    rw [← inV_ints] at k
    exact s_ret (ev_andV (ev_chain ev_c (ev_var rfl) rv_I0 (fun _ => ev_c) (fun _ => rv_I0)) (fun _ => ev_andV (ev_op (ev_var rfl) ev_c (rv_niT (TupK.sq T.tup_NOT_IN_LISTINGS _) rfl rfl)) (fun _ => ev_notV (ev_call (ea_cons (ev_var rfl) ea_nil) v_is_digit)))) k
/-- [f(x) for x in (..)] -/
theorem el_mapNU {σ : L2.St} {H : Hp} {tl te : TE} {vs : List Nat} {j : Nat} {xs : List V} (f : V → V) (h : EvU tl σ H xs) (hz : xs.length ≤ 90000) (hw : ∀ x, wipe ((wipe σ vs).set j (some x)) vs = wipe σ vs)
    (he : ∀ x ∈ xs, ∀ H1, Ex H H1 → Ev te ((wipe σ vs).set j (some x)) H1 (f x)) : EvL (tLc (iTup K tl) (gName j) tYes te vs) σ H (xs.map f) := fun H0 e Q q =>
  h H0 e _ fun a H1 _ e1 h1 => ⟨a, rfl, ⟨xs, st_of h1⟩, fun D hD => lc_map walk_tup (fun _ _ _ _ _ y => y) hz hw f (fun H' e' => ex_t e' (st_of h1)) (fun x m H' e' => he x m H' ((e.trans e1).trans e')) hD
    (fun H' e' hd => q D H' (fresh_back e1 hD) (e1.trans e') hd)⟩
def sp_fits (K : PySem.W.Frag) : Sp := fun vs H Q _ => ∃ (t : Addr) (r : Row), vs = [.ref t] ∧ SqT K H t ((rowL r).map V.int) ∧ RetV (.bl (fitsR r)) H Q
theorem v_fits {t : Addr} {r : Row} {H : Hp} (h : SqT K H t ((rowL r).map V.int)) : SpV (sp_fits K) [.ref t] H (.bl (fitsR r)) := fun _ e _ q _ => ⟨t, r, rfl, ex_t e h, q⟩
theorem ok_fits (T : Txt K mg) : FnOk P w K mg base CX0 3 T.f_fits T.d_fits ["node"] (sp_fits K) := by
  refine T.F_fits.ok sc_fits (fun vs H Q E h => ?_) (fun cdv A outer s H vs Q E hr h => ?_)
  · obtain ⟨t, r, rfl, _⟩ := h
    rfl
  · obtain ⟨t, r, rfl, hS, k⟩ := h
    refine ⟨_, (pss_cons (ps_asg (pv 0) (pg_tup (by rfl) (pgs_cons (pg_name (i := 1) sc_fits.nd rfl (Or.inl rfl)) (pgs_cons (pg_name (i := 2) sc_fits.nd rfl (Or.inl rfl)) (pgs_cons (pg_name (i := 3) sc_fits.nd rfl (Or.inl rfl)) (pgs_cons (pg_name (i := 4) sc_fits.nd rfl (Or.inl rfl)) pgs_nil))))))
        (pss_cons (ps_if (pt_not (pt_val (pe_callB (cr_all rfl) (by rfl) T.n_all (by decide +kernel) (pa_cons (pe_lc (own := [("part", 5)]) (by rfl) sc_fits.nd (pi_tup (pe_tup (pa_cons (pv 1) (pa_cons (pv 3) (pa_cons (pv 4) pa_nil))))) (blkOk_by (own := [("part", 5)]) (N := N_fits) (sc := defScope s_fits) (by decide +kernel)) (fun _ _ _ _ _ => pg_name (i := 5) sc_fits.nd rfl (Or.inl rfl)) (fun _ _ _ _ _ => pts_nil) (fun _ _ _ _ _ => (pe_call (ok_is_listed_number (P := P) T) (hr.mono (by decide)) (by rfl) T.g_is_listed_number T.F_is_listed_number.kp T.b_is_listed_number .nil pass0 (pa_cons (pv 5) pa_nil)))) pa_nil)))) (pss_one (ps_ret pe_bl)) pss_nil)
        (pss_cons (ps_if (pt_cmpR op_eq (pv 2) (pe_glob (v := .int 32) (by rfl) T.c_NOP ⟨_, rfl⟩) (nomark _)) (pss_one (ps_ret (pe_cmpR op_eq (pv 3) pe_int (nomark _)))) pss_nil)
        (pss_one (ps_ret (pe_and (pe_call (ok_is_listed_sign (P := P) T) (hr.mono (by decide)) (by rfl) T.g_is_listed_sign T.F_is_listed_sign.kp T.b_is_listed_sign .nil pass0 (pa_cons (pv 2) pa_nil)) (pe_one (pe_cmpR op_eq (pv 4) (pe_op op_add (pv 1) pe_int) (nomark _))))))))), ?_⟩
    refine go_ev (ev_var rfl) fun H1 e1 => ⟨t, _, rfl, ex_t e1 hS, rfl, _, _, rfl, _, _, rfl, _, _, rfl, _, _, rfl, rfl, ?_⟩
    show tSeq _ _ _ [some (.ref t), some (.int r.1), some (.int r.2.1), some (.int r.2.2.1), some (.int r.2.2.2), none] _
    have hall : EvL _ [some (.ref t), some (.int r.1), some (.int r.2.1), some (.int r.2.2.1), some (.int r.2.2.2), none] H1 _ := el_mapNU (K := K) (σ := [some (.ref t), some (.int r.1), some (.int r.2.1), some (.int r.2.2.1), some (.int r.2.2.2), none]) (H := H1) (te := tCall (sp_is_listed_number K) [] E0 (tCons (tVar 5) tNil)) (tl := tTup (tCons (tVar 1) (tCons (tVar 3) (tCons (tVar 4) tNil)))) (j := 5) (vs := [5]) (xs := [.int r.1, .int r.2.2.1, .int r.2.2.2]) (fun v => match v with | .int c => .bl (!badI c) | _ => .non) (eu_tup (ea_cons (ev_var rfl) (ea_cons (ev_var rfl) (ea_cons (ev_var rfl) ea_nil))) (by show 3 ≤ 100000; decide)) (by show 3 ≤ 90000; decide) (fun _ => rfl) (fun x hx G e => by
      simp only [List.mem_cons, List.not_mem_nil, or_false] at hx
      rcases hx with rfl | rfl | rfl <;> exact ev_call (ea_cons (ev_var rfl) ea_nil) v_is_listed_number)
    refine q_when (b := !([!badI r.1, !badI r.2.2.1, !badI r.2.2.2].all id)) (et_not (et_B (ev_cbL hall (fun p G hp => rc_all (bs := [!badI r.1, !badI r.2.2.1, !badI r.2.2.2]) (sq_of hp))))) (fun hb H2 e2 => ?_) (fun hb H2 e2 => ?_)
    · have hf : fitsR r = false := by
        unfold fitsR
        simp only [List.all_cons, List.all_nil, id, Bool.and_true, Bool.not_eq_true', ← Bool.and_assoc] at hb
        rw [hb]; rfl
      rw [hf] at k
      exact s_ret ev_c fun H3 e3 => k H3 (e1.trans (e2.trans e3))
    have hf : fitsR r = (if r.2.1 = 32 then decide (r.2.2.1 = 0) else signOk r.2.1 && decide (r.2.2.2 = r.1 + 1)) := by
      unfold fitsR
      simp only [List.all_cons, List.all_nil, id, Bool.and_true, Bool.not_eq_false', ← Bool.and_assoc] at hb
      rw [hb, Bool.true_and]
    rw [hf] at k
    refine q_when (b := decide (r.2.1 = 32)) (et_test (ev_op (ev_var rfl) ev_c rv_eqI)) (fun hb H3 e3 => ?_) (fun hb H3 e3 => ?_)
    · rw [if_pos (of_decide_eq_true hb)] at k
      exact s_ret (ev_op (ev_var rfl) ev_c rv_eqI) fun H4 e4 => k H4 (e1.trans (e2.trans (e3.trans e4)))
    · rw [if_neg (of_decide_eq_false hb)] at k
      exact s_ret (ev_andV (ev_call (ea_cons (ev_var rfl) ea_nil) v_is_listed_sign) (fun _ => ev_op (ev_var rfl) (ev_op (ev_var rfl) ev_c rv_I0) rv_eqI)) fun H4 e4 => k H4 (e1.trans (e2.trans (e3.trans e4)))
theorem optN_V (o : Option Nat) : optV (o.map fun (n : Nat) => (n : Int)) = match o with | some n => .int (n : Int) | none => .non := by cases o <;> rfl
def sp_misfit (K : PySem.W.Frag) : Sp := fun vs H Q _ => ∃ (a : Addr) (im : List Int), vs = [.ref a] ∧ SqL K H a (im.map V.int) ∧ im.length ≤ 60000 ∧ RetV (optV ((misfit im).map fun (n : Nat) => (n : Int))) H Q
theorem v_misfit {a : Addr} {im : List Int} {H : Hp} (h : SqL K H a (im.map V.int)) (hl : im.length ≤ 60000) : SpV (sp_misfit K) [.ref a] H (optV ((misfit im).map fun (n : Nat) => (n : Int))) := fun _ e _ q _ => ⟨a, im, rfl, ex_l e h, hl, q⟩
theorem ok_misfit (T : Txt K mg) : FnOk P w K mg base CX0 4 T.f_misfit T.d_misfit ["image"] (sp_misfit K) := by
  refine T.F_misfit.ok sc_misfit (fun vs H Q E h => ?_) (fun cdv A outer s H vs Q E hr h => ?_)
  · obtain ⟨a, im, rfl, _⟩ := h
    rfl
  · obtain ⟨a, im, rfl, hS, hl, k⟩ := h
    refine ⟨_, (pss_cons (ps_set (i := 1) sc_misfit.nd rfl (Or.inl rfl) (pe_call (ok_nodes_of (P := P) T) (hr.mono (by decide)) (by rfl) T.g_nodes_of T.F_nodes_of.kp T.b_nodes_of .nil pass0 (pa_cons (pv 0) pa_nil)))
        (pss_cons (ps_for PassesOwn.never rfl (pi_enum (by rfl) T.n_enumerate (pa_cons (pv 1) pa_nil)) (pg_tup (by rfl) (pgs_cons (pg_name (i := 2) sc_misfit.nd rfl (Or.inl rfl)) (pgs_cons (pg_name (i := 3) sc_misfit.nd rfl (Or.inl rfl)) pgs_nil))) (pss_one (ps_if (pt_not (pt_val (pe_call (ok_fits (P := P) T) (hr.mono (by decide)) (by rfl) T.g_fits T.F_fits.kp T.b_fits .nil pass0 (pa_cons (pv 3) pa_nil)))) (pss_one (ps_ret (pv 2))) pss_nil)))
        (pss_cons (ps_if (pt_cmpR op_ne (pe_callB call_len_seq (by rfl) T.n_len (by decide +kernel) (pa_cons (pv 0) pa_nil)) (pe_op op_mul pe_int (pe_callB call_len_seq (by rfl) T.n_len (by decide +kernel) (pa_cons (pv 1) pa_nil))) (nomark _)) (pss_one (ps_ret (pe_callB call_len_seq (by rfl) T.n_len (by decide +kernel) (pa_cons (pv 1) pa_nil)))) pss_nil)
        (pss_one (ps_ret pe_non))))), ?_⟩
    refine q_asgLD (K := K) (eld_nodes_of (ev_var rfl) hS hl) (fun p xs H1 np e1 hp hds => ?_)
    have hxl : xs.length = (rowsOf im).length := by rw [dpAll_len hds, List.length_map]
    have hrl := rows_len im
    refine q_forE (ev_var rfl) (sq_of hp) (fun i σ' H' => Ex H1 H' ∧ (∀ y ∈ (rowsOf im).take i, fitsR y = true) ∧ ∃ y z, σ' = [some (.ref a), some (.ref p), y, z]) (fun H2 e2 => ⟨e2, (fun y hy => by cases hy), _, _, rfl⟩) (fun i σ' H' _ q => sq_of (q.1 _ _ hp)) ?_ ?_
    · rintro i x σ' H' H'' hx ⟨fr, hall, y, z, rfl⟩ e2
      have hi : i < (rowsOf im).length := by rw [← hxl]; exact (List.getElem?_eq_some_iff.mp hx).1
      have hrow : (rowsOf im)[i]? = some (rowsOf im)[i] := List.getElem?_eq_getElem hi
      obtain ⟨w, hw, hdw⟩ := dpAll_at (hds.ex (fr.trans e2)) (i := i) (d := rowD (rowsOf im)[i]) (by rw [List.getElem?_map, hrow]; rfl)
      rw [hx] at hw
      obtain rfl := Option.some.inj hw
      generalize (rowsOf im)[i] = r at hrow hdw
      obtain ⟨t, rfl, ht⟩ := dp_intsT_inv (ns := rowL r) hdw
      refine s_when (b := !fitsR r) (et_not (et_B (ev_call (ea_cons (ev_var rfl) ea_nil) (v_fits ht)))) (fun hb H3 e3 => ?_) (fun hb H3 e3 => ?_)
      · have hm : misfit im = some i := by
          have hf : (rowsOf im).findIdx? (fun r => !fitsR r) = some i := by
            have hx : (rowsOf im)[i] = r := by rw [List.getElem?_eq_getElem hi] at hrow; exact Option.some.inj hrow
            refine List.findIdx?_eq_some_iff_getElem.mpr ⟨hi, by rw [hx]; exact hb, fun j hj => ?_⟩
            rw [hall _ (List.mem_take_iff_getElem.mpr ⟨j, by omega, rfl⟩)]
            exact Bool.false_ne_true
          unfold misfit
          rw [hf]
        rw [hm] at k
        exact s_ret (v := .int (i : Int)) (ev_var rfl) fun H4 e4 => k H4 (e1.trans (fr.trans (e2.trans (e3.trans e4))))
      · refine ⟨fr.trans (e2.trans e3), ?_, _, _, rfl⟩
        rw [take_snoc hrow]
        intro y hy
        rcases List.mem_append.mp hy with m | m
        · exact hall y m
        · rw [List.mem_singleton.mp m]; simpa using hb
    · rintro σ' H2 ⟨fr, hall, y, z, rfl⟩
      rw [hxl, List.take_length] at hall
      have hf : (rowsOf im).findIdx? (fun r => !fitsR r) = none := List.findIdx?_eq_none_iff.mpr fun r hr => by rw [hall r hr]; rfl
      have l1 := ev_len (K := K) (ta := tVar 0) (σ := [some (.ref a), some (.ref p), y, z]) (H := H2) (ev_var rfl) (ex_l (e1.trans fr) hS)
      have l2 := ev_len (K := K) (ta := tVar 1) (σ := [some (.ref a), some (.ref p), y, z]) (H := H2) (ev_var rfl) (sq_of (fr _ _ hp))
      rw [List.length_map] at l1
      rw [hxl] at l2
      refine q_when (b := !decide ((im.length : Int) = 4 * ((rowsOf im).length : Int))) (et_test (ev_op l1 (ev_op ev_c l2 (rv_mulL (by decide))) rv_neI)) (fun hb H3 e3 => ?_) (fun hb H3 e3 => ?_)
      · have hm : misfit im = some (rowsOf im).length := by
          unfold misfit
          rw [hf]
          dsimp only
          rw [if_neg]
          intro z
          rw [decide_eq_true (by omega)] at hb
          cases hb
        rw [hm] at k
        exact s_ret (l2.mono e3) fun H4 e4 => k H4 (e1.trans (fr.trans (e3.trans e4)))
      · have hm : misfit im = none := by
          unfold misfit
          rw [hf]
          dsimp only
          rw [if_pos]
          have : ((im.length : Int) = 4 * ((rowsOf im).length : Int)) := by simpa using hb
          omega
        rw [hm] at k
        exact s_ret ev_c fun H4 e4 => k H4 (e1.trans (fr.trans (e3.trans e4)))
theorem mis_fit {im : List Int} (h : misfit im = none) : (∀ r ∈ rowsOf im, fitsR r = true) ∧ im.length = 4 * (rowsOf im).length := by
  unfold misfit at h
  cases q : (rowsOf im).findIdx? (fun r => !fitsR r) with
  | some i => rw [q] at h; cases h
  | none =>
    rw [q] at h
    dsimp only at h
    refine ⟨fun r hr => ?_, ?_⟩
    · have := List.findIdx?_eq_none_iff.mp q r hr
      simpa using this
    · by_cases z : im.length = 4 * (rowsOf im).length
      · exact z
      · rw [if_neg z] at h; cases h
def sp_can_list (K : PySem.W.Frag) : Sp := fun vs H Q _ => ∃ (a : Addr) (im : List Int), vs = [.ref a] ∧ SqL K H a (im.map V.int) ∧ im.length ≤ 60000 ∧ RetV (.bl (misfit im).isNone) H Q
theorem v_can_list {a : Addr} {im : List Int} {H : Hp} (h : SqL K H a (im.map V.int)) (hl : im.length ≤ 60000) : SpV (sp_can_list K) [.ref a] H (.bl (misfit im).isNone) := fun _ e _ q _ => ⟨a, im, rfl, ex_l e h, hl, q⟩
theorem ok_can_list (T : Txt K mg) : FnOk P w K mg base CX0 5 T.f_can_list T.d_can_list ["image"] (sp_can_list K) := by
  refine T.F_can_list.ok sc_can_list (fun vs H Q E h => ?_) (fun cdv A outer s H vs Q E hr h => ?_)
  · obtain ⟨a, im, rfl, _⟩ := h
    rfl
  · obtain ⟨a, im, rfl, hS, hl, k⟩ := h
    refine ⟨_, (pss_one (ps_ret (pe_cmpR op_isN (pe_call (ok_misfit (P := P) T) (hr.mono (by decide)) (by rfl) T.g_misfit T.F_misfit.kp T.b_misfit .nil pass0 (pa_cons (pv 0) pa_nil)) pe_non (nomark _)))), ?_⟩
    have e : (misfit im).isNone = decide (optV ((misfit im).map fun (n : Nat) => (n : Int)) = .non) := by
      cases misfit im with
      | none => rfl
      | some n => exact (by simp [optV])
    rw [e] at k
    exact s_ret (ev_op (ev_call (ea_cons (ev_var rfl) ea_nil) (v_misfit hS hl)) ev_c rv_isNon) k
theorem str_dec {i : Int} (h : badI i = false) : (toString i : Str).cps.toList = decL i.natAbs := by
  show (PySem.Str.ofString (toString i)).cps.toList = _
  rw [show_int i]
  unfold intL
  rw [if_neg (by have := (good_i h).1; omega)]
theorem v_num {C : Addr} {i : Int} {H : Hp} (h : badI i = false) : SpV (sp_numeral K C) [.int i] H (.str (toString i)) := fun H1 _ Q q E => ⟨i, rfl, Nat.lt_of_lt_of_le (good_i h).2 (Nat.pow_le_pow_right (by decide) (by decide)), fun _ => q, fun z => absurd (good_i h).2 z⟩
theorem num_len {i : Int} (h : badI i = false) : (toString i : Str).length ≤ 60 := by
  show (toString i : Str).cps.size ≤ 60
  rw [← Array.length_toList, str_dec h]
  exact dec60 (good_i h).2
def sp_line (K : PySem.W.Frag) : Sp := fun vs H Q _ => ∃ (t : Addr) (r : Row) (e : Int), vs = [.ref t, .int e] ∧ SqT K H t ((rowL r).map V.int) ∧ fitsR r = true ∧ RetV (.str (strN (lineN r e))) H Q
theorem v_line {t : Addr} {r : Row} {e : Int} {H : Hp} (h : SqT K H t ((rowL r).map V.int)) (hf : fitsR r = true) : SpV (sp_line K) [.ref t, .int e] H (.str (strN (lineN r e))) := fun _ x _ q _ => ⟨t, r, e, rfl, ex_t x h, hf, q⟩
theorem ok_line (T : Txt K mg) : FnOk P w K mg base (L2.CX P w) 4 T.f_line T.d_line ["node", "expected"] (sp_line K) := by
  refine T.F_line.okX sc_line (fun vs H Q E h => ?_) (fun cdv A outer s H vs Q E hr h => ?_)
  · obtain ⟨t, r, e, rfl, _⟩ := h
    rfl
  · obtain ⟨t, r, e, rfl, hS, hf, k⟩ := h
    refine ⟨_, (pss_cons (ps_asg (pv 0) (pg_tup (by rfl) (pgs_cons (pg_name (i := 2) sc_line.nd rfl (Or.inl rfl)) (pgs_cons (pg_name (i := 3) sc_line.nd rfl (Or.inl rfl)) (pgs_cons (pg_name (i := 4) sc_line.nd rfl (Or.inl rfl)) (pgs_cons (pg_name (i := 5) sc_line.nd rfl (Or.inl rfl)) pgs_nil))))))
        (pss_cons (ps_set (i := 6) sc_line.nd rfl (Or.inl rfl) (pe_ifExp (pt_cmpR op_eq (pv 2) (pv 1) (nomark _)) pe_str (pe_op op_add_str (pe_call (ok_numeral (P := P) T) (hr.mono (by decide)) (by rfl) T.g_numeral T.F_numeral.kp T.b_numeral .nil passL (pa_cons (pv 2) pa_nil)) pe_str)))
        (pss_cons (ps_if (pt_cmpR op_eq (pv 3) (pe_glob (v := .int 32) (by rfl) T.c_NOP ⟨_, rfl⟩) (nomark _)) (pss_one (ps_ret (pe_op op_add_str (pe_op op_add_str (pv 6) (pe_call (ok_numeral (P := P) T) (hr.mono (by decide)) (by rfl) T.g_numeral T.F_numeral.kp T.b_numeral .nil passL (pa_cons (pv 5) pa_nil))) pe_str))) pss_nil)
        (pss_cons (ps_set (i := 7) sc_line.nd rfl (Or.inl rfl) (pe_ifExp (pt_cmpR op_eq (pv 4) pe_int (nomark _)) pe_str (pe_call (ok_numeral (P := P) T) (hr.mono (by decide)) (by rfl) T.g_numeral T.F_numeral.kp T.b_numeral .nil passL (pa_cons (pv 4) pa_nil))))
        (pss_one (ps_ret (pe_op op_add_str (pe_op op_add_str (pe_op op_add_str (pv 6) (pv 7)) (pe_call (ok_text_of (P := P) T) (hr.mono (by decide)) (by rfl) T.g_text_of T.F_text_of.kp T.b_text_of .nil passL (pa_cons (pe_lst (pa_cons (pv 3) pa_nil)) pa_nil))) pe_str))))))), ?_⟩
    obtain ⟨b1, b2, b3⟩ := fits_num hf
    refine go_ev (ev_var rfl) fun H1 e1 => ⟨t, _, rfl, ex_t e1 hS, rfl, _, _, rfl, _, _, rfl, _, _, rfl, _, _, rfl, rfl, ?_⟩
    show tSeq _ _ _ [some (.ref t), some (.int e), some (.int r.1), some (.int r.2.1), some (.int r.2.2.1), some (.int r.2.2.2), none, none] _
    refine q_asg (v := .str (if r.1 = e then ("" : Str) else (toString r.1 : Str) ++ (":" : Str))) (ev_ifE (b := decide (r.1 = e)) (et_test (ev_op (ev_var rfl) (ev_var rfl) rv_eqI)) (fun hb G x => by rw [if_pos (of_decide_eq_true hb)]; exact ev_c) (fun hb G x => by
      rw [if_neg (of_decide_eq_false hb)]
      exact ev_op (ev_call (ea_cons (ev_var rfl) ea_nil) (v_num b1)) ev_c (rv_addS (by have := num_len b1; show (toString r.1 : Str).length + 1 ≤ 100000; omega)))) (fun H2 e2 => ?_)
    have hpl : (if r.1 = e then ("" : Str) else (toString r.1 : Str) ++ (":" : Str)).cps.toList = (if r.1 = e then [] else decL r.1.natAbs ++ [58]) := by
      split
      · rfl
      · rw [app_toList, str_dec b1]; rfl
    have hpz : (if r.1 = e then ("" : Str) else (toString r.1 : Str) ++ (":" : Str)).length ≤ 61 := by
      show (if r.1 = e then ("" : Str) else (toString r.1 : Str) ++ (":" : Str)).cps.size ≤ 61
      rw [← Array.length_toList, hpl]
      have := dec60 (good_i b1).2
      split
      · exact Nat.zero_le _
      · rw [List.length_append]; simp; omega
    generalize (if r.1 = e then ("" : Str) else (toString r.1 : Str) ++ (":" : Str)) = pl at hpl hpz
    show tSeq _ _ _ [some (.ref t), some (.int e), some (.int r.1), some (.int r.2.1), some (.int r.2.2.1), some (.int r.2.2.2), some (.str pl), none] _
    have hz3 := num_len b3
    refine q_when (b := decide (r.2.1 = 32)) (et_test (ev_op (ev_var rfl) ev_c rv_eqI)) (fun hb H3 e3 => ?_) (fun hb H3 e3 => ?_)
    · have h32 := of_decide_eq_true hb
      have hres : (pl ++ (toString r.2.2.2 : Str) ++ ">\n") = strN (lineN r e) := strN_ext (by
        rw [app_toList, app_toList, hpl, str_dec b3]
        unfold lineN
        rw [if_pos h32, List.append_assoc]
        rfl)
      rw [← hres] at k
      exact s_ret (ev_op (ev_op (ev_var rfl) (ev_call (ea_cons (ev_var rfl) ea_nil) (v_num b3)) (rv_addS (by omega))) ev_c (rv_addS (by rw [app_ln]; show _ + 2 ≤ 100000; omega))) fun H4 e4 => k H4 (e1.trans (e2.trans (e3.trans e4)))
    have h32 := of_decide_eq_false hb
    obtain ⟨hch, h33, _, _⟩ := sign_ch (fits_sign hf h32)
    refine q_asg (v := .str (if r.2.2.1 = 0 then ("" : Str) else (toString r.2.2.1 : Str))) (ev_ifE (b := decide (r.2.2.1 = 0)) (et_test (ev_op (ev_var rfl) ev_c rv_eqI)) (fun hb G x => by rw [if_pos (of_decide_eq_true hb)]; exact ev_c) (fun hb G x => by
      rw [if_neg (of_decide_eq_false hb)]
      exact ev_call (ea_cons (ev_var rfl) ea_nil) (v_num b2))) (fun H4 e4 => ?_)
    have hsl : (if r.2.2.1 = 0 then ("" : Str) else (toString r.2.2.1 : Str)).cps.toList = (if r.2.2.1 = 0 then [] else decL r.2.2.1.natAbs) := by
      split
      · rfl
      · exact str_dec b2
    have hsz : (if r.2.2.1 = 0 then ("" : Str) else (toString r.2.2.1 : Str)).length ≤ 60 := by
      split
      · exact Nat.zero_le _
      · exact num_len b2
    generalize (if r.2.2.1 = 0 then ("" : Str) else (toString r.2.2.1 : Str)) = sh at hsl hsz
    show tRet _ _ [some (.ref t), some (.int e), some (.int r.1), some (.int r.2.1), some (.int r.2.2.1), some (.int r.2.2.2), some (.str pl), some (.str sh)] _
    have hres : (pl ++ sh ++ textOf [r.2.1] ++ "\n") = strN (lineN r e) := strN_ext (by
      rw [app_toList, app_toList, app_toList, hpl, hsl]
      unfold lineN
      rw [if_neg h32, List.append_assoc, List.append_assoc]
      rfl)
    rw [← hres] at k
    exact s_ret (ev_op (ev_op (ev_op (ev_var rfl) (ev_var rfl) (rv_addS (by omega))) (ev_callL (el_lst (vs := [.int r.2.1]) (ea_cons (ev_var rfl) ea_nil) (by show 1 ≤ 100000; decide)) (fun p G hp _ => v_text_of (ns := [r.2.1]) (sq_of hp) (by show 1 ≤ 1000; decide) (by simp [hch]))) (rv_addS (by rw [app_ln]; show _ + 1 ≤ 100000; omega))) ev_c (rv_addS (by rw [app_ln, app_ln]; show _ + 1 + 1 ≤ 100000; omega))) fun H5 e5 => k H5 (e1.trans (e2.trans (e3.trans (e4.trans e5))))
def sp_listing (K : PySem.W.Frag) (C : Addr) : Sp := fun vs H Q E => ∃ (a : Addr) (im : List Int), vs = [.ref a] ∧ SqL K H a (im.map V.int) ∧ im.length ≤ 2000 ∧
  (misfit im = none → RetV (.str (strN (listN (rowsOf im)))) H Q) ∧ (∀ i, misfit im = some i → ∀ d H2, Ex H H2 → H2 d = some (.xd [("at", .int (i : Int))]) → E (.ref C) (some d) H2)
theorem v_listing {C a : Addr} {im : List Int} {H : Hp} (h : SqL K H a (im.map V.int)) (hl : im.length ≤ 2000) (hm : misfit im = none) : SpV (sp_listing K C) [.ref a] H (.str (strN (listN (rowsOf im)))) := fun _ e _ q _ => ⟨a, im, rfl, ex_l e h, hl, fun _ => q, fun i z => by rw [hm] at z; cases z⟩
theorem ok_listing (T : Txt K mg) : FnOk P w K mg base (L2.CX P w) 5 T.f_listing T.d_listing ["image"] (sp_listing K T.C_NotListable) := by
  refine T.F_listing.okX sc_listing (fun vs H Q E h => ?_) (fun cdv A outer s H vs Q E hr h => ?_)
  · obtain ⟨a, im, rfl, _⟩ := h
    rfl
  · obtain ⟨a, im, rfl, hS, hl, kG, kB⟩ := h
    refine ⟨_, (pss_cons (ps_set (i := 1) sc_listing.nd rfl (Or.inl rfl) (pe_call (ok_misfit (P := P) T) (hr.mono (by decide)) (by rfl) T.g_misfit T.F_misfit.kp T.b_misfit .nil pass0 (pa_cons (pv 0) pa_nil)))
        (pss_cons (ps_if (pt_cmpR op_notN (pv 1) pe_non (nomark _)) (pss_one (ps_raise rfl (takes_of rfl rfl rfl rfl) (pmk_oex T.oex_NotListable T.ii_NotListable T.ti_NotListable (ok_NotListable_init (P := P) T) (hr.mono (by decide)) T.bI_NotListable .nil pass0 (by rfl) T.g_NotListable (pa_cons (pv 1) pa_nil)))) pss_nil)
        (pss_cons (ps_set (i := 2) sc_listing.nd rfl (Or.inl rfl) (pe_lst pa_nil))
        (pss_cons (ps_set (i := 3) sc_listing.nd rfl (Or.inl rfl) pe_int)
        (pss_cons (ps_for (passes_of rfl) rfl (pi_list (pe_call (ok_nodes_of (P := P) T) (hr.mono (by decide)) (by rfl) T.g_nodes_of T.F_nodes_of.kp T.b_nodes_of .nil pass0 (pa_cons (pv 0) pa_nil))) (pg_name (i := 4) sc_listing.nd rfl (Or.inl rfl)) (pss_cons (ps_expr (pe_bm PySem.F.plainAttrs_list PySem.F.slot_list_append PySem.F.type_list_append mt_append (pv 2) (pa_cons (pe_call (ok_line (P := P) T) (hr.mono (by decide)) (by rfl) T.g_line T.F_line.kp T.b_line .nil passL (pa_cons (pv 4) (pa_cons (pv 3) pa_nil))) pa_nil)))
        (pss_one (ps_set (i := 3) sc_listing.nd rfl (Or.inl rfl) (pe_op op_add (pe_ix ix_tup (pv 4) pe_int (fun _ _ => rfl)) pe_int)))))
        (pss_one (ps_ret (pe_join pe_str (pv 2))))))))), ?_⟩
    refine q_asg (ev_call (ea_cons (ev_var rfl) ea_nil) (v_misfit hS (by omega))) (fun H1 e1 => ?_)
    have hrl := rows_len im
    cases hm : misfit im with
    | some i =>
      refine q_when (b := true) (et_is (et_test (ev_op (ev_var rfl) ev_c rv_notNon)) (by simp [optV])) (fun _ H2 e2 => ?_) (fun hb => nomatch hb)
      have hi : i ≤ 500 := by
        unfold misfit at hm
        cases q : (rowsOf im).findIdx? (fun r => !fitsR r) with
        | some j =>
          rw [q] at hm
          obtain ⟨hj, _⟩ := List.findIdx?_eq_some_iff_getElem.mp q
          obtain rfl := Option.some.inj hm
          omega
        | none =>
          rw [q] at hm
          dsimp only at hm
          split at hm
          · cases hm
          · obtain rfl := Option.some.inj hm
            omega
      refine mk_xi (ea_cons (ev_var rfl) ea_nil) (.inl ⟨(i : Int), rfl, ?_⟩) (fun d H3 e3 hd => kB i hm d H3 (e1.trans (e2.trans e3)) hd)
      have : 500 < 10 ^ 200 := by decide +kernel
      show ((i : Int)).natAbs < 10 ^ 200
      omega
    | none =>
      obtain ⟨hfit, hlen⟩ := mis_fit hm
      have kG := kG hm
      refine q_when (b := false) (et_is (et_test (ev_op (ev_var rfl) ev_c rv_notNon)) (by simp [optV])) (fun hb => nomatch hb) (fun _ H2 e2 => ?_)
      refine q_asgL (el_lst ea_nil (by decide)) (fun p H3 np e3 hp => ?_)
      refine q_asg ev_c (fun H4 e4 => ?_)
      have e14 := e1.trans (e2.trans (e3.trans e4))
      have e3n : H p = none := fresh_back (e1.trans e2) np
      refine q_forNLDn (K := K) (eld_nodes_of (ev_var rfl) (ex_l e14 hS) (by omega)) (fun q xs i σ' H' => Ex H H' ∧ H' q = some (.lst xs) ∧ DpAll K H' xs ((rowsOf im).map rowD) ∧ q ≠ p ∧ H' p = some (.lst (((linesI (rowsOf im) i).map fun l => strN l).map V.str)) ∧ ∃ y z, σ' = [some (.ref a), y, some (.ref p), some (.int (expAt (rowsOf im) i)), z]) ?_ ?_ ?_ ?_
      · intro q xs H5 nq e5 hq hds
        exact ⟨e14.trans e5, hq, hds, (fun z => by rw [z, e4 _ _ hp] at nq; cases nq), e5 _ _ (e4 _ _ hp), _, _, rfl⟩
      · rintro q xs i σ' H' _ ⟨_, hq, _⟩
        exact sq_of hq
      · rintro q xs i x σ' H' hx ⟨fr, hq, hds, nqp, hd, y, z, rfl⟩
        have hxl : xs.length = (rowsOf im).length := by rw [dpAll_len hds, List.length_map]
        have hi : i < (rowsOf im).length := by rw [← hxl]; exact (List.getElem?_eq_some_iff.mp hx).1
        have hrow : (rowsOf im)[i]? = some ((rowsOf im).getD i rowZ) := by rw [List.getD_eq_getElem?_getD, List.getElem?_eq_getElem hi]; rfl
        obtain ⟨w, hw, hdw⟩ := dpAll_at hds (i := i) (d := rowD ((rowsOf im).getD i rowZ)) (by rw [List.getElem?_map, hrow]; rfl)
        rw [hx] at hw
        obtain rfl := Option.some.inj hw
        obtain ⟨t, rfl, ht⟩ := dp_intsT_inv (ns := rowL ((rowsOf im).getD i rowZ)) hdw
        have hfr := hfit _ (List.mem_of_getElem? hrow)
        have hll : (linesI (rowsOf im) i).length = i := by unfold linesI; simp
        refine q_app hd (ev_var rfl) (ev_call (ea_cons (ev_var rfl) (ea_cons (ev_var rfl) ea_nil)) (v_line ht hfr)) (by rw [List.length_map, List.length_map, hll]; omega) (fun H5 e5 => ?_)
        have ht5 : SqT K (upd H5 p (.lst ((((linesI (rowsOf im) i).map fun l => strN l).map V.str) ++ [.str (strN (lineN ((rowsOf im).getD i rowZ) (expAt (rowsOf im) i)))]))) t ((rowL ((rowsOf im).getD i rowZ)).map V.int) := sqT_bu (Bu.upd (L := [p]) (Bu.refl) (.inl (List.mem_singleton.mpr rfl))) (fun c m => by rw [List.mem_singleton.mp m]; exact ⟨_, e5 _ _ hd, nt_lst⟩) (ex_t e5 ht)
        refine s_asg (v := .int (expAt (rowsOf im) (i + 1))) ?_ (fun H6 e6 => ?_)
        · have : expAt (rowsOf im) (i + 1) = ((rowsOf im).getD i rowZ).1 + 1 := by unfold expAt; rw [if_neg (by omega)]; rfl
          rw [this]
          exact ev_op (ev_op (ev_var rfl) ev_c (rv_ixT (i := 0) ht5 rfl)) ev_c rv_I0
        · refine ⟨((fr.trans e5).mut e3n).trans e6, ?_, ?_, nqp, ?_, _, _, rfl⟩
          · exact e6 _ _ (by rw [upd_ne nqp]; exact e5 _ _ hq)
          · refine (dpAll_bu (Bu.upd (L := [p]) (Bu.refl) (.inl (List.mem_singleton.mpr rfl))) (fun c m => by rw [List.mem_singleton.mp m]; exact ⟨_, e5 _ _ hd, nt_lst⟩) _ _ ?_ (hds.ex e5)).ex e6
            exact rows_tup _
          · refine e6 _ _ ?_
            rw [upd_same, linesI_succ, List.map_append, List.map_append]
            rfl
      · rintro q xs σ' H5 ⟨fr, hq, hds, nqp, hd, y, z, rfl⟩
        have hxl : xs.length = (rowsOf im).length := by rw [dpAll_len hds, List.length_map]
        rw [hxl] at hd
        have hj : Txt.join "" ((linesI (rowsOf im) (rowsOf im).length).map fun l => strN l) = strN (listN (rowsOf im)) := strN_ext (by
          rw [joinE, List.map_map]
          unfold listN
          congr 1
          have : ((fun y : Str => y.cps.toList) ∘ fun l => strN l) = id := by funext l; exact strN_list l
          rw [this, List.map_id])
        rw [← hj] at kG
        have hlen2 := lines_len (rows := rowsOf im) _ (Nat.le_refl _) hfit
        refine s_ret (ev_joinV ev_c (ev_var rfl) (sq_of hd) ?_) fun H6 e6 => kG H6 (fr.trans e6)
        have hs : (((linesI (rowsOf im) (rowsOf im).length).map fun l => strN l).map (·.length)).sum = (linesI (rowsOf im) (rowsOf im).length).flatten.length := by
          rw [List.length_flatten, List.map_map]
          exact congrArg List.sum (List.map_congr_left fun l _ => strN_len l)
        rw [hs]
        show _ + _ * 0 ≤ 16777216
        omega


end
end K19

set_option Elab.async false
set_option linter.all false
set_option maxRecDepth 100000
set_option maxHeartbeats 4000000
set_option exponentiation.threshold 600
namespace K19
open PySem PySem.Spec PyProof.Rows L2 Evl Gd
open PySem.NumText (AllDigits digitsVal)
/-! ### how expressions are evaluated, without a word of ours -/
local macro_rules | `(tactic| walk_at "ev") => `(tactic| exact ev_c)
local macro_rules | `(tactic| walk_at "ev") => `(tactic| exact ev_var rfl)
local macro_rules | `(tactic| walk_at "ev") => `(tactic| (refine' ev_op ?k1 ?k2 ?k3; (case k1 => walk_at "ev"); (case k2 => walk_at "ev"); (case k3 => walk_at "rv")))
local macro_rules | `(tactic| walk_at "ev") => `(tactic| (refine' ev_cb ?k1 ?k2; (case k1 => walk_at "ea"); (case k2 => walk_at "rc")))
local macro_rules | `(tactic| walk_at "ev") => `(tactic| (refine' ev_call ?k1 ?k2; (case k1 => walk_at "ea"); (case k2 => walk_at "sp")))
local macro_rules | `(tactic| walk_at "ev") => `(tactic| (refine' ev_chain ?k1 ?k2 ?k3 (fun _ => ?k4) (fun _ => ?k5); (case k1 => walk_at "ev"); (case k2 => walk_at "ev"); (case k3 => walk_at "rv"); (case k4 => walk_at "ev"); (case k5 => walk_at "rv")))
local macro_rules | `(tactic| walk_at "ev") => `(tactic| (refine' ev_orV ?k1 (fun _ => ?k2); (case k1 => walk_at "ev"); (case k2 => walk_at "ev")))
local macro_rules | `(tactic| walk_at "ev") => `(tactic| (refine' ev_andV ?k1 (fun _ => ?k2); (case k1 => walk_at "ev"); (case k2 => walk_at "ev")))
local macro_rules | `(tactic| walk_at "ev") => `(tactic| (refine' ev_notV ?k1; (case k1 => walk_at "ev")))
local macro_rules | `(tactic| walk_at "ea") => `(tactic| exact ea_nil)
local macro_rules | `(tactic| walk_at "ea") => `(tactic| (refine' ea_cons ?k1 ?k2; (case k1 => walk_at "ev"); (case k2 => walk_at "ea")))
local macro_rules | `(tactic| walk_at "rv") => `(tactic| exact rv_I0)
local macro_rules | `(tactic| walk_at "rv") => `(tactic| exact rv_eqI)
local macro_rules | `(tactic| walk_at "rv") => `(tactic| exact rv_neI)
local macro_rules | `(tactic| walk_at "rv") => `(tactic| exact rv_eqS)
local macro_rules | `(tactic| walk_at "rv") => `(tactic| exact rv_neS)
local macro_rules | `(tactic| walk_at "rv") => `(tactic| exact rv_mod (by decide))
local macro_rules | `(tactic| walk_at "rv") => `(tactic| exact rv_fdiv (by decide) (by decide))
local macro_rules | `(tactic| walk_at "rv") => `(tactic| exact rv_mulR (by decide))
local macro_rules | `(tactic| walk_at "rv") => `(tactic| exact rv_pow (by decide))
local macro_rules | `(tactic| walk_at "rc") => `(tactic| exact rc_int)
local macro_rules | `(tactic| walk_at "rc") => `(tactic| exact rc_ord)
local macro_rules | `(tactic| walk_at "et") => `(tactic| (refine' et_test ?k1; (case k1 => walk_at "ev")))
local macro_rules | `(tactic| walk_at "et") => `(tactic| (refine' et_B ?k1; (case k1 => walk_at "ev")))
local macro_rules | `(tactic| walk_at "et") => `(tactic| (refine' et_not ?k1; (case k1 => walk_at "et")))
local macro_rules | `(tactic| walk_at "et") => `(tactic| (refine' et_or ?k1 (fun _ => ?k2); (case k1 => walk_at "et"); (case k2 => walk_at "et")))
local macro_rules | `(tactic| walk_at "et") => `(tactic| (refine' et_and ?k1 (fun _ => ?k2); (case k1 => walk_at "et"); (case k2 => walk_at "et")))
section
variable {P : Program} {w : World} {K : PySem.W.Frag} {mg : Str → Option Value} {base : Heap}
def dv (l : List Nat) : Int := l.foldl (fun (a : Int) (c : Nat) => 10 * a + (c : Int) - 48) 0
theorem dv_val : ∀ (l : List Nat), AllDigits l → dv l = ((digitsVal l : Nat) : Int) := by
  intro l hl
  have key : ∀ (l : List Nat) (b : Nat), AllDigits l → l.foldl (fun (a : Int) (c : Nat) => 10 * a + (c : Int) - 48) (b : Int) = ((l.foldl (fun acc c => acc * 10 + (c - 48)) b : Nat) : Int) := by
    intro l
    induction l with
    | nil => intro b _; rfl
    | cons c r ih =>
      intro b h
      have hc := h.head
      rw [List.foldl_cons, List.foldl_cons, ← ih _ h.tail]
      congr 1
      omega
  exact key l 0 hl

/-! ### a listing is read back -/
def flatR (rows : List Row) : List Int := (rows.map rowL).flatten
theorem rows_flat : ∀ rows : List Row, rowsOf (flatR rows) = rows
  | [] => rfl
  | r :: t => by
    show (r.1, r.2.1, r.2.2.1, r.2.2.2) :: rowsOf (flatR t) = r :: t
    rw [rows_flat t]
theorem flat_len : ∀ rows : List Row, (flatR rows).length = 4 * rows.length
  | [] => rfl
  | r :: t => by
    show (rowL r ++ flatR t).length = _
    rw [List.length_append, flat_len t, List.length_cons]
    show 4 + _ = _
    omega
theorem flat_snoc (rows : List Row) (r : Row) : flatR (rows ++ [r]) = flatR rows ++ rowL r := by
  unfold flatR
  rw [List.map_append, List.flatten_append]
  simp
theorem flat_app (a b : List Row) : flatR (a ++ b) = flatR a ++ flatR b := by
  unfold flatR
  rw [List.map_append, List.flatten_append]
def toI (l : List Nat) : List Int := l.map fun (c : Nat) => (c : Int)
theorem toI_app (a b : List Nat) : toI (a ++ b) = toI a ++ toI b := List.map_append
theorem feed_dg {m r : Int} {cs : List Int} {c : Int} (h1 : 48 ≤ c) (h2 : c ≤ 57) : feedS ⟨m, r, false, false, cs⟩ c = ⟨m, 10 * r + c - 48, false, false, cs⟩ := by
  unfold feedS stepS isDg
  rw [if_neg (by simp), if_neg (by omega), if_neg (by simp), if_pos (by rw [decide_eq_true h1, decide_eq_true h2]; rfl)]
theorem feed_ws {s : SS} {c : Int} (hf : s.f = false) (hw : s.w = false) (h1 : 0 ≤ c) (h2 : c ≤ 32) : feedS s c = s := by
  unfold feedS stepS isDg
  rw [if_neg (by rw [hf]; exact Bool.false_ne_true), if_neg (by omega), if_neg (by rw [hw]; exact Bool.false_ne_true), if_neg (by rw [decide_eq_false (by omega)]; exact Bool.false_ne_true), if_neg (by omega)]
theorem feed_sg {m r : Int} {cs : List Int} {c : Int} (h1 : 32 < c) (h2 : isDg c = false) : feedS ⟨m, r, false, false, cs⟩ c = signS ⟨m, r, false, false, cs⟩ c := by
  unfold feedS stepS
  rw [if_neg (by simp), if_neg (by omega), if_neg (by simp), if_neg (by rw [h2]; exact Bool.false_ne_true), if_pos h1]
theorem run_digs : ∀ (l : List Nat), (∀ c ∈ l, 48 ≤ c ∧ c ≤ 57) → ∀ (m r : Int) (cs : List Int), (toI l).foldl feedS ⟨m, r, false, false, cs⟩ = ⟨m, l.foldl (fun (a : Int) (c : Nat) => 10 * a + (c : Int) - 48) r, false, false, cs⟩
  | [], _, _, _, _ => rfl
  | c :: t, h, m, r, cs => by
    have hc := h c List.mem_cons_self
    show (toI t).foldl feedS (feedS ⟨m, r, false, false, cs⟩ (c : Int)) = _
    rw [feed_dg (by omega) (by omega), run_digs t (fun x hx => h x (List.mem_cons_of_mem _ hx))]
    rfl
theorem run_dec (n : Nat) (m : Int) (cs : List Int) : (toI (decL n)).foldl feedS ⟨m, 0, false, false, cs⟩ = ⟨m, (n : Int), false, false, cs⟩ := by
  rw [run_digs _ (dec_all n)]
  have hv : dv (decL n) = (n : Int) := by rw [dv_val _ (fun c hc => dec_all n c hc), dec_val]
  unfold dv at hv
  rw [hv]
theorem sign_dg {op : Int} (h : signOk op = true) : isDg op = false ∧ op ≠ 39 ∧ op ≠ 58 ∧ op ≠ 62 := by
  unfold signOk at h
  simp only [Bool.and_eq_true, decide_eq_true_eq, Bool.not_eq_true', decide_eq_false_iff_not, List.mem_cons, List.not_mem_nil, or_false, not_or] at h
  exact ⟨h.2.2, h.2.1.2.1, h.2.1.2.2.1, h.2.1.2.2.2⟩
theorem fits_rest {r : Row} (h : fitsR r = true) : (r.2.1 = 32 → r.2.2.1 = 0) ∧ (r.2.1 ≠ 32 → r.2.2.2 = r.1 + 1) := by
  unfold fitsR at h
  simp only [Bool.and_eq_true] at h
  have h := h.2
  constructor
  · intro z
    rw [if_pos z] at h
    exact of_decide_eq_true h
  · intro z
    rw [if_neg z] at h
    simp only [Bool.and_eq_true, decide_eq_true_eq] at h
    exact h.2
theorem nat_i {i : Int} (h : badI i = false) : ((i.natAbs : Nat) : Int) = i := by have := (good_i h).1; omega
theorem run_line {r : Row} (e : Int) (cs : List Int) (hf : fitsR r = true) : (toI (lineN r e)).foldl feedS ⟨e, 0, false, false, cs⟩ = ⟨r.1 + 1, 0, false, false, cs ++ rowL r⟩ := by
  obtain ⟨b1, b2, b3⟩ := fits_num hf
  obtain ⟨f1, f2⟩ := fits_rest hf
  unfold lineN
  rw [toI_app, List.foldl_append]
  have hp : (toI (if r.1 = e then [] else decL r.1.natAbs ++ [58])).foldl feedS ⟨e, 0, false, false, cs⟩ = ⟨r.1, 0, false, false, cs⟩ := by
    by_cases z : r.1 = e
    · rw [if_pos z, z]; rfl
    · rw [if_neg z, toI_app, List.foldl_append, run_dec, nat_i b1]
      have e58 : toI [58] = [58] := rfl
      rw [e58, List.foldl_cons, List.foldl_nil, feed_sg (by decide) (by decide)]
      rfl
  rw [hp]
  by_cases z : r.2.1 = 32
  · rw [if_pos z, toI_app, List.foldl_append, run_dec, nat_i b3]
    have e62 : toI [62, 10] = [62, 10] := rfl
    rw [e62, List.foldl_cons, List.foldl_cons, List.foldl_nil, feed_sg (by decide) (by decide)]
    have : signS ⟨r.1, r.2.2.2, false, false, cs⟩ 62 = ⟨r.1 + 1, 0, false, false, cs ++ [r.1, 32, 0, r.2.2.2]⟩ := rfl
    rw [this, feed_ws rfl rfl (by decide) (by decide)]
    unfold rowL
    rw [f1 z, z]
  · have hs := fits_sign hf z
    obtain ⟨_, h33, _, _⟩ := sign_ch hs
    obtain ⟨hd, n39, n58, n62⟩ := sign_dg hs
    rw [if_neg z, toI_app, List.foldl_append]
    have ha : (toI (if r.2.2.1 = 0 then [] else decL r.2.2.1.natAbs)).foldl feedS ⟨r.1, 0, false, false, cs⟩ = ⟨r.1, r.2.2.1, false, false, cs⟩ := by
      by_cases y : r.2.2.1 = 0
      · rw [if_pos y, y]; rfl
      · rw [if_neg y, run_dec, nat_i b2]
    rw [ha]
    have e1 : ((r.2.1.toNat : Nat) : Int) = r.2.1 := by omega
    have eo : toI [r.2.1.toNat, 10] = [r.2.1, 10] := by
      show [((r.2.1.toNat : Nat) : Int), 10] = _
      rw [e1]
    rw [eo, List.foldl_cons, List.foldl_cons, List.foldl_nil, feed_sg (by omega) hd]
    have : signS ⟨r.1, r.2.2.1, false, false, cs⟩ r.2.1 = ⟨r.1 + 1, 0, false, false, cs ++ [r.1, r.2.1, r.2.2.1, r.1 + 1]⟩ := by
      unfold signS
      rw [if_neg n39, if_neg n58, if_neg n62]
      rfl
    rw [this, feed_ws rfl rfl (by decide) (by decide)]
    unfold rowL
    rw [f2 z]
theorem run_lines {rows : List Row} (h : ∀ r ∈ rows, fitsR r = true) : ∀ i, i ≤ rows.length → (toI (linesI rows i).flatten).foldl feedS s0 = ⟨expAt rows i, 0, false, false, flatR (rows.take i)⟩
  | 0, _ => rfl
  | i + 1, hi => by
    have hg : rows[i]? = some (rows.getD i rowZ) := by rw [List.getD_eq_getElem?_getD, List.getElem?_eq_getElem (by omega)]; rfl
    have hl : (linesI rows (i + 1)).flatten = (linesI rows i).flatten ++ lineI rows i := by
      rw [linesI_succ, List.flatten_append]
      simp
    have he : expAt rows (i + 1) = (rows.getD i rowZ).1 + 1 := by unfold expAt; rw [if_neg (by omega)]; rfl
    rw [hl, toI_app, List.foldl_append, run_lines h i (by omega), take_snoc hg, flat_snoc, he]
    exact run_line _ _ (h _ (List.mem_of_getElem? hg))
theorem run_list {rows : List Row} (h : ∀ r ∈ rows, fitsR r = true) : (runS (toI (listN rows))).cs = flatR rows := by
  unfold runS listN
  rw [run_lines h _ (Nat.le_refl _), List.take_length]
theorem flat_fit {rows : List Row} (h : ∀ r ∈ rows, fitsR r = true) : misfit (flatR rows) = none := by
  have hf : (rowsOf (flatR rows)).findIdx? (fun r => !fitsR r) = none := List.findIdx?_eq_none_iff.mpr fun r hr => by rw [rows_flat] at hr; rw [h r hr]; rfl
  unfold misfit
  rw [hf]
  dsimp only
  rw [if_pos (by rw [rows_flat, flat_len])]
def ordV (v : V) : V := match v with | .str x => V.int ((x.cps.getD 0 0 : Nat) : Int) | _ => .non
theorem codes_of_str {z : Str} : (sgns z).map ordV = (toI z.cps.toList).map V.int := by
  rw [sgns_map]
  unfold toI
  rw [List.map_map]
  rfl


end
end K19

set_option Elab.async false
set_option linter.all false
set_option maxRecDepth 100000
set_option maxHeartbeats 4000000
set_option exponentiation.threshold 600
namespace K19
open PySem PySem.Spec PyProof.Rows L2 Evl Gd
open PySem.NumText (AllDigits digitsVal)
/-! ### how expressions are evaluated, without a word of ours -/
local macro_rules | `(tactic| walk_at "ev") => `(tactic| exact ev_c)
local macro_rules | `(tactic| walk_at "ev") => `(tactic| exact ev_var rfl)
local macro_rules | `(tactic| walk_at "ev") => `(tactic| (refine' ev_op ?k1 ?k2 ?k3; (case k1 => walk_at "ev"); (case k2 => walk_at "ev"); (case k3 => walk_at "rv")))
local macro_rules | `(tactic| walk_at "ev") => `(tactic| (refine' ev_cb ?k1 ?k2; (case k1 => walk_at "ea"); (case k2 => walk_at "rc")))
local macro_rules | `(tactic| walk_at "ev") => `(tactic| (refine' ev_call ?k1 ?k2; (case k1 => walk_at "ea"); (case k2 => walk_at "sp")))
local macro_rules | `(tactic| walk_at "ev") => `(tactic| (refine' ev_chain ?k1 ?k2 ?k3 (fun _ => ?k4) (fun _ => ?k5); (case k1 => walk_at "ev"); (case k2 => walk_at "ev"); (case k3 => walk_at "rv"); (case k4 => walk_at "ev"); (case k5 => walk_at "rv")))
local macro_rules | `(tactic| walk_at "ev") => `(tactic| (refine' ev_orV ?k1 (fun _ => ?k2); (case k1 => walk_at "ev"); (case k2 => walk_at "ev")))
local macro_rules | `(tactic| walk_at "ev") => `(tactic| (refine' ev_andV ?k1 (fun _ => ?k2); (case k1 => walk_at "ev"); (case k2 => walk_at "ev")))
local macro_rules | `(tactic| walk_at "ev") => `(tactic| (refine' ev_notV ?k1; (case k1 => walk_at "ev")))
local macro_rules | `(tactic| walk_at "ea") => `(tactic| exact ea_nil)
local macro_rules | `(tactic| walk_at "ea") => `(tactic| (refine' ea_cons ?k1 ?k2; (case k1 => walk_at "ev"); (case k2 => walk_at "ea")))
local macro_rules | `(tactic| walk_at "rv") => `(tactic| exact rv_I0)
local macro_rules | `(tactic| walk_at "rv") => `(tactic| exact rv_eqI)
local macro_rules | `(tactic| walk_at "rv") => `(tactic| exact rv_neI)
local macro_rules | `(tactic| walk_at "rv") => `(tactic| exact rv_eqS)
local macro_rules | `(tactic| walk_at "rv") => `(tactic| exact rv_neS)
local macro_rules | `(tactic| walk_at "rv") => `(tactic| exact rv_mod (by decide))
local macro_rules | `(tactic| walk_at "rv") => `(tactic| exact rv_fdiv (by decide) (by decide))
local macro_rules | `(tactic| walk_at "rv") => `(tactic| exact rv_mulR (by decide))
local macro_rules | `(tactic| walk_at "rv") => `(tactic| exact rv_pow (by decide))
local macro_rules | `(tactic| walk_at "rc") => `(tactic| exact rc_int)
local macro_rules | `(tactic| walk_at "rc") => `(tactic| exact rc_ord)
local macro_rules | `(tactic| walk_at "et") => `(tactic| (refine' et_test ?k1; (case k1 => walk_at "ev")))
local macro_rules | `(tactic| walk_at "et") => `(tactic| (refine' et_B ?k1; (case k1 => walk_at "ev")))
local macro_rules | `(tactic| walk_at "et") => `(tactic| (refine' et_not ?k1; (case k1 => walk_at "et")))
local macro_rules | `(tactic| walk_at "et") => `(tactic| (refine' et_or ?k1 (fun _ => ?k2); (case k1 => walk_at "et"); (case k2 => walk_at "et")))
local macro_rules | `(tactic| walk_at "et") => `(tactic| (refine' et_and ?k1 (fun _ => ?k2); (case k1 => walk_at "et"); (case k2 => walk_at "et")))
section
variable {P : Program} {w : World} {K : PySem.W.Frag} {mg : Str → Option Value} {base : Heap}
/-- for x in range(i, j, c) -/
theorem q_forC {σ : L2.St} {H : Hp} {D : Ends} {tu tz : TS} {ta : TA} {j : Nat} {i0 j0 c0 : Int} {n : Nat} (h : EvA ta σ H [.int i0, .int j0, .int c0]) (hr : RgC i0 j0 c0 n) (Pv : Nat → L2.St → Hp → Prop) (h0 : ∀ H1, Ex H H1 → Pv 0 σ H1)
    (hs : ∀ (i : Nat) σ' H', i < n → Pv i σ' H' → tu { D with nx := Pv (i + 1), ct := Pv (i + 1), bk := tz D } (σ'.set j (some (.int (i0 + (i : Nat) * c0)))) H') (hd : ∀ σ' H', Pv n σ' H' → tz D σ' H') : tSeq (tFor (iRng3 ta) (gName j) tu) tz D σ H :=
  h H (Ex.refl H) _ fun H1 e => ⟨i0, j0, c0, n, rfl, hr, for_rangeC (D := { D with nx := tz D }) Pv (h0 H1 e) (fun i σ' H' hi p => hs i σ' H' hi p) hd⟩

/-! ### drawn images -/
def anyI : Int → Prop := fun _ => True
section
variable {σ : L2.St} {H : Hp} {D : Ends} {ta tb te t1 t2 t3 t4 : TE} {tl : TA}
theorem drw_ne {p a : Addr} (hD : Drw p H) (ha : H a = none) : a ≠ p := fun e => by
  obtain ⟨ds, h, _⟩ := hD
  rw [e, h] at ha
  cases ha
theorem ep_ixDV {p a : Addr} {C1 : Int → Prop} {ms : List Int} (hl : Ev ta σ H (.ref a)) (ha : H a = some (.lst (ms.map V.int))) (hap : a ≠ p) (hb : ∀ H1, Ex H H1 → EvP tb σ H1 (DP p H1 fun d => 0 ≤ d ∧ d < (ms.length : Int))) (hC : ∀ m ∈ ms, C1 m) :
    EvP (tOp (rIxL K) ta tb) σ H (DP p H C1) := fun Q q =>
  hl H (Ex.refl H) _ fun H1 e1 => hb H1 e1 _ fun v H2 ⟨d, hv, hd, hD2, b⟩ => by
    subst hv
    obtain ⟨j, rfl⟩ : ∃ j : Nat, d = (j : Int) := ⟨d.toNat, by omega⟩
    have hlt : j < ms.length := by omega
    refine ⟨a, ms.map V.int, (j : Int), .int ms[j], rfl, rfl, sq_of (b _ _ hap (e1 _ _ ha)), atI_nat ?_, q _ H2 ⟨_, rfl, hC _ (List.getElem_mem _), hD2, (ex_but e1).trans b⟩⟩
    rw [List.getElem?_map, List.getElem?_eq_getElem hlt]
    rfl
theorem eap_cons {P : V → Hp → Prop} {PA : List V → Hp → Prop} (h : EvP te σ H P) (k : ∀ v H1, P v H1 → EvAP tl σ H1 (fun vs H' => PA (v :: vs) H')) : EvAP (tCons te tl) σ H PA := fun Q q => h _ fun v H1 hv => k v H1 hv _ fun vs H2 h2 => q (v :: vs) H2 h2
theorem eap_nil {PA : List V → Hp → Prop} (h : PA [] H) : EvAP tNil σ H PA := fun Q q => q [] H h
theorem ep_callP {sp : Sp} {E : XK} {dvs : List V} {PA : List V → Hp → Prop} {P : V → Hp → Prop} (h : EvAP tl σ H PA) (hs : ∀ vs H1, PA vs H1 → ∀ Q : VK, (∀ v H', P v H' → Q v H') → sp (vs ++ dvs) H1 Q E) : EvP (tCall sp dvs E tl) σ H P := fun Q q => h _ fun vs H1 h1 => hs vs H1 h1 Q q
theorem s_retLP {PA : List V → Hp → Prop} (h : EvAP tl σ H PA) (k : ∀ vs H', PA vs H' → vs.length ≤ 100000 ∧ ∀ q, H' q = none → D.rt (.ref q) (upd H' q (.lst vs))) : tRet (tLst tl) D σ H := h _ fun vs H1 h1 => ⟨sz_of (k vs H1 h1).1, (k vs H1 h1).2⟩
/-- l.extend(e), e a list at hand -/
theorem q_extV {tz : TS} {l b : Addr} {xs ys : List V} (ha : Ev ta σ H (.ref l)) (hl : H l = some (.lst xs)) (h : Ev te σ H (.ref b)) (hb : H b = some (.lst ys)) (hz : xs.length + ys.length ≤ 100000) (k : ∀ H1, Ex H H1 → tz D σ (upd H1 l (.lst (xs ++ ys)))) :
    tSeq (tDrop (tBM K "list" rExtend ta (tCons te tNil))) tz D σ H := ha H (Ex.refl H) _ fun H1 e1 =>
  ⟨Or.inl ⟨rfl, xs, sq_of (e1 l _ hl)⟩, h H1 e1 _ fun H2 e2 => ⟨l, b, xs, ys, rfl, rfl, e2 l _ (e1 l _ hl), e2 b _ (e1 b _ hb), sz_of hz, k H2 (e1.trans e2)⟩⟩
end

def sgL : List Int := [32, 33, 35, 36, 38, 43, 46, 47, 59, 61, 63, 64, 65, 90, 97, 122, 126, 41, 40, 94]
def inSg : Int → Prop := fun c => c ∈ sgL
def isVal : Int → Prop := fun c => 0 ≤ c ∧ c ≤ 10 ^ 60 - 40
theorem sg_ok : ∀ c ∈ sgL, c ≠ 32 → signOk c = true := by decide +kernel
def sp_law_sign (K : PySem.W.Frag) : Sp := fun vs H Q _ => ∃ p : Addr, vs = [.ref p] ∧ Drw p H ∧ ∀ v H', DP p H inSg v H' → Q v H'
theorem ep_sgn {p : Addr} {i : Nat} {σ : L2.St} {H : Hp} (hi : σ[i]? = some (some (.ref p))) (hD : Drw p H) : EvP (tCall (sp_law_sign K) [] E0 (tCons (tVar i) tNil)) σ H (DP p H inSg) := fun Q q => ⟨_, hi, p, rfl, hD, q⟩
theorem ok_law_sign (T : Txt K mg) : FnOk P w K mg base CX0 3 T.f_law_sign T.d_law_sign ["draws"] (sp_law_sign K) := by
  refine T.F_law_sign.ok sc_law_sign (fun vs H Q E h => ?_) (fun cdv A outer s H vs Q E hr h => ?_)
  · obtain ⟨p, rfl, _⟩ := h
    rfl
  · obtain ⟨p, rfl, hD, k⟩ := h
    refine ⟨_, (pss_cons (ps_set (i := 1) sc_law_sign.nd rfl (Or.inl rfl) (pe_lst (pa_cons pe_int (pa_cons pe_int (pa_cons pe_int (pa_cons pe_int (pa_cons pe_int (pa_cons pe_int (pa_cons pe_int (pa_cons pe_int (pa_cons pe_int (pa_cons pe_int (pa_cons pe_int (pa_cons pe_int (pa_cons pe_int (pa_cons pe_int (pa_cons pe_int (pa_cons pe_int (pa_cons pe_int (pa_cons pe_int (pa_cons pe_int (pa_cons pe_int pa_nil))))))))))))))))))))))
        (pss_one (ps_ret (pe_ix ix_list (pv 1) (pe_call (ok_law_pick (P := P) T) (hr.mono (by decide)) (by rfl) T.g_law_pick T.F_law_pick.kp T.b_law_pick .nil pass0 (pa_cons (pv 0) (pa_cons pe_int pa_nil))) (fun _ _ => rfl))))), ?_⟩
    refine q_asgL (xs := sgL.map V.int) (el_lst (vs := sgL.map V.int) (by repeat (first | exact ea_nil | refine ea_cons ev_c ?_)) (by decide)) (fun a H1 na e1 ha => ?_)
    exact s_retP (ep_ixDV (C1 := inSg) (ev_var rfl) ha (drw_ne hD na) (fun H2 e2 => ep_pick rfl ((hD.ex e1).ex e2) ev_c (by decide)) (fun _ h => h)) (fun v H' hv => k v H' (dp_bk hv (ex_but e1) fun _ h => h))
def sp_law_value (K : PySem.W.Frag) : Sp := fun vs H Q _ => ∃ p : Addr, vs = [.ref p] ∧ Drw p H ∧ ∀ v H', DP p H isVal v H' → Q v H'
theorem ep_value {p : Addr} {i : Nat} {σ : L2.St} {H : Hp} (hi : σ[i]? = some (some (.ref p))) (hD : Drw p H) : EvP (tCall (sp_law_value K) [] E0 (tCons (tVar i) tNil)) σ H (DP p H isVal) := fun Q q => ⟨_, hi, p, rfl, hD, q⟩
theorem isVal_s {c : Int} (h0 : 0 ≤ c) (h1 : c ≤ 1000000) : isVal c := ⟨h0, by
  have : (1000000 : Int) ≤ 10 ^ 60 - 40 := by decide +kernel
  omega⟩
theorem mul_s {i j : Int} (h1 : 0 ≤ i) (h2 : i < 1000) (h3 : 0 ≤ j) (h4 : j < 1000) : 0 ≤ i * j ∧ i * j ≤ 1000000 := by
  refine ⟨Int.mul_nonneg h1 h3, ?_⟩
  have := Int.mul_le_mul (show i ≤ 1000 by omega) (show j ≤ 1000 by omega) h3 (by omega)
  omega
theorem ok_law_value (T : Txt K mg) : FnOk P w K mg base CX0 3 T.f_law_value T.d_law_value ["draws"] (sp_law_value K) := by
  refine T.F_law_value.ok sc_law_value (fun vs H Q E h => ?_) (fun cdv A outer s H vs Q E hr h => ?_)
  · obtain ⟨p, rfl, _⟩ := h
    rfl
  · obtain ⟨p, rfl, hD, k⟩ := h
    refine ⟨_, (pss_cons (ps_set (i := 1) sc_law_value.nd rfl (Or.inl rfl) (pe_call (ok_law_pick (P := P) T) (hr.mono (by decide)) (by rfl) T.g_law_pick T.F_law_pick.kp T.b_law_pick .nil pass0 (pa_cons (pv 0) (pa_cons pe_int pa_nil))))
        (pss_cons (ps_if (pt_cmpR op_lt (pv 1) pe_int (nomark _)) (pss_one (ps_ret (pe_call (ok_law_pick (P := P) T) (hr.mono (by decide)) (by rfl) T.g_law_pick T.F_law_pick.kp T.b_law_pick .nil pass0 (pa_cons (pv 0) (pa_cons pe_int pa_nil))))) pss_nil)
        (pss_cons (ps_if (pt_cmpR op_eq (pv 1) pe_int (nomark _)) (pss_one (ps_ret pe_int)) pss_nil)
        (pss_cons (ps_if (pt_cmpR op_lt (pv 1) pe_int (nomark _)) (pss_one (ps_ret (pe_op op_mul (pe_call (ok_law_draw (P := P) T) (hr.mono (by decide)) (by rfl) T.g_law_draw T.F_law_draw.kp T.b_law_draw .nil pass0 (pa_cons (pv 0) pa_nil)) (pe_call (ok_law_draw (P := P) T) (hr.mono (by decide)) (by rfl) T.g_law_draw T.F_law_draw.kp T.b_law_draw .nil pass0 (pa_cons (pv 0) pa_nil))))) pss_nil)
        (pss_one (ps_ret (pe_op op_sub (pe_op op_sub (pe_op op_pow pe_int pe_int) pe_int) (pe_call (ok_law_pick (P := P) T) (hr.mono (by decide)) (by rfl) T.g_law_pick T.F_law_pick.kp T.b_law_pick .nil pass0 (pa_cons (pv 0) (pa_cons pe_int pa_nil)))))))))), ?_⟩
    refine q_asgP (ep_pick rfl hD ev_c (by decide)) (fun v H1 hv => ?_)
    obtain ⟨kd, rfl, hkd, hD1, b1⟩ := hv
    have fin : ∀ {C : Int → Prop} {H2 : Hp}, (∀ c, C c → isVal c) → Ex H1 H2 → ∀ v H', DP p H2 C v H' → Q v H' := fun hC e v H' hv => k v H' (dp_bk hv (b1.trans (ex_but e)) hC)
    refine q_when (b := decide (kd < 4)) (et_test (ev_op (ev_var rfl) ev_c rv_I0)) (fun hb H2 e2 => s_retP (ep_pick rfl (hD1.ex e2) ev_c (by decide)) (fun v H' hv => fin (fun c hc => isVal_s hc.1 (by omega)) e2 v H' hv)) (fun hb H2 e2 => ?_)
    refine q_when (b := decide (kd = 4)) (et_test (ev_op (ev_var rfl) ev_c rv_eqI)) (fun hb H3 e3 => s_ret ev_c fun H4 e4 => fin (C := fun c => c = 0) (fun c hc => isVal_s (by omega) (by omega)) (e2.trans e3) _ _ ⟨0, rfl, rfl, hD1.ex (e2.trans (e3.trans e4)), ex_but e4⟩) (fun hb H3 e3 => ?_)
    have e := e2.trans e3
    refine q_when (b := decide (kd < 8)) (et_test (ev_op (ev_var rfl) ev_c rv_I0)) (fun hb H4 e4 => ?_) (fun hb H4 e4 => ?_)
    · exact s_retP (ep_opDD (C := fun d => 0 ≤ d ∧ d < 1000) (C2 := fun d => 0 ≤ d ∧ d < 1000) (C1 := fun d => 0 ≤ d ∧ d ≤ 1000000) (g := fun i j => i * j) (ep_draw rfl (hD1.ex (e.trans e4))) (fun G hG => ep_draw rfl hG) (fun d e G Q hd _ q => ⟨_, _, rfl, rfl, .inl ⟨by omega, by omega⟩, q⟩) (fun i j h1 h2 => mul_s h1.1 h1.2 h2.1 h2.2)) (fun v H' hv => fin (fun c hc => isVal_s hc.1 hc.2) (e.trans e4) v H' hv)
    · refine s_retP (ep_opD (C := fun d => 0 ≤ d ∧ d < 4) (C1 := fun d => (10 : Int) ^ (60 : Int).toNat - 44 ≤ d ∧ d ≤ (10 : Int) ^ (60 : Int).toNat - 40) (g := fun d => (10 : Int) ^ (60 : Int).toNat - 40 - d) (ev_op (ev_op ev_c ev_c (rv_pow (by decide))) ev_c (rv_I0 (g := fun i j => .int (i - j)))) (fun G eG => ep_pick rfl ((hD1.ex (e.trans e4)).ex eG) ev_c (by decide)) (fun d G Q _ q => ⟨_, _, rfl, rfl, q⟩) (fun d hd => ⟨by omega, by omega⟩)) (fun v H' hv => fin (fun c hc => ?_) (e.trans e4) v H' hv)
      have e60 : (10 : Int) ^ (60 : Int).toNat = 10 ^ 60 := rfl
      have : (44 : Int) ≤ 10 ^ 60 := by decide +kernel
      rw [e60] at hc
      exact ⟨by omega, hc.2⟩
/-- rows that a listing takes, the i-th behind i steps -/
def RowG (i : Nat) (r : Row) : Prop := fitsR r = true ∧ 0 ≤ r.1 ∧ r.1 ≤ 10 ^ 60 - 40 + (i : Int)
theorem row_ok {i : Nat} {n op a s : Int} (hi : i ≤ 20) (h0 : 0 ≤ n) (h1 : n ≤ 10 ^ 60 - 40 + (i : Int)) (ha : isVal a) (hs : isVal s) (h : (op = 32 ∧ a = 0) ∨ (op ≠ 32 ∧ signOk op = true ∧ s = 0)) : RowG i (n, op, a, if op = 32 then s else n + 1) := by
  have hb : ∀ c : Int, 0 ≤ c → c ≤ 10 ^ 60 - 40 + 20 → badI c = false := fun c z0 z1 => by
    unfold badI
    rw [decide_eq_false (by omega), Bool.false_or, decide_eq_true]
    · rfl
    · omega
  refine ⟨?_, h0, h1⟩
  unfold fitsR
  have b1 := hb n h0 (by omega)
  have b2 := hb a ha.1 (by have := ha.2; omega)
  rcases h with ⟨e, z⟩ | ⟨e, z, _⟩
  · subst e
    have b3 := hb s hs.1 (by have := hs.2; omega)
    rw [z] at b2
    simp [b1, b2, b3, z]
  · have b3 : badI (n + 1) = false := by
      unfold badI
      rw [decide_eq_false (by omega), Bool.false_or, decide_eq_true]
      · rfl
      · omega
    simp [b1, b2, b3, z, e]
def NodeR (p : Addr) (H : Hp) (i : Nat) : V → Hp → Prop := fun v H' => ∃ (l : Addr) (r : Row), v = .ref l ∧ H l = none ∧ l ≠ p ∧ H' l = some (.lst ((rowL r).map V.int)) ∧ RowG i r ∧ Drw p H' ∧ But p H H'
def sp_law_node (K : PySem.W.Frag) : Sp := fun vs H Q _ => ∃ (p : Addr) (e : Int) (i : Nat), vs = [.ref p, .int e] ∧ 0 ≤ e ∧ e ≤ 10 ^ 60 - 40 + (i : Int) ∧ i ≤ 20 ∧ Drw p H ∧ ∀ v H', NodeR p H i v H' → Q v H'
theorem ep_node {p : Addr} {i j m : Nat} {e : Int} {σ : L2.St} {H : Hp} (hi : σ[i]? = some (some (.ref p))) (hj : σ[j]? = some (some (.int e))) (h0 : 0 ≤ e) (h1 : e ≤ 10 ^ 60 - 40 + (m : Int)) (hm : m ≤ 20) (hD : Drw p H) : EvP (tCall (sp_law_node K) [] E0 (tCons (tVar i) (tCons (tVar j) tNil))) σ H (NodeR p H m) := fun Q q => ⟨_, hi, _, hj, p, e, m, rfl, h0, h1, hm, hD, q⟩
theorem but_fresh {p a : Addr} {H H' : Hp} (b : But p H H') (n : H' a = none) (h : a ≠ p) : H a = none := by
  cases q : H a with
  | none => rfl
  | some o => rw [b _ _ h q] at n; cases n
theorem ok_law_node (T : Txt K mg) : FnOk P w K mg base CX0 4 T.f_law_node T.d_law_node ["draws", "expected"] (sp_law_node K) := by
  refine T.F_law_node.ok sc_law_node (fun vs H Q E h => ?_) (fun cdv A outer s H vs Q E hr h => ?_)
  · obtain ⟨p, e, i, rfl, _⟩ := h
    rfl
  · obtain ⟨p, e, i, rfl, h0, h1, hi20, hD, k⟩ := h
    refine ⟨_, (pss_cons (ps_set (i := 2) sc_law_node.nd rfl (Or.inl rfl) (pv 1))
        (pss_cut (ps_if (pt_cmpR op_eq (pe_call (ok_law_pick (P := P) T) (hr.mono (by decide)) (by rfl) T.g_law_pick T.F_law_pick.kp T.b_law_pick .nil pass0 (pa_cons (pv 0) (pa_cons pe_int pa_nil))) pe_int (nomark _)) (pss_one (ps_set (i := 2) sc_law_node.nd rfl (Or.inl rfl) (pe_call (ok_law_value (P := P) T) (hr.mono (by decide)) (by rfl) T.g_law_value T.F_law_value.kp T.b_law_value .nil pass0 (pa_cons (pv 0) pa_nil)))) pss_nil)
        (pss_cons (ps_set (i := 3) sc_law_node.nd rfl (Or.inl rfl) (pe_call (ok_law_sign (P := P) T) (hr.mono (by decide)) (by rfl) T.g_law_sign T.F_law_sign.kp T.b_law_sign .nil pass0 (pa_cons (pv 0) pa_nil)))
        (pss_cons (ps_if (pt_cmpR op_eq (pv 3) pe_int (nomark _)) (pss_one (ps_ret (pe_lst (pa_cons (pv 2) (pa_cons pe_int (pa_cons pe_int (pa_cons (pe_call (ok_law_value (P := P) T) (hr.mono (by decide)) (by rfl) T.g_law_value T.F_law_value.kp T.b_law_value .nil pass0 (pa_cons (pv 0) pa_nil)) pa_nil))))))) pss_nil)
        (pss_one (ps_ret (pe_lst (pa_cons (pv 2) (pa_cons (pv 3) (pa_cons (pe_call (ok_law_value (P := P) T) (hr.mono (by decide)) (by rfl) T.g_law_value T.F_law_value.kp T.b_law_value .nil pass0 (pa_cons (pv 0) pa_nil)) (pa_cons (pe_op op_add (pv 2) pe_int) pa_nil))))))))))), ?_⟩
    refine q_asg (ev_var rfl) (fun H1 e1 => ?_)
    refine q_cut (M := fun σ' H' => Drw p H' ∧ But p H H' ∧ ∃ n : Int, (0 ≤ n ∧ n ≤ 10 ^ 60 - 40 + (i : Int)) ∧ σ' = [some (.ref p), some (.int e), some (.int n), none]) ?_ ?_
    · refine s_whenP (P2 := fun b H' => Drw p H' ∧ But p H H') (etp_cmpD (ep_pick rfl (hD.ex e1) ev_c (by decide)) (fun _ => ev_c) (fun d H2 Q _ q => ⟨rfl, q _⟩) (fun b H' h1 h2 => ⟨h1, (ex_but e1).trans h2⟩)) (fun H' h => ?_) (fun H' h => ⟨h.1, h.2, _, ⟨h0, h1⟩, rfl⟩)
      · refine s_asgP (ep_value rfl h.1) (fun v H2 hv => ?_)
        obtain ⟨d, rfl, hd, hD2, b2⟩ := hv
        exact ⟨hD2, h.2.trans b2, _, ⟨hd.1, by have := hd.2; omega⟩, rfl⟩
    · rintro σ' H2 ⟨hD2, b2, n, hn, rfl⟩
      refine q_asgP (ep_sgn rfl hD2) (fun v H3 hv => ?_)
      obtain ⟨op, rfl, hop, hD3, b3⟩ := hv
      have fin : ∀ {G : Hp} {r : Row} {vs : List V}, Drw p G → But p H G → RowG i r → vs = (rowL r).map V.int → vs.length ≤ 100000 ∧ ∀ q, G q = none → Q (.ref q) (upd G q (.lst vs)) := fun {G r vs} hG bG hr hv => by
        subst hv
        refine ⟨by show 4 ≤ 100000; decide, fun q nq => k _ _ ⟨q, r, rfl, but_fresh bG nq (drw_ne hG nq), drw_ne hG nq, upd_same, hr, hG.ex (Ex.new nq), bG.trans (ex_but (Ex.new nq))⟩⟩
      have b := b2.trans b3
      refine q_when (b := decide (op = 32)) (et_test (ev_op (ev_var rfl) ev_c rv_eqI)) (fun hb H4 e4 => ?_) (fun hb H4 e4 => ?_)
      · refine s_retLP (PA := fun vs G => Drw p G ∧ But p H G ∧ ∃ d : Int, isVal d ∧ vs = [n, 32, 0, d].map V.int) (eap_cons (ep_of (ev_var rfl)) fun v1 G1 h1 => eap_cons (ep_of ev_c) fun v2 G2 h2 => eap_cons (ep_of ev_c) fun v3 G3 h3 => eap_cons (ep_value rfl (hD3.ex (e4.trans (h1.2.trans (h2.2.trans h3.2))))) fun v4 G4 h4 => eap_nil ?_) (fun vs G hG => ?_)
        · obtain ⟨d, rfl, hd, hD4, b4⟩ := h4
          rw [h1.1, h2.1, h3.1]
          exact ⟨hD4, b.trans ((ex_but (e4.trans (h1.2.trans (h2.2.trans h3.2)))).trans b4), d, hd, rfl⟩
        · obtain ⟨h1, h2, d, hd, h3⟩ := hG
          exact fin h1 h2 (row_ok (op := 32) (a := 0) (s := d) hi20 hn.1 hn.2 (isVal_s (by decide) (by decide)) hd (.inl ⟨rfl, rfl⟩)) h3
      · refine s_retLP (PA := fun vs G => Drw p G ∧ But p H G ∧ ∃ d : Int, isVal d ∧ vs = [n, op, d, n + 1].map V.int) (eap_cons (ep_of (ev_var rfl)) fun v1 G1 h1 => eap_cons (ep_of (ev_var rfl)) fun v2 G2 h2 => eap_cons (ep_value rfl (hD3.ex (e4.trans (h1.2.trans h2.2)))) fun v3 G3 h3 => eap_cons (ep_of (ev_op (ev_var rfl) ev_c (rv_I0 (g := fun i j => .int (i + j))))) fun v4 G4 h4 => eap_nil ?_) (fun vs G hG => ?_)
        · obtain ⟨d, rfl, hd, hD4, b4⟩ := h3
          rw [h1.1, h2.1, h4.1]
          exact ⟨hD4.ex h4.2, b.trans ((ex_but (e4.trans (h1.2.trans h2.2))).trans (b4.trans (ex_but h4.2))), d, hd, rfl⟩
        · obtain ⟨h1, h2, d, hd, h3⟩ := hG
          have hb := of_decide_eq_false hb
          have hr := row_ok (op := op) (a := d) (s := 0) hi20 hn.1 hn.2 hd (isVal_s (by decide) (by decide)) (.inr ⟨hb, sg_ok _ hop hb, rfl⟩)
          rw [if_neg hb] at hr
          exact fin h1 h2 hr h3
def ImgR (p : Addr) (m : Nat) : V → Hp → Prop := fun v H' => ∃ (l : Addr) (rows : List Row), v = .ref l ∧ l ≠ p ∧ H' l = some (.lst ((flatR rows).map V.int)) ∧ rows.length ≤ m ∧ (∀ r ∈ rows, fitsR r = true)
def sp_law_image (K : PySem.W.Frag) : Sp := fun vs H Q _ => ∃ (p : Addr) (m : Nat), vs = [.ref p, .int (m : Int)] ∧ m ≤ 18 ∧ Drw p H ∧ ∀ v H', ImgR p m v H' → Q v H'
theorem ok_law_image (T : Txt K mg) : FnOk P w K mg base CX0 5 T.f_law_image T.d_law_image ["draws", "many"] (sp_law_image K) := by
  refine T.F_law_image.ok sc_law_image (fun vs H Q E h => ?_) (fun cdv A outer s H vs Q E hr h => ?_)
  · obtain ⟨p, m, rfl, _⟩ := h
    rfl
  · obtain ⟨p, m, rfl, hm, hD, k⟩ := h
    refine ⟨_, (pss_cons (ps_set (i := 2) sc_law_image.nd rfl (Or.inl rfl) (pe_lst pa_nil))
        (pss_cons (ps_set (i := 3) sc_law_image.nd rfl (Or.inl rfl) pe_int)
        (pss_cons (ps_for PassesOwn.never rfl (pi_range1 (by rfl) T.n_range (pa_cons (pe_call (ok_law_pick (P := P) T) (hr.mono (by decide)) (by rfl) T.g_law_pick T.F_law_pick.kp T.b_law_pick .nil pass0 (pa_cons (pv 0) (pa_cons (pe_op op_add (pv 1) pe_int) pa_nil))) pa_nil)) (pg_name (i := 4) sc_law_image.nd rfl (Or.inl rfl)) (pss_cons (ps_set (i := 5) sc_law_image.nd rfl (Or.inl rfl) (pe_call (ok_law_node (P := P) T) (hr.mono (by decide)) (by rfl) T.g_law_node T.F_law_node.kp T.b_law_node .nil pass0 (pa_cons (pv 0) (pa_cons (pv 3) pa_nil))))
        (pss_cons (ps_expr (pe_bm PySem.F.plainAttrs_list PySem.F.slot_list_extend PySem.F.type_list_extend mt_extend (pv 2) (pa_cons (pv 5) pa_nil)))
        (pss_one (ps_set (i := 3) sc_law_image.nd rfl (Or.inl rfl) (pe_op op_add (pe_ix ix_list (pv 5) pe_int (fun _ _ => rfl)) pe_int))))))
        (pss_one (ps_ret (pv 2)))))), ?_⟩
    refine q_asgL (el_lst ea_nil (by decide)) (fun q H1 nq e1 hq => ?_)
    have hqp := drw_ne hD nq
    refine q_asg ev_c (fun H2 e2 => ?_)
    refine q_forRP (ep_pick rfl ((hD.ex e1).ex e2) (ev_op (ev_var rfl) ev_c (rv_I0 (g := fun i j => .int (i + j)))) (by omega)) (fun v H4 hv => ?_)
    obtain ⟨n, rfl, hn, hD4, b4⟩ := hv
    refine ⟨n.toNat, by rw [Int.toNat_of_nonneg hn.1], by omega, fun i σ' H' => Drw p H' ∧ ∃ (rows : List Row) (e : Int) (y z : Option V), H' q = some (.lst ((flatR rows).map V.int)) ∧ rows.length = i ∧ (∀ r ∈ rows, fitsR r = true) ∧ (0 ≤ e ∧ e ≤ 10 ^ 60 - 40 + (i : Int)) ∧ σ' = [some (.ref p), some (.int (m : Int)), some (.ref q), some (.int e), y, z], ?_, ?_, ?_⟩
    · exact ⟨hD4, [], 0, _, _, b4 _ _ hqp (e2 _ _ hq), rfl, (fun _ h => by cases h), ⟨by decide, by decide +kernel⟩, rfl⟩
    · rintro i σ' H' hi ⟨hD, rows, e, y, z, hc, hcl, hall, he, rfl⟩
      refine q_asgP (ep_node rfl rfl he.1 he.2 (by omega) hD) (fun v H5 hv => ?_)
      obtain ⟨l, r, rfl, nl, hlp, hl, hr, hD5, b5⟩ := hv
      have hlq : l ≠ q := fun z => by rw [z, hc] at nl; cases nl
      have hc5 := b5 _ _ hqp hc
      have hfl := flat_len rows
      refine q_extV (ev_var rfl) hc5 (ev_var rfl) hl (by rw [List.length_map, hfl]; show 4 * rows.length + 4 ≤ 100000; omega) (fun H6 e6 => ?_)
      refine s_asg (v := .int (r.1 + 1)) (ev_op (ev_op (ev_var rfl) ev_c (rv_ixL (i := 0) (xs := (rowL r).map V.int) (sq_of (by rw [upd_ne hlq]; exact e6 _ _ hl)) rfl)) ev_c rv_I0) (fun H7 e7 => ?_)
      refine ⟨Drw.ex (H := upd H6 q _) ?_ e7, rows ++ [r], _, _, _, ?_, by rw [List.length_append, hcl]; rfl, ?_, ⟨by have := hr.2.1; omega, by have := hr.2.2; omega⟩, rfl⟩
      · obtain ⟨ds, h, s⟩ := hD5.ex e6
        exact ⟨ds, by rw [upd_ne (Ne.symm hqp)]; exact h, s⟩
      · rw [flat_snoc, List.map_append]
        exact e7 _ _ upd_same
      · intro x hx
        rcases List.mem_append.mp hx with h | h
        · exact hall x h
        · rw [List.mem_singleton.mp h]; exact hr.1
    · rintro σ' H5 ⟨hD5, rows, e, y, z, hc5, hcl, hall, _, rfl⟩
      exact s_ret (ev_var rfl) fun H6 e6 => k _ H6 ⟨q, rows, rfl, hqp, e6 _ _ hc5, by omega, hall⟩


end
end K19

set_option Elab.async false
set_option linter.all false
set_option maxRecDepth 100000
set_option maxHeartbeats 4000000
set_option exponentiation.threshold 600
namespace K19
open PySem PySem.Spec PyProof.Rows L2 Evl Gd
open PySem.NumText (AllDigits digitsVal)
/-! ### how expressions are evaluated, without a word of ours -/
local macro_rules | `(tactic| walk_at "ev") => `(tactic| exact ev_c)
local macro_rules | `(tactic| walk_at "ev") => `(tactic| exact ev_var rfl)
local macro_rules | `(tactic| walk_at "ev") => `(tactic| (refine' ev_op ?k1 ?k2 ?k3; (case k1 => walk_at "ev"); (case k2 => walk_at "ev"); (case k3 => walk_at "rv")))
local macro_rules | `(tactic| walk_at "ev") => `(tactic| (refine' ev_cb ?k1 ?k2; (case k1 => walk_at "ea"); (case k2 => walk_at "rc")))
local macro_rules | `(tactic| walk_at "ev") => `(tactic| (refine' ev_call ?k1 ?k2; (case k1 => walk_at "ea"); (case k2 => walk_at "sp")))
local macro_rules | `(tactic| walk_at "ev") => `(tactic| (refine' ev_chain ?k1 ?k2 ?k3 (fun _ => ?k4) (fun _ => ?k5); (case k1 => walk_at "ev"); (case k2 => walk_at "ev"); (case k3 => walk_at "rv"); (case k4 => walk_at "ev"); (case k5 => walk_at "rv")))
local macro_rules | `(tactic| walk_at "ev") => `(tactic| (refine' ev_orV ?k1 (fun _ => ?k2); (case k1 => walk_at "ev"); (case k2 => walk_at "ev")))
local macro_rules | `(tactic| walk_at "ev") => `(tactic| (refine' ev_andV ?k1 (fun _ => ?k2); (case k1 => walk_at "ev"); (case k2 => walk_at "ev")))
local macro_rules | `(tactic| walk_at "ev") => `(tactic| (refine' ev_notV ?k1; (case k1 => walk_at "ev")))
local macro_rules | `(tactic| walk_at "ea") => `(tactic| exact ea_nil)
local macro_rules | `(tactic| walk_at "ea") => `(tactic| (refine' ea_cons ?k1 ?k2; (case k1 => walk_at "ev"); (case k2 => walk_at "ea")))
local macro_rules | `(tactic| walk_at "rv") => `(tactic| exact rv_I0)
local macro_rules | `(tactic| walk_at "rv") => `(tactic| exact rv_eqI)
local macro_rules | `(tactic| walk_at "rv") => `(tactic| exact rv_neI)
local macro_rules | `(tactic| walk_at "rv") => `(tactic| exact rv_eqS)
local macro_rules | `(tactic| walk_at "rv") => `(tactic| exact rv_neS)
local macro_rules | `(tactic| walk_at "rv") => `(tactic| exact rv_mod (by decide))
local macro_rules | `(tactic| walk_at "rv") => `(tactic| exact rv_fdiv (by decide) (by decide))
local macro_rules | `(tactic| walk_at "rv") => `(tactic| exact rv_mulR (by decide))
local macro_rules | `(tactic| walk_at "rv") => `(tactic| exact rv_pow (by decide))
local macro_rules | `(tactic| walk_at "rc") => `(tactic| exact rc_int)
local macro_rules | `(tactic| walk_at "rc") => `(tactic| exact rc_ord)
local macro_rules | `(tactic| walk_at "et") => `(tactic| (refine' et_test ?k1; (case k1 => walk_at "ev")))
local macro_rules | `(tactic| walk_at "et") => `(tactic| (refine' et_B ?k1; (case k1 => walk_at "ev")))
local macro_rules | `(tactic| walk_at "et") => `(tactic| (refine' et_not ?k1; (case k1 => walk_at "et")))
local macro_rules | `(tactic| walk_at "et") => `(tactic| (refine' et_or ?k1 (fun _ => ?k2); (case k1 => walk_at "et"); (case k2 => walk_at "et")))
local macro_rules | `(tactic| walk_at "et") => `(tactic| (refine' et_and ?k1 (fun _ => ?k2); (case k1 => walk_at "et"); (case k2 => walk_at "et")))
section
variable {P : Program} {w : World} {K : PySem.W.Frag} {mg : Str → Option Value} {base : Heap}
variable [ProgOk P]
/-! ### spaced listings -/
open PySem.StrLaws in
theorem repl_one (c : Nat) (z l : List Nat) : replL [c] z l = l.flatMap fun x => if x = c then z else [x] := by
  induction l with
  | nil => rw [replL_nil]; rfl
  | cons x t ih =>
    rw [List.flatMap_cons]
    by_cases h : x = c
    · subst h
      rw [replL_hit (by simp) (by simp), if_pos rfl, ← ih]
      rfl
    · rw [replL_miss (by simpa using h), if_neg h, ← ih]
      rfl
def spcN (l : List Nat) : List Nat := l.flatMap fun x => if x = 10 then [32, 10, 32] else [x]
theorem spc_len : ∀ l : List Nat, (spcN l).length ≤ 3 * l.length
  | [] => Nat.le_refl 0
  | x :: t => by
    have := spc_len t
    have e : spcN (x :: t) = (if x = 10 then [32, 10, 32] else [x]) ++ spcN t := rfl
    rw [e, List.length_append, List.length_cons]
    by_cases h : x = 10
    · rw [if_pos h]; show 3 + _ ≤ _; omega
    · rw [if_neg h]; show 1 + _ ≤ _; omega
theorem feed_fw {s : SS} {c : Nat} (hf : s.f = false) (hw : s.w = false) (h : c ≠ 39) : (feedS s (c : Int)).f = false ∧ (feedS s (c : Int)).w = false := by
  unfold feedS
  rw [if_neg (by rw [hf]; exact Bool.false_ne_true)]
  unfold stepS
  rw [if_neg (by omega), if_neg (by rw [hw]; exact Bool.false_ne_true)]
  split
  · exact ⟨hf, hw⟩
  · split
    · unfold signS
      rw [if_neg (by omega)]
      split
      · exact ⟨hf, hw⟩
      · split <;> exact ⟨hf, hw⟩
    · exact ⟨hf, hw⟩
theorem spc_run : ∀ (l : List Nat), (∀ c ∈ l, c ≠ 39) → ∀ s : SS, s.f = false → s.w = false → (toI (spcN l)).foldl feedS s = (toI l).foldl feedS s
  | [], _, _, _, _ => rfl
  | x :: t, h, s, hf, hw => by
    have hx := h x List.mem_cons_self
    have ht := fun c hc => h c (List.mem_cons_of_mem _ hc)
    show (toI ((if x = 10 then [32, 10, 32] else [x]) ++ spcN t)).foldl feedS s = (toI t).foldl feedS (feedS s (x : Int))
    rw [toI_app, List.foldl_append]
    have n := feed_fw hf hw hx
    by_cases e : x = 10
    · subst e
      rw [if_pos rfl]
      have w1 : ∀ {c : Nat}, c ≤ 32 → feedS s (c : Int) = s := fun hc => feed_ws hf hw (by omega) (by omega)
      show (toI (spcN t)).foldl feedS (feedS (feedS (feedS s ((32 : Nat) : Int)) ((10 : Nat) : Int)) ((32 : Nat) : Int)) = _
      rw [w1 (by omega), w1 (by omega), w1 (by omega)]
      exact spc_run t ht s hf hw
    · rw [if_neg e]
      exact spc_run t ht _ n.1 n.2
theorem lineN_39 {r : Row} {e : Int} (h : fitsR r = true) : ∀ c ∈ lineN r e, c ≠ 39 ∧ c < 127 := by
  have hd : ∀ n : Nat, ∀ c ∈ decL n, c ≠ 39 ∧ c < 127 := fun n c hc => by have := dec_all n c hc; omega
  intro c hc
  unfold lineN at hc
  rcases List.mem_append.mp hc with m | m
  · split at m
    · cases m
    · rcases List.mem_append.mp m with m | m
      · exact hd _ c m
      · rw [List.mem_singleton.mp m]; decide
  · split at m
    · rcases List.mem_append.mp m with m | m
      · exact hd _ c m
      · simp only [List.mem_cons, List.not_mem_nil, or_false] at m
        rcases m with rfl | rfl <;> decide
    · rename_i h32
      obtain ⟨_, h1, h2, _⟩ := sign_ch (fits_sign h h32)
      obtain ⟨_, h39, _⟩ := sign_dg (fits_sign h h32)
      rcases List.mem_append.mp m with m | m
      · split at m
        · cases m
        · exact hd _ c m
      · simp only [List.mem_cons, List.not_mem_nil, or_false] at m
        rcases m with rfl | rfl
        · omega
        · decide
theorem listN_39 {rows : List Row} (h : ∀ r ∈ rows, fitsR r = true) : ∀ c ∈ listN rows, c ≠ 39 ∧ c < 127 := by
  intro c hc
  unfold listN linesI at hc
  obtain ⟨l, hl, hcl⟩ := List.mem_flatten.mp hc
  obtain ⟨i, hi, rfl⟩ := List.mem_map.mp hl
  have hi := List.mem_range.mp hi
  refine lineN_39 ?_ c hcl
  rw [List.getD_eq_getElem?_getD, List.getElem?_eq_getElem hi]
  exact h _ (List.getElem_mem _)
theorem listN_len {rows : List Row} (h : ∀ r ∈ rows, fitsR r = true) : (listN rows).length ≤ 130 * rows.length := lines_len2 (Nat.le_refl _) fun r hr => h r (List.mem_of_mem_take hr)
theorem run_spc {rows : List Row} (h : ∀ r ∈ rows, fitsR r = true) : (runS (toI (spcN (listN rows)))).cs = flatR rows := by
  unfold runS
  rw [spc_run _ (fun c hc => (listN_39 h c hc).1) s0 rfl rfl]
  exact run_list h
theorem repl_codes (l : List Nat) : PySem.Txt.replace (strN l) ("\n" : Str) (" \n " : Str) = strN (spcN l) := by
  have h := PySem.StrLaws.replace_list (x := strN l) (y := ("\n" : Str)) (z := (" \n " : Str)) (by decide)
  refine strN_ext ?_
  rw [h, strN_list]
  exact repl_one 10 [32, 10, 32] l
theorem ev_repl {to : TE} {σ : L2.St} {H : Hp} {x y z : Str} (h : Ev to σ H (.str x)) (hl : x.length + (x.length + 1) * z.length ≤ 16777216) : Ev (CwR.tReplC to y z) σ H (.str (PySem.Txt.replace x y z)) := fun H1 e Q q => h H1 e _ fun H2 e2 => ⟨x, rfl, hl, q H2 e2⟩
/-! ### the law -/
def sp_law (K : PySem.W.Frag) : Sp := fun vs H Q _ => ∃ (a : Addr) (ns : List Int), vs = [.ref a] ∧ SqL K H a (ns.map V.int) ∧ ns.length ≤ 63 ∧ ∀ H', Q (.bl true) H'
theorem ok_law (T : Txt K mg) : FnOk P w K mg base CX0 6 T.f_law T.d_law ["script"] (sp_law K) := by
  refine T.F_law.ok sc_law (fun vs H Q E h => ?_) (fun cdv A outer s H vs Q E hr h => ?_)
  · obtain ⟨a, ns, rfl, _⟩ := h
    rfl
  · obtain ⟨a, ns, rfl, hS, hl, k⟩ := h
    refine ⟨_, (pss_cons (ps_set (i := 1) sc_law.nd rfl (Or.inl rfl) (pe_call (ok_law_draws (P := P) T) (hr.mono (by decide)) (by rfl) T.g_law_draws T.F_law_draws.kp T.b_law_draws .nil pass0 (pa_cons (pv 0) pa_nil)))
        (Gd.pss_callI (i := 2) sc_law.nd rfl (Or.inl rfl) (ok_law_image (P := P) T) (hr.mono (by decide)) (by rfl) T.g_law_image T.F_law_image.kp T.b_law_image .nil pass0 (pv 1)
        (psst_cons (PST.of (ps_if (pt_not (pt_val (pe_call (ok_can_list (P := P) T) (hr.mono (by decide)) (by rfl) T.g_can_list T.F_can_list.kp T.b_can_list .nil pass0 (pa_cons (pe_callTy call_list_of (by rfl) T.n_list (by decide +kernel) (pa_cons (pv 2) pa_nil)) pa_nil)))) (pss_one (ps_ret pe_bl)) pss_nil))
        (psst_cons (PST.of (ps_set (i := 3) sc_law.nd rfl (Or.inl rfl) (pe_call (ok_listing (P := P) T) (hr.mono (by decide)) (by rfl) T.g_listing T.F_listing.kp T.b_listing .nil passL (pa_cons (pe_callTy call_list_of (by rfl) T.n_list (by decide +kernel) (pa_cons (pv 2) pa_nil)) pa_nil))))
        (psst_cons (PST.of (ps_if (pt_not (pt_val (pe_callB call_isi (by rfl) T.n_isinstance (by decide +kernel) (pa_cons (pv 3) (pa_cons (pe_bltn (v := .ty "str") (by rfl) T.n_str (by decide +kernel) rfl) pa_nil))))) (pss_one (ps_ret pe_bl)) pss_nil))
        (psst_cons (PST.of (ps_setLc (i := 4) (own := [("char", 5)]) (by rfl) sc_law.nd rfl rfl (sw_true rfl rfl rfl (by decide +kernel)) (pi_str (pv 3)) (blkOk_by (own := [("char", 5)]) (N := N_law) (sc := defScope s_law) (by decide +kernel)) (fun _ _ _ _ _ => pg_name (i := 5) sc_law.nd rfl (Or.inl rfl)) (fun _ _ _ _ _ => pts_nil) (fun _ _ _ _ _ => (pe_callB call_ord (by rfl) T.n_ord (by decide +kernel) (pa_cons (pv 5) pa_nil)))))
        (psst_cons (PST.of (ps_set (i := 6) sc_law.nd rfl (Or.inl rfl) (pe_call (ok_translate_short (P := P) T) (hr.mono (by decide)) (by rfl) T.g_translate_short T.F_translate_short.kp T.b_translate_short .nil pass0 (pa_cons (pv 4) pa_nil))))
        (psst_cons (PST.of (ps_if (PW.pt (pw_or (pt_not (pt_val (pe_call (ok_law_is_cells (P := P) T) (hr.mono (by decide)) (by rfl) T.g_law_is_cells T.F_law_is_cells.kp T.b_law_is_cells .nil pass0 (pa_cons (pv 6) pa_nil)))) (pw_or1 (pt_cmpR (op_neD hr.units) (pv 6) (pv 2) (nomark _))))) (pss_one (ps_ret pe_bl)) pss_nil))
        (psst_cons (Gd.pst_setLcX (i := 7) takes0 rfl rfl (own := [("char", 5)]) (by rfl) sc_law.nd rfl rfl (sw_true rfl rfl rfl (by decide +kernel)) (Gd.pit_strT (CwR.pet_replC (pv 3))) (blkOk_by (own := [("char", 5)]) (N := N_law) (sc := defScope s_law) (by decide +kernel)) (fun _ _ _ _ _ => pg_name (i := 5) sc_law.nd rfl (Or.inl rfl)) (fun _ _ _ _ _ => pts_nil) (fun _ _ _ _ _ pn xe tk => (pe_callB call_ord (by rfl) T.n_ord (by decide +kernel) (pa_cons (pv 5) pa_nil))))
        (PSsT.of (pss_cons (ps_if (pt_cmpR (op_neD hr.units) (pe_call (ok_translate_short (P := P) T) (hr.mono (by decide)) (by rfl) T.g_translate_short T.F_translate_short.kp T.b_translate_short .nil pass0 (pa_cons (pv 7) pa_nil)) (pv 2) (nomark _)) (pss_one (ps_ret pe_bl)) pss_nil)
        (pss_one (ps_ret (pe_cmpR op_eq (pe_call (ok_listing (P := P) T) (hr.mono (by decide)) (by rfl) T.g_listing T.F_listing.kp T.b_listing .nil passL (pa_cons (pv 6) pa_nil)) (pv 3) (nomark _))))))))))))))), ?_⟩
    refine ⟨_, rfl, a, ns, rfl, hS, hl, fun p H1 hp e1 hD1 => ?_⟩
    refine ⟨_, rfl, p, 14, rfl, by decide, hD1, fun v H2 hv => ?_⟩
    obtain ⟨l, rows, rfl, hlp, hA, hlen, hall⟩ := hv
    have hfl := flat_len rows
    have hm := flat_fit hall
    have hll := listN_len hall
    refine q_when (b := false) (et_is (et_not (et_B (ev_callL (xs := (flatR rows).map V.int) (el_list (ev_var rfl) (sq_of hA)) (fun q G hq _ => v_can_list (im := flatR rows) (sq_of hq) (by omega))))) (by rw [hm]; rfl)) (fun hb => nomatch hb) (fun _ H3 e3 => ?_)
    have hA3 := e3 _ _ hA
    refine q_asg (v := .str (strN (listN rows))) (ev_is (ev_callL (xs := (flatR rows).map V.int) (el_list (ev_var rfl) (sq_of hA3)) (fun q G hq _ => v_listing (im := flatR rows) (sq_of hq) (by omega) hm)) (by rw [rows_flat])) (fun H4 e4 => ?_)
    have hA4 := e4 _ _ hA3
    refine q_when (b := false) (et_is (et_not (et_B (ev_cb (ea_cons (ev_var rfl) (ea_cons ev_c ea_nil)) rc_isStr))) rfl) (fun hb => nomatch hb) (fun _ H5 e5 => ?_)
    have hA5 := e5 _ _ hA4
    refine q_asgL (el_mapS (z := strN (listN rows)) ordV (ev_var rfl) (by
      show (strN _).length ≤ 90000
      rw [strN_len]
      omega) (fun _ => rfl) (fun c _ H2 _ => ev_cb (ea_cons (ev_var rfl) ea_nil) rc_ord)) (fun q H6 nq e6 hq => ?_)
    rw [codes_of_str, strN_list] at hq
    have hA6 := e6 _ _ hA5
    refine q_asgL (xs := (flatR rows).map V.int) (el_call (ea_cons (ev_var rfl) ea_nil) (by
      have := l_translate_short (K := K) hq (by unfold toI; rw [List.length_map]; omega)
      rw [run_list hall] at this
      exact this)) (fun r H7 nr e7 hr => ?_)
    have hA7 := e7 _ _ hA6
    refine q_when (b := false) (et_is (et_or (a := false) (b := false) (et_is (et_not (et_B (ev_call (ea_cons (ev_var rfl) ea_nil) (v_law_is_cells hr)))) rfl) (fun _ => et_is (et_test (ev_op (ev_var rfl) (ev_var rfl) (rv_neL (sq_of hr) (sq_of hA7)))) (by rw [decide_eq_true rfl]; rfl))) rfl) (fun hb => nomatch hb) (fun _ H8 e8 => ?_)
    have hA8 := e8 _ _ hA7
    have hr8 := e8 _ _ hr
    have hsl := spc_len (listN rows)
    refine q_asgL (el_mapS (z := strN (spcN (listN rows))) ordV (by
      rw [← repl_codes]
      exact ev_repl (ev_var rfl) (by show _ + _ * 3 ≤ _; rw [strN_len]; omega)) (by
      show (strN _).length ≤ 90000
      rw [strN_len]
      omega) (fun _ => rfl) (fun c _ H2 _ => ev_cb (ea_cons (ev_var rfl) ea_nil) rc_ord)) (fun w H9 nw e9 hw => ?_)
    rw [codes_of_str, strN_list] at hw
    have hA9 := e9 _ _ hA8
    have hr9 := e9 _ _ hr8
    refine q_when (b := false) (et_is (et_test (ev_opL1 (xs := (flatR rows).map V.int) (el_call (ea_cons (ev_var rfl) ea_nil) (by
      have := l_translate_short (K := K) hw (by unfold toI; rw [List.length_map]; omega)
      rw [run_spc hall] at this
      exact this)) (fun G e => ev_var rfl) (fun z G hz e => rv_neL (sq_of hz) (sq_of (e _ _ hA9))))) (by rw [decide_eq_true rfl]; rfl)) (fun hb => nomatch hb) (fun _ Ha ea => ?_)
    refine s_ret (v := .bl true) (ev_is (ev_op (ev_is (ev_call (ea_cons (ev_var rfl) ea_nil) (v_listing (C := T.C_NotListable) (im := flatR rows) (sq_of (ea _ _ hr9)) (by omega) hm)) (by rw [rows_flat])) (ev_var rfl) rv_eqS) (by rw [decide_eq_true rfl])) (fun Hb eb => k Hb)
theorem law_at (K : PySem.W.Frag) (H : Hp) (a : Addr) (ns : List Int) (hl : ns.length ≤ 63) (hO : Only H) (hS : SqL K H a (ns.map V.int)) : sp_law K [.ref a] H (fun v _ => v = .bl true) fun _ _ _ => False := ⟨a, ns, rfl, hS, hl, fun _ => rfl⟩


end
end K19

set_option Elab.async false
set_option linter.all false
set_option maxRecDepth 100000
set_option maxHeartbeats 4000000
set_option exponentiation.threshold 600
namespace K19
open PySem PySem.Spec PyProof.Rows L2 Evl Gd
open PySem.NumText (AllDigits digitsVal)
/-! ### the head's facts -/
theorem mk_txt {K : PySem.W.Frag} {h : Heap} {mg : Str → Option Value} {p1 p2 p3 p4 p5 p6 p7 p8 p9 p10 p11 p12 p13 p14 p15 p16 p17 p18 p19 p20 p21 p22 p23 p24 p25 p26 p27 p28 p29 p30 p31 p32 p33 C_PlinthError C_NotText C_NotNumeral C_NotListable fI_NotListable cc_NotListable cda_NotListable C_ShortReader D_NOT_IN_LISTINGS : Addr} (X : K.In h) (G : h.Ns mainGlobals mg)
    {t_COLON t_NEWLINE t_NOP t_PUSH t_QUOTE t_SPACE t_FROM_AMPERSAND t_FROM_SPACE t_GREATER : Tok}
    {od1 an1 od2 an2 od3 an3 od4 an4 od5 an5 od6 an6 od7 an7 od8 an8 od9 an9 od10 an10 od11 an11 od12 an12 od13 an13 od14 an14 od15 an15 od16 an16 od17 an17 od18 an18 od19 an19 od20 an20 od21 an21 od22 an22 od23 an23 od24 an24 od25 an25 od26 an26 od27 an27 od28 an28 od29 an29 od30 an30 od31 an31 od32 an32 od33 an33 : Option Addr} {sl1 sl2 sl3 sl4 sl5 sl6 sl7 sl8 sl9 sl10 sl11 sl12 sl13 sl14 sl15 sl16 sl17 sl18 sl19 sl20 sl21 sl22 sl23 sl24 sl25 sl26 sl27 sl28 sl29 sl30 sl31 sl32 sl33 : Array (Option Value)}
    {xoc_NotListable xct_NotListable xkV_NotListable xdoc_NotListable xpm_NotListable xccl_NotListable xcl_NotListable : Value} {xod_NotListable xan_NotListable xcdd_NotListable xcld_NotListable : Option Addr} {xosl_NotListable xccs_NotListable xcsl_NotListable : Array (Option Value)} {xvs_NotListable : Array Value} {xtf_NotListable : Tok}
    {xnm_NotListable xq_NotListable : Str} {xN_NotListable : Addr} {xbs_NotListable xbm_NotListable xsub_NotListable : List Value} {xsn_NotListable : List Str} {xab_NotListable : Bool} {xcol_NotListable : Option Bool} {xdd_NotListable : Option Addr} {xk0_NotListable xk1_NotListable xk2_NotListable xk3_NotListable xk5_NotListable : Option Value}
    {odNOT_IN_LISTINGS : Option Addr} {itNOT_IN_LISTINGS : Array Value} {nnNOT_IN_LISTINGS : Nat} {slNOT_IN_LISTINGS : Array (Option Value)}
    {oc1 kV1 dc1 pm1 cd1 ct1 oc2 kV2 dc2 pm2 cd2 ct2 oc3 kV3 dc3 pm3 cd3 ct3 oc4 kV4 dc4 pm4 cd4 ct4 oc5 kV5 dc5 pm5 cd5 ct5 oc6 kV6 dc6 pm6 cd6 ct6 oc7 kV7 dc7 pm7 cd7 ct7 oc8 kV8 dc8 pm8 cd8 ct8 oc9 kV9 dc9 pm9 cd9 ct9 oc10 kV10 dc10 pm10 cd10 ct10 oc11 kV11 dc11 pm11 cd11 ct11 oc12 kV12 dc12 pm12 cd12 ct12 oc13 kV13 dc13 pm13 cd13 ct13 oc14 kV14 dc14 pm14 cd14 ct14 oc15 kV15 dc15 pm15 cd15 ct15 oc16 kV16 dc16 pm16 cd16 ct16 oc17 kV17 dc17 pm17 cd17 ct17 oc18 kV18 dc18 pm18 cd18 ct18 oc19 kV19 dc19 pm19 cd19 ct19 oc20 kV20 dc20 pm20 cd20 ct20 oc21 kV21 dc21 pm21 cd21 ct21 oc22 kV22 dc22 pm22 cd22 ct22 oc23 kV23 dc23 pm23 cd23 ct23 oc24 kV24 dc24 pm24 cd24 ct24 oc25 kV25 dc25 pm25 cd25 ct25 oc26 kV26 dc26 pm26 cd26 ct26 oc27 kV27 dc27 pm27 cd27 ct27 oc28 kV28 dc28 pm28 cd28 ct28 oc29 kV29 dc29 pm29 cd29 ct29 oc30 kV30 dc30 pm30 cd30 ct30 oc31 kV31 dc31 pm31 cd31 ct31 oc32 kV32 dc32 pm32 cd32 ct32 oc33 kV33 dc33 pm33 cd33 ct33 : Value}
    (g_ShortReader : PySem.W.nsIn K mainGlobals "ShortReader" = some (some (.ref C_ShortReader)))
    (a1 : PySem.W.nsIn K mainGlobals "nodes_of" = some (some (.ref p1)))
    (l1 : K.lookup p1 = some ⟨oc1, od1, .func (PySem.W.fnOf "nodes_of" "nodes_of" (defArgs s_nodes_of) (defBody s_nodes_of) (defScope s_nodes_of) .none kV1 dc1 pm1 an1 cd1 ct1), sl1⟩)
    (c1 : PySem.W.codeIn K cd1 "nodes_of" = true)
    (k1 : PySem.W.keepIn K (.ref p1) = true)
    (a2 : PySem.W.nsIn K mainGlobals "is_character" = some (some (.ref p2)))
    (l2 : K.lookup p2 = some ⟨oc2, od2, .func (PySem.W.fnOf "is_character" "is_character" (defArgs s_is_character) (defBody s_is_character) (defScope s_is_character) .none kV2 dc2 pm2 an2 cd2 ct2), sl2⟩)
    (c2 : PySem.W.codeIn K cd2 "is_character" = true)
    (k2 : PySem.W.keepIn K (.ref p2) = true)
    (a3 : PySem.W.nsIn K mainGlobals "is_digit" = some (some (.ref p3)))
    (l3 : K.lookup p3 = some ⟨oc3, od3, .func (PySem.W.fnOf "is_digit" "is_digit" (defArgs s_is_digit) (defBody s_is_digit) (defScope s_is_digit) .none kV3 dc3 pm3 an3 cd3 ct3), sl3⟩)
    (c3 : PySem.W.codeIn K cd3 "is_digit" = true)
    (k3 : PySem.W.keepIn K (.ref p3) = true)
    (a4 : PySem.W.nsIn K mainGlobals "with_digit" = some (some (.ref p4)))
    (l4 : K.lookup p4 = some ⟨oc4, od4, .func (PySem.W.fnOf "with_digit" "with_digit" (defArgs s_with_digit) (defBody s_with_digit) (defScope s_with_digit) .none kV4 dc4 pm4 an4 cd4 ct4), sl4⟩)
    (c4 : PySem.W.codeIn K cd4 "with_digit" = true)
    (k4 : PySem.W.keepIn K (.ref p4) = true)
    (a5 : PySem.W.nsIn K mainGlobals "_character" = some (some (.ref p5)))
    (l5 : K.lookup p5 = some ⟨oc5, od5, .func (PySem.W.fnOf "_character" "_character" (defArgs s_character) (defBody s_character) (defScope s_character) .none kV5 dc5 pm5 an5 cd5 ct5), sl5⟩)
    (c5 : PySem.W.codeIn K cd5 "_character" = true)
    (k5 : PySem.W.keepIn K (.ref p5) = true)
    (a6 : PySem.W.nsIn K mainGlobals "text_of" = some (some (.ref p6)))
    (l6 : K.lookup p6 = some ⟨oc6, od6, .func (PySem.W.fnOf "text_of" "text_of" (defArgs s_text_of) (defBody s_text_of) (defScope s_text_of) .none kV6 dc6 pm6 an6 cd6 ct6), sl6⟩)
    (c6 : PySem.W.codeIn K cd6 "text_of" = true)
    (k6 : PySem.W.keepIn K (.ref p6) = true)
    (a7 : PySem.W.nsIn K mainGlobals "has_numeral" = some (some (.ref p7)))
    (l7 : K.lookup p7 = some ⟨oc7, od7, .func (PySem.W.fnOf "has_numeral" "has_numeral" (defArgs s_has_numeral) (defBody s_has_numeral) (defScope s_has_numeral) .none kV7 dc7 pm7 an7 cd7 ct7), sl7⟩)
    (c7 : PySem.W.codeIn K cd7 "has_numeral" = true)
    (k7 : PySem.W.keepIn K (.ref p7) = true)
    (a8 : PySem.W.nsIn K mainGlobals "numeral" = some (some (.ref p8)))
    (l8 : K.lookup p8 = some ⟨oc8, od8, .func (PySem.W.fnOf "numeral" "numeral" (defArgs s_numeral) (defBody s_numeral) (defScope s_numeral) .none kV8 dc8 pm8 an8 cd8 ct8), sl8⟩)
    (c8 : PySem.W.codeIn K cd8 "numeral" = true)
    (k8 : PySem.W.keepIn K (.ref p8) = true)
    (a9 : PySem.W.nsIn K mainGlobals "_is_listed_number" = some (some (.ref p9)))
    (l9 : K.lookup p9 = some ⟨oc9, od9, .func (PySem.W.fnOf "_is_listed_number" "_is_listed_number" (defArgs s_is_listed_number) (defBody s_is_listed_number) (defScope s_is_listed_number) .none kV9 dc9 pm9 an9 cd9 ct9), sl9⟩)
    (c9 : PySem.W.codeIn K cd9 "_is_listed_number" = true)
    (k9 : PySem.W.keepIn K (.ref p9) = true)
    (a10 : PySem.W.nsIn K mainGlobals "_is_listed_sign" = some (some (.ref p10)))
    (l10 : K.lookup p10 = some ⟨oc10, od10, .func (PySem.W.fnOf "_is_listed_sign" "_is_listed_sign" (defArgs s_is_listed_sign) (defBody s_is_listed_sign) (defScope s_is_listed_sign) .none kV10 dc10 pm10 an10 cd10 ct10), sl10⟩)
    (c10 : PySem.W.codeIn K cd10 "_is_listed_sign" = true)
    (k10 : PySem.W.keepIn K (.ref p10) = true)
    (a11 : PySem.W.nsIn K mainGlobals "_fits" = some (some (.ref p11)))
    (l11 : K.lookup p11 = some ⟨oc11, od11, .func (PySem.W.fnOf "_fits" "_fits" (defArgs s_fits) (defBody s_fits) (defScope s_fits) .none kV11 dc11 pm11 an11 cd11 ct11), sl11⟩)
    (c11 : PySem.W.codeIn K cd11 "_fits" = true)
    (k11 : PySem.W.keepIn K (.ref p11) = true)
    (a12 : PySem.W.nsIn K mainGlobals "_misfit" = some (some (.ref p12)))
    (l12 : K.lookup p12 = some ⟨oc12, od12, .func (PySem.W.fnOf "_misfit" "_misfit" (defArgs s_misfit) (defBody s_misfit) (defScope s_misfit) .none kV12 dc12 pm12 an12 cd12 ct12), sl12⟩)
    (c12 : PySem.W.codeIn K cd12 "_misfit" = true)
    (k12 : PySem.W.keepIn K (.ref p12) = true)
    (a13 : PySem.W.nsIn K mainGlobals "can_list" = some (some (.ref p13)))
    (l13 : K.lookup p13 = some ⟨oc13, od13, .func (PySem.W.fnOf "can_list" "can_list" (defArgs s_can_list) (defBody s_can_list) (defScope s_can_list) .none kV13 dc13 pm13 an13 cd13 ct13), sl13⟩)
    (c13 : PySem.W.codeIn K cd13 "can_list" = true)
    (k13 : PySem.W.keepIn K (.ref p13) = true)
    (a14 : PySem.W.nsIn K mainGlobals "_line" = some (some (.ref p14)))
    (l14 : K.lookup p14 = some ⟨oc14, od14, .func (PySem.W.fnOf "_line" "_line" (defArgs s_line) (defBody s_line) (defScope s_line) .none kV14 dc14 pm14 an14 cd14 ct14), sl14⟩)
    (c14 : PySem.W.codeIn K cd14 "_line" = true)
    (k14 : PySem.W.keepIn K (.ref p14) = true)
    (a15 : PySem.W.nsIn K mainGlobals "listing" = some (some (.ref p15)))
    (l15 : K.lookup p15 = some ⟨oc15, od15, .func (PySem.W.fnOf "listing" "listing" (defArgs s_listing) (defBody s_listing) (defScope s_listing) .none kV15 dc15 pm15 an15 cd15 ct15), sl15⟩)
    (c15 : PySem.W.codeIn K cd15 "listing" = true)
    (k15 : PySem.W.keepIn K (.ref p15) = true)
    (a16 : PySem.W.findIn K (.ref C_ShortReader) "__init__" = some (some (.ref p16)))
    (i16 : PySem.W.isFn K (.ref p16) = true)
    (l16 : K.lookup p16 = some ⟨oc16, od16, .func (PySem.W.fnOf "__init__" "ShortReader.__init__" (defArgs s_ShortReader_init) (defBody s_ShortReader_init) (defScope s_ShortReader_init) .none kV16 dc16 pm16 an16 cd16 ct16), sl16⟩)
    (c16 : PySem.W.codeIn K cd16 "ShortReader.__init__" = true)
    (k16 : PySem.W.keepIn K (.ref p16) = true)
    (a17 : PySem.W.findIn K (.ref C_ShortReader) "feed" = some (some (.ref p17)))
    (i17 : PySem.W.isFn K (.ref p17) = true)
    (l17 : K.lookup p17 = some ⟨oc17, od17, .func (PySem.W.fnOf "feed" "ShortReader.feed" (defArgs s_ShortReader_feed) (defBody s_ShortReader_feed) (defScope s_ShortReader_feed) .none kV17 dc17 pm17 an17 cd17 ct17), sl17⟩)
    (c17 : PySem.W.codeIn K cd17 "ShortReader.feed" = true)
    (k17 : PySem.W.keepIn K (.ref p17) = true)
    (a18 : PySem.W.findIn K (.ref C_ShortReader) "image" = some (some (.ref p18)))
    (i18 : PySem.W.isFn K (.ref p18) = true)
    (l18 : K.lookup p18 = some ⟨oc18, od18, .func (PySem.W.fnOf "image" "ShortReader.image" (defArgs s_ShortReader_image) (defBody s_ShortReader_image) (defScope s_ShortReader_image) .none kV18 dc18 pm18 an18 cd18 ct18), sl18⟩)
    (c18 : PySem.W.codeIn K cd18 "ShortReader.image" = true)
    (k18 : PySem.W.keepIn K (.ref p18) = true)
    (a19 : PySem.W.findIn K (.ref C_ShortReader) "_take" = some (some (.ref p19)))
    (i19 : PySem.W.isFn K (.ref p19) = true)
    (l19 : K.lookup p19 = some ⟨oc19, od19, .func (PySem.W.fnOf "_take" "ShortReader._take" (defArgs s_ShortReader_take) (defBody s_ShortReader_take) (defScope s_ShortReader_take) .none kV19 dc19 pm19 an19 cd19 ct19), sl19⟩)
    (c19 : PySem.W.codeIn K cd19 "ShortReader._take" = true)
    (k19 : PySem.W.keepIn K (.ref p19) = true)
    (a20 : PySem.W.findIn K (.ref C_ShortReader) "_take_sign" = some (some (.ref p20)))
    (i20 : PySem.W.isFn K (.ref p20) = true)
    (l20 : K.lookup p20 = some ⟨oc20, od20, .func (PySem.W.fnOf "_take_sign" "ShortReader._take_sign" (defArgs s_ShortReader_take_sign) (defBody s_ShortReader_take_sign) (defScope s_ShortReader_take_sign) .none kV20 dc20 pm20 an20 cd20 ct20), sl20⟩)
    (c20 : PySem.W.codeIn K cd20 "ShortReader._take_sign" = true)
    (k20 : PySem.W.keepIn K (.ref p20) = true)
    (a21 : PySem.W.findIn K (.ref C_ShortReader) "_emit" = some (some (.ref p21)))
    (i21 : PySem.W.isFn K (.ref p21) = true)
    (l21 : K.lookup p21 = some ⟨oc21, od21, .func (PySem.W.fnOf "_emit" "ShortReader._emit" (defArgs s_ShortReader_emit) (defBody s_ShortReader_emit) (defScope s_ShortReader_emit) .none kV21 dc21 pm21 an21 cd21 ct21), sl21⟩)
    (c21 : PySem.W.codeIn K cd21 "ShortReader._emit" = true)
    (k21 : PySem.W.keepIn K (.ref p21) = true)
    (a22 : PySem.W.nsIn K mainGlobals "translate_short" = some (some (.ref p22)))
    (l22 : K.lookup p22 = some ⟨oc22, od22, .func (PySem.W.fnOf "translate_short" "translate_short" (defArgs s_translate_short) (defBody s_translate_short) (defScope s_translate_short) .none kV22 dc22 pm22 an22 cd22 ct22), sl22⟩)
    (c22 : PySem.W.codeIn K cd22 "translate_short" = true)
    (k22 : PySem.W.keepIn K (.ref p22) = true)
    (a23 : PySem.W.nsIn K mainGlobals "_law_number" = some (some (.ref p23)))
    (l23 : K.lookup p23 = some ⟨oc23, od23, .func (PySem.W.fnOf "_law_number" "_law_number" (defArgs s_law_number) (defBody s_law_number) (defScope s_law_number) .none kV23 dc23 pm23 an23 cd23 ct23), sl23⟩)
    (c23 : PySem.W.codeIn K cd23 "_law_number" = true)
    (k23 : PySem.W.keepIn K (.ref p23) = true)
    (a24 : PySem.W.nsIn K mainGlobals "_law_draws" = some (some (.ref p24)))
    (l24 : K.lookup p24 = some ⟨oc24, od24, .func (PySem.W.fnOf "_law_draws" "_law_draws" (defArgs s_law_draws) (defBody s_law_draws) (defScope s_law_draws) .none kV24 dc24 pm24 an24 cd24 ct24), sl24⟩)
    (c24 : PySem.W.codeIn K cd24 "_law_draws" = true)
    (k24 : PySem.W.keepIn K (.ref p24) = true)
    (a25 : PySem.W.nsIn K mainGlobals "_law_draw" = some (some (.ref p25)))
    (l25 : K.lookup p25 = some ⟨oc25, od25, .func (PySem.W.fnOf "_law_draw" "_law_draw" (defArgs s_law_draw) (defBody s_law_draw) (defScope s_law_draw) .none kV25 dc25 pm25 an25 cd25 ct25), sl25⟩)
    (c25 : PySem.W.codeIn K cd25 "_law_draw" = true)
    (k25 : PySem.W.keepIn K (.ref p25) = true)
    (a26 : PySem.W.nsIn K mainGlobals "_law_pick" = some (some (.ref p26)))
    (l26 : K.lookup p26 = some ⟨oc26, od26, .func (PySem.W.fnOf "_law_pick" "_law_pick" (defArgs s_law_pick) (defBody s_law_pick) (defScope s_law_pick) .none kV26 dc26 pm26 an26 cd26 ct26), sl26⟩)
    (c26 : PySem.W.codeIn K cd26 "_law_pick" = true)
    (k26 : PySem.W.keepIn K (.ref p26) = true)
    (a27 : PySem.W.nsIn K mainGlobals "_law_is_integer" = some (some (.ref p27)))
    (l27 : K.lookup p27 = some ⟨oc27, od27, .func (PySem.W.fnOf "_law_is_integer" "_law_is_integer" (defArgs s_law_is_integer) (defBody s_law_is_integer) (defScope s_law_is_integer) .none kV27 dc27 pm27 an27 cd27 ct27), sl27⟩)
    (c27 : PySem.W.codeIn K cd27 "_law_is_integer" = true)
    (k27 : PySem.W.keepIn K (.ref p27) = true)
    (a28 : PySem.W.nsIn K mainGlobals "_law_is_cells" = some (some (.ref p28)))
    (l28 : K.lookup p28 = some ⟨oc28, od28, .func (PySem.W.fnOf "_law_is_cells" "_law_is_cells" (defArgs s_law_is_cells) (defBody s_law_is_cells) (defScope s_law_is_cells) .none kV28 dc28 pm28 an28 cd28 ct28), sl28⟩)
    (c28 : PySem.W.codeIn K cd28 "_law_is_cells" = true)
    (k28 : PySem.W.keepIn K (.ref p28) = true)
    (a29 : PySem.W.nsIn K mainGlobals "_law_sign" = some (some (.ref p29)))
    (l29 : K.lookup p29 = some ⟨oc29, od29, .func (PySem.W.fnOf "_law_sign" "_law_sign" (defArgs s_law_sign) (defBody s_law_sign) (defScope s_law_sign) .none kV29 dc29 pm29 an29 cd29 ct29), sl29⟩)
    (c29 : PySem.W.codeIn K cd29 "_law_sign" = true)
    (k29 : PySem.W.keepIn K (.ref p29) = true)
    (a30 : PySem.W.nsIn K mainGlobals "_law_value" = some (some (.ref p30)))
    (l30 : K.lookup p30 = some ⟨oc30, od30, .func (PySem.W.fnOf "_law_value" "_law_value" (defArgs s_law_value) (defBody s_law_value) (defScope s_law_value) .none kV30 dc30 pm30 an30 cd30 ct30), sl30⟩)
    (c30 : PySem.W.codeIn K cd30 "_law_value" = true)
    (k30 : PySem.W.keepIn K (.ref p30) = true)
    (a31 : PySem.W.nsIn K mainGlobals "_law_node" = some (some (.ref p31)))
    (l31 : K.lookup p31 = some ⟨oc31, od31, .func (PySem.W.fnOf "_law_node" "_law_node" (defArgs s_law_node) (defBody s_law_node) (defScope s_law_node) .none kV31 dc31 pm31 an31 cd31 ct31), sl31⟩)
    (c31 : PySem.W.codeIn K cd31 "_law_node" = true)
    (k31 : PySem.W.keepIn K (.ref p31) = true)
    (a32 : PySem.W.nsIn K mainGlobals "_law_image" = some (some (.ref p32)))
    (l32 : K.lookup p32 = some ⟨oc32, od32, .func (PySem.W.fnOf "_law_image" "_law_image" (defArgs s_law_image) (defBody s_law_image) (defScope s_law_image) .none kV32 dc32 pm32 an32 cd32 ct32), sl32⟩)
    (c32 : PySem.W.codeIn K cd32 "_law_image" = true)
    (k32 : PySem.W.keepIn K (.ref p32) = true)
    (a33 : PySem.W.nsIn K mainGlobals "law" = some (some (.ref p33)))
    (l33 : K.lookup p33 = some ⟨oc33, od33, .func (PySem.W.fnOf "law" "law" (defArgs s_law) (defBody s_law) (defScope s_law) .none kV33 dc33 pm33 an33 cd33 ct33), sl33⟩)
    (c33 : PySem.W.codeIn K cd33 "law" = true)
    (k33 : PySem.W.keepIn K (.ref p33) = true)
    (g_PlinthError : PySem.W.nsIn K mainGlobals "PlinthError" = some (some (.ref C_PlinthError)))
    (k_PlinthError : PySem.W.keepIn K (.ref C_PlinthError) = true)
    (x_PlinthError : PySem.W.excIn K C_PlinthError [.type "ValueError", .type "Exception", .type "BaseException", .type "object"] "ValueError.__new__" = true)
    (b_PlinthError : PySem.W.subIn K (.ref C_PlinthError) (.type "BaseException") = some true)
    (t_PlinthError : PySem.W.typeIn K (.ref C_PlinthError) = some (.type "type"))
    (hd_PlinthError : PySem.W.hasDictIn K C_PlinthError = true)
    (s_PlinthError : PySem.W.subIn K (.ref C_PlinthError) (.ref C_PlinthError) = some true)
    (i_PlinthError : PySem.W.isClsIn K C_PlinthError = true)
    (g_NotText : PySem.W.nsIn K mainGlobals "NotText" = some (some (.ref C_NotText)))
    (k_NotText : PySem.W.keepIn K (.ref C_NotText) = true)
    (x_NotText : PySem.W.excIn K C_NotText [.type "ValueError", .type "Exception", .type "BaseException", .type "object"] "ValueError.__new__" = true)
    (b_NotText : PySem.W.subIn K (.ref C_NotText) (.type "BaseException") = some true)
    (t_NotText : PySem.W.typeIn K (.ref C_NotText) = some (.type "type"))
    (hd_NotText : PySem.W.hasDictIn K C_NotText = true)
    (s_NotText : PySem.W.subIn K (.ref C_NotText) (.ref C_NotText) = some true)
    (i_NotText : PySem.W.isClsIn K C_NotText = true)
    (g_NotNumeral : PySem.W.nsIn K mainGlobals "NotNumeral" = some (some (.ref C_NotNumeral)))
    (k_NotNumeral : PySem.W.keepIn K (.ref C_NotNumeral) = true)
    (x_NotNumeral : PySem.W.excIn K C_NotNumeral [.type "ValueError", .type "Exception", .type "BaseException", .type "object"] "ValueError.__new__" = true)
    (b_NotNumeral : PySem.W.subIn K (.ref C_NotNumeral) (.type "BaseException") = some true)
    (t_NotNumeral : PySem.W.typeIn K (.ref C_NotNumeral) = some (.type "type"))
    (hd_NotNumeral : PySem.W.hasDictIn K C_NotNumeral = true)
    (s_NotNumeral : PySem.W.subIn K (.ref C_NotNumeral) (.ref C_NotNumeral) = some true)
    (i_NotNumeral : PySem.W.isClsIn K C_NotNumeral = true)
    (g_NotListable : PySem.W.nsIn K mainGlobals "NotListable" = some (some (.ref C_NotListable)))
    (k_NotListable : PySem.W.keepIn K (.ref C_NotListable) = true)
    (xi_NotListable : PySem.W.findIn K (.ref C_NotListable) "__init__" = some (some (.ref fI_NotListable)))
    (xl_NotListable : K.lookup fI_NotListable = some ⟨xoc_NotListable, xod_NotListable, .func (PySem.W.ksFn "__init__" "NotListable.__init__" (defArgs sI_NotListable) (defBody sI_NotListable) (defScope sI_NotListable) .none xkV_NotListable xdoc_NotListable xpm_NotListable xan_NotListable (.ref cda_NotListable) xct_NotListable cc_NotListable), xosl_NotListable⟩)
    (xc_NotListable : K.lookup cda_NotListable = some ⟨xccl_NotListable, xcdd_NotListable, .fields xvs_NotListable, xccs_NotListable⟩)
    (xv_NotListable : xvs_NotListable[2]? = some (.str "/claim/cut.py" xtf_NotListable))
    (xe_NotListable : K.lookup cc_NotListable = some ⟨xcl_NotListable, xcld_NotListable, .cell (some (.ref C_NotListable)), xcsl_NotListable⟩)
    (xd_NotListable : PySem.W.codeIn K (.ref cda_NotListable) "NotListable.__init__" = true)
    (xp_NotListable : PySem.W.keepIn K (.ref fI_NotListable) = true)
    (xm_NotListable : PySem.W.mroIn K C_NotListable (.ref C_NotListable) = some true)
    (xs_NotListable : PySem.W.ks_superIn K C_NotListable C_NotListable "__init__" = some (some (.builtin "ValueError.__init__")))
    (xu_NotListable : PySem.W.subIn K (.ref C_NotListable) (.type "ValueError") = some true)
    (xo_NotListable : PySem.W.nsIn K cStatics "thirdparty.any" = some none)
    (xk_NotListable : K.lookup C_NotListable = some (excClassObj xnm_NotListable xq_NotListable C_NotListable xN_NotListable xbs_NotListable xbm_NotListable true xsn_NotListable xsub_NotListable xab_NotListable xcol_NotListable xdd_NotListable xk0_NotListable xk1_NotListable xk2_NotListable xk3_NotListable xk5_NotListable "ValueError.__new__"))
    (xr_NotListable : PySem.HandSPX.refsVE xbm_NotListable = true)
    (xa_NotListable : PySem.W.findIn K (.ref C_NotListable) "__setattr__" = some (some (.builtin "object.__setattr__")))
    (xt_NotListable : PySem.W.typeIn K (.ref fI_NotListable) = some (.type "function"))
    (xn_NotListable : PySem.W.findIn K (.ref C_NotListable) "at" = some none)
    (b_NotListable : PySem.W.subIn K (.ref C_NotListable) (.type "BaseException") = some true)
    (t_NotListable : PySem.W.typeIn K (.ref C_NotListable) = some (.type "type"))
    (hd_NotListable : PySem.W.hasDictIn K C_NotListable = true)
    (s_NotListable : PySem.W.subIn K (.ref C_NotListable) (.ref C_NotListable) = some true)
    (i_NotListable : PySem.W.isClsIn K C_NotListable = true)
    (pg_ShortReader : PySem.W.plainGet K C_ShortReader Str.empty = true)
    (hd_ShortReader : PySem.W.hasDictIn K C_ShortReader = true)
    (po_ShortReader : PySem.W.plainOver K C_ShortReader = true)
    (sa_ShortReader : PySem.W.findIn K (.ref C_ShortReader) "__setattr__" = some (some (.builtin "object.__setattr__")))
    (mk_ShortReader : PySem.W.makesIn K C_ShortReader = true)
    (kc_ShortReader : PySem.W.keepIn K (.ref C_ShortReader) = true)
    (na_ShortReader_m : PySem.W.findIn K (.ref C_ShortReader) "m" = some none)
    (na_ShortReader_r : PySem.W.findIn K (.ref C_ShortReader) "r" = some none)
    (na_ShortReader_waiting : PySem.W.findIn K (.ref C_ShortReader) "waiting" = some none)
    (na_ShortReader_finished : PySem.W.findIn K (.ref C_ShortReader) "finished" = some none)
    (na_ShortReader_cells : PySem.W.findIn K (.ref C_ShortReader) "_cells" = some none)
    (g_NOT_IN_LISTINGS : PySem.W.nsIn K mainGlobals "_NOT_IN_LISTINGS" = some (some (.ref D_NOT_IN_LISTINGS)))
    (tu_NOT_IN_LISTINGS : K.lookup D_NOT_IN_LISTINGS = some ⟨.type "tuple", odNOT_IN_LISTINGS, .seq itNOT_IN_LISTINGS nnNOT_IN_LISTINGS, slNOT_IN_LISTINGS⟩)
    (ti_NOT_IN_LISTINGS : intsV itNOT_IN_LISTINGS.toList = some [37, 39, 58, 62])
    (c_COLON : PySem.W.nsIn K mainGlobals "COLON" = some (some (.int 58 t_COLON)))
    (c_NEWLINE : PySem.W.nsIn K mainGlobals "NEWLINE" = some (some (.int 10 t_NEWLINE)))
    (c_NOP : PySem.W.nsIn K mainGlobals "NOP" = some (some (.int 32 t_NOP)))
    (c_PUSH : PySem.W.nsIn K mainGlobals "PUSH" = some (some (.int 35 t_PUSH)))
    (c_QUOTE : PySem.W.nsIn K mainGlobals "QUOTE" = some (some (.int 39 t_QUOTE)))
    (c_SPACE : PySem.W.nsIn K mainGlobals "SPACE" = some (some (.int 32 t_SPACE)))
    (c_FROM_AMPERSAND : PySem.W.nsIn K mainGlobals "_FROM_AMPERSAND" = some (some (.str str_FROM_AMPERSAND t_FROM_AMPERSAND)))
    (c_FROM_SPACE : PySem.W.nsIn K mainGlobals "_FROM_SPACE" = some (some (.str str_FROM_SPACE t_FROM_SPACE)))
    (c_GREATER : PySem.W.nsIn K mainGlobals "_GREATER" = some (some (.int 62 t_GREATER)))
    (n_abs : PySem.W.nsIn K mainGlobals "abs" = some none)
    (n_all : PySem.W.nsIn K mainGlobals "all" = some none)
    (n_bool : PySem.W.nsIn K mainGlobals "bool" = some none)
    (n_enumerate : PySem.W.nsIn K mainGlobals "enumerate" = some none)
    (n_int : PySem.W.nsIn K mainGlobals "int" = some none)
    (n_isinstance : PySem.W.nsIn K mainGlobals "isinstance" = some none)
    (n_len : PySem.W.nsIn K mainGlobals "len" = some none)
    (n_list : PySem.W.nsIn K mainGlobals "list" = some none)
    (n_ord : PySem.W.nsIn K mainGlobals "ord" = some none)
    (n_range : PySem.W.nsIn K mainGlobals "range" = some none)
    (n_str : PySem.W.nsIn K mainGlobals "str" = some none)
    (n_super : PySem.W.nsIn K mainGlobals "super" = some none)
    (n_tuple : PySem.W.nsIn K mainGlobals "tuple" = some none)
    : ∃ T : Txt K mg, T.f_law = p33 := by
  exact ⟨{
      C_ShortReader := C_ShortReader
      f_nodes_of := p1
      d_nodes_of := _
      F_nodes_of := fun_mk (st := s_nodes_of) l1 c1 k1
      b_nodes_of := (fun_mk (st := s_nodes_of) l1 c1 k1).binds (ps := ["image"]) fun _ _ _ _ _ _ us hl => match us, hl with | [_], _ => rfl
      g_nodes_of := PySem.W.mg_of X G a1
      f_is_character := p2
      d_is_character := _
      F_is_character := fun_mk (st := s_is_character) l2 c2 k2
      b_is_character := (fun_mk (st := s_is_character) l2 c2 k2).binds (ps := ["code"]) fun _ _ _ _ _ _ us hl => match us, hl with | [_], _ => rfl
      g_is_character := PySem.W.mg_of X G a2
      f_is_digit := p3
      d_is_digit := _
      F_is_digit := fun_mk (st := s_is_digit) l3 c3 k3
      b_is_digit := (fun_mk (st := s_is_digit) l3 c3 k3).binds (ps := ["code"]) fun _ _ _ _ _ _ us hl => match us, hl with | [_], _ => rfl
      g_is_digit := PySem.W.mg_of X G a3
      f_with_digit := p4
      d_with_digit := _
      F_with_digit := fun_mk (st := s_with_digit) l4 c4 k4
      b_with_digit := (fun_mk (st := s_with_digit) l4 c4 k4).binds (ps := ["number", "code"]) fun _ _ _ _ _ _ us hl => match us, hl with | [_, _], _ => rfl
      g_with_digit := PySem.W.mg_of X G a4
      f_character := p5
      d_character := _
      F_character := fun_mk (st := s_character) l5 c5 k5
      b_character := (fun_mk (st := s_character) l5 c5 k5).binds (ps := ["code"]) fun _ _ _ _ _ _ us hl => match us, hl with | [_], _ => rfl
      g_character := PySem.W.mg_of X G a5
      f_text_of := p6
      d_text_of := _
      F_text_of := fun_mk (st := s_text_of) l6 c6 k6
      b_text_of := (fun_mk (st := s_text_of) l6 c6 k6).binds (ps := ["codes"]) fun _ _ _ _ _ _ us hl => match us, hl with | [_], _ => rfl
      g_text_of := PySem.W.mg_of X G a6
      f_has_numeral := p7
      d_has_numeral := _
      F_has_numeral := fun_mk (st := s_has_numeral) l7 c7 k7
      b_has_numeral := (fun_mk (st := s_has_numeral) l7 c7 k7).binds (ps := ["number"]) fun _ _ _ _ _ _ us hl => match us, hl with | [_], _ => rfl
      g_has_numeral := PySem.W.mg_of X G a7
      f_numeral := p8
      d_numeral := _
      F_numeral := fun_mk (st := s_numeral) l8 c8 k8
      b_numeral := (fun_mk (st := s_numeral) l8 c8 k8).binds (ps := ["number"]) fun _ _ _ _ _ _ us hl => match us, hl with | [_], _ => rfl
      g_numeral := PySem.W.mg_of X G a8
      f_is_listed_number := p9
      d_is_listed_number := _
      F_is_listed_number := fun_mk (st := s_is_listed_number) l9 c9 k9
      b_is_listed_number := (fun_mk (st := s_is_listed_number) l9 c9 k9).binds (ps := ["number"]) fun _ _ _ _ _ _ us hl => match us, hl with | [_], _ => rfl
      g_is_listed_number := PySem.W.mg_of X G a9
      f_is_listed_sign := p10
      d_is_listed_sign := _
      F_is_listed_sign := fun_mk (st := s_is_listed_sign) l10 c10 k10
      b_is_listed_sign := (fun_mk (st := s_is_listed_sign) l10 c10 k10).binds (ps := ["operation"]) fun _ _ _ _ _ _ us hl => match us, hl with | [_], _ => rfl
      g_is_listed_sign := PySem.W.mg_of X G a10
      f_fits := p11
      d_fits := _
      F_fits := fun_mk (st := s_fits) l11 c11 k11
      b_fits := (fun_mk (st := s_fits) l11 c11 k11).binds (ps := ["node"]) fun _ _ _ _ _ _ us hl => match us, hl with | [_], _ => rfl
      g_fits := PySem.W.mg_of X G a11
      f_misfit := p12
      d_misfit := _
      F_misfit := fun_mk (st := s_misfit) l12 c12 k12
      b_misfit := (fun_mk (st := s_misfit) l12 c12 k12).binds (ps := ["image"]) fun _ _ _ _ _ _ us hl => match us, hl with | [_], _ => rfl
      g_misfit := PySem.W.mg_of X G a12
      f_can_list := p13
      d_can_list := _
      F_can_list := fun_mk (st := s_can_list) l13 c13 k13
      b_can_list := (fun_mk (st := s_can_list) l13 c13 k13).binds (ps := ["image"]) fun _ _ _ _ _ _ us hl => match us, hl with | [_], _ => rfl
      g_can_list := PySem.W.mg_of X G a13
      f_line := p14
      d_line := _
      F_line := fun_mk (st := s_line) l14 c14 k14
      b_line := (fun_mk (st := s_line) l14 c14 k14).binds (ps := ["node", "expected"]) fun _ _ _ _ _ _ us hl => match us, hl with | [_, _], _ => rfl
      g_line := PySem.W.mg_of X G a14
      f_listing := p15
      d_listing := _
      F_listing := fun_mk (st := s_listing) l15 c15 k15
      b_listing := (fun_mk (st := s_listing) l15 c15 k15).binds (ps := ["image"]) fun _ _ _ _ _ _ us hl => match us, hl with | [_], _ => rfl
      g_listing := PySem.W.mg_of X G a15
      f_ShortReader_init := p16
      d_ShortReader_init := _
      F_ShortReader_init := fun_mk (st := s_ShortReader_init) l16 c16 k16
      b_ShortReader_init := (fun_mk (st := s_ShortReader_init) l16 c16 k16).binds (ps := ["self"]) fun _ _ _ _ _ _ us hl => match us, hl with | [_], _ => rfl
      m_ShortReader_init := ⟨mk_ShortReader, a16, i16, kc_ShortReader⟩
      f_ShortReader_feed := p17
      d_ShortReader_feed := _
      F_ShortReader_feed := fun_mk (st := s_ShortReader_feed) l17 c17 k17
      b_ShortReader_feed := (fun_mk (st := s_ShortReader_feed) l17 c17 k17).binds (ps := ["self", "codes"]) fun _ _ _ _ _ _ us hl => match us, hl with | [_, _], _ => rfl
      m_ShortReader_feed := ⟨a17, i17, k17⟩
      f_ShortReader_image := p18
      d_ShortReader_image := _
      F_ShortReader_image := fun_mk (st := s_ShortReader_image) l18 c18 k18
      b_ShortReader_image := (fun_mk (st := s_ShortReader_image) l18 c18 k18).binds (ps := ["self"]) fun _ _ _ _ _ _ us hl => match us, hl with | [_], _ => rfl
      m_ShortReader_image := ⟨a18, i18, k18⟩
      f_ShortReader_take := p19
      d_ShortReader_take := _
      F_ShortReader_take := fun_mk (st := s_ShortReader_take) l19 c19 k19
      b_ShortReader_take := (fun_mk (st := s_ShortReader_take) l19 c19 k19).binds (ps := ["self", "code"]) fun _ _ _ _ _ _ us hl => match us, hl with | [_, _], _ => rfl
      m_ShortReader_take := ⟨a19, i19, k19⟩
      f_ShortReader_take_sign := p20
      d_ShortReader_take_sign := _
      F_ShortReader_take_sign := fun_mk (st := s_ShortReader_take_sign) l20 c20 k20
      b_ShortReader_take_sign := (fun_mk (st := s_ShortReader_take_sign) l20 c20 k20).binds (ps := ["self", "code"]) fun _ _ _ _ _ _ us hl => match us, hl with | [_, _], _ => rfl
      m_ShortReader_take_sign := ⟨a20, i20, k20⟩
      f_ShortReader_emit := p21
      d_ShortReader_emit := _
      F_ShortReader_emit := fun_mk (st := s_ShortReader_emit) l21 c21 k21
      b_ShortReader_emit := (fun_mk (st := s_ShortReader_emit) l21 c21 k21).binds (ps := ["self", "operation", "argument", "successor"]) fun _ _ _ _ _ _ us hl => match us, hl with | [_, _, _, _], _ => rfl
      m_ShortReader_emit := ⟨a21, i21, k21⟩
      f_translate_short := p22
      d_translate_short := _
      F_translate_short := fun_mk (st := s_translate_short) l22 c22 k22
      b_translate_short := (fun_mk (st := s_translate_short) l22 c22 k22).binds (ps := ["codes"]) fun _ _ _ _ _ _ us hl => match us, hl with | [_], _ => rfl
      g_translate_short := PySem.W.mg_of X G a22
      f_law_number := p23
      d_law_number := _
      F_law_number := fun_mk (st := s_law_number) l23 c23 k23
      b_law_number := (fun_mk (st := s_law_number) l23 c23 k23).binds (ps := ["cell"]) fun _ _ _ _ _ _ us hl => match us, hl with | [_], _ => rfl
      g_law_number := PySem.W.mg_of X G a23
      f_law_draws := p24
      d_law_draws := _
      F_law_draws := fun_mk (st := s_law_draws) l24 c24 k24
      b_law_draws := (fun_mk (st := s_law_draws) l24 c24 k24).binds (ps := ["script"]) fun _ _ _ _ _ _ us hl => match us, hl with | [_], _ => rfl
      g_law_draws := PySem.W.mg_of X G a24
      f_law_draw := p25
      d_law_draw := _
      F_law_draw := fun_mk (st := s_law_draw) l25 c25 k25
      b_law_draw := (fun_mk (st := s_law_draw) l25 c25 k25).binds (ps := ["draws"]) fun _ _ _ _ _ _ us hl => match us, hl with | [_], _ => rfl
      g_law_draw := PySem.W.mg_of X G a25
      f_law_pick := p26
      d_law_pick := _
      F_law_pick := fun_mk (st := s_law_pick) l26 c26 k26
      b_law_pick := (fun_mk (st := s_law_pick) l26 c26 k26).binds (ps := ["draws", "many"]) fun _ _ _ _ _ _ us hl => match us, hl with | [_, _], _ => rfl
      g_law_pick := PySem.W.mg_of X G a26
      f_law_is_integer := p27
      d_law_is_integer := _
      F_law_is_integer := fun_mk (st := s_law_is_integer) l27 c27 k27
      b_law_is_integer := (fun_mk (st := s_law_is_integer) l27 c27 k27).binds (ps := ["actual"]) fun _ _ _ _ _ _ us hl => match us, hl with | [_], _ => rfl
      g_law_is_integer := PySem.W.mg_of X G a27
      f_law_is_cells := p28
      d_law_is_cells := _
      F_law_is_cells := fun_mk (st := s_law_is_cells) l28 c28 k28
      b_law_is_cells := (fun_mk (st := s_law_is_cells) l28 c28 k28).binds (ps := ["actual"]) fun _ _ _ _ _ _ us hl => match us, hl with | [_], _ => rfl
      g_law_is_cells := PySem.W.mg_of X G a28
      f_law_sign := p29
      d_law_sign := _
      F_law_sign := fun_mk (st := s_law_sign) l29 c29 k29
      b_law_sign := (fun_mk (st := s_law_sign) l29 c29 k29).binds (ps := ["draws"]) fun _ _ _ _ _ _ us hl => match us, hl with | [_], _ => rfl
      g_law_sign := PySem.W.mg_of X G a29
      f_law_value := p30
      d_law_value := _
      F_law_value := fun_mk (st := s_law_value) l30 c30 k30
      b_law_value := (fun_mk (st := s_law_value) l30 c30 k30).binds (ps := ["draws"]) fun _ _ _ _ _ _ us hl => match us, hl with | [_], _ => rfl
      g_law_value := PySem.W.mg_of X G a30
      f_law_node := p31
      d_law_node := _
      F_law_node := fun_mk (st := s_law_node) l31 c31 k31
      b_law_node := (fun_mk (st := s_law_node) l31 c31 k31).binds (ps := ["draws", "expected"]) fun _ _ _ _ _ _ us hl => match us, hl with | [_, _], _ => rfl
      g_law_node := PySem.W.mg_of X G a31
      f_law_image := p32
      d_law_image := _
      F_law_image := fun_mk (st := s_law_image) l32 c32 k32
      b_law_image := (fun_mk (st := s_law_image) l32 c32 k32).binds (ps := ["draws", "many"]) fun _ _ _ _ _ _ us hl => match us, hl with | [_, _], _ => rfl
      g_law_image := PySem.W.mg_of X G a32
      f_law := p33
      d_law := _
      F_law := fun_mk (st := s_law) l33 c33 k33
      b_law := (fun_mk (st := s_law) l33 c33 k33).binds (ps := ["script"]) fun _ _ _ _ _ _ us hl => match us, hl with | [_], _ => rfl
      g_law := PySem.W.mg_of X G a33
      h_law := fun s v => .of_eq rfl
      C_PlinthError := C_PlinthError
      g_PlinthError := PySem.W.mg_of X G g_PlinthError
      k_PlinthError := k_PlinthError
      x_PlinthError := x_PlinthError
      b_PlinthError := b_PlinthError
      t_PlinthError := t_PlinthError
      hd_PlinthError := hd_PlinthError
      s_PlinthError := s_PlinthError
      i_PlinthError := i_PlinthError
      C_NotText := C_NotText
      g_NotText := PySem.W.mg_of X G g_NotText
      k_NotText := k_NotText
      x_NotText := x_NotText
      b_NotText := b_NotText
      t_NotText := t_NotText
      hd_NotText := hd_NotText
      s_NotText := s_NotText
      i_NotText := i_NotText
      C_NotNumeral := C_NotNumeral
      g_NotNumeral := PySem.W.mg_of X G g_NotNumeral
      k_NotNumeral := k_NotNumeral
      x_NotNumeral := x_NotNumeral
      b_NotNumeral := b_NotNumeral
      t_NotNumeral := t_NotNumeral
      hd_NotNumeral := hd_NotNumeral
      s_NotNumeral := s_NotNumeral
      i_NotNumeral := i_NotNumeral
      C_NotListable := C_NotListable
      g_NotListable := PySem.W.mg_of X G g_NotListable
      k_NotListable := k_NotListable
      fI_NotListable := fI_NotListable
      dI_NotListable := _
      cc_NotListable := cc_NotListable
      cda_NotListable := cda_NotListable
      supf_NotListable := ⟨⟨_, _, _, _, _, _, _, _, _, _, _, _, _, _, _, _, rfl, xl_NotListable, xc_NotListable, xv_NotListable, xe_NotListable⟩, xd_NotListable, xp_NotListable, xm_NotListable, xs_NotListable, xu_NotListable, xo_NotListable⟩
      oex_NotListable := ⟨⟨_, _, _, _, _, _, _, _, _, _, _, _, _, _, _, xk_NotListable, xr_NotListable⟩, xa_NotListable, b_NotListable, t_NotListable, k_NotListable⟩
      ii_NotListable := xi_NotListable
      ti_NotListable := xt_NotListable
      na_NotListable := xn_NotListable
      bI_NotListable := Gd.SupF.binds (C := C_NotListable) (f := fI_NotListable) (cc := cc_NotListable) (cda := cda_NotListable) (qual := "NotListable.__init__") (st := sI_NotListable) (ps := ["self", "at"]) ⟨⟨_, _, _, _, _, _, _, _, _, _, _, _, _, _, _, _, rfl, xl_NotListable, xc_NotListable, xv_NotListable, xe_NotListable⟩, xd_NotListable, xp_NotListable, xm_NotListable, xs_NotListable, xu_NotListable, xo_NotListable⟩ fun _ _ _ _ _ us hl => match us, hl with | [_, _], _ => rfl
      b_NotListable := b_NotListable
      t_NotListable := t_NotListable
      hd_NotListable := hd_NotListable
      s_NotListable := s_NotListable
      i_NotListable := i_NotListable
      gc_ShortReader := PySem.W.mg_of X G g_ShortReader
      cl_ShortReader := ⟨pg_ShortReader, hd_ShortReader, po_ShortReader, sa_ShortReader⟩
      na_ShortReader_m := na_ShortReader_m
      na_ShortReader_r := na_ShortReader_r
      na_ShortReader_waiting := na_ShortReader_waiting
      na_ShortReader_finished := na_ShortReader_finished
      na_ShortReader_cells := na_ShortReader_cells
      D_NOT_IN_LISTINGS := D_NOT_IN_LISTINGS
      g_NOT_IN_LISTINGS := PySem.W.mg_of X G g_NOT_IN_LISTINGS
      tup_NOT_IN_LISTINGS := tupK_of tu_NOT_IN_LISTINGS ti_NOT_IN_LISTINGS (by decide)
      t_COLON := t_COLON
      c_COLON := PySem.W.mg_of X G c_COLON
      t_NEWLINE := t_NEWLINE
      c_NEWLINE := PySem.W.mg_of X G c_NEWLINE
      t_NOP := t_NOP
      c_NOP := PySem.W.mg_of X G c_NOP
      t_PUSH := t_PUSH
      c_PUSH := PySem.W.mg_of X G c_PUSH
      t_QUOTE := t_QUOTE
      c_QUOTE := PySem.W.mg_of X G c_QUOTE
      t_SPACE := t_SPACE
      c_SPACE := PySem.W.mg_of X G c_SPACE
      t_FROM_AMPERSAND := t_FROM_AMPERSAND
      c_FROM_AMPERSAND := PySem.W.mg_of X G c_FROM_AMPERSAND
      t_FROM_SPACE := t_FROM_SPACE
      c_FROM_SPACE := PySem.W.mg_of X G c_FROM_SPACE
      t_GREATER := t_GREATER
      c_GREATER := PySem.W.mg_of X G c_GREATER
      n_abs := PySem.W.mg_none_of X G n_abs
      n_all := PySem.W.mg_none_of X G n_all
      n_bool := PySem.W.mg_none_of X G n_bool
      n_enumerate := PySem.W.mg_none_of X G n_enumerate
      n_int := PySem.W.mg_none_of X G n_int
      n_isinstance := PySem.W.mg_none_of X G n_isinstance
      n_len := PySem.W.mg_none_of X G n_len
      n_list := PySem.W.mg_none_of X G n_list
      n_ord := PySem.W.mg_none_of X G n_ord
      n_range := PySem.W.mg_none_of X G n_range
      n_str := PySem.W.mg_none_of X G n_str
      n_super := PySem.W.mg_none_of X G n_super
      n_tuple := PySem.W.mg_none_of X G n_tuple }, rfl⟩
theorem all_mk {l : PySem.W.OpenLaw} [Gd.ProgOk l.prog] {w : World} {K : PySem.W.Frag} {h : Heap} {mg : Str → Option Value} {fa p1 p2 p3 p4 p5 p6 p7 p8 p9 p10 p11 p12 p13 p14 p15 p16 p17 p18 p19 p20 p21 p22 p23 p24 p25 p26 p27 p28 p29 p30 p31 p32 p33 C_PlinthError C_NotText C_NotNumeral C_NotListable fI_NotListable cc_NotListable cda_NotListable C_ShortReader D_NOT_IN_LISTINGS : Addr} (X : K.In h) (G : h.Ns mainGlobals mg) (hfa : mg "law" = some (.ref fa))
    {t_COLON t_NEWLINE t_NOP t_PUSH t_QUOTE t_SPACE t_FROM_AMPERSAND t_FROM_SPACE t_GREATER : Tok}
    {od1 an1 od2 an2 od3 an3 od4 an4 od5 an5 od6 an6 od7 an7 od8 an8 od9 an9 od10 an10 od11 an11 od12 an12 od13 an13 od14 an14 od15 an15 od16 an16 od17 an17 od18 an18 od19 an19 od20 an20 od21 an21 od22 an22 od23 an23 od24 an24 od25 an25 od26 an26 od27 an27 od28 an28 od29 an29 od30 an30 od31 an31 od32 an32 od33 an33 : Option Addr} {sl1 sl2 sl3 sl4 sl5 sl6 sl7 sl8 sl9 sl10 sl11 sl12 sl13 sl14 sl15 sl16 sl17 sl18 sl19 sl20 sl21 sl22 sl23 sl24 sl25 sl26 sl27 sl28 sl29 sl30 sl31 sl32 sl33 : Array (Option Value)}
    {xoc_NotListable xct_NotListable xkV_NotListable xdoc_NotListable xpm_NotListable xccl_NotListable xcl_NotListable : Value} {xod_NotListable xan_NotListable xcdd_NotListable xcld_NotListable : Option Addr} {xosl_NotListable xccs_NotListable xcsl_NotListable : Array (Option Value)} {xvs_NotListable : Array Value} {xtf_NotListable : Tok}
    {xnm_NotListable xq_NotListable : Str} {xN_NotListable : Addr} {xbs_NotListable xbm_NotListable xsub_NotListable : List Value} {xsn_NotListable : List Str} {xab_NotListable : Bool} {xcol_NotListable : Option Bool} {xdd_NotListable : Option Addr} {xk0_NotListable xk1_NotListable xk2_NotListable xk3_NotListable xk5_NotListable : Option Value}
    {odNOT_IN_LISTINGS : Option Addr} {itNOT_IN_LISTINGS : Array Value} {nnNOT_IN_LISTINGS : Nat} {slNOT_IN_LISTINGS : Array (Option Value)}
    {oc1 kV1 dc1 pm1 cd1 ct1 oc2 kV2 dc2 pm2 cd2 ct2 oc3 kV3 dc3 pm3 cd3 ct3 oc4 kV4 dc4 pm4 cd4 ct4 oc5 kV5 dc5 pm5 cd5 ct5 oc6 kV6 dc6 pm6 cd6 ct6 oc7 kV7 dc7 pm7 cd7 ct7 oc8 kV8 dc8 pm8 cd8 ct8 oc9 kV9 dc9 pm9 cd9 ct9 oc10 kV10 dc10 pm10 cd10 ct10 oc11 kV11 dc11 pm11 cd11 ct11 oc12 kV12 dc12 pm12 cd12 ct12 oc13 kV13 dc13 pm13 cd13 ct13 oc14 kV14 dc14 pm14 cd14 ct14 oc15 kV15 dc15 pm15 cd15 ct15 oc16 kV16 dc16 pm16 cd16 ct16 oc17 kV17 dc17 pm17 cd17 ct17 oc18 kV18 dc18 pm18 cd18 ct18 oc19 kV19 dc19 pm19 cd19 ct19 oc20 kV20 dc20 pm20 cd20 ct20 oc21 kV21 dc21 pm21 cd21 ct21 oc22 kV22 dc22 pm22 cd22 ct22 oc23 kV23 dc23 pm23 cd23 ct23 oc24 kV24 dc24 pm24 cd24 ct24 oc25 kV25 dc25 pm25 cd25 ct25 oc26 kV26 dc26 pm26 cd26 ct26 oc27 kV27 dc27 pm27 cd27 ct27 oc28 kV28 dc28 pm28 cd28 ct28 oc29 kV29 dc29 pm29 cd29 ct29 oc30 kV30 dc30 pm30 cd30 ct30 oc31 kV31 dc31 pm31 cd31 ct31 oc32 kV32 dc32 pm32 cd32 ct32 oc33 kV33 dc33 pm33 cd33 ct33 : Value}
    (g_ShortReader : PySem.W.nsIn K mainGlobals "ShortReader" = some (some (.ref C_ShortReader)))
    (a1 : PySem.W.nsIn K mainGlobals "nodes_of" = some (some (.ref p1)))
    (l1 : K.lookup p1 = some ⟨oc1, od1, .func (PySem.W.fnOf "nodes_of" "nodes_of" (defArgs s_nodes_of) (defBody s_nodes_of) (defScope s_nodes_of) .none kV1 dc1 pm1 an1 cd1 ct1), sl1⟩)
    (c1 : PySem.W.codeIn K cd1 "nodes_of" = true)
    (k1 : PySem.W.keepIn K (.ref p1) = true)
    (a2 : PySem.W.nsIn K mainGlobals "is_character" = some (some (.ref p2)))
    (l2 : K.lookup p2 = some ⟨oc2, od2, .func (PySem.W.fnOf "is_character" "is_character" (defArgs s_is_character) (defBody s_is_character) (defScope s_is_character) .none kV2 dc2 pm2 an2 cd2 ct2), sl2⟩)
    (c2 : PySem.W.codeIn K cd2 "is_character" = true)
    (k2 : PySem.W.keepIn K (.ref p2) = true)
    (a3 : PySem.W.nsIn K mainGlobals "is_digit" = some (some (.ref p3)))
    (l3 : K.lookup p3 = some ⟨oc3, od3, .func (PySem.W.fnOf "is_digit" "is_digit" (defArgs s_is_digit) (defBody s_is_digit) (defScope s_is_digit) .none kV3 dc3 pm3 an3 cd3 ct3), sl3⟩)
    (c3 : PySem.W.codeIn K cd3 "is_digit" = true)
    (k3 : PySem.W.keepIn K (.ref p3) = true)
    (a4 : PySem.W.nsIn K mainGlobals "with_digit" = some (some (.ref p4)))
    (l4 : K.lookup p4 = some ⟨oc4, od4, .func (PySem.W.fnOf "with_digit" "with_digit" (defArgs s_with_digit) (defBody s_with_digit) (defScope s_with_digit) .none kV4 dc4 pm4 an4 cd4 ct4), sl4⟩)
    (c4 : PySem.W.codeIn K cd4 "with_digit" = true)
    (k4 : PySem.W.keepIn K (.ref p4) = true)
    (a5 : PySem.W.nsIn K mainGlobals "_character" = some (some (.ref p5)))
    (l5 : K.lookup p5 = some ⟨oc5, od5, .func (PySem.W.fnOf "_character" "_character" (defArgs s_character) (defBody s_character) (defScope s_character) .none kV5 dc5 pm5 an5 cd5 ct5), sl5⟩)
    (c5 : PySem.W.codeIn K cd5 "_character" = true)
    (k5 : PySem.W.keepIn K (.ref p5) = true)
    (a6 : PySem.W.nsIn K mainGlobals "text_of" = some (some (.ref p6)))
    (l6 : K.lookup p6 = some ⟨oc6, od6, .func (PySem.W.fnOf "text_of" "text_of" (defArgs s_text_of) (defBody s_text_of) (defScope s_text_of) .none kV6 dc6 pm6 an6 cd6 ct6), sl6⟩)
    (c6 : PySem.W.codeIn K cd6 "text_of" = true)
    (k6 : PySem.W.keepIn K (.ref p6) = true)
    (a7 : PySem.W.nsIn K mainGlobals "has_numeral" = some (some (.ref p7)))
    (l7 : K.lookup p7 = some ⟨oc7, od7, .func (PySem.W.fnOf "has_numeral" "has_numeral" (defArgs s_has_numeral) (defBody s_has_numeral) (defScope s_has_numeral) .none kV7 dc7 pm7 an7 cd7 ct7), sl7⟩)
    (c7 : PySem.W.codeIn K cd7 "has_numeral" = true)
    (k7 : PySem.W.keepIn K (.ref p7) = true)
    (a8 : PySem.W.nsIn K mainGlobals "numeral" = some (some (.ref p8)))
    (l8 : K.lookup p8 = some ⟨oc8, od8, .func (PySem.W.fnOf "numeral" "numeral" (defArgs s_numeral) (defBody s_numeral) (defScope s_numeral) .none kV8 dc8 pm8 an8 cd8 ct8), sl8⟩)
    (c8 : PySem.W.codeIn K cd8 "numeral" = true)
    (k8 : PySem.W.keepIn K (.ref p8) = true)
    (a9 : PySem.W.nsIn K mainGlobals "_is_listed_number" = some (some (.ref p9)))
    (l9 : K.lookup p9 = some ⟨oc9, od9, .func (PySem.W.fnOf "_is_listed_number" "_is_listed_number" (defArgs s_is_listed_number) (defBody s_is_listed_number) (defScope s_is_listed_number) .none kV9 dc9 pm9 an9 cd9 ct9), sl9⟩)
    (c9 : PySem.W.codeIn K cd9 "_is_listed_number" = true)
    (k9 : PySem.W.keepIn K (.ref p9) = true)
    (a10 : PySem.W.nsIn K mainGlobals "_is_listed_sign" = some (some (.ref p10)))
    (l10 : K.lookup p10 = some ⟨oc10, od10, .func (PySem.W.fnOf "_is_listed_sign" "_is_listed_sign" (defArgs s_is_listed_sign) (defBody s_is_listed_sign) (defScope s_is_listed_sign) .none kV10 dc10 pm10 an10 cd10 ct10), sl10⟩)
    (c10 : PySem.W.codeIn K cd10 "_is_listed_sign" = true)
    (k10 : PySem.W.keepIn K (.ref p10) = true)
    (a11 : PySem.W.nsIn K mainGlobals "_fits" = some (some (.ref p11)))
    (l11 : K.lookup p11 = some ⟨oc11, od11, .func (PySem.W.fnOf "_fits" "_fits" (defArgs s_fits) (defBody s_fits) (defScope s_fits) .none kV11 dc11 pm11 an11 cd11 ct11), sl11⟩)
    (c11 : PySem.W.codeIn K cd11 "_fits" = true)
    (k11 : PySem.W.keepIn K (.ref p11) = true)
    (a12 : PySem.W.nsIn K mainGlobals "_misfit" = some (some (.ref p12)))
    (l12 : K.lookup p12 = some ⟨oc12, od12, .func (PySem.W.fnOf "_misfit" "_misfit" (defArgs s_misfit) (defBody s_misfit) (defScope s_misfit) .none kV12 dc12 pm12 an12 cd12 ct12), sl12⟩)
    (c12 : PySem.W.codeIn K cd12 "_misfit" = true)
    (k12 : PySem.W.keepIn K (.ref p12) = true)
    (a13 : PySem.W.nsIn K mainGlobals "can_list" = some (some (.ref p13)))
    (l13 : K.lookup p13 = some ⟨oc13, od13, .func (PySem.W.fnOf "can_list" "can_list" (defArgs s_can_list) (defBody s_can_list) (defScope s_can_list) .none kV13 dc13 pm13 an13 cd13 ct13), sl13⟩)
    (c13 : PySem.W.codeIn K cd13 "can_list" = true)
    (k13 : PySem.W.keepIn K (.ref p13) = true)
    (a14 : PySem.W.nsIn K mainGlobals "_line" = some (some (.ref p14)))
    (l14 : K.lookup p14 = some ⟨oc14, od14, .func (PySem.W.fnOf "_line" "_line" (defArgs s_line) (defBody s_line) (defScope s_line) .none kV14 dc14 pm14 an14 cd14 ct14), sl14⟩)
    (c14 : PySem.W.codeIn K cd14 "_line" = true)
    (k14 : PySem.W.keepIn K (.ref p14) = true)
    (a15 : PySem.W.nsIn K mainGlobals "listing" = some (some (.ref p15)))
    (l15 : K.lookup p15 = some ⟨oc15, od15, .func (PySem.W.fnOf "listing" "listing" (defArgs s_listing) (defBody s_listing) (defScope s_listing) .none kV15 dc15 pm15 an15 cd15 ct15), sl15⟩)
    (c15 : PySem.W.codeIn K cd15 "listing" = true)
    (k15 : PySem.W.keepIn K (.ref p15) = true)
    (a16 : PySem.W.findIn K (.ref C_ShortReader) "__init__" = some (some (.ref p16)))
    (i16 : PySem.W.isFn K (.ref p16) = true)
    (l16 : K.lookup p16 = some ⟨oc16, od16, .func (PySem.W.fnOf "__init__" "ShortReader.__init__" (defArgs s_ShortReader_init) (defBody s_ShortReader_init) (defScope s_ShortReader_init) .none kV16 dc16 pm16 an16 cd16 ct16), sl16⟩)
    (c16 : PySem.W.codeIn K cd16 "ShortReader.__init__" = true)
    (k16 : PySem.W.keepIn K (.ref p16) = true)
    (a17 : PySem.W.findIn K (.ref C_ShortReader) "feed" = some (some (.ref p17)))
    (i17 : PySem.W.isFn K (.ref p17) = true)
    (l17 : K.lookup p17 = some ⟨oc17, od17, .func (PySem.W.fnOf "feed" "ShortReader.feed" (defArgs s_ShortReader_feed) (defBody s_ShortReader_feed) (defScope s_ShortReader_feed) .none kV17 dc17 pm17 an17 cd17 ct17), sl17⟩)
    (c17 : PySem.W.codeIn K cd17 "ShortReader.feed" = true)
    (k17 : PySem.W.keepIn K (.ref p17) = true)
    (a18 : PySem.W.findIn K (.ref C_ShortReader) "image" = some (some (.ref p18)))
    (i18 : PySem.W.isFn K (.ref p18) = true)
    (l18 : K.lookup p18 = some ⟨oc18, od18, .func (PySem.W.fnOf "image" "ShortReader.image" (defArgs s_ShortReader_image) (defBody s_ShortReader_image) (defScope s_ShortReader_image) .none kV18 dc18 pm18 an18 cd18 ct18), sl18⟩)
    (c18 : PySem.W.codeIn K cd18 "ShortReader.image" = true)
    (k18 : PySem.W.keepIn K (.ref p18) = true)
    (a19 : PySem.W.findIn K (.ref C_ShortReader) "_take" = some (some (.ref p19)))
    (i19 : PySem.W.isFn K (.ref p19) = true)
    (l19 : K.lookup p19 = some ⟨oc19, od19, .func (PySem.W.fnOf "_take" "ShortReader._take" (defArgs s_ShortReader_take) (defBody s_ShortReader_take) (defScope s_ShortReader_take) .none kV19 dc19 pm19 an19 cd19 ct19), sl19⟩)
    (c19 : PySem.W.codeIn K cd19 "ShortReader._take" = true)
    (k19 : PySem.W.keepIn K (.ref p19) = true)
    (a20 : PySem.W.findIn K (.ref C_ShortReader) "_take_sign" = some (some (.ref p20)))
    (i20 : PySem.W.isFn K (.ref p20) = true)
    (l20 : K.lookup p20 = some ⟨oc20, od20, .func (PySem.W.fnOf "_take_sign" "ShortReader._take_sign" (defArgs s_ShortReader_take_sign) (defBody s_ShortReader_take_sign) (defScope s_ShortReader_take_sign) .none kV20 dc20 pm20 an20 cd20 ct20), sl20⟩)
    (c20 : PySem.W.codeIn K cd20 "ShortReader._take_sign" = true)
    (k20 : PySem.W.keepIn K (.ref p20) = true)
    (a21 : PySem.W.findIn K (.ref C_ShortReader) "_emit" = some (some (.ref p21)))
    (i21 : PySem.W.isFn K (.ref p21) = true)
    (l21 : K.lookup p21 = some ⟨oc21, od21, .func (PySem.W.fnOf "_emit" "ShortReader._emit" (defArgs s_ShortReader_emit) (defBody s_ShortReader_emit) (defScope s_ShortReader_emit) .none kV21 dc21 pm21 an21 cd21 ct21), sl21⟩)
    (c21 : PySem.W.codeIn K cd21 "ShortReader._emit" = true)
    (k21 : PySem.W.keepIn K (.ref p21) = true)
    (a22 : PySem.W.nsIn K mainGlobals "translate_short" = some (some (.ref p22)))
    (l22 : K.lookup p22 = some ⟨oc22, od22, .func (PySem.W.fnOf "translate_short" "translate_short" (defArgs s_translate_short) (defBody s_translate_short) (defScope s_translate_short) .none kV22 dc22 pm22 an22 cd22 ct22), sl22⟩)
    (c22 : PySem.W.codeIn K cd22 "translate_short" = true)
    (k22 : PySem.W.keepIn K (.ref p22) = true)
    (a23 : PySem.W.nsIn K mainGlobals "_law_number" = some (some (.ref p23)))
    (l23 : K.lookup p23 = some ⟨oc23, od23, .func (PySem.W.fnOf "_law_number" "_law_number" (defArgs s_law_number) (defBody s_law_number) (defScope s_law_number) .none kV23 dc23 pm23 an23 cd23 ct23), sl23⟩)
    (c23 : PySem.W.codeIn K cd23 "_law_number" = true)
    (k23 : PySem.W.keepIn K (.ref p23) = true)
    (a24 : PySem.W.nsIn K mainGlobals "_law_draws" = some (some (.ref p24)))
    (l24 : K.lookup p24 = some ⟨oc24, od24, .func (PySem.W.fnOf "_law_draws" "_law_draws" (defArgs s_law_draws) (defBody s_law_draws) (defScope s_law_draws) .none kV24 dc24 pm24 an24 cd24 ct24), sl24⟩)
    (c24 : PySem.W.codeIn K cd24 "_law_draws" = true)
    (k24 : PySem.W.keepIn K (.ref p24) = true)
    (a25 : PySem.W.nsIn K mainGlobals "_law_draw" = some (some (.ref p25)))
    (l25 : K.lookup p25 = some ⟨oc25, od25, .func (PySem.W.fnOf "_law_draw" "_law_draw" (defArgs s_law_draw) (defBody s_law_draw) (defScope s_law_draw) .none kV25 dc25 pm25 an25 cd25 ct25), sl25⟩)
    (c25 : PySem.W.codeIn K cd25 "_law_draw" = true)
    (k25 : PySem.W.keepIn K (.ref p25) = true)
    (a26 : PySem.W.nsIn K mainGlobals "_law_pick" = some (some (.ref p26)))
    (l26 : K.lookup p26 = some ⟨oc26, od26, .func (PySem.W.fnOf "_law_pick" "_law_pick" (defArgs s_law_pick) (defBody s_law_pick) (defScope s_law_pick) .none kV26 dc26 pm26 an26 cd26 ct26), sl26⟩)
    (c26 : PySem.W.codeIn K cd26 "_law_pick" = true)
    (k26 : PySem.W.keepIn K (.ref p26) = true)
    (a27 : PySem.W.nsIn K mainGlobals "_law_is_integer" = some (some (.ref p27)))
    (l27 : K.lookup p27 = some ⟨oc27, od27, .func (PySem.W.fnOf "_law_is_integer" "_law_is_integer" (defArgs s_law_is_integer) (defBody s_law_is_integer) (defScope s_law_is_integer) .none kV27 dc27 pm27 an27 cd27 ct27), sl27⟩)
    (c27 : PySem.W.codeIn K cd27 "_law_is_integer" = true)
    (k27 : PySem.W.keepIn K (.ref p27) = true)
    (a28 : PySem.W.nsIn K mainGlobals "_law_is_cells" = some (some (.ref p28)))
    (l28 : K.lookup p28 = some ⟨oc28, od28, .func (PySem.W.fnOf "_law_is_cells" "_law_is_cells" (defArgs s_law_is_cells) (defBody s_law_is_cells) (defScope s_law_is_cells) .none kV28 dc28 pm28 an28 cd28 ct28), sl28⟩)
    (c28 : PySem.W.codeIn K cd28 "_law_is_cells" = true)
    (k28 : PySem.W.keepIn K (.ref p28) = true)
    (a29 : PySem.W.nsIn K mainGlobals "_law_sign" = some (some (.ref p29)))
    (l29 : K.lookup p29 = some ⟨oc29, od29, .func (PySem.W.fnOf "_law_sign" "_law_sign" (defArgs s_law_sign) (defBody s_law_sign) (defScope s_law_sign) .none kV29 dc29 pm29 an29 cd29 ct29), sl29⟩)
    (c29 : PySem.W.codeIn K cd29 "_law_sign" = true)
    (k29 : PySem.W.keepIn K (.ref p29) = true)
    (a30 : PySem.W.nsIn K mainGlobals "_law_value" = some (some (.ref p30)))
    (l30 : K.lookup p30 = some ⟨oc30, od30, .func (PySem.W.fnOf "_law_value" "_law_value" (defArgs s_law_value) (defBody s_law_value) (defScope s_law_value) .none kV30 dc30 pm30 an30 cd30 ct30), sl30⟩)
    (c30 : PySem.W.codeIn K cd30 "_law_value" = true)
    (k30 : PySem.W.keepIn K (.ref p30) = true)
    (a31 : PySem.W.nsIn K mainGlobals "_law_node" = some (some (.ref p31)))
    (l31 : K.lookup p31 = some ⟨oc31, od31, .func (PySem.W.fnOf "_law_node" "_law_node" (defArgs s_law_node) (defBody s_law_node) (defScope s_law_node) .none kV31 dc31 pm31 an31 cd31 ct31), sl31⟩)
    (c31 : PySem.W.codeIn K cd31 "_law_node" = true)
    (k31 : PySem.W.keepIn K (.ref p31) = true)
    (a32 : PySem.W.nsIn K mainGlobals "_law_image" = some (some (.ref p32)))
    (l32 : K.lookup p32 = some ⟨oc32, od32, .func (PySem.W.fnOf "_law_image" "_law_image" (defArgs s_law_image) (defBody s_law_image) (defScope s_law_image) .none kV32 dc32 pm32 an32 cd32 ct32), sl32⟩)
    (c32 : PySem.W.codeIn K cd32 "_law_image" = true)
    (k32 : PySem.W.keepIn K (.ref p32) = true)
    (a33 : PySem.W.nsIn K mainGlobals "law" = some (some (.ref p33)))
    (l33 : K.lookup p33 = some ⟨oc33, od33, .func (PySem.W.fnOf "law" "law" (defArgs s_law) (defBody s_law) (defScope s_law) .none kV33 dc33 pm33 an33 cd33 ct33), sl33⟩)
    (c33 : PySem.W.codeIn K cd33 "law" = true)
    (k33 : PySem.W.keepIn K (.ref p33) = true)
    (g_PlinthError : PySem.W.nsIn K mainGlobals "PlinthError" = some (some (.ref C_PlinthError)))
    (k_PlinthError : PySem.W.keepIn K (.ref C_PlinthError) = true)
    (x_PlinthError : PySem.W.excIn K C_PlinthError [.type "ValueError", .type "Exception", .type "BaseException", .type "object"] "ValueError.__new__" = true)
    (b_PlinthError : PySem.W.subIn K (.ref C_PlinthError) (.type "BaseException") = some true)
    (t_PlinthError : PySem.W.typeIn K (.ref C_PlinthError) = some (.type "type"))
    (hd_PlinthError : PySem.W.hasDictIn K C_PlinthError = true)
    (s_PlinthError : PySem.W.subIn K (.ref C_PlinthError) (.ref C_PlinthError) = some true)
    (i_PlinthError : PySem.W.isClsIn K C_PlinthError = true)
    (g_NotText : PySem.W.nsIn K mainGlobals "NotText" = some (some (.ref C_NotText)))
    (k_NotText : PySem.W.keepIn K (.ref C_NotText) = true)
    (x_NotText : PySem.W.excIn K C_NotText [.type "ValueError", .type "Exception", .type "BaseException", .type "object"] "ValueError.__new__" = true)
    (b_NotText : PySem.W.subIn K (.ref C_NotText) (.type "BaseException") = some true)
    (t_NotText : PySem.W.typeIn K (.ref C_NotText) = some (.type "type"))
    (hd_NotText : PySem.W.hasDictIn K C_NotText = true)
    (s_NotText : PySem.W.subIn K (.ref C_NotText) (.ref C_NotText) = some true)
    (i_NotText : PySem.W.isClsIn K C_NotText = true)
    (g_NotNumeral : PySem.W.nsIn K mainGlobals "NotNumeral" = some (some (.ref C_NotNumeral)))
    (k_NotNumeral : PySem.W.keepIn K (.ref C_NotNumeral) = true)
    (x_NotNumeral : PySem.W.excIn K C_NotNumeral [.type "ValueError", .type "Exception", .type "BaseException", .type "object"] "ValueError.__new__" = true)
    (b_NotNumeral : PySem.W.subIn K (.ref C_NotNumeral) (.type "BaseException") = some true)
    (t_NotNumeral : PySem.W.typeIn K (.ref C_NotNumeral) = some (.type "type"))
    (hd_NotNumeral : PySem.W.hasDictIn K C_NotNumeral = true)
    (s_NotNumeral : PySem.W.subIn K (.ref C_NotNumeral) (.ref C_NotNumeral) = some true)
    (i_NotNumeral : PySem.W.isClsIn K C_NotNumeral = true)
    (g_NotListable : PySem.W.nsIn K mainGlobals "NotListable" = some (some (.ref C_NotListable)))
    (k_NotListable : PySem.W.keepIn K (.ref C_NotListable) = true)
    (xi_NotListable : PySem.W.findIn K (.ref C_NotListable) "__init__" = some (some (.ref fI_NotListable)))
    (xl_NotListable : K.lookup fI_NotListable = some ⟨xoc_NotListable, xod_NotListable, .func (PySem.W.ksFn "__init__" "NotListable.__init__" (defArgs sI_NotListable) (defBody sI_NotListable) (defScope sI_NotListable) .none xkV_NotListable xdoc_NotListable xpm_NotListable xan_NotListable (.ref cda_NotListable) xct_NotListable cc_NotListable), xosl_NotListable⟩)
    (xc_NotListable : K.lookup cda_NotListable = some ⟨xccl_NotListable, xcdd_NotListable, .fields xvs_NotListable, xccs_NotListable⟩)
    (xv_NotListable : xvs_NotListable[2]? = some (.str "/claim/cut.py" xtf_NotListable))
    (xe_NotListable : K.lookup cc_NotListable = some ⟨xcl_NotListable, xcld_NotListable, .cell (some (.ref C_NotListable)), xcsl_NotListable⟩)
    (xd_NotListable : PySem.W.codeIn K (.ref cda_NotListable) "NotListable.__init__" = true)
    (xp_NotListable : PySem.W.keepIn K (.ref fI_NotListable) = true)
    (xm_NotListable : PySem.W.mroIn K C_NotListable (.ref C_NotListable) = some true)
    (xs_NotListable : PySem.W.ks_superIn K C_NotListable C_NotListable "__init__" = some (some (.builtin "ValueError.__init__")))
    (xu_NotListable : PySem.W.subIn K (.ref C_NotListable) (.type "ValueError") = some true)
    (xo_NotListable : PySem.W.nsIn K cStatics "thirdparty.any" = some none)
    (xk_NotListable : K.lookup C_NotListable = some (excClassObj xnm_NotListable xq_NotListable C_NotListable xN_NotListable xbs_NotListable xbm_NotListable true xsn_NotListable xsub_NotListable xab_NotListable xcol_NotListable xdd_NotListable xk0_NotListable xk1_NotListable xk2_NotListable xk3_NotListable xk5_NotListable "ValueError.__new__"))
    (xr_NotListable : PySem.HandSPX.refsVE xbm_NotListable = true)
    (xa_NotListable : PySem.W.findIn K (.ref C_NotListable) "__setattr__" = some (some (.builtin "object.__setattr__")))
    (xt_NotListable : PySem.W.typeIn K (.ref fI_NotListable) = some (.type "function"))
    (xn_NotListable : PySem.W.findIn K (.ref C_NotListable) "at" = some none)
    (b_NotListable : PySem.W.subIn K (.ref C_NotListable) (.type "BaseException") = some true)
    (t_NotListable : PySem.W.typeIn K (.ref C_NotListable) = some (.type "type"))
    (hd_NotListable : PySem.W.hasDictIn K C_NotListable = true)
    (s_NotListable : PySem.W.subIn K (.ref C_NotListable) (.ref C_NotListable) = some true)
    (i_NotListable : PySem.W.isClsIn K C_NotListable = true)
    (pg_ShortReader : PySem.W.plainGet K C_ShortReader Str.empty = true)
    (hd_ShortReader : PySem.W.hasDictIn K C_ShortReader = true)
    (po_ShortReader : PySem.W.plainOver K C_ShortReader = true)
    (sa_ShortReader : PySem.W.findIn K (.ref C_ShortReader) "__setattr__" = some (some (.builtin "object.__setattr__")))
    (mk_ShortReader : PySem.W.makesIn K C_ShortReader = true)
    (kc_ShortReader : PySem.W.keepIn K (.ref C_ShortReader) = true)
    (na_ShortReader_m : PySem.W.findIn K (.ref C_ShortReader) "m" = some none)
    (na_ShortReader_r : PySem.W.findIn K (.ref C_ShortReader) "r" = some none)
    (na_ShortReader_waiting : PySem.W.findIn K (.ref C_ShortReader) "waiting" = some none)
    (na_ShortReader_finished : PySem.W.findIn K (.ref C_ShortReader) "finished" = some none)
    (na_ShortReader_cells : PySem.W.findIn K (.ref C_ShortReader) "_cells" = some none)
    (g_NOT_IN_LISTINGS : PySem.W.nsIn K mainGlobals "_NOT_IN_LISTINGS" = some (some (.ref D_NOT_IN_LISTINGS)))
    (tu_NOT_IN_LISTINGS : K.lookup D_NOT_IN_LISTINGS = some ⟨.type "tuple", odNOT_IN_LISTINGS, .seq itNOT_IN_LISTINGS nnNOT_IN_LISTINGS, slNOT_IN_LISTINGS⟩)
    (ti_NOT_IN_LISTINGS : intsV itNOT_IN_LISTINGS.toList = some [37, 39, 58, 62])
    (c_COLON : PySem.W.nsIn K mainGlobals "COLON" = some (some (.int 58 t_COLON)))
    (c_NEWLINE : PySem.W.nsIn K mainGlobals "NEWLINE" = some (some (.int 10 t_NEWLINE)))
    (c_NOP : PySem.W.nsIn K mainGlobals "NOP" = some (some (.int 32 t_NOP)))
    (c_PUSH : PySem.W.nsIn K mainGlobals "PUSH" = some (some (.int 35 t_PUSH)))
    (c_QUOTE : PySem.W.nsIn K mainGlobals "QUOTE" = some (some (.int 39 t_QUOTE)))
    (c_SPACE : PySem.W.nsIn K mainGlobals "SPACE" = some (some (.int 32 t_SPACE)))
    (c_FROM_AMPERSAND : PySem.W.nsIn K mainGlobals "_FROM_AMPERSAND" = some (some (.str str_FROM_AMPERSAND t_FROM_AMPERSAND)))
    (c_FROM_SPACE : PySem.W.nsIn K mainGlobals "_FROM_SPACE" = some (some (.str str_FROM_SPACE t_FROM_SPACE)))
    (c_GREATER : PySem.W.nsIn K mainGlobals "_GREATER" = some (some (.int 62 t_GREATER)))
    (n_abs : PySem.W.nsIn K mainGlobals "abs" = some none)
    (n_all : PySem.W.nsIn K mainGlobals "all" = some none)
    (n_bool : PySem.W.nsIn K mainGlobals "bool" = some none)
    (n_enumerate : PySem.W.nsIn K mainGlobals "enumerate" = some none)
    (n_int : PySem.W.nsIn K mainGlobals "int" = some none)
    (n_isinstance : PySem.W.nsIn K mainGlobals "isinstance" = some none)
    (n_len : PySem.W.nsIn K mainGlobals "len" = some none)
    (n_list : PySem.W.nsIn K mainGlobals "list" = some none)
    (n_ord : PySem.W.nsIn K mainGlobals "ord" = some none)
    (n_range : PySem.W.nsIn K mainGlobals "range" = some none)
    (n_str : PySem.W.nsIn K mainGlobals "str" = some none)
    (n_super : PySem.W.nsIn K mainGlobals "super" = some none)
    (n_tuple : PySem.W.nsIn K mainGlobals "tuple" = some none)
    : ∃ fd : FuncData, (∀ (s : Shared) (v : Value), BindsTo s fd ⟨[v], []⟩ [("script", v)]) ∧ ∀ base : Heap, K.In base → base.Ns mainGlobals mg → FnOk l.prog w K mg base CX0 6 fa fd ["script"] (sp_law K) := by
  obtain ⟨T, eT⟩ := mk_txt X G g_ShortReader a1 l1 c1 k1 a2 l2 c2 k2 a3 l3 c3 k3 a4 l4 c4 k4 a5 l5 c5 k5 a6 l6 c6 k6 a7 l7 c7 k7 a8 l8 c8 k8 a9 l9 c9 k9 a10 l10 c10 k10 a11 l11 c11 k11 a12 l12 c12 k12 a13 l13 c13 k13 a14 l14 c14 k14 a15 l15 c15 k15 a16 i16 l16 c16 k16 a17 i17 l17 c17 k17 a18 i18 l18 c18 k18 a19 i19 l19 c19 k19 a20 i20 l20 c20 k20 a21 i21 l21 c21 k21 a22 l22 c22 k22 a23 l23 c23 k23 a24 l24 c24 k24 a25 l25 c25 k25 a26 l26 c26 k26 a27 l27 c27 k27 a28 l28 c28 k28 a29 l29 c29 k29 a30 l30 c30 k30 a31 l31 c31 k31 a32 l32 c32 k32 a33 l33 c33 k33 g_PlinthError k_PlinthError x_PlinthError b_PlinthError t_PlinthError hd_PlinthError s_PlinthError i_PlinthError g_NotText k_NotText x_NotText b_NotText t_NotText hd_NotText s_NotText i_NotText g_NotNumeral k_NotNumeral x_NotNumeral b_NotNumeral t_NotNumeral hd_NotNumeral s_NotNumeral i_NotNumeral g_NotListable k_NotListable xi_NotListable xl_NotListable xc_NotListable xv_NotListable xe_NotListable xd_NotListable xp_NotListable xm_NotListable xs_NotListable xu_NotListable xo_NotListable xk_NotListable xr_NotListable xa_NotListable xt_NotListable xn_NotListable b_NotListable t_NotListable hd_NotListable s_NotListable i_NotListable pg_ShortReader hd_ShortReader po_ShortReader sa_ShortReader mk_ShortReader kc_ShortReader na_ShortReader_m na_ShortReader_r na_ShortReader_waiting na_ShortReader_finished na_ShortReader_cells g_NOT_IN_LISTINGS tu_NOT_IN_LISTINGS ti_NOT_IN_LISTINGS c_COLON c_NEWLINE c_NOP c_PUSH c_QUOTE c_SPACE c_FROM_AMPERSAND c_FROM_SPACE c_GREATER n_abs n_all n_bool n_enumerate n_int n_isinstance n_len n_list n_ord n_range n_str n_super n_tuple
  cases hfa.symm.trans T.g_law
  exact ⟨T.d_law, T.h_law, fun base _ _ => ok_law T⟩
end K19
instance : Gd.ProgOk PySem.Challenge.rw_plinth_k19_listings_are_read_back.prog := ⟨by decide +kernel, by decide +kernel⟩
open PySem PySem.W PyProof.Rows
set_option maxRecDepth 100000 in
set_option maxHeartbeats 0 in
theorem PySem.Challenge.cw_plinth_k19_listings_are_read_back_holds : PySem.Challenge.rw_plinth_k19_listings_are_read_back.Holds := by
  w_on; o_law; k_head; (case hw => w_witness2)
  k_fill
  refine L2.walk_ofK (l := PySem.Challenge.rw_plinth_k19_listings_are_read_back) (n := 63) (k := 6) (x := "script") (CX := L2.CX0) (sp := K19.sp_law) rfl (by decide) rfl ⟨rfl, by decide, by decide⟩ (fun w h Y => PySem.W.kIn_of Y) ?F K19.law_at (fun _ _ _ _ z => z)
  case F =>
    intro w mg fa h KX G hmg
    refine' K19.all_mk KX G hmg ?g_ShortReader ?a1 ?l1 ?c1 ?k1 ?a2 ?l2 ?c2 ?k2 ?a3 ?l3 ?c3 ?k3 ?a4 ?l4 ?c4 ?k4 ?a5 ?l5 ?c5 ?k5 ?a6 ?l6 ?c6 ?k6 ?a7 ?l7 ?c7 ?k7 ?a8 ?l8 ?c8 ?k8 ?a9 ?l9 ?c9 ?k9 ?a10 ?l10 ?c10 ?k10 ?a11 ?l11 ?c11 ?k11 ?a12 ?l12 ?c12 ?k12 ?a13 ?l13 ?c13 ?k13 ?a14 ?l14 ?c14 ?k14 ?a15 ?l15 ?c15 ?k15 ?a16 ?i16 ?l16 ?c16 ?k16 ?a17 ?i17 ?l17 ?c17 ?k17 ?a18 ?i18 ?l18 ?c18 ?k18 ?a19 ?i19 ?l19 ?c19 ?k19 ?a20 ?i20 ?l20 ?c20 ?k20 ?a21 ?i21 ?l21 ?c21 ?k21 ?a22 ?l22 ?c22 ?k22 ?a23 ?l23 ?c23 ?k23 ?a24 ?l24 ?c24 ?k24 ?a25 ?l25 ?c25 ?k25 ?a26 ?l26 ?c26 ?k26 ?a27 ?l27 ?c27 ?k27 ?a28 ?l28 ?c28 ?k28 ?a29 ?l29 ?c29 ?k29 ?a30 ?l30 ?c30 ?k30 ?a31 ?l31 ?c31 ?k31 ?a32 ?l32 ?c32 ?k32 ?a33 ?l33 ?c33 ?k33 ?g_PlinthError ?k_PlinthError ?x_PlinthError ?b_PlinthError ?t_PlinthError ?hd_PlinthError ?s_PlinthError ?i_PlinthError ?g_NotText ?k_NotText ?x_NotText ?b_NotText ?t_NotText ?hd_NotText ?s_NotText ?i_NotText ?g_NotNumeral ?k_NotNumeral ?x_NotNumeral ?b_NotNumeral ?t_NotNumeral ?hd_NotNumeral ?s_NotNumeral ?i_NotNumeral ?g_NotListable ?k_NotListable ?xi_NotListable ?xl_NotListable ?xc_NotListable ?xv_NotListable ?xe_NotListable ?xd_NotListable ?xp_NotListable ?xm_NotListable ?xs_NotListable ?xu_NotListable ?xo_NotListable ?xk_NotListable ?xr_NotListable ?xa_NotListable ?xt_NotListable ?xn_NotListable ?b_NotListable ?t_NotListable ?hd_NotListable ?s_NotListable ?i_NotListable ?pg_ShortReader ?hd_ShortReader ?po_ShortReader ?sa_ShortReader ?mk_ShortReader ?kc_ShortReader ?na_ShortReader_m ?na_ShortReader_r ?na_ShortReader_waiting ?na_ShortReader_finished ?na_ShortReader_cells ?g_NOT_IN_LISTINGS ?tu_NOT_IN_LISTINGS ?ti_NOT_IN_LISTINGS ?c_COLON ?c_NEWLINE ?c_NOP ?c_PUSH ?c_QUOTE ?c_SPACE ?c_FROM_AMPERSAND ?c_FROM_SPACE ?c_GREATER ?n_abs ?n_all ?n_bool ?n_enumerate ?n_int ?n_isinstance ?n_len ?n_list ?n_ord ?n_range ?n_str ?n_super ?n_tuple
    (case g_ShortReader => k_is)
    (case a1 => k_is)
    (case l1 => k_is)
    (case c1 => k_is)
    (case k1 => k_is)
    (case a2 => k_is)
    (case l2 => k_is)
    (case c2 => k_is)
    (case k2 => k_is)
    (case a3 => k_is)
    (case l3 => k_is)
    (case c3 => k_is)
    (case k3 => k_is)
    (case a4 => k_is)
    (case l4 => k_is)
    (case c4 => k_is)
    (case k4 => k_is)
    (case a5 => k_is)
    (case l5 => k_is)
    (case c5 => k_is)
    (case k5 => k_is)
    (case a6 => k_is)
    (case l6 => k_is)
    (case c6 => k_is)
    (case k6 => k_is)
    (case a7 => k_is)
    (case l7 => k_is)
    (case c7 => k_is)
    (case k7 => k_is)
    (case a8 => k_is)
    (case l8 => k_is)
    (case c8 => k_is)
    (case k8 => k_is)
    (case a9 => k_is)
    (case l9 => k_is)
    (case c9 => k_is)
    (case k9 => k_is)
    (case a10 => k_is)
    (case l10 => k_is)
    (case c10 => k_is)
    (case k10 => k_is)
    (case a11 => k_is)
    (case l11 => k_is)
    (case c11 => k_is)
    (case k11 => k_is)
    (case a12 => k_is)
    (case l12 => k_is)
    (case c12 => k_is)
    (case k12 => k_is)
    (case a13 => k_is)
    (case l13 => k_is)
    (case c13 => k_is)
    (case k13 => k_is)
    (case a14 => k_is)
    (case l14 => k_is)
    (case c14 => k_is)
    (case k14 => k_is)
    (case a15 => k_is)
    (case l15 => k_is)
    (case c15 => k_is)
    (case k15 => k_is)
    (case a16 => k_is)
    (case i16 => k_is)
    (case l16 => k_is)
    (case c16 => k_is)
    (case k16 => k_is)
    (case a17 => k_is)
    (case i17 => k_is)
    (case l17 => k_is)
    (case c17 => k_is)
    (case k17 => k_is)
    (case a18 => k_is)
    (case i18 => k_is)
    (case l18 => k_is)
    (case c18 => k_is)
    (case k18 => k_is)
    (case a19 => k_is)
    (case i19 => k_is)
    (case l19 => k_is)
    (case c19 => k_is)
    (case k19 => k_is)
    (case a20 => k_is)
    (case i20 => k_is)
    (case l20 => k_is)
    (case c20 => k_is)
    (case k20 => k_is)
    (case a21 => k_is)
    (case i21 => k_is)
    (case l21 => k_is)
    (case c21 => k_is)
    (case k21 => k_is)
    (case a22 => k_is)
    (case l22 => k_is)
    (case c22 => k_is)
    (case k22 => k_is)
    (case a23 => k_is)
    (case l23 => k_is)
    (case c23 => k_is)
    (case k23 => k_is)
    (case a24 => k_is)
    (case l24 => k_is)
    (case c24 => k_is)
    (case k24 => k_is)
    (case a25 => k_is)
    (case l25 => k_is)
    (case c25 => k_is)
    (case k25 => k_is)
    (case a26 => k_is)
    (case l26 => k_is)
    (case c26 => k_is)
    (case k26 => k_is)
    (case a27 => k_is)
    (case l27 => k_is)
    (case c27 => k_is)
    (case k27 => k_is)
    (case a28 => k_is)
    (case l28 => k_is)
    (case c28 => k_is)
    (case k28 => k_is)
    (case a29 => k_is)
    (case l29 => k_is)
    (case c29 => k_is)
    (case k29 => k_is)
    (case a30 => k_is)
    (case l30 => k_is)
    (case c30 => k_is)
    (case k30 => k_is)
    (case a31 => k_is)
    (case l31 => k_is)
    (case c31 => k_is)
    (case k31 => k_is)
    (case a32 => k_is)
    (case l32 => k_is)
    (case c32 => k_is)
    (case k32 => k_is)
    (case a33 => k_is)
    (case l33 => k_is)
    (case c33 => k_is)
    (case k33 => k_is)
    (case g_PlinthError => k_is)
    (case k_PlinthError => k_is)
    (case x_PlinthError => k_exc)
    (case b_PlinthError => k_is)
    (case t_PlinthError => k_is)
    (case hd_PlinthError => k_is)
    (case s_PlinthError => first | rfl | k_is)
    (case i_PlinthError => k_is)
    (case g_NotText => k_is)
    (case k_NotText => k_is)
    (case x_NotText => k_exc)
    (case b_NotText => k_is)
    (case t_NotText => k_is)
    (case hd_NotText => k_is)
    (case s_NotText => first | rfl | k_is)
    (case i_NotText => k_is)
    (case g_NotNumeral => k_is)
    (case k_NotNumeral => k_is)
    (case x_NotNumeral => k_exc)
    (case b_NotNumeral => k_is)
    (case t_NotNumeral => k_is)
    (case hd_NotNumeral => k_is)
    (case s_NotNumeral => first | rfl | k_is)
    (case i_NotNumeral => k_is)
    (case g_NotListable => k_is)
    (case k_NotListable => k_is)
    (case xi_NotListable => k_is)
    (case xl_NotListable => k_is)
    (case xc_NotListable => k_is)
    (case xv_NotListable => first | rfl | decide +kernel)
    (case xe_NotListable => k_is)
    (case xd_NotListable => k_is)
    (case xp_NotListable => k_is)
    (case xm_NotListable => k_is)
    (case xs_NotListable => ks_is)
    (case xu_NotListable => k_is)
    (case xo_NotListable => k_is)
    (case xk_NotListable => k_is)
    (case xr_NotListable => first | rfl | decide +kernel)
    (case xa_NotListable => k_is)
    (case xt_NotListable => k_is)
    (case xn_NotListable => k_is)
    (case b_NotListable => k_is)
    (case t_NotListable => k_is)
    (case hd_NotListable => k_is)
    (case s_NotListable => first | rfl | k_is)
    (case i_NotListable => k_is)
    (case pg_ShortReader => k_is)
    (case hd_ShortReader => k_is)
    (case po_ShortReader => k_is)
    (case sa_ShortReader => k_is)
    (case mk_ShortReader => k_is)
    (case kc_ShortReader => k_is)
    (case na_ShortReader_m => k_is)
    (case na_ShortReader_r => k_is)
    (case na_ShortReader_waiting => k_is)
    (case na_ShortReader_finished => k_is)
    (case na_ShortReader_cells => k_is)
    (case g_NOT_IN_LISTINGS => k_is)
    (case tu_NOT_IN_LISTINGS => k_is)
    (case ti_NOT_IN_LISTINGS => first | rfl | decide +kernel)
    (case c_COLON => k_is)
    (case c_NEWLINE => k_is)
    (case c_NOP => k_is)
    (case c_PUSH => k_is)
    (case c_QUOTE => k_is)
    (case c_SPACE => k_is)
    (case c_FROM_AMPERSAND => k_is)
    (case c_FROM_SPACE => k_is)
    (case c_GREATER => k_is)
    (case n_abs => k_is)
    (case n_all => k_is)
    (case n_bool => k_is)
    (case n_enumerate => k_is)
    (case n_int => k_is)
    (case n_isinstance => k_is)
    (case n_len => k_is)
    (case n_list => k_is)
    (case n_ord => k_is)
    (case n_range => k_is)
    (case n_str => k_is)
    (case n_super => k_is)
    (case n_tuple => k_is)


