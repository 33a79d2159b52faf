import PyProof.Rows.All
import Wide.All
import OpenK.AllK
import Wide.FinOn
import HandS.ForMost
import HandS.ForExc
import HandS.Evl
import HandS.ExcIs
import HandS.RaiseMore
import HandS.IsInst
import HandS.Replace
import HandS.Flow
import HandS.Walk
import KE.RegKIsAll
import KE.IntTextLaws
import HandS.CallLocal
import HandS.Defaults
import HandS.MakeKwOnly
import KE.KIntText
import PyProof.Rows.StrDigitsNeg
import HandS.DictComp
import KE.KExcIs
import HandS.ExcInit
import HandS.ExcField
import HandS.Nested
import HandS.FStr
import KE.KExcSuper
import HandS.ExcSuper
import HandS.ClsMeth
import KE.KSortedM
import HandS.ExcOwn
import HandS.WordsExc
import HandS.TupAny
import HandS.TupLe
import HandS.Comp
import HandS.TryMany
import PySem.Challenge.RW_plinth_k66_what_is_due
namespace Gd
end Gd

set_option Elab.async false
set_option linter.all false
set_option maxRecDepth 100000
set_option maxHeartbeats 4000000
namespace K66
open PySem PySem.Spec PyProof.Rows L2 Evl Gd
/-! ### a look at the law, ahead of all that follows (it wants the most memory) -/
end K66
section
open PySem PySem.W PyProof.Rows
set_option maxRecDepth 100000 in
set_option maxHeartbeats 0 in
theorem K66.opening (h : PySem.Challenge.rw_plinth_k66_what_is_due.row.wellSaid = true → PySem.Challenge.rw_plinth_k66_what_is_due.row.Holds) : PySem.Challenge.rw_plinth_k66_what_is_due.Holds := by
  w_on; o_law
  exact h (by assumption)
end
namespace K66

end K66

set_option Elab.async false
set_option linter.all false
set_option maxRecDepth 100000
set_option maxHeartbeats 4000000
/-! A layer of our own: defs that are promised only where no repr is running (guards), repr of data, the end of a law. -/
namespace Gd
open PySem PySem.Spec PyProof.Rows L2

/-- a def's promise, given only where no guard stands around -/
structure GOk (P : Program) (w : World) (K : PySem.W.Frag) (mg : Str → Option Value) (base : Heap) (CX : CXT) (k : Nat) (f : Addr) (fd : FuncData) (ps : List Str) (sp : Sp) : Prop where
  len : ∀ vs H Q E, sp vs H Q E → vs.length = ps.length
  go : ∀ (A : Around) (outer : List Env) (s : Shared) (H : Hp) (args : Args) (us : List Value) (vs : List V) (Q : VK) (E : XK),
    A.guards = some [] → Room k A → Env0 P w K mg base A outer s H → BindsTo s fd args (ps.zip us) → Vals vs us → sp vs H Q E →
      codeAny (model P w) A (.call (.ref f) args) (CR CX outer P w H s Q E) s

section
variable {P : Program} {w : World} {K : PySem.W.Frag} {mg : Str → Option Value} {base : Heap}
theorem gfun {CX : CXT} {x qual : Str} {st : Stmt} {f : Addr} {fd : FuncData} {N ps : List Str} {k : Nat} {sp : Sp}
    (F : Fun K x qual st f fd) (S : FnScope N ps (defScope st)) (len : ∀ vs H Q E, sp vs H Q E → vs.length = ps.length)
    (hb : ∀ (cdv : Value) (A : Around) (outer : List Env) (s : Shared) (H : Hp) (vs : List V) (Q : VK) (E : XK),
      A.guards = some [] → Room k (A.deeper (envOfC qual (defScope st) s.heap.objs.size f cdv)) → sp vs H Q E →
      ∃ t, PSs (cxOf CX P w K mg base N qual (defScope st) f cdv A outer s H E) (defBody st) t ∧ t { nx := fun _ H' => Q .non H', rt := Q } (start N vs) H) :
    GOk P w K mg base CX (k + 1) f fd ps sp := by
  obtain ⟨oc, od, kV, doc, pm, an, cdv, ct, osl, rfl, lk, hcd⟩ := F.ex
  constructor
  · exact len
  intro A outer s H args us vs Q E hg hr e0 hbd rv hsp
  have hl := len _ _ _ _ hsp
  have kp := fun b o e => (e0.bs b o e).1
  have KX : K.In s.heap := e0.mod.kin.keeps kp
  have lim : s.heap.NoLimit := e0.mod.nolimit.keeps kp
  refine codeAny_call_function hr.depth (KX _ _ lk) rfl S.co S.gen rfl (PySem.W.codeRec_of KX hcd) (hbd _ _ _ _ ?_)
  have hkind : ∀ y ∈ ps.zip us, (defScope st).names.lookup y.1 = some .local ∨ ((defScope st).names.lookup y.1 = some .cell ∧ ((cellsFrom (s.heap.objs.size + 1) (defScope st).names []).lookup y.1).isSome = true) := by
    rintro ⟨n, v⟩ hy
    cases S.par n (List.of_mem_zip hy).1 with
    | inl q => exact .inl q
    | inr q => exact .inr ⟨q, PySem.W.cellsFrom_some _ _ _ (.inl q)⟩
  refine wpAny_newFunctionEnv_cells S.kind hkind fun env he s1 x => ?_
  subst he
  obtain ⟨t, ht, hq⟩ := hb cdv A outer s H vs Q E hg (hr.deeper _) hsp
  refine ⟨lim.keeps x.toInCall.keep, codeAny_func (wpAny_mono (ht.run [] s1 (start N vs) H _ (inv_start S hr.hd e0 hl rv x) hq) (fun fl s' hs => ?_) fun e s' hs => hs)⟩
  cases fl with
  | ret u =>
    obtain ⟨v, σ', H', J, r2, q⟩ := hs
    exact ⟨v, H', J.os, J.bare, J.base, J.hok, r2, q⟩
  | next =>
    obtain ⟨σ', H', J, q⟩ := hs
    exact ⟨V.non, H', J.os, J.bare, J.base, J.hok, rfl, q⟩
  | brk => exact (let ⟨_, _, _, q⟩ := hs; False.elim q)
  | cont => exact (let ⟨_, _, _, q⟩ := hs; False.elim q)
end

/-! ### the call of such a def, from a body around which no guard stands -/
section
variable {X : Cx} {CX : CXT} {k : Nat} {f : Addr} {fd : FuncData} {ps : List Str} {sp : Sp} {E : XK} {x : Str} {p pos : Pos} {e : Expr} {es : List Expr} {t : TA}
theorem pe_callG (F : GOk X.prog X.w X.K X.mg X.base CX k f fd ps sp) (hgd : X.A.guards = some []) (hr : Room k X.A) (hg : Gl X x) (hm : X.mg x = some (.ref f)) (hk : PySem.W.keepIn X.K (.ref f) = true)
    (hb : Binds X.K fd ps []) (hx : Passes CX X E) (ha : PA X (e :: es) t) (hdb : (x == ("__debug__" : Str)) = false := by decide)
    (he : starEach (e :: es) X.env = (false, eval e X.env) :: starEach es X.env := by rfl) (hpl : (backTo pos (starEach es X.env)).any (·.1) = false := by rfl) :
    PE X (.Call (.Name x p) (e :: es) [] pos) (tCall sp [] E t) := by
  constructor
  intro pins s σ H Q I h
  refine wpAny_Call_Name_kw (ld_glob I hg hm ?_ hdb)
  refine PySem.W.callWith_K (h₀ := X.base) I.ok.mod.kin hk (thn (ha.run pos pins s σ H _ I h) fun us s1 hh => ?_) he hpl
  obtain ⟨vs, H1, I1, r, q⟩ := hh
  refine ⟨I1.kIn, ?_⟩
  rw [List.append_nil] at q
  have hl : us.length = ps.length := r.length.symm.trans (F.len _ _ _ _ q)
  have bd := hb s1 us I1.kIn (by rw [List.append_nil]; exact hl)
  rw [List.append_nil] at bd
  refine wpAny_call (codeAny_mono (F.go X.A X.stack s1 H1 ⟨us, []⟩ us vs Q E hgd hr I1.env0 bd r q) fun r' s' hq => ?_)
  cases r' with
  | error e => exact hx pins σ H1 s1 e s' I1 hq
  | ok fl =>
    cases fl with
    | ret u => exact I1.after hq
    | next => exact False.elim hq
    | brk => exact False.elim hq
    | cont => exact False.elim hq
end

/-! ### repr of data -/
def rRepr (K : PySem.W.Frag) : List V → Hp → VK → Prop := fun xs H Q => ∃ (v : V) (d : PyData), xs = [v] ∧ Dp K H v d ∧ d.showable = true ∧ d.hasDict = false ∧ d.depth ≤ 40 ∧ d.shown.length ≤ sizeLine ∧ Q (.str d.shown) H
section
variable {X : Cx}
theorem call_reprD (hgd : X.A.guards = some []) (hu : X.A.units + 64 < cLine) : CallR X (.builtin "repr") (rRepr X.K) := by
  intro pins s σ H xs us Q I r h
  obtain ⟨v, d, rfl, hd, hs, hnd, hdp, hz, q⟩ := h
  obtain ⟨u, rfl, ru⟩ := vals1 r
  obtain ⟨as, hr⟩ := Dp.reads I d v u hd ru
  cases hd with
  | lst h1 h2 =>
    cases ru
    exact repr_of_reads' hr hs (PyData.noDict_hsm hnd) hgd (by omega) (fun _ _ e => e) (fun h' u tk hk => ⟨.str _, H, I.kept (t' := tk) hk, ⟨_, rfl⟩, q⟩) hz
  | tup h1 h2 =>
    cases ru
    exact repr_of_reads' hr hs (PyData.noDict_hsm hnd) hgd (by omega) (fun _ _ e => e) (fun h' u tk hk => ⟨.str _, H, I.kept (t' := tk) hk, ⟨_, rfl⟩, q⟩) hz
  | int i =>
    obtain ⟨t, rfl⟩ := ru
    exact PySem.P.repr_of_int (of_decide_eq_true hs) ⟨.str _, H, I.tok _, ⟨_, rfl⟩, q⟩
  | non =>
    cases ru
    exact PySem.P.repr_of_none ⟨.str _, H, I.tok _, ⟨_, rfl⟩, q⟩
  | bl b =>
    cases ru
    refine PySem.P.repr_of_bool ⟨.str _, H, I.tok _, ⟨_, rfl⟩, ?_⟩
    have e : (PyData.bool b).shown = (if b then ("True" : Str) else "False") := by unfold PyData.shown; rfl
    rw [← e]
    exact q
  | str x =>
    obtain ⟨t, rfl⟩ := ru
    exact PySem.P.repr_of_str ⟨.str _, H, I.tok _, ⟨_, rfl⟩, q⟩ hz
end

/-! ### the end of a law whose def is so promised -/
section
variable {P : Program} {w : World} {K : PySem.W.Frag} {mg mb : Str → Option Value} {CX : CXT} {k : Nat} {fa a : Addr} {fd : FuncData} {x : Str} {sp : Sp} {s₁ : Shared} {vs : List Value} {ns : List Int}
/-- from an abstract heap H that tracks at most the script -/
theorem g_core (H : Hp) (KX : K.In s₁.heap) (hns : s₁.heap.Ns mainGlobals mg) (hb : s₁.heap.Ns builtinsNs mb) (hbb : ∀ x : Str, x ≠ "__name__" → mb x = bootBuiltins x) (hlim : s₁.heap.NoLimit) (hg : s₁.gens = #[])
    (ha : s₁.heap.get? a = some { cls := .type "list", data := .seq vs.toArray }) (hr : Room k callerA)
    (F : ∀ base : Heap, K.In base → base.Ns mainGlobals mg → GOk P w K mg base CX k fa fd [x] sp) (hbind : ∀ (s : Shared) (u : Value), BindsTo s fd ⟨[u], []⟩ [(x, u)])
    (hsp : sp [.ref a] H (fun v _ => v = .bl true) fun _ _ _ => False) (hCX : ∀ e s', CX [] H s₁ (fun _ _ _ => False) e s' → False)
    (hO : Only H) (hok : HOk P w H s₁.heap) (hA : ∀ b u, H b = some u → b = a ∧ K.lookup a = none) :
    codeAny (model P w) callerA (.call (.ref fa) ⟨[.ref a], []⟩) (fun r s' => r = .ok (.ret (.bool true)) ∧ PySem.OldK s₁.heap s'.heap ∧ s'.os = s₁.os ∧ AllBare s'.gens) s₁ := by
  have hid : ∀ {b : Addr} {o : Obj}, s₁.heap.get? b = some o → H b = none → (hidT s₁.heap H).get? b = some o := fun e n => hidT_get e n
  have un_d : ∀ {b : Addr} {o : Obj} {es : Array DictEntry} {ep : Nat}, s₁.heap.get? b = some o → o.data = .dict es ep → H b = none := by
    intro b o es ep e d
    cases q : H b with
    | none => rfl
    | some u =>
      rw [(hA b u q).1, ha] at e
      cases e
      exact nomatch d
  have ns_b : ∀ {b : Addr} {m : Str → Option Value}, s₁.heap.Ns b m → (hidT s₁.heap H).Ns b m := by
    rintro b m ⟨o, es, ep, e, d, r⟩
    exact ⟨o, es, ep, hid e (un_d e d), d, r⟩
  have k_b : K.In (hidT s₁.heap H) := by
    intro b o e
    refine hid (KX b o e) ?_
    cases q : H b with
    | none => rfl
    | some u =>
      obtain ⟨e1, e2⟩ := hA b u q
      rw [e1, e2] at e
      cases e
  have nl : (hidT s₁.heap H).NoLimit := let ⟨mc, h1, h2⟩ := hlim; ⟨mc, ns_b h1, h2⟩
  have e0 : Env0 P w K mg (hidT s₁.heap H) callerA [] s₁ H :=
    { frames := rfl, mod := ⟨k_b, ns_b hns, ⟨mb, ns_b hb, hbb⟩, nl⟩, bs := fun b o e => of_hidT e, bsz := Nat.le_of_eq (hidT_size _ _), funs := trivial,
      frf := fun b z => absurd (show b ∈ ([] : List Addr) from z) List.not_mem_nil, hok := hok, bare := .of_eq hg }
  refine codeAny_mono ((F _ k_b (ns_b hns)).go callerA [] s₁ H ⟨[.ref a], []⟩ [.ref a] [.ref a] _ _ rfl hr e0 (hbind s₁ (.ref a)) (.cons rfl .nil) hsp) fun r s' h => ?_
  cases r with
  | error e => exact (hCX e s' h).elim
  | ok fl =>
    cases fl with
    | next => exact False.elim h
    | brk => exact False.elim h
    | cont => exact False.elim h
    | ret u =>
      obtain ⟨v, H', os, bare, un, hok', r', q⟩ := h
      cases (show v = .bl true from q)
      cases (show u = Value.bool true from r')
      refine ⟨rfl, OldK.of_keep fun b o e => ?_, os, bare⟩
      cases q : H b with
      | none => exact un.keep b o e q (fun z => absurd (show b ∈ ([] : List Addr) from z) List.not_mem_nil) List.not_mem_nil
      | some u =>
        cases hO b with
        | inl z => exact nomatch q.symm.trans z
        | inr z =>
          obtain ⟨ob, xs, z⟩ := z
          obtain ⟨e1, _⟩ := hok b _ z
          cases e.symm.trans e1
          exact (hok' b _ (un.frzs b _ _ z)).1

theorem g_call (KX : K.In s₁.heap) (hns : s₁.heap.Ns mainGlobals mg) (hb : s₁.heap.Ns builtinsNs mb) (hbb : ∀ x : Str, x ≠ "__name__" → mb x = bootBuiltins x) (hlim : s₁.heap.NoLimit) (hg : s₁.gens = #[])
    (ha : s₁.heap.get? a = some { cls := .type "list", data := .seq vs.toArray }) (hi : IntsAre vs ns) (hl : ns.length ≤ sizeLine) (hr : Room k callerA)
    (F : ∀ base : Heap, K.In base → base.Ns mainGlobals mg → GOk P w K mg base CX k fa fd [x] sp) (hbind : ∀ (s : Shared) (u : Value), BindsTo s fd ⟨[u], []⟩ [(x, u)])
    (hsp : ∀ H : Hp, Only H → SqL K H a (ns.map V.int) → sp [.ref a] H (fun v _ => v = .bl true) fun _ _ _ => False)
    (hCX : ∀ H e s', CX [] H s₁ (fun _ _ _ => False) e s' → False) :
    codeAny (model P w) callerA (.call (.ref fa) ⟨[.ref a], []⟩) (fun r s' => r = .ok (.ret (.bool true)) ∧ PySem.OldK s₁.heap s'.heap ∧ s'.os = s₁.os ∧ AllBare s'.gens) s₁ := by
  have rv := vals_ints hi
  cases hk : K.lookup a with
  | some o =>
    cases ha.symm.trans (KX a o hk)
    have O : Only (fun _ => none : Hp) := fun _ => .inl rfl
    refine g_core (fun _ => none) KX hns hb hbb hlim hg ha hr F hbind (hsp _ O (.inr ?_)) (hCX _) O (fun b u z => nomatch (show (none : Option HO) = some u from z)) (fun b u z => nomatch (show (none : Option HO) = some u from z))
    exact ⟨_, vs.toArray, _, hk, rfl, rfl, rfl, by rw [List.size_toArray, hi.length]; exact hl, by simpa using rv⟩
  | none =>
    let sc : HO := .frz { cls := .type "list", data := .seq vs.toArray } (.lst (ns.map V.int))
    let H : Hp := fun b => if b = a then some sc else none
    have Ha : H a = some sc := if_pos rfl
    have Hb : ∀ b u, H b = some u → b = a ∧ u = sc := by
      intro b u z
      by_cases q : b = a
      · exact ⟨q, Option.some.inj (z.symm.trans (if_pos q))⟩
      · exact nomatch z.symm.trans (if_neg q)
    have O : Only H := by
      intro b
      by_cases q : b = a
      · exact .inr ⟨_, _, if_pos q⟩
      · exact .inl (if_neg q)
    refine g_core H KX hns hb hbb hlim hg ha hr F hbind (hsp H O (.inl (.inr ⟨_, Ha⟩))) (hCX H) O (fun b u z => ?_) (fun b u z => ⟨(Hb b u z).1, hk⟩)
    obtain ⟨rfl, rfl⟩ := Hb b u z
    exact ⟨ha, by rw [List.length_map]; exact hl, vs, _, rv, ha⟩
end

/-- the goal that k_head leaves of a law whose promise hangs on the written part alone -/
theorem g_walk {l : PySem.W.OpenLaw} {n k : Nat} {q : Program} {loose : List Str} {XP : (Str → Option Value) → Heap → Prop} {YP : World → Heap → Prop} {d : DefRec} {K : Params → PySem.W.Frag} {sp : PySem.W.Frag → Sp} {x : Str}
    (hn : l.most = some n) (hn2 : n ≤ sizeLine) (hdf : d.params.defaults = []) (hr : Room k callerA) (hY : ∀ (w : World) (h : Heap), YP w h → (K w.params).In h)
    (F : ∀ (w : World) (mg : Str → Option Value) (fa : Addr) (h : Heap), (K w.params).In h → h.Ns mainGlobals mg → mg d.name = some (.ref fa) →
      ∃ fd : FuncData, (∀ (s : Shared) (u : Value), BindsTo s fd ⟨[u], []⟩ [(x, u)]) ∧ ∀ base : Heap, (K w.params).In base → base.Ns mainGlobals mg → GOk l.prog w (K w.params) mg base CX0 k fa fd [x] (sp (K w.params)))
    (hsp : ∀ (K : PySem.W.Frag) (H : Hp) (a : Addr) (ns : List Int), ns.length ≤ n → Only H → SqL K H a (ns.map V.int) → sp K [.ref a] H (fun v _ => v = .bl true) fun _ _ _ => False) :
    PySem.W.WalkO q loose XP YP l.row.toRowW d [] (fun f vs => PySem.call f vs) := by
  refine Att.attach_call hn hdf ?_
  intro w s₀ s₁ mg mb fa o pm cd doc a vs ns G Y ho hd hcd hmg hobj hints hlen hg
  have KX := hY w _ Y
  obtain ⟨fd, hb, hF⟩ := F w mg fa _ KX G.T.g hmg
  exact g_call KX G.T.g G.T.b G.T.builtins G.T.nolimit hg hobj hints (Nat.le_trans hlen hn2) hr hF hb (fun H hO hS => hsp _ H a ns hlen hO hS) fun H e s' z => z
end Gd

set_option Elab.async false
set_option linter.all false
set_option maxRecDepth 100000
set_option maxHeartbeats 4000000
/-! More of our own: what evaluates to what, for chains, calls, texts; the draws of the laws. -/
namespace Gd
open PySem PySem.Spec PyProof.Rows L2 Evl
section
variable {K : PySem.W.Frag} {σ : L2.St} {H H' : Hp} {ta tb tc te : TE} {t u : TT} {x y z v : V} {r r' : R2}
theorem ev_chain {a b : Bool} {c : V} (ha : Ev ta σ H x) (hb : Ev tb σ H y) (hr : RV r x y H (.bl a)) (hc : a = true → Ev tc σ H c) (hr2 : a = true → RV r' y c H (.bl b)) :
    Ev (tChain r r' ta tb tc) σ H (.bl (a && b)) := fun H1 e Q q =>
  ha H1 e _ fun H2 e2 => hb H2 (e.trans e2) _ fun H3 e3 => hr H3 ((e.trans e2).trans e3) _ fun H4 e4 => ⟨a, rfl, by
    have e14 := (e2.trans e3).trans e4
    cases a with
    | true =>
      rw [if_pos rfl]
      exact hc rfl H4 (e.trans e14) _ fun H5 e5 => hr2 rfl H5 ((e.trans e14).trans e5) Q fun H6 e6 => q H6 ((e14.trans e5).trans e6)
    | false =>
      rw [if_neg Bool.false_ne_true]
      exact q H4 e14⟩
theorem rv_eqI {i j : Int} : RV rEq (.int i) (.int j) H (.bl (decide (i = j))) := by
  have h : RV rEq (.int i) (.int j) H (.bl (decide (V.int i = V.int j))) := rv_eq rfl
  have e : decide (V.int i = V.int j) = decide (i = j) := by
    by_cases h : i = j
    · rw [h, decide_eq_true rfl, decide_eq_true rfl]
    · rw [decide_eq_false h, decide_eq_false (fun q => h (V.int.inj q))]
  rw [← e]
  exact h
theorem rv_eqS {i j : Str} : RV rEq (.str i) (.str j) H (.bl (decide (i = j))) := by
  have h : RV rEq (.str i) (.str j) H (.bl (decide (V.str i = V.str j))) := rv_eq rfl
  have e : decide (V.str i = V.str j) = decide (i = j) := by
    by_cases h : i = j
    · rw [h, decide_eq_true rfl, decide_eq_true rfl]
    · rw [decide_eq_false h, decide_eq_false (fun q => h (V.str.inj q))]
  rw [← e]
  exact h
theorem rv_neS {i j : Str} : RV rNe (.str i) (.str j) H (.bl (!decide (i = j))) := by
  have h : RV rNe (.str i) (.str j) H (.bl (!decide (V.str i = V.str j))) := rv_ne rfl
  have e : decide (V.str i = V.str j) = decide (i = j) := by
    by_cases h : i = j
    · rw [h, decide_eq_true rfl, decide_eq_true rfl]
    · rw [decide_eq_false h, decide_eq_false (fun q => h (V.str.inj q))]
  rw [← e]
  exact h
theorem rv_neI {i j : Int} : RV rNe (.int i) (.int j) H (.bl (!decide (i = j))) := by
  have h : RV rNe (.int i) (.int j) H (.bl (!decide (V.int i = V.int j))) := rv_ne rfl
  have e : decide (V.int i = V.int j) = decide (i = j) := by
    by_cases h : i = j
    · rw [h, decide_eq_true rfl, decide_eq_true rfl]
    · rw [decide_eq_false h, decide_eq_false (fun q => h (V.int.inj q))]
  rw [← e]
  exact h
theorem rv_mod {i j : Int} (h : j ≠ 0) : RV (rI (fun _ j => j ≠ 0) fun i j => .int (i.fmod j)) (.int i) (.int j) H (.int (i.fmod j)) := rv_I h
theorem rv_fdiv {i j : Int} (h : j ≠ 0) (h2 : j.natAbs < 1073741824) : RV (rI CDivN fun i j => .int (i.fdiv j)) (.int i) (.int j) H (.int (i.fdiv j)) := rv_I ⟨h, h2⟩
theorem rv_mulR {i j : Int} (h : -(2 ^ 64) < j ∧ j < 2 ^ 64) : RV (rI CMul fun i j => .int (i * j)) (.int i) (.int j) H (.int (i * j)) := rv_I (.inr h)
theorem rv_mulL {i j : Int} (h : -(2 ^ 64) < i ∧ i < 2 ^ 64) : RV (rI CMul fun i j => .int (i * j)) (.int i) (.int j) H (.int (i * j)) := rv_I (.inl h)
theorem rv_pow {i j : Int} (h : 0 ≤ j ∧ j ≤ 1000000 ∧ i.natAbs < 2 ^ 64) : RV (rI CPow fun i j => .int (i ^ j.toNat)) (.int i) (.int j) H (.int (i ^ j.toNat)) := rv_I h
def rAddT : R2 := fun x y H Q => ∃ i j, x = .str i ∧ y = .str j ∧ i.length + j.length ≤ sizeLine ∧ Q (.str (i ++ j)) H
theorem rv_addS {i j : Str} (h : i.length + j.length ≤ 100000) : RV rAddT (.str i) (.str j) H (.str (i ++ j)) := fun H1 _ _ q => ⟨i, j, rfl, rfl, sz_of h, q H1 (Ex.refl H1)⟩
def rInt1 : List V → Hp → VK → Prop := fun xs H Q => (∃ i, xs = [.int i] ∧ Q (.int i) H) ∨ ∃ k, xs = [.bl k] ∧ Q (.int (if k then 1 else 0)) H
theorem rc_int {i : Int} : RC rInt1 [.int i] H (.int i) := fun H1 _ _ q => .inl ⟨i, rfl, q H1 (Ex.refl H1)⟩
theorem rc_intB {k : Bool} : RC rInt1 [.bl k] H (.int (if k then 1 else 0)) := fun H1 _ _ q => .inr ⟨k, rfl, q H1 (Ex.refl H1)⟩
def rOrd : List V → Hp → VK → Prop := fun xs H Q => ∃ x, xs = [.str x] ∧ x.length = 1 ∧ Q (.int (x.cps.getD 0 0 : Nat)) H
theorem rc_ord {c : Nat} : RC rOrd [.str ⟨#[c]⟩] H (.int (c : Int)) := fun H1 _ _ q => ⟨⟨#[c]⟩, rfl, rfl, q H1 (Ex.refl H1)⟩
def rLenT : List V → Hp → VK → Prop := fun xs H Q => ∃ x, xs = [.str x] ∧ x.length ≤ sizeLine ∧ Q (.int x.length) H
theorem rc_lenS {x : Str} (h : x.length ≤ 100000) : RC rLenT [.str x] H (.int x.length) := fun H1 _ _ q => ⟨x, rfl, sz_of h, q H1 (Ex.refl H1)⟩
theorem rc_repr {d : PyData} (hd : Dp K H v d) (hm : ∀ H1, Ex H H1 → Dp K H1 v d) (hs : d.showable = true) (hn : d.hasDict = false) (hp : d.depth ≤ 40) (hz : d.shown.length ≤ sizeLine) : RC (rRepr K) [v] H (.str d.shown) :=
  fun H1 e _ q => ⟨v, d, rfl, hm H1 e, hs, hn, hp, hz, q H1 (Ex.refl H1)⟩
theorem ev_sub {a : TE} {lo hi : TO} {i j : Option Int} {z : Str} (h : Ev a σ H (.str z)) (hl : EvO lo σ H i) (hh : EvO hi σ H j) (hz : z.length ≤ 100000) : Ev (tSl rSlS a lo hi) σ H (.str (cutS z i j)) := fun H1 e Q q =>
  h H1 e _ fun H2 e2 => hl H2 (e.trans e2) _ fun H3 e3 => hh H3 ((e.trans e2).trans e3) _ fun H4 e4 => ⟨z, rfl, sz_of hz, q H4 ((e2.trans e3).trans e4)⟩
end

/-! ### data of lists of ints -/
theorem dpAll_ints {K : PySem.W.Frag} {H : Hp} : ∀ ns : List Int, DpAll K H (ns.map V.int) (ns.map PyData.int)
  | [] => .nil
  | n :: r => .cons (.int n) (dpAll_ints r)
theorem dp_ints {K : PySem.W.Frag} {H : Hp} {a : Addr} {ns : List Int} (h : SqL K H a (ns.map V.int)) : Dp K H (.ref a) (.list (ns.map PyData.int)) := .lst h (dpAll_ints ns)
theorem showAll_ints : ∀ (ns : List Int), (∀ n ∈ ns, n.natAbs.log2 < 1920) → PyData.showableAll (ns.map PyData.int) = true
  | [], _ => by simp [PyData.showableAll]
  | n :: r, h => by
    rw [List.map_cons, PyData.showableAll, PyData.showable, decide_eq_true (h n List.mem_cons_self), showAll_ints r fun m hm => h m (List.mem_cons_of_mem _ hm)]
    rfl
theorem noDict_ints : ∀ ns : List Int, PyData.hasDictAll (ns.map PyData.int) = false
  | [] => by simp [PyData.hasDictAll]
  | n :: r => by
    rw [List.map_cons, PyData.hasDictAll, noDict_ints r, PyData.hasDict]
    rfl
theorem depthAll_ints : ∀ ns : List Int, PyData.depthAll (ns.map PyData.int) ≤ 1
  | [] => by simp [PyData.depthAll]
  | n :: r => by
    rw [List.map_cons, PyData.depthAll, PyData.depth]
    have := depthAll_ints r
    omega

/-! ### the script's cells -/
def cellN (ns : List Int) (k : Nat) : Int := ns.getD k 0

/-! ### comprehensions without a test: items mapped -/
section
variable {K : PySem.W.Frag} {σ : L2.St} {H H1 : Hp} {te tl : TE} {vs : List Nat} {j : Nat}
theorem take_snoc {α : Type} {l : List α} {i : Nat} {x : α} (h : l[i]? = some x) : l.take (i + 1) = l.take i ++ [x] := by
  rw [List.take_add_one, h]
  rfl
theorem lc_map {J : It} {G : Hp → Prop} {Y : Nat → Hp → V → Hp → Prop} {xs : List V} {D : Addr} {Qd : Hp → Prop} (w : Walk J xs.length G Y) (hY : ∀ i H x H', i < xs.length → Y i H x H' → H' = H ∧ xs[i]? = some x)
    (hz : xs.length ≤ 90000) (hw : ∀ x, wipe ((wipe σ vs).set j (some x)) vs = wipe σ vs) (f : V → V) (hG : ∀ H', Ex H1 H' → G H') (he : ∀ x ∈ xs, ∀ H', Ex H1 H' → Ev te ((wipe σ vs).set j (some x)) H' (f x)) (hD : H1 D = none)
    (k : ∀ H', Ex H1 H' → H' D = some (.lst (xs.map f)) → Qd H') :
    ∃ W : Nat → Nat → Hp → Prop, (∃ m, W 0 m (upd H1 D (.lst []))) ∧ ∀ i m H, W i m H →
      (J.stop i H ∧ Qd H) ∨ (J.go i H ∧ ∃ Nx : Hp → Prop, (∀ H', Nx H' → ∃ m', m' < m ∧ W (i + 1) m' H') ∧ ∀ x H', J.yld i H x H' → gName j x (wipe σ vs) H' fun σ2 H2 => wipe σ2 vs = wipe σ vs ∧ tYes σ2 H2 fun b H3 =>
        if b = true then te σ2 H3 fun y H4 => ∃ acc, H4 D = some (.lst acc) ∧ acc.length < sizeLine ∧ Nx (upd H4 D (.lst (acc ++ [y]))) else Nx H3) := by
  refine lc_it w (fun i H' => Ex H1 H' ∧ H' D = some (.lst ((xs.take i).map f))) ⟨Ex.new hD, upd_same⟩ (fun i H' _ p => hG H' p.1) ?_ (fun H' p => k H' p.1 (by rw [p.2, List.take_length]))
  intro i x H2 H3 hi p y
  obtain ⟨e, hx⟩ := hY i H2 x H3 hi y
  subst e
  obtain ⟨p1, p2⟩ := p
  refine ⟨hw x, ?_⟩
  dsimp only [tYes]
  rw [if_pos rfl]
  refine he x (List.mem_of_getElem? hx) H3 p1 H3 (Ex.refl H3) _ fun H4 e4 => ⟨(xs.take i).map f, e4 D _ p2, sz_lt (by rw [List.length_map, List.length_take]; omega), Ex.mut (p1.trans e4) hD, ?_⟩
  rw [upd_same, take_snoc hx, List.map_append]
  rfl
theorem el_mapL {a : Addr} {xs : List V} (f : V → V) (h : Ev tl σ H (.ref a)) (hx : SqL K H a xs) (hz : xs.length ≤ 90000) (hw : ∀ x, wipe ((wipe σ vs).set j (some x)) vs = wipe σ vs)
    (he : ∀ x ∈ xs, ∀ H1, Ex H H1 → Ev te ((wipe σ vs).set j (some x)) H1 (f x)) : EvL (tLc (iList K tl) (gName j) tYes te vs) σ H (xs.map f) := fun H0 e Q q =>
  h H0 e _ fun H1 e1 => ⟨a, rfl, ⟨xs, ex_l (e.trans e1) hx⟩, fun D hD => lc_map walk_list (fun _ _ _ _ _ y => y) hz hw f (fun H' e' => ex_l ((e.trans e1).trans e') hx) (fun x m H' e' => he x m H' ((e.trans e1).trans e')) hD
    (fun H' e' hd => q D H' (fresh_back e1 hD) (e1.trans e') hd)⟩
theorem el_mapNL {xs : List V} (f : V → V) (h : EvL tl σ H xs) (hz : xs.length ≤ 90000) (hw : ∀ x, wipe ((wipe σ vs).set j (some x)) vs = wipe σ vs)
    (he : ∀ x ∈ xs, ∀ H1, Ex H H1 → Ev te ((wipe σ vs).set j (some x)) H1 (f x)) : EvL (tLc (iList K tl) (gName j) tYes te vs) σ H (xs.map f) := fun H0 e Q q =>
  h H0 e _ fun a H1 _ e1 ha => ⟨a, rfl, ⟨xs, sq_of ha⟩, fun D hD => lc_map walk_list (fun _ _ _ _ _ y => y) hz hw f (fun H' e' => sq_of (e' a _ ha)) (fun x m H' e' => he x m H' ((e.trans e1).trans e')) hD
    (fun H' e' hd => q D H' (fresh_back e1 hD) (e1.trans e') hd)⟩
def sgns (z : Str) : List V := z.cps.toList.map fun c => V.str ⟨#[c]⟩
theorem sgns_at {z : Str} {i c : Nat} (h : z.cps[i]? = some c) : (sgns z)[i]? = some (.str ⟨#[c]⟩) := by
  unfold sgns
  rw [List.getElem?_map, Array.getElem?_toList, h]
  rfl
theorem sgns_len (z : Str) : (sgns z).length = z.cps.size := by
  unfold sgns
  rw [List.length_map, Array.length_toList]
theorem walk_signs (z : Str) : Walk (Its z) (sgns z).length (fun _ => True) (YAt (sgns z)) := by
  rw [sgns_len]
  exact walk_str.mono (fun _ h => h) fun i H x H' _ _ y => by
    obtain ⟨e, c, hc, rfl⟩ := y
    exact ⟨e, sgns_at hc⟩
theorem el_mapS {z : Str} (f : V → V) (h : Ev tl σ H (.str z)) (hz : z.cps.size ≤ 90000) (hw : ∀ x, wipe ((wipe σ vs).set j (some x)) vs = wipe σ vs)
    (he : ∀ c ∈ z.cps.toList, ∀ H1, Ex H H1 → Ev te ((wipe σ vs).set j (some (.str ⟨#[c]⟩))) H1 (f (.str ⟨#[c]⟩))) : EvL (tLc (iStr tl) (gName j) tYes te vs) σ H ((sgns z).map f) := fun H0 e Q q =>
  h H0 e _ fun H1 e1 => ⟨z, rfl, fun D hD => lc_map (walk_signs z) (fun _ _ _ _ _ y => y) (by rw [sgns_len]; exact hz) hw f (fun _ _ => trivial) (fun x m H' e' => by
    obtain ⟨c, hc, rfl⟩ := List.mem_map.mp m
    exact he c hc H' ((e.trans e1).trans e')) hD (fun H' e' hd => q D H' (fresh_back e1 hD) (e1.trans e') hd)⟩
end

/-! ### join, repr, str(..) -/
section
variable {K : PySem.W.Frag} {σ : L2.St} {H H1 : Hp} {te tl to : TE}
def rJoinT (K : PySem.W.Frag) : V → List V → Hp → VK → Prop := fun x xs H Q => ∃ a p, ∃ ys : List Str, x = .str a ∧ xs = [.ref p] ∧ (SqL K H p (ys.map V.str) ∨ SqT K H p (ys.map V.str)) ∧
      (ys.map (·.length)).sum + ys.length * a.length ≤ 16777216 ∧ Q (.str (Txt.join a ys)) H
theorem ev_joinL {a : Str} {ys : List Str} (ho : Ev to σ H (.str a)) (h : EvL te σ H (ys.map V.str)) (hz : (ys.map (·.length)).sum + ys.length * a.length ≤ 16777216) : Ev (tM1 (rJoinT K) to te) σ H (.str (Txt.join a ys)) := fun H0 e Q q =>
  ho H0 e _ fun H1 e1 => ⟨⟨a, rfl⟩, h H1 (e.trans e1) _ fun p H2 _ e2 hp => ⟨a, p, ys, rfl, rfl, .inl (sq_of hp), hz, q H2 (e1.trans e2)⟩⟩
theorem joinE (ys : List Str) : (Txt.join "" ys).cps.toList = (ys.map fun y => y.cps.toList).flatten := by
  have h : ∀ l : List (List Nat), TL.joinL [] l = l.flatten := by
    intro l
    induction l with
    | nil => rfl
    | cons p r ih =>
      cases r with
      | nil => simp [TL.joinL]
      | cons q r => rw [TL.joinL, ih]; rfl
  rw [TL.join_eq]
  show TL.tl _ = _
  rw [TL.tl_join]
  exact h _
theorem show_le {ns : List Int} (hl : ns.length ≤ 1000) (hb : ∀ n ∈ ns, n.natAbs < 10 ^ 100) : (PyData.list (ns.map PyData.int)).shown.length ≤ sizeLine := by
  have hs : PyData.leavesShort 101 (.list (ns.map PyData.int)) = true := by
    unfold PyData.leavesShort
    clear hl
    induction ns with
    | nil => simp [PyData.leavesShortAll]
    | cons n r ih =>
      rw [List.map_cons, PyData.leavesShortAll, ih fun m hm => hb m (List.mem_cons_of_mem _ hm), Bool.and_true, PyData.leavesShort]
      refine decide_eq_true ?_
      unfold PyData.shown
      have h := int_text_length_le10 (k := 100) (by decide) (hb n List.mem_cons_self)
      have e : (Str.ofString (toString n)).length = (toString n).length := PySem.ofString_length _
      show (Str.ofString (toString n)).length ≤ 101
      rw [e]
      exact h
  have hk := PyData.shown_le_bulk 101 (by decide) _ hs
  have hb2 : (PyData.list (ns.map PyData.int)).bulk = ns.length := by
    unfold PyData.bulk
    clear hs hk hl hb
    induction ns with
    | nil => simp [PyData.bulkAll]
    | cons n r ih =>
      rw [List.map_cons, PyData.bulkAll, PyData.bulk, ih, List.length_cons]
      omega
  rw [hb2] at hk
  rw [sizeLine_eq]
  omega
set_option exponentiation.threshold 3000 in
theorem pow_small : 10 ^ 100 ≤ 2 ^ 1920 := by decide +kernel
set_option exponentiation.threshold 3000 in
theorem log_lt {n : Int} (h : n.natAbs < 10 ^ 100) : n.natAbs.log2 < 1920 := by
  by_cases h0 : n.natAbs = 0
  · rw [h0]; decide
  · exact (Nat.log2_lt h0).mpr (Nat.lt_of_lt_of_le h pow_small)
theorem ev_reprI {a : Addr} {ns : List Int} (h : Ev te σ H (.ref a)) (hx : SqL K H a (ns.map V.int)) (hl : ns.length ≤ 1000) (hb : ∀ n ∈ ns, n.natAbs < 10 ^ 100) :
    Ev (tCB (rRepr K) (tCons te tNil)) σ H (.str (PyData.list (ns.map PyData.int)).shown) :=
  ev_cb (ea_cons h ea_nil) fun H1 e _ q => ⟨.ref a, .list (ns.map PyData.int), rfl, dp_ints (ex_l e hx), by
    rw [PyData.showable]
    exact showAll_ints ns fun n hn => log_lt (hb n hn), by
    rw [PyData.hasDict]
    exact noDict_ints ns, by
    rw [PyData.depth]
    have := depthAll_ints ns
    omega, show_le hl hb, q H1 (Ex.refl H1)⟩
end

/-! ### what is known behind a statement -/
theorem q_mid {t u : TS} {D : Ends} {σ : L2.St} {H : Hp} (M : L2.St → Hp → Prop) (mono : ∀ (N N' : L2.St → Hp → Prop), (∀ σ H, N σ H → N' σ H) → t { D with nx := N } σ H → t { D with nx := N' } σ H)
    (h : t { D with nx := M } σ H) (k : ∀ σ' H', M σ' H' → u D σ' H') : tSeq t u D σ H := mono M (u D) k h

/-! ### isinstance -/
section
variable {K : PySem.W.Frag} {H : Hp}
theorem rc_isStr {x : Str} : RC (rIsi K) [.str x, .ty "str"] H (.bl true) := fun H1 _ _ q => ⟨_, _, _, _, true, rfl, .ty "str", .base (.str x), kit_ty (by decide +kernel), q H1 (Ex.refl H1)⟩
theorem rc_isInt {i : Int} : RC (rIsi K) [.int i, .ty "int"] H (.bl true) := fun H1 _ _ q => ⟨_, _, _, _, true, rfl, .ty "int", .base (.int i), kit_ty (by decide +kernel), q H1 (Ex.refl H1)⟩
theorem rc_isIntB {i : Int} : RC (rIsi K) [.int i, .ty "bool"] H (.bl false) := fun H1 _ _ q => ⟨_, _, _, _, false, rfl, .ty "bool", .base (.int i), kit_ty (by decide +kernel), q H1 (Ex.refl H1)⟩
theorem rc_isNonS : RC (rIsi K) [.non, .ty "str"] H (.bl false) := fun H1 _ _ q => ⟨_, _, _, _, false, rfl, .ty "str", .base .non, kit_ty (by decide +kernel), q H1 (Ex.refl H1)⟩
/-- isinstance of the error that a suite holds: its class is asked in the reading -/
def rIsX (K : PySem.W.Frag) (D a : Addr) (cls : Value) (d : Option Addr) : List V → Hp → VK → Prop := fun xs H Q => cls = .ref D ∧ d = none ∧ rIsE K D a xs H Q
theorem call_isX {X : Cx} {a D : Addr} {oe : Obj} {pn : List (Addr × Obj)} {cls : Value} {d : Option Addr} (C : ExcC X.K D) (hz : Zc cls d oe) (hf : ∃ vs, oe.data = .fields vs) : CallR (X.suite a ((a, oe) :: pn)) (.builtin "isinstance") (rIsX X.K D a cls d) := by
  intro pins s σ H xs us Q I r h
  obtain ⟨rfl, rfl, h⟩ := h
  exact call_isE C hz hf pins s σ H xs us Q I r h
theorem rc_isX {D a : Addr} {c : V} {cv : Value} {b : Bool} (hc : ∀ u, RelV c u → u = cv) (hk : PySem.W.kitOne K (.ref D) cv = some b) : RC (rIsX K D a (.ref D) none) [.ref a, c] H (.bl b) := fun H1 _ _ q => ⟨rfl, rfl, c, cv, b, rfl, hc, hk, q H1 (Ex.refl H1)⟩
end

/-! ### the draws of the laws: a cell's values -/
def lvMix (cell size : Int) (k : Nat) : Int := ((((cell.fmod 2147483647) * 48271 + (k : Int) * 69621 + 7).fmod 2147483647 * 16807).fmod 2147483647).fmod size
def lvStep (cell size : Int) (st : Int × List Int) (k : Nat) : Int × List Int :=
  if st.1 ≥ 10 ^ 12 then (st.1.fdiv size, st.2 ++ [st.1.fmod size]) else (st.1, st.2 ++ [lvMix cell size k])
def lvGo (cell size : Int) (n : Nat) : Int × List Int := (List.range n).foldl (lvStep cell size) (cell, [])
theorem lvGo_succ (cell size : Int) (n : Nat) : lvGo cell size (n + 1) = lvStep cell size (lvGo cell size n) n := by
  unfold lvGo
  rw [List.range_succ, List.foldl_append]
  rfl
/-- what _law_values gives -/
def lvals (cell : Int) (n : Nat) (size : Int) : List Int := (lvGo cell size n).2
theorem lvStep_len (cell size : Int) (st : Int × List Int) (k : Nat) : (lvStep cell size st k).2.length = st.2.length + 1 := by
  unfold lvStep
  split <;> simp
theorem lvals_len (cell : Int) (n : Nat) (size : Int) : (lvals cell n size).length = n := by
  unfold lvals
  induction n with
  | zero => rfl
  | succ n ih => rw [lvGo_succ, lvStep_len, ih]
theorem lvals_in {cell size : Int} (h : 0 < size) (n : Nat) : ∀ v ∈ lvals cell n size, 0 ≤ v ∧ v < size := by
  unfold lvals
  induction n with
  | zero => intro v hv; exact absurd hv List.not_mem_nil
  | succ n ih =>
    intro v hv
    rw [lvGo_succ] at hv
    unfold lvStep lvMix at hv
    have key : ∀ x : Int, 0 ≤ x.fmod size ∧ x.fmod size < size := fun x => ⟨Int.fmod_nonneg_of_pos x h, Int.fmod_lt_of_pos x h⟩
    split at hv
    · rcases List.mem_append.mp hv with q | q
      · exact ih v q
      · rw [List.mem_singleton.mp q]; exact key _
    · rcases List.mem_append.mp hv with q | q
      · exact ih v q
      · rw [List.mem_singleton.mp q]; exact key _

/-! ### texts and their codes -/
theorem map_at {α β : Type} {f : α → β} {l : List α} {i : Nat} {x : β} (h : (l.map f)[i]? = some x) : ∃ c, l[i]? = some c ∧ x = f c := by
  rw [List.getElem?_map] at h
  cases e : l[i]? with
  | none => rw [e] at h; cases h
  | some c => rw [e] at h; exact ⟨c, rfl, (Option.some.inj h).symm⟩
theorem sgns_map (z : Str) (f : V → V) : (sgns z).map f = z.cps.toList.map fun c => f (.str ⟨#[c]⟩) := by
  unfold sgns
  rw [List.map_map]
  rfl
theorem app_toList (x y : Str) : (x ++ y).cps.toList = x.cps.toList ++ y.cps.toList := TL.tl_append x y
theorem len_size (x : Str) : x.length = x.cps.toList.length := by simp [Str.length]
theorem str_ext {x y : Str} (h : x.cps.toList = y.cps.toList) : x = y := by
  cases x; cases y
  congr
  exact Array.toList_inj.mp h
end Gd

set_option Elab.async false
set_option linter.all false
set_option maxRecDepth 100000
set_option maxHeartbeats 4000000
/-! Of our own: draws that are popped off a list; lists of ints compared; digits. -/
namespace Gd
open PySem PySem.Spec PyProof.Rows L2 Evl
/-- all but p is kept -/
def But (p : Addr) (H H' : Hp) : Prop := ∀ b o, b ≠ p → H b = some o → H' b = some o
theorem But.refl {p : Addr} {H : Hp} : But p H H := fun _ _ _ h => h
theorem But.trans {p : Addr} {H H1 H2 : Hp} (a : But p H H1) (b : But p H1 H2) : But p H H2 := fun c o n h => b c o n (a c o n h)
theorem ex_but {p : Addr} {H H' : Hp} (e : Ex H H') : But p H H' := fun b o _ h => e b o h
theorem But.upd {p : Addr} {H : Hp} {o : HO} : But p H (upd H p o) := fun b u n h => by rw [upd_ne n]; exact h
theorem But.seq {K : PySem.W.Frag} {p a : Addr} {H H' : Hp} {xs : List V} (b : But p H H') (n : a ≠ p) (h : SqL K H a xs) : SqL K H' a xs := by
  rcases h with (h | ⟨o, h⟩) | h
  · exact .inl (.inl (b _ _ n h))
  · exact .inl (.inr ⟨o, b _ _ n h⟩)
  · exact .inr h
/-- what was free is free still, seen backwards -/
theorem But.free {p a : Addr} {H H' : Hp} {o : HO} (b : But p H H') (hp : H' p = some o) (h : H' a = none) : a ≠ p ∧ H a = none := by
  have n : a ≠ p := fun e => by rw [e, hp] at h; cases h
  refine ⟨n, ?_⟩
  cases e : H a with
  | none => rfl
  | some u => rw [b a u n e] at h; cases h
def Small (ds : List Int) : Prop := (∀ d ∈ ds, 0 ≤ d ∧ d < 1000) ∧ ds.length ≤ 20000
theorem Small.nil : Small [] := ⟨fun _ h => absurd h List.not_mem_nil, Nat.zero_le _⟩
theorem Small.app {ds es : List Int} (h1 : ∀ d ∈ ds, 0 ≤ d ∧ d < 1000) (h2 : ∀ d ∈ es, 0 ≤ d ∧ d < 1000) : ∀ d ∈ ds ++ es, 0 ≤ d ∧ d < 1000 := fun d hd => (List.mem_append.mp hd).elim (h1 d) (h2 d)
theorem Small.one {ds : List Int} {x : Int} (h1 : ∀ d ∈ ds, 0 ≤ d ∧ d < 1000) (h2 : 0 ≤ x ∧ x < 1000) : ∀ d ∈ ds ++ [x], 0 ≤ d ∧ d < 1000 := Small.app h1 fun d hd => by rw [List.mem_singleton.mp hd]; exact h2
def Drw (p : Addr) (H : Hp) : Prop := ∃ ds : List Int, H p = some (.lst (ds.map V.int)) ∧ Small ds
theorem Drw.ex {p : Addr} {H H' : Hp} (d : Drw p H) (e : Ex H H') : Drw p H' := let ⟨ds, h, s⟩ := d; ⟨ds, e _ _ h, s⟩
theorem fmod_in (x : Int) {m : Int} (h : 0 < m) : 0 ≤ x.fmod m ∧ x.fmod m < m := ⟨Int.fmod_nonneg_of_pos x h, Int.fmod_lt_of_pos x h⟩

/-! ### lists of ints compared -/
section
variable {K : PySem.W.Frag} {H : Hp} {σ : L2.St} {ta tb te : TE}
theorem can_ints : ∀ ns : List Int, PyData.canLayAll0 (ns.map PyData.int) = true
  | [] => by simp [PyData.canLayAll0]
  | n :: r => by
    rw [List.map_cons, PyData.canLayAll0, can_ints r, PyData.canLay0]
    rfl
theorem shaped_ints (ns : List Int) : SeqAt.shaped (.list (ns.map PyData.int)) = true := by
  unfold SeqAt.shaped
  rw [PyData.canLay0, can_ints, PyData.depth]
  have := depthAll_ints ns
  rw [Bool.true_and]
  exact decide_eq_true (by omega)
theorem eqv_ints : ∀ ns ms : List Int, PyData.eqvAll (ns.map PyData.int) (ms.map PyData.int) = decide (ns = ms)
  | [], [] => by simp [PyData.eqvAll]
  | [], m :: r => by simp [PyData.eqvAll]
  | n :: r, [] => by simp [PyData.eqvAll]
  | n :: r, m :: q => by
    rw [List.map_cons, List.map_cons, PyData.eqvAll, eqv_ints r q, PyData.eqv]
    by_cases h : n = m
    · subst h
      by_cases h2 : r = q
      · subst h2; simp
      · simp [h2]
    · simp [h]
theorem rv_eqL {a b : Addr} {ns ms : List Int} (ha : SqL K H a (ns.map V.int)) (hb : SqL K H b (ms.map V.int)) : RV (rEqD K) (.ref a) (.ref b) H (.bl (decide (ns = ms))) := fun H1 e Q q =>
  ⟨_, _, dp_ints (ex_l e ha), dp_ints (ex_l e hb), shaped_ints ns, shaped_ints ms, by rw [PyData.eqv, eqv_ints]; exact q H1 (Ex.refl H1)⟩
theorem rv_neL {a b : Addr} {ns ms : List Int} (ha : SqL K H a (ns.map V.int)) (hb : SqL K H b (ms.map V.int)) : RV (rNeD K) (.ref a) (.ref b) H (.bl (!decide (ns = ms))) := fun H1 e Q q =>
  ⟨_, _, dp_ints (ex_l e ha), dp_ints (ex_l e hb), shaped_ints ns, shaped_ints ms, by rw [PyData.eqv, eqv_ints]; exact q H1 (Ex.refl H1)⟩
def optV : Option Int → V
  | none => .non
  | some v => .int v
/-- value or 0 -/
theorem ev_or0 {o : Option Int} (h : Ev te σ H (optV o)) : Ev (tOrT K te (tC (.int 0))) σ H (.int (o.getD 0)) := fun H1 e Q q =>
  h H1 e _ fun H2 e2 => by
    cases o with
    | none => exact ⟨false, rfl, by rw [if_neg Bool.false_ne_true]; exact q H2 e2⟩
    | some v =>
      refine ⟨v != 0, rfl, ?_⟩
      by_cases hv : v = 0
      · subst hv
        exact q H2 e2
      · rw [if_pos (by simpa using hv)]
        exact q H2 e2
def rNotNn : R2 := fun x y H Q => y = .non ∧ Q (.bl (!decide (x = .non))) H
theorem rv_notN {o : Option Int} : RV rNotNn (optV o) .non H (.bl o.isSome) := fun H1 _ _ q => ⟨rfl, by
  have e : (!decide (optV o = .non)) = o.isSome := by
    cases o with
    | none => rfl
    | some v => exact by simp [optV]
  rw [e]
  exact q H1 (Ex.refl H1)⟩
theorem ev_listN {xs : List V} {a : Addr} (h : Ev te σ H (.ref a)) (hx : SqL K H a xs) : EvL (tCB (rListS K) (tCons te tNil)) σ H xs := el_list h hx
/-- the truth of a list -/
theorem et_truL {a : Addr} {xs : List V} (h : Ev te σ H (.ref a)) (hx : SqL K H a xs) : EvT (fun σ H Q => te σ H fun x H' => ∃ k, TruV K x H' k ∧ Q k H') σ H (!xs.isEmpty) := fun H1 e Q q =>
  h H1 e _ fun H2 e2 => ⟨!xs.isEmpty, .inl ⟨xs, ex_l (e.trans e2) hx, rfl⟩, q H2 e2⟩
end

/-! ### digits read -/
def isDg (c : Int) : Bool := decide (48 ≤ c) && decide (c ≤ 57)
def rdStep (st : List Int × Option Int) (c : Int) : List Int × Option Int :=
  if isDg c = true then (st.1, some (10 * st.2.getD 0 + c - 48)) else match st.2 with
    | some v => (st.1 ++ [v], none)
    | none => st
def rdFin (st : List Int × Option Int) : List Int := match st.2 with
  | some v => st.1 ++ [v]
  | none => st.1
def nn (c : Int) : Bool := decide (0 ≤ c)
def rdGo (ns : List Int) : List Int × Option Int := ns.foldl rdStep ([], none)
def rd (ns : List Int) : List Int := rdFin (rdGo (ns.takeWhile nn))
theorem at_sh {xs : List Nat} {c o n : Int} (h0 : 0 ≤ c - o) (hn : c - o < n) (ho : 0 ≤ o) (tab : ∀ k < n.toNat, xs[k]? = some (k + o.toNat)) : atI xs (c - o) = some c.toNat := by
  have e : c - o = (((c - o).toNat : Nat) : Int) := by omega
  rw [e]
  refine atI_nat ?_
  rw [tab _ (by omega)]
  congr 1
  omega
theorem takeWhile_pos {α : Type} {f : α → Bool} {l : List α} (h : l.takeWhile f = l) : ∀ z ∈ l, f z = true := by
  have e : (l.takeWhile f).all f = true := List.all_takeWhile
  rw [h] at e
  exact List.all_eq_true.mp e
theorem tw_stop {l : List Int} {i : Nat} {c : Int} (h : l[i]? = some c) (hc : nn c = false) (ht : (l.take i).takeWhile nn = l.take i) : l.takeWhile nn = l.take i := by
  have hi := (List.getElem?_eq_some_iff.mp h).1
  have e : l = l.take i ++ c :: l.drop (i + 1) := by
    have q := List.take_append_drop i l
    rw [List.drop_eq_getElem_cons hi] at q
    have hg : l[i] = c := by rw [List.getElem?_eq_getElem hi] at h; exact Option.some.inj h
    rw [hg] at q
    exact q.symm
  have q := congrArg (List.takeWhile nn) e
  rw [List.takeWhile_append_of_pos (fun z hz => takeWhile_pos ht z hz), List.takeWhile_cons, hc] at q
  simpa using q
theorem tw_len (l : List Int) : (l.takeWhile nn).length ≤ l.length := (List.takeWhile_sublist _).length_le
theorem foldl_snoc {α β : Type} {f : β → α → β} {b : β} {l : List α} {i : Nat} {x : α} (h : l[i]? = some x) : (l.take (i + 1)).foldl f b = f ((l.take i).foldl f b) x := by
  rw [take_snoc h, List.foldl_append]
  rfl
theorem rdGo_snoc {l : List Int} {i : Nat} {x : Int} (h : l[i]? = some x) : rdGo (l.take (i + 1)) = rdStep (rdGo (l.take i)) x := foldl_snoc h
theorem rdGo_len : ∀ (l : List Int), (rdGo l).1.length ≤ l.length := by
  intro l
  have key : ∀ (l : List Int) (st : List Int × Option Int), (l.foldl rdStep st).1.length ≤ st.1.length + l.length := by
    intro l
    induction l with
    | nil => intro st; simp
    | cons c r ih =>
      intro st
      have h1 := ih (rdStep st c)
      have h2 : (rdStep st c).1.length ≤ st.1.length + 1 := by
        unfold rdStep
        split
        · simp
        · split <;> simp
      rw [List.foldl_cons, List.length_cons]
      omega
  have := key l ([], none)
  unfold rdGo
  simpa using this
end Gd
namespace Gd
open PySem PySem.Spec PyProof.Rows L2 Evl
section
variable {K : PySem.W.Frag} {H : Hp} {σ : L2.St} {ta tb te : TE} {D : Ends} {tz : TS}
theorem rc_isList {p : Addr} {xs : List V} (h : H p = some (.lst xs)) : RC (rIsi K) [.ref p, .ty "list"] H (.bl true) := fun H1 e _ q => ⟨_, _, _, _, true, rfl, .ty "list", .base (.lst (e _ _ h)), kit_ty (by decide +kernel), q H1 (Ex.refl H1)⟩
/-- xs.extend([..]) -/
theorem s_ext {l : Addr} {xs ys : List V} (hl : H l = some (.lst xs)) (ha : Ev ta σ H (.ref l)) (h : EvL te σ H ys) (hz : xs.length + ys.length ≤ 100000) (k : ∀ H1, Ex H H1 → D.nx σ (upd H1 l (.lst (xs ++ ys)))) :
    tDrop (tBM K "list" rExtend ta (tCons te tNil)) D σ H := ha H (Ex.refl H) _ fun H1 e1 =>
  ⟨Or.inl ⟨rfl, xs, sq_of (e1 l _ hl)⟩, h H1 e1 _ fun p H2 hp e2 h2 => ⟨l, p, xs, ys, rfl, rfl, e2 l _ (e1 l _ hl), h2, sz_of hz, k H2 (e1.trans e2)⟩⟩
theorem q_ext {l : Addr} {xs ys : List V} (hl : H l = some (.lst xs)) (ha : Ev ta σ H (.ref l)) (h : EvL te σ H ys) (hz : xs.length + ys.length ≤ 100000) (k : ∀ H1, Ex H H1 → tz D σ (upd H1 l (.lst (xs ++ ys)))) :
    tSeq (tDrop (tBM K "list" rExtend ta (tCons te tNil))) tz D σ H := s_ext (D := { D with nx := tz D }) hl ha h hz k
/-- xs.reverse() -/
theorem q_rev {l : Addr} {xs : List V} (hl : H l = some (.lst xs)) (ha : Ev ta σ H (.ref l)) (k : ∀ H1, Ex H H1 → tz D σ (upd H1 l (.lst xs.reverse))) : tSeq (tDrop (tBM0 K "list" rReverse ta)) tz D σ H :=
  ha H (Ex.refl H) _ fun H1 e1 => ⟨Or.inl ⟨rfl, xs, sq_of (e1 l _ hl)⟩, l, xs, rfl, rfl, e1 l _ hl, k H1 e1⟩
/-- a + b, both lists -/
theorem el_cat {a : Addr} {xs ys : List V} (ha : Ev ta σ H (.ref a)) (hx : H a = some (.lst xs)) (hb : EvL tb σ H ys) (hz : xs.length + ys.length ≤ 100000) : EvL (tOp rCat ta tb) σ H (xs ++ ys) := fun H1 e Q q =>
  ha H1 e _ fun H2 e2 => hb H2 (e.trans e2) _ fun b H3 _ e3 h3 => ⟨a, b, xs, ys, rfl, rfl, e3 _ _ (e2 _ _ (e _ _ hx)), h3, sz_of hz, fun p hp => q p _ (fresh_back (e2.trans e3) hp) ((e2.trans e3).trans (Ex.new hp)) upd_same⟩
def rIntS : List V → Hp → VK → Prop := fun xs H Q => ∃ a n, xs = [.str a] ∧ PySem.intText? a = some n ∧ a.length ≤ 640 ∧ Q (.int n) H
theorem rc_intS {z : Str} {n : Int} (h : PySem.intText? z = some n) (hz : z.length ≤ 640) : RC rIntS [.str z] H (.int n) := fun H1 _ _ q => ⟨z, n, rfl, h, hz, q H1 (Ex.refl H1)⟩
theorem but_mut {p q : Addr} {H H' : Hp} {o : HO} (b : But p H H') (h : q = p) : But p H (upd H' q o) := fun c u n e => by
  rw [h, upd_ne n]
  exact b c u n e
end
end Gd
namespace Gd
open PySem PySem.Spec PyProof.Rows L2 Evl
/-! ### values that are not told, but bounded: what draws give -/
def EvP (te : TE) (σ : L2.St) (H : Hp) (P : V → Hp → Prop) : Prop := ∀ Q : VK, (∀ v H', P v H' → Q v H') → te σ H Q
def EtP (tt : TT) (σ : L2.St) (H : Hp) (P : Bool → Hp → Prop) : Prop := ∀ Q : Bool → Hp → Prop, (∀ b H', P b H' → Q b H') → tt σ H Q
/-- a drawn int d that keeps C; the draws at p have turned, all else stands -/
def DP (p : Addr) (H : Hp) (C : Int → Prop) : V → Hp → Prop := fun v H' => ∃ d : Int, v = .int d ∧ C d ∧ Drw p H' ∧ But p H H'
section
variable {K : PySem.W.Frag} {H : Hp} {σ : L2.St} {ta tb te : TE} {tt t u : TT} {D : Ends} {tu tz : TS} {P P1 : V → Hp → Prop} {p : Addr} {C C1 : Int → Prop}
theorem EvP.imp {P' : V → Hp → Prop} (h : EvP te σ H P) (k : ∀ v H', P v H' → P' v H') : EvP te σ H P' := fun Q q => h Q fun v H' z => q v H' (k v H' z)
theorem ep_of {v : V} (h : Ev te σ H v) : EvP te σ H (fun v' H' => v' = v ∧ Ex H H') := fun Q q => h H (Ex.refl H) Q fun H2 e2 => q v H2 ⟨rfl, e2⟩
theorem q_asgP {i : Nat} (h : EvP te σ H P) (k : ∀ v H', P v H' → tz D (σ.set i (some v)) H') : tSeq (tAsg te (gName i)) tz D σ H := h _ k
theorem s_asgP {i : Nat} (h : EvP te σ H P) (k : ∀ v H', P v H' → D.nx (σ.set i (some v)) H') : tAsg te (gName i) D σ H := h _ k
theorem s_retP (h : EvP te σ H P) (k : ∀ v H', P v H' → D.rt v H') : tRet te D σ H := h _ k
theorem ep_op {r : R2} (ha : EvP ta σ H P1) (hb : ∀ x H1, P1 x H1 → EvP tb σ H1 (fun y H2 => ∀ Q : VK, (∀ v H', P v H' → Q v H') → r x y H2 Q)) : EvP (tOp r ta tb) σ H P := fun Q q =>
  ha _ fun x H1 p1 => hb x H1 p1 _ fun y H2 h2 => h2 Q q
/-- i op (a drawn one) -/
theorem ep_opD {r : R2} {x : V} {g : Int → Int} (ha : Ev ta σ H x) (hb : ∀ H1, Ex H H1 → EvP tb σ H1 (DP p H1 C)) (hr : ∀ d H2 (Q : VK), C d → Q (.int (g d)) H2 → r x (.int d) H2 Q) (hC : ∀ d, C d → C1 (g d)) : EvP (tOp r ta tb) σ H (DP p H C1) := fun Q q =>
  ha H (Ex.refl H) _ fun H1 e1 => hb H1 e1 _ fun y H2 ⟨d, hv, hc, hD, b⟩ => by
    subst hv
    exact hr d H2 Q hc (q _ H2 ⟨g d, rfl, hC d hc, hD, (ex_but e1).trans b⟩)
/-- (a drawn one) op j -/
theorem ep_opL {r : R2} {y : V} {g : Int → Int} (ha : EvP ta σ H (DP p H C)) (hb : ∀ H1, Ev tb σ H1 y) (hr : ∀ d H2 (Q : VK), C d → Q (.int (g d)) H2 → r (.int d) y H2 Q) (hC : ∀ d, C d → C1 (g d)) : EvP (tOp r ta tb) σ H (DP p H C1) := fun Q q =>
  ha _ fun x H1 ⟨d, hv, hc, hD, b⟩ => by
    subst hv
    exact hb H1 H1 (Ex.refl H1) _ fun H2 e2 => hr d H2 Q hc (q _ H2 ⟨g d, rfl, hC d hc, hD.ex e2, b.trans (ex_but e2)⟩)
/-- two drawn ones -/
theorem ep_opDD {r : R2} {C2 : Int → Prop} {g : Int → Int → Int} (ha : EvP ta σ H (DP p H C)) (hb : ∀ H1, Drw p H1 → EvP tb σ H1 (DP p H1 C2)) (hr : ∀ d e H2 (Q : VK), C d → C2 e → Q (.int (g d e)) H2 → r (.int d) (.int e) H2 Q) (hC : ∀ d e, C d → C2 e → C1 (g d e)) : EvP (tOp r ta tb) σ H (DP p H C1) := fun Q q =>
  ha _ fun x H1 ⟨d, hv, hc, hD, b⟩ => by
    subst hv
    exact hb H1 hD _ fun y H2 ⟨e, hv2, hc2, hD2, b2⟩ => by
      subst hv2
      exact hr d e H2 Q hc hc2 (q _ H2 ⟨g d e, rfl, hC d e hc hc2, hD2, b.trans b2⟩)
/-- for k in range(drawn) -/
theorem q_forRP {j : Nat} (h : EvP te σ H P) (k : ∀ v H1, P v H1 → ∃ n : Nat, v = .int (n : Int) ∧ n ≤ 100000 ∧ ∃ Pv : Nat → L2.St → Hp → Prop, Pv 0 σ H1 ∧
    (∀ (i : Nat) σ' H', i < n → Pv i σ' H' → tu { D with nx := Pv (i + 1), ct := Pv (i + 1), bk := tz D } (σ'.set j (some (.int (i : Int)))) H') ∧ ∀ σ' H', Pv n σ' H' → tz D σ' H') :
    tSeq (tFor (iRng1 (tCons te tNil)) (gName j) tu) tz D σ H := h _ fun v H1 hv => by
  obtain ⟨n, rfl, hn, Pv, h0, hs, hd⟩ := k v H1 hv
  refine ⟨(n : Int), rfl, by omega, by omega, for_range (D := { D with nx := tz D }) (lo := 0) (n := n) Pv h0 (fun i σ' H' hi q => ?_) hd⟩
  have e0 : (0 : Int) + (i : Int) = (i : Int) := Int.zero_add _
  show tu { D with nx := Pv (i + 1), ct := Pv (i + 1), bk := tz D } (σ'.set j (some (.int ((0 : Int) + (i : Int))))) H'
  rw [e0]
  exact hs i σ' H' hi q
/-- the same, at a body's end -/
theorem s_forRP {j : Nat} (h : EvP te σ H P) (k : ∀ v H1, P v H1 → ∃ n : Nat, v = .int (n : Int) ∧ n ≤ 100000 ∧ ∃ Pv : Nat → L2.St → Hp → Prop, Pv 0 σ H1 ∧
    (∀ (i : Nat) σ' H', i < n → Pv i σ' H' → tu { D with nx := Pv (i + 1), ct := Pv (i + 1), bk := D.nx } (σ'.set j (some (.int (i : Int)))) H') ∧ ∀ σ' H', Pv n σ' H' → D.nx σ' H') :
    tFor (iRng1 (tCons te tNil)) (gName j) tu D σ H := q_forRP (tz := fun D => D.nx) (D := D) h k
/-- l.append(drawn) -/
theorem s_appP {l : Addr} {xs : List V} (ha : Ev ta σ H (.ref l)) (hl : H l = some (.lst xs)) (hz : xs.length < 100000) (h : ∀ H1, Ex H H1 → EvP te σ H1 P) (k : ∀ v H1, P v H1 → H1 l = some (.lst xs) ∧ D.nx σ (upd H1 l (.lst (xs ++ [v])))) :
    tDrop (tBM K "list" rAppend ta (tCons te tNil)) D σ H := ha H (Ex.refl H) _ fun H1 e1 =>
  ⟨Or.inl ⟨rfl, xs, sq_of (e1 l _ hl)⟩, h H1 e1 _ fun v H2 hv => ⟨l, xs, v, rfl, rfl, (k v H2 hv).1, sz_lt hz, (k v H2 hv).2⟩⟩
/-- tests -/
theorem etp_of {b : Bool} (h : EvT tt σ H b) : EtP tt σ H (fun b' H' => b' = b ∧ Ex H H') := fun Q q => h H (Ex.refl H) Q fun H2 e2 => q b H2 ⟨rfl, e2⟩
theorem etp_cmpD {r : R2} {y : V} {P2 : Bool → Hp → Prop} (ha : EvP ta σ H (DP p H C)) (hb : ∀ H1, Ev tb σ H1 y) (hr : ∀ d H2 (Q : VK), C d → (∀ b, Q (.bl b) H2) → r (.int d) y H2 Q) (k : ∀ b H', Drw p H' → But p H H' → P2 b H') : EtP (tTest (tOp r ta tb)) σ H P2 := fun Q q =>
  ha _ fun x H1 ⟨d, hv, hc, hD, b⟩ => by
    subst hv
    exact hb H1 H1 (Ex.refl H1) _ fun H2 e2 => hr d H2 _ hc fun b' => ⟨b', rfl, q b' H2 (k b' H2 (hD.ex e2) (b.trans (ex_but e2)))⟩
theorem etp_and {P1 P2 : Bool → Hp → Prop} (h1 : EtP t σ H P1) (h2 : ∀ H', P1 true H' → EtP u σ H' P2) (h3 : ∀ H', P1 false H' → P2 false H') : EtP (tAnd t u) σ H P2 := fun Q q =>
  h1 _ fun b H' hb => by
    cases b with
    | true => exact h2 H' hb Q q
    | false => exact q false H' (h3 H' hb)
theorem s_whenP {P2 : Bool → Hp → Prop} (h : EtP t σ H P2) (h1 : ∀ H', P2 true H' → tu D σ H') (h2 : ∀ H', P2 false H' → D.nx σ H') : tIfS t tu tNext D σ H := h _ fun b H' hb => by
  cases b with
  | true => exact h1 H' hb
  | false => exact h2 H' hb
/-- l[drawn] = e, e drawn -/
theorem s_setP {l : Addr} {to ti : TE} {P2 : V → Hp → Prop} (h : EvP te σ H P1) (ho : ∀ H1, Ev to σ H1 (.ref l)) (hi : ∀ v H1, P1 v H1 → ∀ H2, Ex H1 H2 → EvP ti σ H2 (P2))
    (k : ∀ v H1 H2 i H3, P1 v H1 → Ex H1 H2 → P2 i H3 → ∃ xs n j, i = .int n ∧ H3 l = some (.lst xs) ∧ ixN xs.length n = some j ∧ D.nx σ (upd H3 l (.lst (xs.set j v)))) : tAsg te (gSub to ti rSetL) D σ H := h _ fun v H1 hv =>
  ho H1 H1 (Ex.refl H1) _ fun H2 e2 => hi v H1 hv H2 e2 _ fun i H3 hi3 => by
    obtain ⟨xs, n, j, rfl, hl, hj, q⟩ := k v H1 H2 i H3 hv e2 hi3
    exact ⟨l, xs, n, j, rfl, rfl, hl, hj, q⟩
theorem dp_bk {p : Addr} {H H1 : Hp} {C C1 : Int → Prop} {v : V} {H' : Hp} (h : DP p H1 C v H') (b : But p H H1) (hC : ∀ d, C d → C1 d) : DP p H C1 v H' := let ⟨d, hv, hc, hD, b2⟩ := h; ⟨d, hv, hC d hc, hD, b.trans b2⟩
theorem ixN_of {n : Nat} {d : Int} (h0 : 0 ≤ d) (h1 : d < (n : Int)) : ixN n d = some d.toNat := by
  have e : d = ((d.toNat : Nat) : Int) := by omega
  rw [e]
  exact ixN_nat (by omega)
end
end Gd

set_option Elab.async false
set_option linter.all false
set_option maxRecDepth 100000
set_option maxHeartbeats 4000000
/-! Of our own: attributes, methods and dicts, by what evaluates. -/
namespace Gd
open PySem PySem.Spec PyProof.Rows L2 Evl
section
variable {K : PySem.W.Frag} {H : Hp} {σ : L2.St} {ta tb te tv td ty : TE} {t : TA} {D : Ends} {tz : TS} {a C dx : Addr} {fs : List (Str × V)} {f m : Str} {x y v z : V}
theorem ev_fld (h : Ev ta σ H (.ref a)) (ho : H a = some (.ins C dx fs)) (hc : Cls K C) (hn : NoAttr K C f) (hl : fs.lookup f = some v) : Ev (tFld K ta f) σ H v := fun H1 e Q q =>
  h H1 e _ fun H2 e2 => ⟨a, C, dx, fs, v, rfl, e2 _ _ (e _ _ ho), hc, hn, hl, q H2 e2⟩
theorem s_fld (hv : Ev tv σ H y) (ha : Ev ta σ H (.ref a)) (ho : H a = some (.ins C dx fs)) (hc : Cls K C) (hn : NoAttr K C f) (hz : fs.length < 1000) (k : ∀ H1, Ex H H1 → D.nx σ (upd H1 a (.ins C dx (putF f y fs)))) : sFld K ta tv f D σ H :=
  hv H (Ex.refl H) _ fun H1 e1 => ha H1 e1 _ fun H2 e2 => ⟨a, C, dx, fs, rfl, e2 _ _ (e1 _ _ ho), hc, hn, hz, k H2 (e1.trans e2)⟩
theorem q_fld (hv : Ev tv σ H y) (ha : Ev ta σ H (.ref a)) (ho : H a = some (.ins C dx fs)) (hc : Cls K C) (hn : NoAttr K C f) (hz : fs.length < 1000) (k : ∀ H1, Ex H H1 → tz D σ (upd H1 a (.ins C dx (putF f y fs)))) : tSeq (sFld K ta tv f) tz D σ H :=
  s_fld (D := { D with nx := tz D }) hv ha ho hc hn hz k
/-- o.f = [..], a new list -/
theorem s_fldL {xs : List V} (hv : EvL tv σ H xs) (ha : Ev ta σ H (.ref a)) (ho : H a = some (.ins C dx fs)) (hc : Cls K C) (hn : NoAttr K C f) (hz : fs.length < 1000) (k : ∀ p H1, H p = none → Ex H H1 → H1 p = some (.lst xs) → D.nx σ (upd H1 a (.ins C dx (putF f (.ref p) fs)))) : sFld K ta tv f D σ H :=
  hv H (Ex.refl H) _ fun p H1 hp e1 h1 => ha H1 e1 _ fun H2 e2 => ⟨a, C, dx, fs, rfl, e2 _ _ (e1 _ _ ho), hc, hn, hz, k p H2 hp (e1.trans e2) (e2 _ _ h1)⟩
theorem q_fldL {xs : List V} (hv : EvL tv σ H xs) (ha : Ev ta σ H (.ref a)) (ho : H a = some (.ins C dx fs)) (hc : Cls K C) (hn : NoAttr K C f) (hz : fs.length < 1000) (k : ∀ p H1, H p = none → Ex H H1 → H1 p = some (.lst xs) → tz D σ (upd H1 a (.ins C dx (putF f (.ref p) fs)))) : tSeq (sFld K ta tv f) tz D σ H :=
  s_fldL (D := { D with nx := tz D }) hv ha ho hc hn hz k
/-- o.f += e, ints -/
theorem s_fldaug {i j : Int} (ha : Ev ta σ H (.ref a)) (ho : H a = some (.ins C dx fs)) (hc : Cls K C) (hn : NoAttr K C f) (hl : fs.lookup f = some (.int i)) (hv : ∀ H1, Ex H H1 → Ev tv σ H1 (.int j)) (hz : fs.length < 1000) (k : ∀ H1, Ex H H1 → D.nx σ (upd H1 a (.ins C dx (putF f (.int (i + j)) fs)))) : sFldAug K ta tv L2.rAdd f D σ H :=
  ha H (Ex.refl H) _ fun H1 e1 => ⟨a, C, dx, fs, .int i, rfl, e1 _ _ ho, hc, hn, hl, hv H1 e1 H1 (Ex.refl H1) _ fun H2 e2 => ⟨i, j, rfl, rfl, dx, fs, e2 _ _ (e1 _ _ ho), hz, k H2 (e1.trans e2)⟩⟩
theorem q_fldaug {i j : Int} (ha : Ev ta σ H (.ref a)) (ho : H a = some (.ins C dx fs)) (hc : Cls K C) (hn : NoAttr K C f) (hl : fs.lookup f = some (.int i)) (hv : ∀ H1, Ex H H1 → Ev tv σ H1 (.int j)) (hz : fs.length < 1000) (k : ∀ H1, Ex H H1 → tz D σ (upd H1 a (.ins C dx (putF f (.int (i + j)) fs)))) : tSeq (sFldAug K ta tv L2.rAdd f) tz D σ H :=
  s_fldaug (D := { D with nx := tz D }) ha ho hc hn hl hv hz k
/-- o.m(..) -/
theorem ep_meth {sp : Sp} {E : XK} {vs : List V} {P : V → Hp → Prop} (ha : Ev ta σ H (.ref a)) (ho : H a = some (.ins C dx fs)) (hl : fs.lookup m = none) (ht : EvA t σ H vs) (hs : ∀ H1, Ex H H1 → ∀ Q : VK, (∀ v H', P v H' → Q v H') → sp (.ref a :: (vs ++ [])) H1 Q E) : EvP (tMeth C m sp [] E ta t) σ H P := fun Q q =>
  ha H (Ex.refl H) _ fun H1 e1 => ⟨a, dx, fs, rfl, e1 _ _ ho, hl, ht H1 e1 _ fun H2 e2 => hs H2 (e1.trans e2) Q q⟩
theorem ep_call {sp : Sp} {E : XK} {vs dvs : List V} {P : V → Hp → Prop} (ht : EvA t σ H vs) (hs : ∀ H1, Ex H H1 → ∀ Q : VK, (∀ v H', P v H' → Q v H') → sp (vs ++ dvs) H1 Q E) : EvP (tCall sp dvs E t) σ H P := fun Q q => ht H (Ex.refl H) _ fun H1 e1 => hs H1 e1 Q q
theorem q_dropP {P : V → Hp → Prop} (h : EvP te σ H P) (k : ∀ v H', P v H' → tz D σ H') : tSeq (tDrop te) tz D σ H := h _ k
theorem s_dropP {P : V → Hp → Prop} (h : EvP te σ H P) (k : ∀ v H', P v H' → D.nx σ H') : tDrop te D σ H := h _ k
/-- the truth of a bool that is read as any value -/
theorem et_truB {b : Bool} (h : Ev te σ H (.bl b)) : EvT (fun σ H Q => te σ H fun x H' => ∃ k, TruV K x H' k ∧ Q k H') σ H b := fun H1 e Q q => h H1 e _ fun H2 e2 => ⟨b, rfl, q H2 e2⟩
/-- d[k], d[k] = v -/
theorem ev_dget {kvs : List (Key × V)} {k : Key} (h : Ev td σ H (.ref a)) (hk : Ev ty σ H (kV k)) (hd : H a = some (.dK kvs)) (hv : valV kvs k = some v) : Ev (tDGet td ty) σ H v := fun H1 e Q q =>
  h H1 e _ fun H2 e2 => hk H2 (e.trans e2) _ fun H3 e3 => ⟨a, v, rfl, by rw [← hv]; exact DGet.k (e3 _ _ (e2 _ _ (e _ _ hd))), q H3 (e2.trans e3)⟩
theorem s_dput {kvs : List (Key × V)} {k : Key} (hv : Ev tv σ H v) (h : Ev td σ H (.ref a)) (hk : Ev ty σ H (kV k)) (hd : H a = some (.dK kvs)) (hz : kvs.length < 1000) (q : ∀ H1, Ex H H1 → D.nx σ (upd H1 a (.dK (putK kvs k v)))) : sDPut td ty tv D σ H :=
  hv H (Ex.refl H) _ fun H1 e1 => h H1 e1 _ fun H2 e2 => hk H2 (e1.trans e2) _ fun H3 e3 => ⟨a, _, rfl, DPut.k (e3 _ _ (e2 _ _ (e1 _ _ hd))) (Nat.lt_of_lt_of_le hz (by decide)), q H3 ((e1.trans e2).trans e3)⟩
theorem q_dput {kvs : List (Key × V)} {k : Key} (hv : Ev tv σ H v) (h : Ev td σ H (.ref a)) (hk : Ev ty σ H (kV k)) (hd : H a = some (.dK kvs)) (hz : kvs.length < 1000) (q : ∀ H1, Ex H H1 → tz D σ (upd H1 a (.dK (putK kvs k v)))) : tSeq (sDPut td ty tv) tz D σ H :=
  s_dput (D := { D with nx := tz D }) hv h hk hd hz q
end
end Gd
namespace Gd
open PySem PySem.Spec PyProof.Rows L2 Evl
/-- [..][drawn] -/
theorem ep_ixD {K : PySem.W.Frag} {H : Hp} {σ : L2.St} {ta tb : TE} {p : Addr} {C1 : Int → Prop} {ms : List Int} (hl : EvL ta σ H (ms.map V.int)) (hD : Drw p H) (hb : ∀ H1, Ex H H1 → EvP tb σ H1 (DP p H1 fun d => 0 ≤ d ∧ d < (ms.length : Int))) (hC : ∀ m ∈ ms, C1 m) :
    EvP (tOp (rIxL K) ta tb) σ H (DP p H C1) := fun Q q =>
  hl H (Ex.refl H) _ fun l H1 hl0 e1 h1 => hb H1 e1 _ fun v H2 ⟨d, hv, hd, hD2, b⟩ => by
    subst hv
    have nlp : l ≠ p := fun e => by
      obtain ⟨ds, h, _⟩ := hD
      rw [e, h] at hl0
      cases hl0
    obtain ⟨j, rfl⟩ : ∃ j : Nat, d = (j : Int) := ⟨d.toNat, by omega⟩
    have hlt : j < ms.length := by omega
    refine ⟨l, ms.map V.int, (j : Int), .int ms[j], rfl, rfl, sq_of (b _ _ nlp h1), atI_nat ?_, q _ H2 ⟨_, rfl, hC _ (List.getElem_mem _), hD2, (ex_but e1).trans b⟩⟩
    rw [List.getElem?_map, List.getElem?_eq_getElem hlt]
    rfl
theorem s_retPL {K : PySem.W.Frag} {te : TE} {σ : L2.St} {H : Hp} {D : Ends} {P : V → Hp → Prop} (h : EvP te σ H P) (k : ∀ v H', P v H' → D.rt v H') : tRet te D σ H := h _ k
end Gd

set_option Elab.async false
set_option linter.all false
set_option maxRecDepth 100000
set_option maxHeartbeats 4000000
/-! Of our own: tests that change the heap, slices of int lists, lists of int lists. -/
namespace Gd
open PySem PySem.Spec PyProof.Rows L2 Evl
section
variable {K : PySem.W.Frag} {H : Hp} {σ : L2.St} {ta tb te : TE} {t u : TT} {D : Ends} {tz tu : TS}
theorem rc_isBool {b : Bool} : RC (rIsi K) [.bl b, .ty "bool"] H (.bl true) := fun H1 _ _ q => ⟨_, _, _, _, true, rfl, .ty "bool", .base (.bl b), kit_ty (by decide +kernel), q H1 (Ex.refl H1)⟩
theorem etp_or {P1 P2 : Bool → Hp → Prop} (h1 : EtP t σ H P1) (h3 : ∀ H', P1 true H' → P2 true H') (h2 : ∀ H', P1 false H' → EtP u σ H' P2) : EtP (tOr t u) σ H P2 := fun Q q =>
  h1 _ fun b H' hb => by
    cases b with
    | true => exact q true H' (h3 H' hb)
    | false => exact h2 H' hb Q q
theorem etp_op {r : R2} {P : V → Hp → Prop} {P2 : Bool → Hp → Prop} (ha : EvP ta σ H P) (hb : ∀ v H1, P v H1 → ∃ y b, Ev tb σ H1 y ∧ RV r v y H1 (.bl b) ∧ ∀ H', Ex H1 H' → P2 b H') : EtP (tTest (tOp r ta tb)) σ H P2 := fun Q q =>
  ha _ fun v H1 hv => by
    obtain ⟨y, b, h2, h3, h4⟩ := hb v H1 hv
    exact h2 H1 (Ex.refl H1) _ fun H2 e2 => h3 H2 e2 _ fun H3 e3 => ⟨b, rfl, q b H3 (h4 H3 (e2.trans e3))⟩
theorem etp_imp {P1 P2 : Bool → Hp → Prop} (h1 : EtP t σ H P1) (k : ∀ b H', P1 b H' → P2 b H') : EtP t σ H P2 := fun Q q => h1 Q fun b H' hb => q b H' (k b H' hb)
theorem etp_not {P1 P2 : Bool → Hp → Prop} (h1 : EtP t σ H P1) (k : ∀ b H', P1 b H' → P2 (!b) H') : EtP (tNot t) σ H P2 := fun Q q => h1 _ fun b H' hb => q (!b) H' (k b H' hb)
theorem etp_B {P : V → Hp → Prop} {P2 : Bool → Hp → Prop} (h : EvP te σ H P) (k : ∀ v H', P v H' → ∃ b, v = .bl b ∧ P2 b H') : EtP (tB te) σ H P2 := fun Q q => h _ fun v H' hv => by
  obtain ⟨b, rfl, hb⟩ := k v H' hv
  exact ⟨b, rfl, q b H' hb⟩
theorem q_whenP {P2 : Bool → Hp → Prop} (h : EtP t σ H P2) (h1 : ∀ H', P2 true H' → tu { D with nx := tz D } σ H') (h2 : ∀ H', P2 false H' → tz D σ H') : tSeq (tIfS t tu tNext) tz D σ H := s_whenP (D := { D with nx := tz D }) h h1 h2
theorem cut_ints (cs : List Int) (i j : Nat) : cutV (cs.map V.int) (some (i : Int)) (some (j : Int)) = ((cs.drop i).take (j - i)).map V.int := by
  unfold cutV
  rw [HT.sIx_nat, HT.sIx_nat, List.length_map, ← List.map_drop, ← List.map_take]
  congr 1
  rcases Nat.lt_or_ge cs.length i with h | h
  · rw [List.drop_eq_nil_of_le (by omega), List.drop_eq_nil_of_le (by omega), List.take_nil, List.take_nil]
  · rw [Nat.min_eq_left h]
    rcases Nat.lt_or_ge cs.length j with g | g
    · rw [Nat.min_eq_right (by omega), List.take_of_length_le (by rw [List.length_drop]; omega), List.take_of_length_le (by rw [List.length_drop]; omega)]
    · rw [Nat.min_eq_left g]
theorem cut_from (cs : List Int) (i : Nat) : cutV (cs.map V.int) (some (i : Int)) none = (cs.drop i).map V.int := by
  unfold cutV
  rw [HT.sIx_nat, HT.sIx_none, List.length_map, ← List.map_drop, ← List.map_take]
  congr 1
  rcases Nat.lt_or_ge cs.length i with h | h
  · rw [List.drop_eq_nil_of_le (by omega), List.drop_eq_nil_of_le (by omega), List.take_nil]
  · rw [Nat.min_eq_left h, List.take_of_length_le (by rw [List.length_drop]; omega)]
/-- lists of int lists -/
def Pcs (H : Hp) : List Addr → List (List Int) → Prop
  | [], [] => True
  | a :: as, l :: ls => H a = some (.lst (l.map V.int)) ∧ Pcs H as ls
  | _, _ => False
theorem Pcs.keep {H H' : Hp} : ∀ {as : List Addr} {ls : List (List Int)}, Pcs H as ls → (∀ a o, a ∈ as → H a = some o → H' a = some o) → Pcs H' as ls
  | [], [], _, _ => trivial
  | a :: as, l :: ls, h, k => ⟨k a _ (List.mem_cons_self) h.1, Pcs.keep h.2 fun b o m => k b o (List.mem_cons_of_mem _ m)⟩
  | [], _ :: _, h, _ => h.elim
  | _ :: _, [], h, _ => h.elim
theorem Pcs.ex {H H' : Hp} {as : List Addr} {ls : List (List Int)} (h : Pcs H as ls) (e : Ex H H') : Pcs H' as ls := h.keep fun a o _ => e a o
theorem Pcs.len {H : Hp} : ∀ {as : List Addr} {ls : List (List Int)}, Pcs H as ls → as.length = ls.length
  | [], [], _ => rfl
  | a :: as, l :: ls, h => by rw [List.length_cons, List.length_cons, h.2.len]
  | [], _ :: _, h => h.elim
  | _ :: _, [], h => h.elim
theorem Pcs.snoc {H : Hp} : ∀ {as : List Addr} {ls : List (List Int)} {a : Addr} {l : List Int}, Pcs H as ls → H a = some (.lst (l.map V.int)) → Pcs H (as ++ [a]) (ls ++ [l])
  | [], [], _, _, _, h => ⟨h, trivial⟩
  | b :: as, m :: ls, _, _, g, h => ⟨g.1, g.2.snoc h⟩
  | [], _ :: _, _, _, g, _ => g.elim
  | _ :: _, [], _, _, g, _ => g.elim
theorem Pcs.at {H : Hp} : ∀ {as : List Addr} {ls : List (List Int)}, Pcs H as ls → ∀ i, i < as.length → ∃ a l, as[i]? = some a ∧ ls[i]? = some l ∧ a ∈ as ∧ H a = some (.lst (l.map V.int))
  | [], [], _, i, h => absurd h (Nat.not_lt_zero i)
  | a :: as, l :: ls, h, 0, _ => ⟨a, l, rfl, rfl, List.mem_cons_self, h.1⟩
  | a :: as, l :: ls, h, i + 1, g => by
    obtain ⟨b, m, h1, h2, h3, h4⟩ := h.2.at i (by simpa using g)
    exact ⟨b, m, by rw [List.getElem?_cons_succ]; exact h1, by rw [List.getElem?_cons_succ]; exact h2, List.mem_cons_of_mem _ h3, h4⟩
  | [], _ :: _, h, _, _ => h.elim
  | _ :: _, [], h, _, _ => h.elim
theorem Pcs.some {H : Hp} : ∀ {as : List Addr} {ls : List (List Int)}, Pcs H as ls → ∀ a ∈ as, ∃ o, H a = some o
  | [], [], _, a, h => nomatch h
  | b :: as, l :: ls, h, a, m => by
    rcases List.mem_cons.mp m with rfl | m
    · exact ⟨_, h.1⟩
    · exact h.2.some a m
  | [], _ :: _, h, _, _ => h.elim
  | _ :: _, [], h, _, _ => h.elim
/-- all but the given addresses keep what they hold -/
def Bu (L : List Addr) (H H' : Hp) : Prop := ∀ b o, b ∉ L → H b = some o → H' b = some o
theorem Bu.refl {L : List Addr} {H : Hp} : Bu L H H := fun _ _ _ h => h
theorem Bu.trans {L : List Addr} {H H1 H2 : Hp} (a : Bu L H H1) (b : Bu L H1 H2) : Bu L H H2 := fun c o n h => b c o n (a c o n h)
theorem Bu.mono {L L' : List Addr} {H H' : Hp} (b : Bu L H H') (m : ∀ a ∈ L, a ∈ L') : Bu L' H H' := fun c o n h => b c o (fun g => n (m c g)) h
theorem ex_bu {L : List Addr} {H H' : Hp} (e : Ex H H') : Bu L H H' := fun b o _ h => e b o h
theorem Bu.upd {L : List Addr} {H H' : Hp} {a : Addr} {o : HO} (b : Bu L H H') (m : a ∈ L ∨ H a = none) : Bu L H (upd H' a o) := fun c u n h => by
  rcases m with m | m
  · rw [upd_ne (fun e => n (by rw [e]; exact m))]
    exact b c u n h
  · rw [upd_ne (ne_of_none h m)]
    exact b c u n h
theorem el_callL {sp : Sp} {dvs xs ys : List V} {E : XK} (h : EvL te σ H xs) (hs : ∀ p H1, H1 p = some (.lst xs) → Ex H H1 → SpL sp ([.ref p] ++ dvs) H1 ys) : EvL (tCall sp dvs E (tCons te tNil)) σ H ys := fun H0 e Q q =>
  h H0 e _ fun p H1 _ e1 hp => hs p H1 hp (e.trans e1) H1 (Ex.refl H1) Q (fun p' H2 hp' e2 h2 => q p' H2 (fresh_back e1 hp') (e1.trans e2) h2) E
theorem len_flat {α : Type} {ps : List (List α)} {i : Nat} {l : List α} (h : ps[i]? = some l) : l.length ≤ ps.flatten.length := by
  induction ps generalizing i with
  | nil => simp at h
  | cons a r ih =>
    rw [List.flatten_cons, List.length_append]
    cases i with
    | zero => simp at h; subst h; omega
    | succ i => have := ih (by simpa using h); omega
theorem len_take_flat {α : Type} (ps : List (List α)) (i : Nat) : (ps.take i).flatten.length ≤ ps.flatten.length := by
  have h := congrArg List.length (congrArg List.flatten (List.take_append_drop i ps))
  rw [List.flatten_append, List.length_append] at h
  omega
theorem take_snocF {α : Type} {ps : List (List α)} {i : Nat} {l : List α} (h : ps[i]? = some l) : (ps.take (i + 1)).flatten = (ps.take i).flatten ++ l := by
  rw [List.take_succ, h]
  simp
end
end Gd

set_option Elab.async false
set_option linter.all false
set_option maxRecDepth 100000
set_option maxHeartbeats 4000000
/-! Of our own: a dict of the top whose keys are ints; keyword-only parameters. -/
namespace Gd
open PySem PySem.Spec PyProof.Rows L2 Evl
/-- the pairs of a dict with int keys, where it is one -/
def ikeys : List DictEntry → Option (List (Int × Value))
  | [] => some []
  | e :: r => match e.key with
    | .int k _ => if e.hash == hashInt k then (ikeys r).map fun l => (k, e.val) :: l else none
    | _ => none
theorem ikeys_all : ∀ {es : List DictEntry} {tb : List (Int × Value)}, ikeys es = some tb → ∀ e ∈ es, ∃ k, Value.isInt k e.key = true ∧ e.hash = hashInt k
  | [], _, _, e, m => nomatch m
  | d :: r, tb, h, e, m => by
    unfold ikeys at h
    split at h
    · rename_i k t hk
      split at h
      · rename_i hh
        cases g : ikeys r with
        | none => rw [g] at h; cases h
        | some l =>
          rcases List.mem_cons.mp m with rfl | m
          · exact ⟨k, by rw [hk]; simp [Value.isInt], by simpa using hh⟩
          · exact ikeys_all g e m
      · cases h
    · cases h
theorem ikeys_find : ∀ {es : List DictEntry} {tb : List (Int × Value)}, ikeys es = some tb → ∀ i, (es.find? fun e => Value.isInt i e.key).map (·.val) = tb.lookup i
  | [], tb, h, i => by
    unfold ikeys at h
    cases h
    rfl
  | d :: r, tb, h, i => by
    unfold ikeys at h
    split at h
    · rename_i k t hk
      split at h
      · cases g : ikeys r with
        | none => rw [g] at h; cases h
        | some l =>
          rw [g] at h
          cases h
          rw [List.find?_cons, hk, List.lookup_cons]
          have ih := ikeys_find g i
          by_cases e : i = k
          · subst e
            simp [Value.isInt]
          · have e1 : Value.isInt i (.int k t) = false := by
              simp [Value.isInt]
              intro z
              exact e z.symm
            have e2 : (i == k) = false := by simpa using e
            rw [e1, e2]
            exact ih
      · cases h
    · cases h
/-- at d: a dict of the top with int keys -/
structure ITab (K : PySem.W.Frag) (d : Addr) (tb : List (Int × Value)) : Prop where
  ex : ∃ es n, K.lookup d = some ⟨.type "dict", none, .dict es n, #[]⟩ ∧ ikeys es.toList = some tb
  low : (d == sysModules) = false
section
variable {X : Cx} {d : Addr} {tb : List (Int × Value)}
theorem itab_map {pins : List (Addr × Obj)} {σ : L2.St} {H : Hp} {s : Shared} (D : ITab X.K d tb) (I : Inv X pins σ H s) : s.heap.MapOf (intKind X.prog X.w) d (fun k => tb.lookup k) := by
  obtain ⟨es, n, hl, hk⟩ := D.ex
  refine ⟨_, es, n, I.kIn _ _ hl, ⟨rfl, rfl, rfl⟩, rfl, fun e he => ?_, fun k => ?_⟩
  · obtain ⟨k, h1, h2⟩ := ikeys_all hk e (Array.mem_toList_iff.mpr he)
    exact ⟨k, h1, h2⟩
  · have := ikeys_find hk k
    obtain ⟨l⟩ := es
    show findBy Value.isInt _ k = tb.lookup k
    unfold findBy
    rw [List.find?_toArray]
    exact this
theorem op_in_it (D : ITab X.K d tb) : OpR X (compareOp .In) (fun x y H Q => ∃ i : Int, x = .int i ∧ y = .ref d ∧ Q (.bl (tb.lookup i).isSome) H) := by
  intro pins s σ H x y v u Q I rx ry h
  obtain ⟨i, rfl, rfl, q⟩ := h
  obtain ⟨t, rfl⟩ := rx
  cases ry
  refine wpAny_in_of (knd := intKind X.prog X.w) (k := i) (by simp [intKind, Value.isInt]) D.low (itab_map D I) ?_
  exact ⟨.bl (tb.lookup i).isSome, H, I.tok _, rfl, q⟩
theorem ix_it (D : ITab X.K d tb) : IxR X (fun x y H Q => ∃ (i : Int) (u : Value) (v : V), x = .ref d ∧ y = .int i ∧ tb.lookup i = some u ∧ RelV v u ∧ Q v H) := by
  intro value slice pins s σ H x y v u Q I rx ry h hs
  obtain ⟨i, u0, r, rfl, rfl, e, ru, q⟩ := h
  obtain rfl : v = Value.ref d := rx
  obtain ⟨t, rfl⟩ := ry
  have hm := itab_map D I
  exact tail_any hm.typeIs slot_dict_getitem.lookup (wpAny_getItem_of (knd := intKind X.prog X.w) (k := i) (by simp [intKind, Value.isInt]) hm e ⟨r, H, I.tok _, ru, q⟩) hs
end
section
variable {H : Hp} {d : Addr} {tb : List (Int × Value)} {c : Int}
theorem rv_it {u : Value} (h : tb.lookup c = some u) : RV (fun x y H Q => ∃ i : Int, x = .int i ∧ y = .ref d ∧ Q (.bl (tb.lookup i).isSome) H) (.int c) (.ref d) H (.bl true) := fun H1 _ _ q => ⟨c, rfl, rfl, by rw [h]; exact q H1 (Ex.refl H1)⟩
theorem rv_it0 (h : tb.lookup c = none) : RV (fun x y H Q => ∃ i : Int, x = .int i ∧ y = .ref d ∧ Q (.bl (tb.lookup i).isSome) H) (.int c) (.ref d) H (.bl false) := fun H1 _ _ q => ⟨c, rfl, rfl, by rw [h]; exact q H1 (Ex.refl H1)⟩
theorem rv_ix_it {a : Addr} (h : tb.lookup c = some (.ref a)) : RV (fun x y H Q => ∃ (i : Int) (u : Value) (v : V), x = .ref d ∧ y = .int i ∧ tb.lookup i = some u ∧ RelV v u ∧ Q v H) (.ref d) (.int c) H (.ref a) := fun H1 _ _ q => ⟨c, .ref a, .ref a, rfl, rfl, h, rfl, q H1 (Ex.refl H1)⟩
end
section
variable {K : PySem.W.Frag} {H : Hp} {σ : L2.St} {ta tv : TE} {D : Ends} {tz : TS} {a C dx : Addr} {fs : List (Str × V)} {f : Str}
/-- o.f = e, where e changes the heap -/
theorem s_fldP {P : V → Hp → Prop} (hv : EvP tv σ H P) (k : ∀ v H1, P v H1 → ∃ C dx fs, H1 a = some (.ins C dx fs) ∧ (∀ H2, Ex H1 H2 → Ev ta σ H2 (.ref a)) ∧ Cls K C ∧ NoAttr K C f ∧ fs.length < 1000 ∧ ∀ H2, Ex H1 H2 → D.nx σ (upd H2 a (.ins C dx (putF f v fs)))) : sFld K ta tv f D σ H :=
  hv _ fun v H1 h1 => by
    obtain ⟨C, dx, fs, ho, ha, hc, hn, hz, q⟩ := k v H1 h1
    exact ha H1 (Ex.refl H1) H1 (Ex.refl H1) _ fun H2 e2 => ⟨a, C, dx, fs, rfl, e2 _ _ ho, hc, hn, hz, q H2 e2⟩
theorem q_fldP {P : V → Hp → Prop} (hv : EvP tv σ H P) (k : ∀ v H1, P v H1 → ∃ C dx fs, H1 a = some (.ins C dx fs) ∧ (∀ H2, Ex H1 H2 → Ev ta σ H2 (.ref a)) ∧ Cls K C ∧ NoAttr K C f ∧ fs.length < 1000 ∧ ∀ H2, Ex H1 H2 → tz D σ (upd H2 a (.ins C dx (putF f v fs)))) : tSeq (sFld K ta tv f) tz D σ H :=
  s_fldP (D := { D with nx := tz D }) hv k
end
section
variable {H : Hp} {σ : L2.St} {td ty tv : TE} {D : Ends} {tz : TS} {a : Addr}
/-- d[k] = e, where e changes the heap -/
theorem s_dputP {P : V → Hp → Prop} {k : Key} (hv : EvP tv σ H P) (q : ∀ v H1, P v H1 → ∃ kvs, H1 a = some (.dK kvs) ∧ (∀ H2, Ex H1 H2 → Ev td σ H2 (.ref a)) ∧ (∀ H2, Ex H1 H2 → Ev ty σ H2 (kV k)) ∧ kvs.length < 1000 ∧ ∀ H2, Ex H1 H2 → D.nx σ (upd H2 a (.dK (putK kvs k v)))) : sDPut td ty tv D σ H :=
  hv _ fun v H1 h1 => by
    obtain ⟨kvs, hd, ha, hk, hz, g⟩ := q v H1 h1
    exact ha H1 (Ex.refl H1) H1 (Ex.refl H1) _ fun H2 e2 => hk H2 e2 H2 (Ex.refl H2) _ fun H3 e3 => ⟨a, _, rfl, DPut.k (e3 _ _ (e2 _ _ hd)) (Nat.lt_of_lt_of_le hz (by decide)), g H3 (e2.trans e3)⟩
theorem q_dputP {P : V → Hp → Prop} {k : Key} (hv : EvP tv σ H P) (q : ∀ v H1, P v H1 → ∃ kvs, H1 a = some (.dK kvs) ∧ (∀ H2, Ex H1 H2 → Ev td σ H2 (.ref a)) ∧ (∀ H2, Ex H1 H2 → Ev ty σ H2 (kV k)) ∧ kvs.length < 1000 ∧ ∀ H2, Ex H1 H2 → tz D σ (upd H2 a (.dK (putK kvs k v)))) : tSeq (sDPut td ty tv) tz D σ H :=
  s_dputP (D := { D with nx := tz D }) hv q
end
section
variable {K : PySem.W.Frag} {H : Hp} {σ : L2.St} {tl : TE} {tu tz : TS} {D : Ends} {a1 b1 a2 b2 : TE} {x1 y1 x2 y2 : V}
theorem q_forLP {P : V → Hp → Prop} {j : Nat} (h : EvP tl σ H P) (k : ∀ v H1, P v H1 → ∃ a xs, v = .ref a ∧ SqL K H1 a xs ∧ ∃ Pv : Nat → L2.St → Hp → Prop, Pv 0 σ H1 ∧ (∀ i σ' H', i ≤ xs.length → Pv i σ' H' → SqL K H' a xs) ∧
    (∀ i x σ' H', xs[i]? = some x → Pv i σ' H' → tu { D with nx := Pv (i + 1), ct := Pv (i + 1), bk := tz D } (σ'.set j (some x)) H') ∧ (∀ σ' H', Pv xs.length σ' H' → tz D σ' H')) : tSeq (tFor (iList K tl) (gName j) tu) tz D σ H :=
  h _ fun v H1 hv => by
    obtain ⟨a, xs, rfl, hx, Pv, h0, hl, hs, hd⟩ := k v H1 hv
    exact ⟨a, rfl, ⟨xs, hx⟩, for_list (g := gName j) (D := { D with nx := tz D }) Pv h0 hl hs hd⟩
theorem ep_two (h1 : EvL (tLst (tCons a1 (tCons b1 tNil))) σ H [x1, y1]) (h2 : EvL (tLst (tCons a2 (tCons b2 tNil))) σ H [x2, y2]) :
    EvP (tLst (tCons (tLst (tCons a1 (tCons b1 tNil))) (tCons (tLst (tCons a2 (tCons b2 tNil))) tNil))) σ H (fun v H' => ∃ p p1 p2, v = .ref p ∧ Ex H H' ∧ H' p = some (.lst [.ref p1, .ref p2]) ∧ H' p1 = some (.lst [x1, y1]) ∧ H' p2 = some (.lst [x2, y2])) := fun Q q => by
  show tLst (tCons a1 (tCons b1 tNil)) σ H fun x H1 => tLst (tCons a2 (tCons b2 tNil)) σ H1 fun y H2 => [x, y].length ≤ sizeLine ∧ ∀ p, H2 p = none → Q (.ref p) (upd H2 p (.lst [x, y]))
  exact h1 H (Ex.refl H) _ fun p1 H1 hp1 e1 d1 => h2 H1 e1 _ fun p2 H2 hp2 e2 d2 => ⟨sz_of (n := 2) (by decide), fun p hp => q _ _ ⟨p, p1, p2, rfl, (e1.trans e2).trans (Ex.new hp), upd_same, by rw [upd_ne (ne_of_none (e2 _ _ d1) hp)]; exact e2 _ _ d1, by rw [upd_ne (ne_of_none d2 hp)]; exact d2⟩⟩
end
theorem el_callN {sp : Sp} {gV : List V → List V → List V} {E : XK} {H : Hp} {σ : L2.St} {n m : Nat} {t tk : TA} {vs zs xs : List V} (h1 : EvA t σ H vs) (h2 : EvA tk σ H zs) (l1 : vs.length = n) (l2 : zs.length = m) (hs : SpL sp (gV vs zs) H xs) : EvL (tCallN n m sp gV E t tk) σ H xs := fun H0 e Q q =>
  h1 H0 e _ fun H1 e1 => h2 H1 (e.trans e1) _ fun H2 e2 => ⟨l1, l2, hs H2 ((e.trans e1).trans e2) Q (fun p H3 hp e3 h3 => q p H3 (fresh_back (e1.trans e2) hp) ((e1.trans e2).trans e3) h3) E⟩
theorem rv_isNon {H : Hp} {v : V} : RV (fun x y H Q => y = .non ∧ Q (.bl (decide (x = .non))) H) v .non H (.bl (decide (v = .non))) := fun H1 _ _ q => ⟨rfl, q H1 (Ex.refl H1)⟩
/-! ### keyword-only parameters -/
theorem fund_mk {K : PySem.W.Frag} {x qual : Str} {st : Stmt} {f kD : Addr} {kws : List (Str × V)} {oc : Value} {od an : Option Addr} {osl : Array (Option Value)} {doc pm cdv ct : Value}
    (l : K.lookup f = some ⟨oc, od, .func (PySem.W.fnOf x qual (defArgs st) (defBody st) (defScope st) .none (.ref kD) doc pm an cdv ct), osl⟩)
    (c : PySem.W.codeIn K cdv qual = true) (k : PySem.W.keepIn K (.ref f) = true) (hq : ∀ q ∈ kws, ∃ u, PySem.W.nsIn K kD q.1 = some (some u) ∧ RelV q.2 u) :
    FunD K x qual (defArgs st) (defBody st) (defScope st) [] kws f (PySem.W.fnOf x qual (defArgs st) (defBody st) (defScope st) .none (.ref kD) doc pm an cdv ct) :=
  ⟨⟨oc, od, .none, .ref kD, doc, pm, an, cdv, ct, osl, rfl, l, c, .inl ⟨rfl, rfl⟩, .inr ⟨kD, rfl, hq⟩⟩, k⟩
theorem hq2 {K : PySem.W.Frag} {D : Addr} {x y : Str} {i j : Int} {t u : Tok} (h1 : PySem.W.nsIn K D x = some (some (.int i t))) (h2 : PySem.W.nsIn K D y = some (some (.int j u))) : ∀ q ∈ [(x, V.int i), (y, V.int j)], ∃ u, PySem.W.nsIn K D q.1 = some (some u) ∧ RelV q.2 u := by
  intro q m
  rcases List.mem_cons.mp m with rfl | m
  · exact ⟨_, h1, t, rfl⟩
  · rw [List.mem_singleton.mp m]
    exact ⟨_, h2, u, rfl⟩
end Gd

set_option Elab.async false
set_option linter.all false
set_option maxRecDepth 100000
set_option maxHeartbeats 4000000
/-! Of our own: decimals. -/
namespace Gd
open PySem PySem.Spec PyProof.Rows L2 Evl
open PySem.NumText (AllDigits digitsVal)
def decL (n : Nat) : List Nat := (Nat.toDigits 10 n).map Char.toNat
def intL (i : Int) : List Nat := if i < 0 then 45 :: decL i.natAbs else decL i.natAbs
def decZ (n : Nat) : List Nat := if n = 0 then [] else decL n
theorem show_nat (n : Nat) : (PySem.Str.ofString (toString ((n : Nat) : Int))).cps.toList = decL n := PySem.W.KIN.signs_num n
theorem ofS_list (s : String) : (PySem.Str.ofString s).cps.toList = s.toList.map Char.toNat := by
  rw [PySem.Str.ofString_eq_toList]
theorem show_int (i : Int) : (PySem.Str.ofString (toString i)).cps.toList = intL i := by
  unfold intL
  by_cases h : i < 0
  · rw [if_pos h, PyProof.Rows.toString_neg h, ofS_list, String.toList_append, List.map_append, ← ofS_list]
    have e : (0 - i) = ((i.natAbs : Nat) : Int) := by omega
    rw [e, ← ofS_list, show_nat]
    rfl
  · rw [if_neg h]
    have e : i = ((i.natAbs : Nat) : Int) := by omega
    rw [← show_nat, ← e]
theorem dec_small {n : Nat} (h : n < 10) : decL n = [48 + n] := by
  unfold decL
  rw [Nat.toDigits_of_lt_base h]
  have : ∀ n < 10, [Nat.digitChar n].map Char.toNat = [48 + n] := by decide
  exact this n h
theorem dec_step {n : Nat} (h : 10 ≤ n) : decL n = decL (n / 10) ++ [48 + n % 10] := by
  have hm : n % 10 < 10 := Nat.mod_lt n (by decide)
  have t : Nat.toDigits 10 (n / 10) ++ Nat.toDigits 10 (n % 10) = Nat.toDigits 10 (10 * (n / 10) + n % 10) := Nat.toDigits_append_toDigits (by decide) (by omega) hm
  rw [Nat.div_add_mod] at t
  have s := dec_small hm
  unfold decL at *
  rw [← t, List.map_append, s]
theorem decZ_step {n : Nat} (h : n ≠ 0) : decZ n = decZ (n / 10) ++ [48 + n % 10] := by
  unfold decZ
  rw [if_neg h]
  by_cases g : n < 10
  · rw [if_pos (by omega), dec_small g, List.nil_append, Nat.mod_eq_of_lt g]
  · rw [if_neg (by omega), dec_step (by omega)]
theorem dec_head (n : Nat) (h : n ≠ 0) : ∃ c r, decL n = c :: r ∧ 49 ≤ c ∧ c ≤ 57 := by
  induction n using Nat.strongRecOn with
  | _ n ih =>
    by_cases g : n < 10
    · exact ⟨48 + n, [], dec_small g, by omega, by omega⟩
    · obtain ⟨c, r, e, h1, h2⟩ := ih (n / 10) (by omega) (by omega)
      exact ⟨c, r ++ [48 + n % 10], by rw [dec_step (by omega), e]; rfl, h1, h2⟩
theorem dec_all (n : Nat) : ∀ c ∈ decL n, 48 ≤ c ∧ c ≤ 57 := by
  induction n using Nat.strongRecOn with
  | _ n ih =>
    by_cases g : n < 10
    · rw [dec_small g]
      intro c m
      rw [List.mem_singleton.mp m]
      omega
    · rw [dec_step (by omega)]
      intro c m
      rcases List.mem_append.mp m with m | m
      · exact ih (n / 10) (by omega) c m
      · rw [List.mem_singleton.mp m]
        have := Nat.mod_lt n (show 0 < 10 by decide)
        omega
theorem dec_ne (n : Nat) : decL n ≠ [] := by
  by_cases h : n = 0
  · subst h
    rw [dec_small (by decide)]
    exact List.cons_ne_nil _ _
  · obtain ⟨c, r, e, _⟩ := dec_head n h
    rw [e]
    exact List.cons_ne_nil _ _
theorem dec_len_le : ∀ (k : Nat) {n : Nat}, n < 10 ^ (k + 1) → (decL n).length ≤ k + 1
  | 0, n, h => by rw [dec_small (by simpa using h)]; exact Nat.le_refl _
  | k + 1, n, h => by
    by_cases g : n < 10
    · rw [dec_small g]; simp
    · rw [dec_step (by omega), List.length_append]
      have := dec_len_le k (n := n / 10) (by rw [Nat.pow_succ] at h; omega)
      simp
      omega
theorem dec_len_gt : ∀ (k : Nat) {n : Nat}, 10 ^ k ≤ n → k < (decL n).length
  | 0, n, h => List.length_pos_iff.mpr (dec_ne n)
  | k + 1, n, h => by
    have hp : 0 < 10 ^ k := Nat.pow_pos (by decide)
    rw [Nat.pow_succ] at h
    rw [dec_step (by omega), List.length_append]
    have := dec_len_gt k (n := n / 10) (by omega)
    simp
    omega
theorem dec_val (n : Nat) : digitsVal (decL n) = n := PySem.W.KIN.val_back n
theorem int_text {x : Str} {i : Int} (h : x.cps.toList = intL i) (hl : x.length ≤ 4300) : PySem.intText? x = some i := by
  unfold intL at h
  by_cases g : i < 0
  · rw [if_pos g] at h
    rw [PySem.intText_neg h (dec_all _) (dec_ne _) hl, dec_val]
    congr 1
    omega
  · rw [if_neg g] at h
    rw [PySem.intText_digits (by rw [h]; exact dec_all _) (by rw [h]; exact dec_ne _) hl, h, dec_val]
    congr 1
    omega
theorem log_ok {n : Nat} (h : n < 10 ^ 500) : n.log2 < 1920 := by
  by_cases h0 : n = 0
  · subst h0; decide
  · exact (Nat.log2_lt h0).mpr (Nat.lt_trans h (by decide +kernel))
theorem op_rep_str {X : Cx} : OpR X (binaryOp .Mult) (fun x y H Q => ∃ z n, x = .str z ∧ y = .int n ∧ MulOk z n ∧ Q (.str (Txt.mul z n)) H) := by
  intro pins s σ H x y v u Q I rx ry h
  obtain ⟨z, n, rfl, rfl, hz, q⟩ := h
  obtain ⟨t, rfl⟩ := rx
  obtain ⟨t', rfl⟩ := ry
  exact PySem.SB.mul hz (fun t' k => ⟨.str (Txt.mul z n), H, I.tok _, ⟨_, rfl⟩, q⟩)
section
variable {K : PySem.W.Frag} {H : Hp} {σ : L2.St} {ta tb te to : TE}
theorem rv_repS {z : Str} {n : Int} (h : MulOk z n) : RV (fun x y H Q => ∃ z n, x = .str z ∧ y = .int n ∧ MulOk z n ∧ Q (.str (Txt.mul z n)) H) (.str z) (.int n) H (.str (Txt.mul z n)) := fun H1 _ _ q => ⟨z, n, rfl, rfl, h, q H1 (Ex.refl H1)⟩
theorem rv_notNon {v : V} : RV (fun x y H Q => y = .non ∧ Q (.bl (!decide (x = .non))) H) v .non H (.bl (!decide (v = .non))) := fun H1 _ _ q => ⟨rfl, q H1 (Ex.refl H1)⟩
theorem rc_abs {i : Int} : RC (fun xs H Q => ∃ i, xs = [.int i] ∧ Q (.int (if i < 0 then -i else i)) H) [.int i] H (.int (if i < 0 then -i else i)) := fun H1 _ _ q => ⟨i, rfl, q H1 (Ex.refl H1)⟩
theorem rc_strI {i : Int} (h : i.natAbs < 10 ^ 500) : RC (fun xs H Q => ∃ i, xs = [.int i] ∧ i.natAbs.log2 < 1920 ∧ Q (.str (toString i)) H) [.int i] H (.str (toString i)) := fun H1 _ _ q => ⟨i, rfl, log_ok h, q H1 (Ex.refl H1)⟩
theorem ev_starts {a b : Str} (ho : Ev to σ H (.str a)) (h : Ev te σ H (.str b)) : Ev (tM1 (fun x xs H Q => ∃ a b, x = .str a ∧ xs = [.str b] ∧ Q (.bl (Txt.startswith a b)) H) to te) σ H (.bl (Txt.startswith a b)) := fun H0 e Q q =>
  ho H0 e _ fun H1 e1 => ⟨⟨a, rfl⟩, h H1 (e.trans e1) _ fun H2 e2 => ⟨a, b, rfl, rfl, q H2 (e1.trans e2)⟩⟩
theorem rv_inSign {c : Nat} {z : Str} : RV (fun x y H Q => ∃ (c : Nat) (z : Str), x = .str ⟨#[c]⟩ ∧ y = .str z ∧ Q (.bl (decide (c ∈ z.cps.toList))) H) (.str ⟨#[c]⟩) (.str z) H (.bl (decide (c ∈ z.cps.toList))) := fun H1 _ _ q => ⟨c, z, rfl, rfl, q H1 (Ex.refl H1)⟩
theorem rc_all {p : Addr} {bs : List Bool} (h : SqL K H p (bs.map V.bl)) : RC (rAll K) [.ref p] H (.bl (bs.all id)) := fun H1 e _ q => ⟨p, bs, rfl, ex_l e h, q H1 (Ex.refl H1)⟩
theorem ev_cbL {r : List V → Hp → VK → Prop} {xs : List V} {z : V} (h : EvL te σ H xs) (hr : ∀ p H1, H1 p = some (.lst xs) → RC r [.ref p] H1 z) : Ev (tCB r (tCons te tNil)) σ H z := fun H0 e Q q =>
  h H0 e _ fun p H1 _ e1 hp => hr p H1 hp H1 (Ex.refl H1) Q fun H2 e2 => q H2 (e1.trans e2)
theorem starts_one {x : Str} {c : Nat} : Txt.startswith x ⟨#[c]⟩ = decide (x.cps.toList.head? = some c) := by
  unfold Txt.startswith
  rw [PySem.StrLaws.subAt_eq]
  have hl : x.length = x.cps.toList.length := rfl
  rw [hl]
  cases h : x.cps.toList with
  | nil => rfl
  | cons a r =>
    show (decide (0 + 1 ≤ r.length + 1) && ([a] == [c])) = decide (some a = some c)
    by_cases e : a = c
    · subst e; simp
    · simp [e]
theorem cut_one {x : Str} : (cutS x (some 1) none).cps.toList = x.cps.toList.drop 1 := by
  unfold cutS
  show (x.cps.toList.drop (HT.sIx x.length 0 (some ((1 : Nat) : Int)))).take (x.length - HT.sIx x.length 0 (some ((1 : Nat) : Int))) = _
  rw [HT.sIx_nat]
  have hl : x.length = x.cps.toList.length := rfl
  rw [hl]
  cases h : x.cps.toList with
  | nil => rfl
  | cons a r =>
    have e : min 1 (a :: r).length = 1 := by simp
    rw [e]
    show (r.take (r.length + 1 - 1)) = r
    simp
end
end Gd

set_option Elab.async false
set_option linter.all false
set_option maxRecDepth 100000
set_option maxHeartbeats 4000000
/-! Of our own: rules that hold within a comprehension (their relations name the top's part, not the context). -/
namespace Gd
open PySem PySem.Spec PyProof.Rows L2 Evl
section
variable {X : Cx} {K : PySem.W.Frag}
def rTupOf (K : PySem.W.Frag) : List V → Hp → VK → Prop := fun xs H Q => ∃ p ys, xs = [.ref p] ∧ ((SqL K H p ys ∧ ∀ l, H l = none → Q (.ref l) (upd H l (.tup ys))) ∨ (SqT K H p ys ∧ Q (.ref p) H))
def rLstOf (K : PySem.W.Frag) : List V → Hp → VK → Prop := fun xs H Q => ∃ p ys, xs = [.ref p] ∧ (SqL K H p ys ∨ SqT K H p ys) ∧ ∀ l, H l = none → Q (.ref l) (upd H l (.lst ys))
theorem sl_listK (e : X.K = K) : SlR X (rSlL K) := by subst e; exact sl_list
theorem sl_tupK (e : X.K = K) : SlR X (rSlT K) := by subst e; exact sl_tup
theorem ix_listK (e : X.K = K) : IxR X (rIxL K) := by subst e; exact ix_list
theorem ix_tupK (e : X.K = K) : IxR X (rIxT K) := by subst e; exact ix_tup
theorem call_tuple_ofK (e : X.K = K) : CallR X (.type "tuple") (rTupOf K) := by subst e; exact call_tuple_of
theorem call_list_ofK (e : X.K = K) : CallR X (.type "list") (rLstOf K) := by subst e; exact call_list_of
theorem call_len_seqK (e : X.K = K) : CallR X (.builtin "len") (rLenS K) := by subst e; exact call_len_seq
theorem pe_fldK {o : Expr} {pos : Pos} {n : Str} {te : TE} (e : X.K = K) (h : PE X o te) (hb : attributeBase o n X.env (eval o X.env) = eval o X.env) : PE X (.Attribute o n pos) (tFld K te n) := by subst e; exact pe_fld h hb
theorem pg_tupK {es : List Expr} {k : Nat} {pos : Pos} {t : TGs} {n : Nat} (e : X.K = K) (hc : X.calm = true) (h : PGs X es t)
    (hn : (assignEach es X.env).length = n := by rfl) (hst : (assignEach es X.env).findIdx? (·.1) = none := by rfl) : PG X (.Tuple es k pos) (gTup K n t) := by subst e; exact pg_tup hc h hn hst
end
end Gd

set_option Elab.async false
set_option linter.all false
set_option maxRecDepth 100000
set_option maxHeartbeats 4000000
set_option exponentiation.threshold 600
/-! Of our own: an exception's __init__ that begins with super().__init__(..), the class below ValueError by classes of the program. -/
namespace Gd
open PySem PySem.Spec PyProof.Rows L2 Evl NdefX
class ProgOk (P : Program) : Prop where
  file : ((P.main.file : Str) == "/claim/cut.py") = true
  top : (P.main.scope.names.lookup ("super" : Str)).isSome = false
/-- what the written part tells of an __init__ at f, of the class at C -/
structure SupF (K : PySem.W.Frag) (C f cc cda : Addr) (qual : Str) (st : Stmt) (fd : FuncData) : Prop where
  ex : ∃ (oc ct kV doc pm ccl cl : Value) (od an cdd cld : Option Addr) (osl ccs csl : Array (Option Value)) (vs : Array Value) (tf : Tok), fd = PySem.W.ksFn "__init__" qual (defArgs st) (defBody st) (defScope st) .none kV doc pm an (.ref cda) ct cc ∧ K.lookup f = some ⟨oc, od, .func fd, osl⟩ ∧
    K.lookup cda = some ⟨ccl, cdd, .fields vs, ccs⟩ ∧ vs[2]? = some (.str "/claim/cut.py" tf) ∧ K.lookup cc = some ⟨cl, cld, .cell (some (.ref C)), csl⟩
  cd : PySem.W.codeIn K (.ref cda) qual = true
  kp : PySem.W.keepIn K (.ref f) = true
  sub : PySem.W.mroIn K C (.ref C) = some true
  ks : PySem.W.ks_superIn K C C "__init__" = some (some (.builtin "ValueError.__init__"))
  ve : PySem.W.subIn K (.ref C) (.type "ValueError") = some true
  op : PySem.W.nsIn K cStatics "thirdparty.any" = some none
abbrev supN (qual : Str) (st : Stmt) (cc cda : Addr) : NF := ⟨"__init__", qual, defArgs st, defBody st, defScope st, [("__class__", cc)], cda⟩
abbrev supX (CX : CXT) (P : Program) (w : World) (K : PySem.W.Frag) (mg : Str → Option Value) (base : Heap) (N : List Str) (qual : Str) (st : Stmt) (cc cda f : Addr) (A : Around) (outer : List Env) (s : Shared) (H : Hp) (E : XK) : Cx :=
  ncx CX P w K mg base N (supN qual st cc cda) f A outer s H E
section
variable {prog : Program} {w : World} {A : Around} {E : Value → Shared → Prop} {h : Heap} {g : Array GenState} {d : Drawn} {t : Nat} {os : OsState}
variable {nm q : Str} {C N : Addr} {bs bm : List Value} {hdct : Bool} {sn : List Str} {sub : List Value} {ab : Bool} {col : Option Bool} {dd : Option Addr} {k0 k1 k2 k3 k5 : Option Value}
/-- the built-in __init__ bound to the object, called -/
theorem call_mw {u e t0 : Addr} {rest : List Value} {Q : Value → Shared → Prop} (hbm : PySem.HandSPX.refsVE bm = true)
    (hC : h.get? C = some (excClassObj nm q C N bs bm hdct sn sub ab col dd k0 k1 k2 k3 k5 "ValueError.__new__")) (he : h.get? e = some (PySem.HandSPX.excO C t0)) (hu : h.get? u = some (PySem.W.kxs_mw "ValueError.__init__" e)) (hrest : rest.length ≤ sizeLine)
    (hq : ∀ h' t1, (∀ b o, b ≠ e → h.get? b = some o → h'.get? b = some o) → h'.get? e = some (PySem.HandSPX.excO C t1) → Q .none ⟨h', g, d, t, os⟩) :
    wpAny (model prog w) A (call (.ref u) rest) Q E ⟨h, g, d, t, os⟩ := by
  refine wpAny_call (codeAny_of_tree ?_)
  show wpAny _ A.in1 (callAny (.ref u) ⟨rest, []⟩) _ _ _
  simp only [callAny]
  refine wpAny_bind (wpAny_load hu ?_)
  simp only [PySem.W.kxs_mw, show (Value.type "method-wrapper" == Value.type "method" || Value.type "method-wrapper" == Value.type "builtin_function_or_method" || Value.type "method-wrapper" == Value.type "method-wrapper") = true by decide, if_true]
  refine PySem.W.KFB.if_so (by decide) ?_
  refine wpAny_bind (PySem.ESX.check_bound F.excBase_ValueError hC he rfl ?_)
  refine wpAny_bind (wpAny_pure (wpAny_pure ?_))
  refine ⟨Code.quiet_builtin _ (by decide +kernel), codeAny_builtin F.excBase_ValueError.initEntry ?_⟩
  rw [Around.under_plainId F.excBase_ValueError.init.plain _]
  wp_walk
  refine hq _ h.objs.size (fun b o hb ho => ?_) ?_
  · rw [Heap.get?_update_other _ _ (Ne.symm hb)]
    exact Heap.get?_push_of_some _ ho
  · rw [Heap.get?_update_self _ (Heap.get?_push_of_some _ he) rfl]
    rfl
end
section
variable {CX : CXT} {P : Program} {w : World} {K : PySem.W.Frag} {mg : Str → Option Value} {base : Heap} {N ps : List Str} {C f cc cda : Addr} {qual : Str} {st st2 : Stmt} {fd : FuncData} {k : Nat} {sp : Sp} {e : Expr} {p0 p1 p2 p3 p4 : Pos} {slf : Str}
theorem sup_ok [PO : ProgOk P] (F : SupF K C f cc cda qual st fd) (T : OexC K C) (hsup : mg "super" = none) (S : NScope N (slf :: ps) ["__class__"] (defScope st)) (hp : ((defArgs st).posonlyargs ++ (defArgs st).args).head?.map (·.arg) = some slf)
    (hks : (defScope st).names.lookup ("super" : Str) = some .globalImplicit)
    (hbody : defBody st = [.Expr (.Call (.Attribute (.Call (.Name "super" p0) [] [] p1) "__init__" p2) [e] [] p3) p4, st2])
    (hI : ∀ L, interactive (envF (supN qual st cc cda) f L) = false) (hSw : ∀ L, swapsWith (.Call (.Attribute (.Call (.Name "super" p0) [] [] p1) "__init__" p2) [e] [] p3) none p4.line (envF (supN qual st cc cda) f L) = pure false)
    (hSt : ∀ L, starEach [e] (envF (supN qual st cc cda) f L) = (false, eval e (envF (supN qual st cc cda) f L)) :: starEach [] (envF (supN qual st cc cda) f L))
    (hE : ∀ L, ∃ pl : Sem Bool, eval (.Call (.Attribute (.Call (.Name "super" p0) [] [] p1) "__init__" p2) [e] [] p3) (envF (supN qual st cc cda) f L) = (do
      let ov ← attributeBase (.Call (.Name "super" p0) [] [] p1) "__init__" (envF (supN qual st cc cda) f L) (eval (.Call (.Name "super" p0) [] [] p1) (envF (supN qual st cc cda) f L))
      standAt p2.atName
      let (f', first) ← holding [ov] (getMethod ov "__init__" pl)
      callWith p3 f' first (backTo p3 (starEach [e] (envF (supN qual st cc cda) f L))) []))
    (len : ∀ vs H Q E, sp vs H Q E → vs.length = (slf :: ps).length)
    (hb : ∀ (A : Around) (outer : List Env) (s : Shared) (H : Hp) (vs : List V) (Q : VK) (E : XK), Room k (A.deeper (envF (supN qual st cc cda) f s.heap.objs.size)) → sp vs H Q E →
      ∃ (a : Addr) (r : List V) (te : TE) (ts : TS), vs = .ref a :: r ∧ H a = some (exo a C none) ∧ PE (supX CX P w K mg base N qual st cc cda f A outer s H E) e te ∧ L2.PS (supX CX P w K mg base N qual st cc cda f A outer s H E) st2 ts ∧
        te (startF N vs [none]) H fun y H1 => H1 a = some (exo a C none) ∧ ts { nx := fun _ H' => Q .non H', rt := Q } (startF N vs [none]) H1) :
    FnOk P w K mg base CX (k + 1) f fd (slf :: ps) sp := by
  refine ⟨len, fun A outer s H args us vs Q E hr e0 hbd r hsp => ?_⟩
  obtain ⟨oc, ct, kV, doc, pm, ccl, cl, od, an, cdd, cld, osl, ccs, csl, vs2, tf, rfl, lk, lc, hvs, lcc⟩ := F.ex
  have hl := len _ _ _ _ hsp
  have KX : K.In s.heap := e0.mod.kin.keeps fun b o e => (e0.bs b o e).1
  have lim : s.heap.NoLimit := e0.mod.nolimit.keeps fun b o e => (e0.bs b o e).1
  obtain ⟨a, rv, te, ts, rfl, ha, hte, hts, hrun⟩ := hb A outer s H vs Q E (hr.deeper _) hsp
  have hcellH : H cc = none := (e0.bs cc _ (e0.mod.kin _ _ lcc)).2
  have C0 : CellsAt (supN qual st cc cda).cl ["__class__"] [none] s.heap H := by
    have one : ∀ {y : Str} {c : Addr}, List.lookup y [(("__class__" : Str), cc)] = some c → y = "__class__" ∧ c = cc := fun {y c} z => by
      rw [List.lookup_cons] at z
      cases h : (y == ("__class__" : Str)) with
      | true =>
        rw [h] at z
        exact ⟨by simpa using h, (Option.some.inj z).symm⟩
      | false =>
        rw [h] at z
        cases z
    refine ⟨rfl, fun y c z => ?_, fun x y c z1 z2 => ?_, fun i y z => ?_⟩
    · obtain ⟨rfl, rfl⟩ := one z
      exact ⟨hcellH, _, _, KX _ _ lcc, rfl⟩
    · rw [(one z1).1, (one z2).1]
    · match i, z with
      | 0, z =>
        obtain rfl : ("__class__" : Str) = y := by simpa using z
        exact ⟨cc, rfl, fun v z => nomatch z⟩
  refine PySem.ks_codeAny_call_defAt (fd := PySem.W.ksFn "__init__" qual (defArgs st) (defBody st) (defScope st) .none kV doc pm an (.ref cda) ct cc) (body := defBody st) (binds := (slf :: ps).zip us) hr.depth (KX _ _ lk) rfl lim (PySem.W.codeRec_of KX F.cd) rfl hbd (fun x hx => S.nocell x hx) (fun ⟨n, _⟩ hy => S.par n (List.of_mem_zip hy).1) (fun h₁ hns kp => ?_) S.co S.gen S.kind
  have I : Inv (supX CX P w K mg base N qual st cc cda f A outer s H E) [] (startF N (.ref a :: rv) [none]) H { s with heap := h₁, toks := s.toks + ((slf :: ps).zip us).length } := inv_startN S hr.hd e0 hl r C0 hns kp
  obtain ⟨nm, q, N0, bs, bm, sn, sub, ab, col, dd, k0, k1, k2, k3, k5, hC, hbm⟩ := T.cls
  have hcl : PySem.W.clsIn K C = some { name := nm, bases := bs, mro := .ref C :: bm, ns := N0, qualname := q, hasDict := true, slotNames := sn, subclasses := sub, abstract := ab, collection := col, hasDel := false } := by unfold PySem.W.clsIn; rw [hC] <;> rfl
  obtain ⟨ar, har, rfl⟩ : ∃ ar : Arg, ((defArgs st).posonlyargs ++ (defArgs st).args).head? = some ar ∧ ar.arg = slf := by
    cases z : ((defArgs st).posonlyargs ++ (defArgs st).args).head? with
    | none => rw [z] at hp; cases hp
    | some ar => rw [z] at hp; exact ⟨ar, rfl, Option.some.inj hp⟩
  have hex : ∀ env : Env, execs (defBody st) env = execs [.Expr (.Call (.Attribute (.Call (.Name "super" p0) [] [] p1) "__init__" p2) [e] [] p3) p4, st2] env := fun env => by rw [hbody]
  show _root_.PySem.wpAt _ (A.deeper (envF (supN qual st cc cda) f s.heap.objs.size)) (.func (defBody st) (envF (supN qual st cc cda) f s.heap.objs.size)) (execs (defBody st) (envF (supN qual st cc cda) f s.heap.objs.size)) _ _ _
  rw [hex]
  have hkc : (envF (supN qual st cc cda) f s.heap.objs.size).kindOf "__class__" = some .free := S.frk _ (List.mem_singleton.mpr rfl)
  have hks' : (envF (supN qual st cc cda) f s.heap.objs.size).kindOf "super" = some .globalImplicit := hks
  obtain ⟨pl, hE⟩ := hE s.heap.objs.size
  refine PySem.ks_wpAt_execs_cons (PySem.ks_wpAt_Expr_any (PySem.ks_wpAt_MethodCall (pl := pl) (PySem.ks_wpAt_super_base (f := f) (cc := cda) hks' hkc (by decide) rfl (I.kIn _ _ lk) rfl har rfl (I.kIn _ _ lc) rfl hvs PO.file PO.top ?_) hE) (hI _) (hSw _))
  obtain ⟨mb, hb1, hb2⟩ := I.mod.blt
  refine PySem.W.ks_loadName_global S.kind hks' (Calls.loadGlobal_builtin (env := envF (supN qual st cc cda) f s.heap.objs.size) (I.mod.glob.keeps I.bk) hsup (hb1.keeps I.bk) ((hb2 "super" (by decide)).trans PyProof.Rows.Boot.«super») ⟨rfl, ?_⟩)
  refine wpAny_loadName_free S.kind hkc rfl ⟨_, I.kIn _ _ lcc, rfl⟩ ?_
  cases r with
  | @cons _ u0 _ ur ra rw' =>
  obtain rfl : u0 = Value.ref a := ra
  have ndP : (ar.arg :: ps).Nodup := by
    have q := S.nd.sublist (List.take_sublist ((ar.arg :: ps).length + [("__class__" : Str)].length) N)
    rw [S.pre] at q
    exact (List.nodup_append.mp q).1
  refine wpAny_loadName_local S.kind (S.par _ List.mem_cons_self) hns (zip_look (i := 0) ndP rfl rfl) ?_
  have XI := I.kIn
  refine PySem.ks_wpAny_isType_cls (XI _ _ hC) rfl ⟨rfl, ?_⟩
  obtain ⟨t1, ho⟩ := exo_at I.hok ha
  refine PySem.ks_wpAny_call_super (XI _ _ hC) rfl ho rfl (fun c z => nomatch z) (PySem.W.looks_mroIn XI F.sub) (fun h2 hso kso => ?_)
  have I2 : Inv (supX CX P w K mg base N qual st cc cda f A outer s H E) [] (startF N (.ref a :: rv) [none]) H { s with heap := h2, toks := s.toks + ((ar.arg :: ps).zip (Value.ref a :: ur)).length } := I.kept kso
  have X2 := I2.kIn
  obtain ⟨t2, ho2⟩ := exo_at I2.hok ha
  have J2 : PySem.W.InstAt h2 a { cls := .ref C, dict := none, data := .fields #[.ref t2, .none, .none, .none, .bool false, .none] } C none := ⟨ho2, rfl, rfl, trivial⟩
  have hks2 := F.ks
  unfold PySem.W.ks_superIn at hks2
  rw [hcl] at hks2
  refine PySem.W.kxs_getMethod PySem.W.kxs_ValueError hso (PySem.W.looks_opaque X2 F.op) (l₀ := .ref C :: bm) (fun A Q E s k q => wpAny_bind ((PySem.W.looks_clsIn X2 hcl) A _ E s k (wpAny_pure q))) rfl X2 hks2 (J2.type.andThen (PySem.W.looks_subIn X2 F.ve)) (PySem.W.ks_ne X2 J2 hcl) (by decide) ?_
  have I3 : Inv (supX CX P w K mg base N qual st cc cda f A outer s H E) [(h2.objs.size, PySem.W.kxs_mw "ValueError.__init__" a)] (startF N (.ref a :: rv) [none]) H { s with heap := h2.push (PySem.W.kxs_mw "ValueError.__init__" a), toks := s.toks + ((ar.arg :: ps).zip (Value.ref a :: ur)).length + 1 } :=
    ClX.pin_new (s := { s with heap := h2, toks := s.toks + ((ar.arg :: ps).zip (Value.ref a :: ur)).length }) I2 (fun b u z => Heap.get?_push_of_some _ z) (Nat.le_refl _) (Heap.get?_push_at rfl rfl) (fun v z => nomatch z)
  show wpAny _ _ (callWith p3 (.ref h2.objs.size) [] (backTo p3 (starEach [e] (envF (supN qual st cc cda) f s.heap.objs.size))) []) _ _ _
  have hStL := hSt s.heap.objs.size
  have hpa : PA (supX CX P w K mg base N qual st cc cda f A outer s H E) [e] (tCons te tNil) := pa_cons hte pa_nil (by exact hStL)
  have hr3 := hpa.run p3 _ _ _ _ (fun xs H1 => match xs with | [_] => H1 a = some (exo a C none) ∧ ts { nx := fun _ H' => Q .non H', rt := Q } (startF N (.ref a :: rv) [none]) H1 | _ => False) I3 hrun
  rw [show starEach [e] (supX CX P w K mg base N qual st cc cda f A outer s H E).env = (false, eval e (envF (supN qual st cc cda) f s.heap.objs.size)) :: starEach [] (envF (supN qual st cc cda) f s.heap.objs.size) from hStL] at hr3
  rw [hStL]
  refine PySem.W.kxs_callWith (i := "ValueError.__init__") (x := a) (by rfl) (PySem.Calls.evalArgs_plain ?_)
  refine wpAny_mono hr3 (fun us2 s4 hh => ?_) (fun e s' hs => hs)
  obtain ⟨xs, H1, I4, r4, hq4⟩ := hh
  match xs, r4, hq4 with
  | [y], r4, hq4 =>
  obtain ⟨ha4, hts4⟩ := hq4
  have hu := ClX.pin_at I4
  refine ⟨hu, ?_⟩
  obtain ⟨t4, ho4⟩ := exo_at I4.hok ha4
  obtain ⟨h4, g4, d4, tk4, os4⟩ := s4
  have hus : us2.length ≤ sizeLine := by
    rw [← r4.length, sizeLine_eq]
    show 1 ≤ _
    omega
  refine call_mw hbm (I4.kIn _ _ hC) ho4 hu hus (fun h5 t5 k5' hx5 => ?_)
  have J := I4.write (t' := tk4) (x := a) (e := a) (o := exo a C none) (by rw [ha4]; exact True.intro) (.inl rfl) k5' ⟨_, hx5⟩ (exo_ok hx5)
  have eu : upd H1 a (exo a C none) = H1 := by
    funext b
    by_cases hb : b = a
    · rw [hb, upd_same, ha4]
    · rw [upd_ne hb]
  rw [eu] at J
  refine PySem.wpAt_of_wpAny ?_
  refine wpAny_mono ((pss_one hts).run _ _ _ _ _ J hts4) (fun fl s' hs => ?_) (fun e s' hs => hs)
  have fin : ∀ {σ' : L2.St} {H' : Hp} {v : V} {u : Value} {pn : List (Addr × Obj)}, Inv (supX CX P w K mg base N qual st cc cda f A outer s H E) pn σ' H' s' → L2.RelV v u → Q v H' → CE outer P w H s Q u s' :=
    fun {σ' H' v u pn} J rv q => ⟨v, H', J.os, J.bare, J.base, J.hok, rv, q⟩
  cases fl with
  | ret u =>
    obtain ⟨v, σ', H', J, rv, q⟩ := hs
    exact fin J rv q
  | next =>
    obtain ⟨σ', H', J, q⟩ := hs
    exact fin J (v := .non) rfl q
  | brk => exact (let ⟨_, _, _, q⟩ := hs; False.elim q)
  | cont => exact (let ⟨_, _, _, q⟩ := hs; False.elim q)
end
section
variable {P : Program} {w : World} {K : PySem.W.Frag} {C f cc cda : Addr} {qual : Str} {st : Stmt} {fd : FuncData} {ps : List Str}
theorem SupF.binds (F : SupF K C f cc cda qual st fd) (h : ∀ (kV doc pm : Value) (an : Option Addr) (ct : Value) (us : List Value), us.length = ps.length → bindArgs (PySem.W.ksFn "__init__" qual (defArgs st) (defBody st) (defScope st) .none kV doc pm an (.ref cda) ct cc) ⟨us, []⟩ = pure (ps.zip us)) : Binds K fd ps [] := by
  obtain ⟨oc, ct, kV, doc, pm, ccl, cl, od, an, cdd, cld, osl, ccs, csl, vs2, tf, rfl, lk, lc, hvs, lcc⟩ := F.ex
  exact .all (h kV doc pm an ct)
/-- the promise of such an __init__: one field -/
def OkY (y : V) : Prop := (∃ i : Int, y = .int i ∧ i.natAbs < 10 ^ 200) ∨ ∃ s : Str, y = .str s ∧ s.length ≤ 1000
def spXI (C : Addr) (fn : Str) : Sp := fun vs H Q _ => ∃ (a : Addr) (y : V), vs = [.ref a, y] ∧ OkY y ∧ H a = some (exo a C none) ∧ ∀ H1 dx, Ex H H1 → H1 dx = none → dx ≠ a → Q .non (upd (upd H1 dx (exd dx [(fn, y)])) a (exo a C (some dx)))
/-- the message: texts and the argument -/
theorem int_len {i : Int} (h : i.natAbs < 10 ^ 200) : (PySem.Str.ofString (toString i)).length ≤ 501 := by
  show (PySem.Str.ofString (toString i)).cps.size ≤ 501
  rw [← Array.length_toList, show_int i]
  have := dec_len_le 199 h
  unfold intL
  split
  · rw [List.length_cons]; omega
  · omega
theorem app_ln (a z : Str) : (a ++ z).length = a.length + z.length := by
  show (a ++ z).cps.size = a.cps.size + z.cps.size
  exact Array.size_append
theorem js_y {acc : Str} {n : Nat} {y : V} {te : TE} {ts : List TE} {σ : L2.St} {H : Hp} {Q : Str → Hp → Prop} (hy : OkY y) (h : Ev te σ H y) (ha : acc.length ≤ n) (hn : n ≤ 20000) (k : ∀ z H1, Ex H H1 → (acc ++ z).length ≤ n + 1000 → tJs ts (acc ++ z) σ H1 Q) : tJs (tFmt te :: ts) acc σ H Q :=
  h H (Ex.refl H) _ fun H1 e1 => by
    rcases hy with ⟨i, rfl, hi⟩ | ⟨s, rfl, hs⟩
    · have := int_len hi
      have hl : (acc ++ PySem.Str.ofString (toString i)).length ≤ n + 1000 := by rw [app_ln]; omega
      exact .inr ⟨i, rfl, log_ok (Nat.lt_of_lt_of_le hi (Nat.pow_le_pow_right (by decide) (by decide))), _, rfl, by rw [sizeLine_eq]; exact Nat.le_trans hl (by omega), k _ H1 e1 hl⟩
    · have hl : (acc ++ s).length ≤ n + 1000 := by rw [app_ln]; omega
      exact .inl ⟨s, rfl, by rw [sizeLine_eq]; omega, s, rfl, by rw [sizeLine_eq]; omega, k s H1 e1 hl⟩
theorem js_c {acc z : Str} {n : Nat} {ts : List TE} {σ : L2.St} {H : Hp} {Q : Str → Hp → Prop} (ha : acc.length ≤ n) (hn : n ≤ 20000) (hz : z.length ≤ 1000) (h : (acc ++ z).length ≤ n + 1000 → tJs ts (acc ++ z) σ H Q) : tJs (tC (.str z) :: ts) acc σ H Q := by
  have hl : (acc ++ z).length ≤ n + 1000 := by rw [app_ln]; omega
  exact ⟨z, rfl, by rw [sizeLine_eq]; omega, h hl⟩
end
section
variable {K : PySem.W.Frag} {σ : L2.St} {H : Hp}
/-- isinstance of the error that a suite holds, with a dict or without -/
def rIsXD (K : PySem.W.Frag) (D a : Addr) (cls : Value) (d : Option Addr) : List V → Hp → VK → Prop := fun xs H Q => cls = .ref D ∧ (d = none ∨ ∃ dd fs, d = some dd ∧ H dd = some (.xd fs)) ∧ rIsE K D a xs H Q
theorem call_isXD {X : Cx} {a D : Addr} {oe : Obj} {pn : List (Addr × Obj)} {cls : Value} {d : Option Addr} (C : ExcC X.K D) (hz : Zc cls d oe) (hf : ∃ vs, oe.data = .fields vs) : CallR (X.suite a ((a, oe) :: pn)) (.builtin "isinstance") (rIsXD X.K D a cls d) := by
  intro pins s σ H xs us Q I r h
  obtain ⟨rfl, hd, h⟩ := h
  rcases hd with rfl | ⟨dd, fs, rfl, hdd⟩
  · exact call_isE C hz hf pins s σ H xs us Q I r h
  obtain ⟨c, cv, b, rfl, hcv, e, q⟩ := h
  cases r with
  | cons rx rr =>
    cases rr with
    | cons rt rr =>
      cases rr
      cases rx
      have ec := hcv _ rt
      subst ec
      obtain ⟨hget, _⟩ := I.pin (a, oe) (List.mem_append.mpr (.inl List.mem_cons_self))
      obtain ⟨vs, hv⟩ := hf
      have hx : ObjOk X.prog X.w H s.heap dd (.xd fs) := I.hok dd _ hdd
      obtain ⟨mA, hns, hr⟩ := hx
      obtain ⟨od, ho, hl⟩ := lookIn_ns hns
      have J : PySem.W.InstAt s.heap a oe D (some od) := ⟨hget, hz.1, by unfold PySem.W.notCls; rw [hv] <;> rfl, by rw [hz.2]; exact ho⟩
      obtain ⟨cdD, hcD, _⟩ := PySem.W.any_some C.hd
      exact PySem.W.kia_one (PySem.W.kitx_exc (by rw [hcD]; rfl) C.hg C.hk C.hs C.ha C.hn C.ht C.hm) I.kIn J e (fun z => nomatch z) fun tk => ⟨.bl b, H, I.kept (t' := tk) fun _ _ z => z, rfl, q⟩
theorem rc_isXD {D a dd : Addr} {fs : List (Str × V)} {c : V} {cv : Value} {b : Bool} (hd : H dd = some (.xd fs)) (hc : ∀ u, RelV c u → u = cv) (hk : PySem.W.kitOne K (.ref D) cv = some b) : RC (rIsXD K D a (.ref D) (some dd)) [.ref a, c] H (.bl b) := fun H1 e _ q => ⟨rfl, .inr ⟨dd, fs, rfl, e _ _ hd⟩, c, cv, b, rfl, hc, hk, q H1 (Ex.refl H1)⟩
theorem rc_isX0 {D a : Addr} {c : V} {cv : Value} {b : Bool} (hc : ∀ u, RelV c u → u = cv) (hk : PySem.W.kitOne K (.ref D) cv = some b) : RC (rIsXD K D a (.ref D) none) [.ref a, c] H (.bl b) := fun H1 e _ q => ⟨rfl, .inl rfl, c, cv, b, rfl, hc, hk, q H1 (Ex.refl H1)⟩
/-- e.f -/
theorem ev_xf {a C dd : Addr} {f : Str} {fs : List (Str × V)} {v : V} {te : TE} (h : Ev te σ H (.ref a)) (hd : H dd = some (.xd fs)) (hl : fs.lookup f = some v) : Ev (tXf a (.ref C) (some dd) C f te) σ H v := fun H1 e Q q =>
  h H1 e _ fun H2 e2 => ⟨rfl, rfl, dd, fs, v, rfl, (e.trans e2) _ _ hd, hl, q H2 e2⟩
/-- raise C(e) -/
theorem mk_xi {C : Addr} {fn : Str} {y : V} {ta : TA} {Q : XK} (h : EvA ta σ H [y]) (hy : OkY y) (k : ∀ d H2, Ex H H2 → H2 d = some (.xd [(fn, y)]) → Q (.ref C) (some d) H2) : tMkO C (spXI C fn) [] ta σ H Q :=
  h H (Ex.refl H) _ fun H1 e1 => ⟨by show 1 ≤ 1000; decide, fun a na => ⟨a, y, rfl, hy, upd_same, fun H3 dx e3 ndx dne => by
    have ndx1 : H1 dx = none := by
      have := fresh_back e3 ndx
      rw [upd_ne dne] at this
      exact this
    refine ⟨rfl, dx, [(fn, y)], upd_same, by rw [upd_ne dne]; exact upd_same, ndx1, k dx _ (fun b o hb => ?_) upd_same⟩
    have h1 := e1 _ _ hb
    have nb : b ≠ a := ne_of_none h1 na
    have nx : b ≠ dx := ne_of_none h1 ndx1
    rw [upd_ne nx, del_ne nb, upd_ne nb, upd_ne nx]
    exact e3 _ _ (by rw [upd_ne nb]; exact h1)⟩⟩
/-- self.f = e, in such an __init__ -/
theorem s_ost {C a : Addr} {fn : Str} {y : V} {to te : TE} {D : Ends} (T : OexC K C) (hno : PySem.W.findIn K (.ref C) fn = some none) (ha : H a = some (exo a C none)) (ho : ∀ H1, Ev to σ H1 (.ref a)) (he : Ev te σ H y) (k : ∀ H1 dx, Ex H H1 → H1 dx = none → dx ≠ a → D.nx σ (upd (upd H1 dx (exd dx [(fn, y)])) a (exo a C (some dx)))) : tOst K fn to te D σ H :=
  he H (Ex.refl H) _ fun H1 e1 => ho H1 H1 (Ex.refl H1) _ fun H2 e2 => ⟨a, C, rfl, T, hno, .inl ⟨(e1.trans e2) _ _ ha, fun dx nd ne => k H2 dx (e1.trans e2) nd ne⟩⟩
end
end Gd

set_option Elab.async false
set_option linter.all false
set_option maxRecDepth 100000
set_option maxHeartbeats 4000000
/-! Of our own: values as data (Dp), dicts of ints, arguments that change the heap. -/
namespace Gd
open PySem PySem.Spec PyProof.Rows L2 Evl
/-! ### data under a heap that grows -/
section
variable {K : PySem.W.Frag} {H H' : Hp}
mutual
theorem dp_ex (e : Ex H H') : ∀ (d : PyData) (v : V), Dp K H v d → Dp K H' v d
  | .none, _, h => by cases h; exact .non
  | .bool _, _, h => by cases h; exact .bl _
  | .int _, _, h => by cases h; exact .int _
  | .str _, _, h => by cases h; exact .str _
  | .list ds, _, h => by cases h with | lst h1 h2 => exact .lst (ex_l e h1) (dpAll_ex e ds _ h2)
  | .tuple ds, _, h => by cases h with | tup h1 h2 => exact .tup (ex_t e h1) (dpAll_ex e ds _ h2)
  | .dict _, _, h => by cases h
theorem dpAll_ex (e : Ex H H') : ∀ (ds : List PyData) (vs : List V), DpAll K H vs ds → DpAll K H' vs ds
  | [], _, h => by cases h; exact .nil
  | d :: ds, _, h => by cases h with | cons a b => exact .cons (dp_ex e d _ a) (dpAll_ex e ds _ b)
end
theorem _root_.L2.Dp.ex {v : V} {d : PyData} (h : Dp K H v d) (e : Ex H H') : Dp K H' v d := dp_ex e d v h
theorem _root_.L2.DpAll.ex {vs : List V} {ds : List PyData} (h : DpAll K H vs ds) (e : Ex H H') : DpAll K H' vs ds := dpAll_ex e ds vs h
/-! data of tuples alone -/
mutual
def tupO : PyData → Bool
  | .none | .bool _ | .int _ | .str _ => true
  | .tuple ds => tupOs ds
  | .list _ | .dict _ => false
def tupOs : List PyData → Bool
  | [] => true
  | d :: r => tupO d && tupOs r
end
/-- no tuple, nor one that is locked -/
def NoTup (o : HO) : Prop := (∀ xs, o ≠ .tup xs) ∧ ∀ b xs, o ≠ .frz b (.tup xs)
theorem nt_lst {xs : List V} : NoTup (.lst xs) := ⟨fun _ h => (by cases h), fun _ _ h => (by cases h)⟩
theorem nt_dK {xs : List (Key × V)} : NoTup (.dK xs) := ⟨fun _ h => (by cases h), fun _ _ h => (by cases h)⟩
theorem nt_ins {C dx : Addr} {fs : List (Str × V)} : NoTup (.ins C dx fs) := ⟨fun _ h => (by cases h), fun _ _ h => (by cases h)⟩
theorem sqT_bu {L : List Addr} {a : Addr} {xs : List V} (b : Bu L H H') (n : ∀ c ∈ L, ∃ o, H c = some o ∧ NoTup o) (h : SqT K H a xs) : SqT K H' a xs := by
  have hn : ∀ o, H a = some o → ¬ NoTup o → H' a = some o := fun o ho hx => b a o (fun m => by
    obtain ⟨o2, h1, h2⟩ := n a m
    rw [ho] at h1
    cases h1
    exact hx h2) ho
  rcases h with (h | ⟨o, h⟩) | h
  · exact .inl (.inl (hn _ h fun z => z.1 _ rfl))
  · exact .inl (.inr ⟨o, hn _ h fun z => z.2 _ _ rfl⟩)
  · exact .inr h
mutual
theorem dp_bu {L : List Addr} (b : Bu L H H') (n : ∀ c ∈ L, ∃ o, H c = some o ∧ NoTup o) : ∀ (d : PyData) (v : V), tupO d = true → Dp K H v d → Dp K H' v d
  | .none, _, _, h => by cases h; exact .non
  | .bool _, _, _, h => by cases h; exact .bl _
  | .int _, _, _, h => by cases h; exact .int _
  | .str _, _, _, h => by cases h; exact .str _
  | .tuple ds, _, t, h => by cases h with | tup h1 h2 => exact .tup (sqT_bu b n h1) (dpAll_bu b n ds _ (by rw [tupO] at t; exact t) h2)
  | .list _, _, t, _ => by rw [tupO] at t; cases t
  | .dict _, _, t, _ => by rw [tupO] at t; cases t
theorem dpAll_bu {L : List Addr} (b : Bu L H H') (n : ∀ c ∈ L, ∃ o, H c = some o ∧ NoTup o) : ∀ (ds : List PyData) (vs : List V), tupOs ds = true → DpAll K H vs ds → DpAll K H' vs ds
  | [], _, _, h => by cases h; exact .nil
  | d :: ds, _, t, h => by
    rw [tupOs, Bool.and_eq_true] at t
    cases h with | cons x y => exact .cons (dp_bu b n d _ t.1 x) (dpAll_bu b n ds _ t.2 y)
end
/-- one object that is no tuple changes -/
theorem _root_.L2.Dp.upd {v : V} {d : PyData} {p : Addr} {o o' : HO} (h : Dp K H v d) (t : tupO d = true) (hp : H p = some o) (n : NoTup o) : Dp K (upd H p o') v d :=
  dp_bu (L := [p]) (fun a u m e => by rw [upd_ne (by simpa using m)]; exact e) (fun c m => by rw [List.mem_singleton.mp m]; exact ⟨o, hp, n⟩) d v t h
theorem _root_.L2.DpAll.upd {vs : List V} {ds : List PyData} {p : Addr} {o o' : HO} (h : DpAll K H vs ds) (t : tupOs ds = true) (hp : H p = some o) (n : NoTup o) : DpAll K (upd H p o') vs ds :=
  dpAll_bu (L := [p]) (fun a u m e => by rw [upd_ne (by simpa using m)]; exact e) (fun c m => by rw [List.mem_singleton.mp m]; exact ⟨o, hp, n⟩) ds vs t h
/-! ### what data stands for -/
theorem dpAll_ints_inv : ∀ {ns : List Int} {vs : List V}, DpAll K H vs (ns.map PyData.int) → vs = ns.map V.int
  | [], _, h => by cases h; rfl
  | n :: r, _, h => by cases h with | cons a b => cases a; rw [dpAll_ints_inv b]; rfl
theorem dp_ints_inv {v : V} {ns : List Int} (h : Dp K H v (.list (ns.map PyData.int))) : ∃ a, v = .ref a ∧ SqL K H a (ns.map V.int) := by
  cases h with | lst h1 h2 => rw [dpAll_ints_inv h2] at h1; exact ⟨_, rfl, h1⟩
theorem dp_intsT_inv {v : V} {ns : List Int} (h : Dp K H v (.tuple (ns.map PyData.int))) : ∃ a, v = .ref a ∧ SqT K H a (ns.map V.int) := by
  cases h with | tup h1 h2 => rw [dpAll_ints_inv h2] at h1; exact ⟨_, rfl, h1⟩
theorem dp_intsT {a : Addr} {ns : List Int} (h : SqT K H a (ns.map V.int)) : Dp K H (.ref a) (.tuple (ns.map PyData.int)) := .tup h (dpAll_ints ns)
theorem dp_tup_inv {v : V} {ds : List PyData} (h : Dp K H v (.tuple ds)) : ∃ a xs, v = .ref a ∧ SqT K H a xs ∧ DpAll K H xs ds := by
  cases h with | tup h1 h2 => exact ⟨_, _, rfl, h1, h2⟩
theorem dp_lst_inv {v : V} {ds : List PyData} (h : Dp K H v (.list ds)) : ∃ a xs, v = .ref a ∧ SqL K H a xs ∧ DpAll K H xs ds := by
  cases h with | lst h1 h2 => exact ⟨_, _, rfl, h1, h2⟩
theorem dp_int_inv {v : V} {i : Int} (h : Dp K H v (.int i)) : v = .int i := by cases h; rfl
theorem dpAll_len : ∀ {ds : List PyData} {vs : List V}, DpAll K H vs ds → vs.length = ds.length
  | [], _, h => by cases h; rfl
  | d :: r, _, h => by cases h with | cons a b => rw [List.length_cons, List.length_cons, dpAll_len b]
theorem dpAll_at : ∀ {ds : List PyData} {vs : List V} {i : Nat} {d : PyData}, DpAll K H vs ds → ds[i]? = some d → ∃ v, vs[i]? = some v ∧ Dp K H v d
  | [], _, _, _, _, e => by simp at e
  | d :: r, _, 0, _, h, e => by cases h with | cons a b => simp at e; subst e; exact ⟨_, rfl, a⟩
  | d :: r, _, i + 1, d', h, e => by
    cases h with
    | cons a b =>
      obtain ⟨w, h1, h2⟩ := dpAll_at (i := i) (d := d') b (by simpa using e)
      exact ⟨w, by simpa using h1, h2⟩
theorem _root_.L2.DpAll.app : ∀ {ds es : List PyData} {vs ws : List V}, DpAll K H vs ds → DpAll K H ws es → DpAll K H (vs ++ ws) (ds ++ es)
  | [], _, _, _, h, g => by cases h; exact g
  | d :: r, _, _, _, h, g => by cases h with | cons a b => exact .cons a (L2.DpAll.app b g)
theorem _root_.L2.DpAll.drop : ∀ {ds : List PyData} {vs : List V} (k : Nat), DpAll K H vs ds → DpAll K H (vs.drop k) (ds.drop k)
  | ds, vs, 0, h => h
  | [], _, k + 1, h => by cases h; exact .nil
  | d :: r, _, k + 1, h => by cases h with | cons a b => exact L2.DpAll.drop k b
theorem _root_.L2.DpAll.take : ∀ {ds : List PyData} {vs : List V} (k : Nat), DpAll K H vs ds → DpAll K H (vs.take k) (ds.take k)
  | ds, vs, 0, h => .nil
  | [], _, k + 1, h => by cases h; exact .nil
  | d :: r, _, k + 1, h => by cases h with | cons a b => exact .cons a (L2.DpAll.take k b)
def cutD (xs : List PyData) (lo hi : Option Int) : List PyData := (xs.drop (HT.sIx xs.length 0 lo)).take (HT.sIx xs.length xs.length hi - HT.sIx xs.length 0 lo)
theorem _root_.L2.DpAll.cut {ds : List PyData} {vs : List V} (h : DpAll K H vs ds) (lo hi : Option Int) : DpAll K H (cutV vs lo hi) (cutD ds lo hi) := by
  unfold cutV cutD
  rw [dpAll_len h]
  exact (h.drop _).take _
end
/-! ### what evaluates to data -/
def EvD (K : PySem.W.Frag) (te : TE) (σ : L2.St) (H : Hp) (d : PyData) : Prop := ∀ H1, Ex H H1 → ∀ Q : VK, (∀ v H2, Ex H1 H2 → Dp K H2 v d → Q v H2) → te σ H1 Q
def EvDA (K : PySem.W.Frag) (ta : TA) (σ : L2.St) (H : Hp) (ds : List PyData) : Prop := ∀ H1, Ex H H1 → ∀ Q : List V → Hp → Prop, (∀ vs H2, Ex H1 H2 → DpAll K H2 vs ds → Q vs H2) → ta σ H1 Q
/-- what a def that hands back data must be given -/
def RetD (K : PySem.W.Frag) (d : PyData) (H : Hp) (Q : VK) : Prop := ∀ v H2, Ex H H2 → Dp K H2 v d → Q v H2
section
variable {K : PySem.W.Frag} {H H1 H' : Hp} {σ : L2.St} {ta tb te : TE} {tt : TT} {t tr : TA} {D : Ends} {tz : TS} {d e : PyData} {v : V}
theorem EvD.mono (x : Ex H H') (h : EvD K te σ H d) : EvD K te σ H' d := fun H1 a Q q => h H1 (x.trans a) Q q
theorem ed_ev (h : Ev te σ H v) (hd : Dp K H v d) : EvD K te σ H d := fun H1 e Q q => h H1 e Q fun H2 e2 => q v H2 e2 (hd.ex (e.trans e2))
theorem ed_int {i : Int} (h : Ev te σ H (.int i)) : EvD K te σ H (.int i) := ed_ev h (.int i)
theorem ed_bl {b : Bool} (h : Ev te σ H (.bl b)) : EvD K te σ H (.bool b) := ed_ev h (.bl b)
theorem ed_non (h : Ev te σ H .non) : EvD K te σ H .none := ed_ev h .non
theorem ev_di {i : Int} (h : EvD K te σ H (.int i)) : Ev te σ H (.int i) := fun H1 e Q q => h H1 e Q fun v H2 e2 hd => by cases hd; exact q H2 e2
theorem ev_db {b : Bool} (h : EvD K te σ H (.bool b)) : Ev te σ H (.bl b) := fun H1 e Q q => h H1 e Q fun v H2 e2 hd => by cases hd; exact q H2 e2
theorem ed_L {xs : List V} {ds : List PyData} (h : EvL te σ H xs) (hd : DpAll K H xs ds) : EvD K te σ H (.list ds) := fun H1 e Q q => h H1 e Q fun p H2 _ e2 hp => q _ H2 e2 (.lst (sq_of hp) (hd.ex (e.trans e2)))
theorem ed_U {xs : List V} {ds : List PyData} (h : EvU te σ H xs) (hd : DpAll K H xs ds) : EvD K te σ H (.tuple ds) := fun H1 e Q q => h H1 e Q fun p H2 _ e2 hp => q _ H2 e2 (.tup (st_of hp) (hd.ex (e.trans e2)))
theorem eda_nil : EvDA K tNil σ H [] := fun H1 _ _ q => q [] H1 (Ex.refl H1) .nil
theorem eda_cons {ds : List PyData} (h : EvD K te σ H d) (hr : EvDA K tr σ H ds) : EvDA K (tCons te tr) σ H (d :: ds) := fun H1 e _ q =>
  h H1 e _ fun v H2 e2 hd => hr H2 (e.trans e2) _ fun vs H3 e3 hds => q _ H3 (e2.trans e3) (.cons (hd.ex e3) hds)
theorem ed_tup {ds : List PyData} (h : EvDA K t σ H ds) (hl : ds.length ≤ 100000) : EvD K (tTup t) σ H (.tuple ds) := fun H1 e _ q =>
  h H1 e _ fun vs H2 e2 hds => ⟨by rw [dpAll_len hds]; exact sz_of hl, fun p hp => q _ _ (e2.trans (Ex.new hp)) (.tup (st_of upd_same) (hds.ex (Ex.new hp)))⟩
theorem ed_lst {ds : List PyData} (h : EvDA K t σ H ds) (hl : ds.length ≤ 100000) : EvD K (tLst t) σ H (.list ds) := fun H1 e _ q =>
  h H1 e _ fun vs H2 e2 hds => ⟨by rw [dpAll_len hds]; exact sz_of hl, fun p hp => q _ _ (e2.trans (Ex.new hp)) (.lst (sq_of upd_same) (hds.ex (Ex.new hp)))⟩
theorem q_asgD {i : Nat} (h : EvD K te σ H d) (k : ∀ v H1, Ex H H1 → Dp K H1 v d → tz D (σ.set i (some v)) H1) : tSeq (tAsg te (gName i)) tz D σ H := h H (Ex.refl H) _ k
theorem s_asgD {i : Nat} (h : EvD K te σ H d) (k : ∀ v H1, Ex H H1 → Dp K H1 v d → D.nx (σ.set i (some v)) H1) : tAsg te (gName i) D σ H := h H (Ex.refl H) _ k
theorem s_retD (h : EvD K te σ H d) (k : RetD K d H D.rt) : tRet te D σ H := h H (Ex.refl H) _ k
theorem ed_call {sp : Sp} {dvs vs : List V} {E : XK} (h : EvA t σ H vs) (hs : ∀ H1, Ex H H1 → ∀ Q : VK, RetD K d H1 Q → sp (vs ++ dvs) H1 Q E) : EvD K (tCall sp dvs E t) σ H d := fun H1 e Q q =>
  h H1 e _ fun H2 e2 => hs H2 (e.trans e2) Q fun v H3 e3 hd => q v H3 (e2.trans e3) hd
theorem ed_callD {sp : Sp} {dvs : List V} {ds : List PyData} {E : XK} (h : EvDA K t σ H ds) (hs : ∀ vs H1, Ex H H1 → DpAll K H1 vs ds → ∀ Q : VK, RetD K d H1 Q → sp (vs ++ dvs) H1 Q E) : EvD K (tCall sp dvs E t) σ H d := fun H1 e Q q =>
  h H1 e _ fun vs H2 e2 hds => hs vs H2 (e.trans e2) hds Q fun v H3 e3 hd => q v H3 (e2.trans e3) hd
theorem ed_ixT {ds : List PyData} {i : Nat} (h : EvD K ta σ H (.tuple ds)) (hb : Ev tb σ H (.int (i : Int))) (hi : ds[i]? = some d) : EvD K (tOp (rIxT K) ta tb) σ H d := fun H1 e Q q =>
  h H1 e _ fun v H2 e2 hd => hb H2 (e.trans e2) _ fun H3 e3 => by
    obtain ⟨a, xs, rfl, h1, h2⟩ := dp_tup_inv hd
    obtain ⟨w, hw, hdw⟩ := dpAll_at h2 hi
    exact ⟨a, xs, (i : Int), w, rfl, rfl, ex_t e3 h1, atI_nat hw, q w H3 (e2.trans e3) (hdw.ex e3)⟩
theorem ed_ixL {ds : List PyData} {i : Nat} (h : EvD K ta σ H (.list ds)) (hb : Ev tb σ H (.int (i : Int))) (hi : ds[i]? = some d) : EvD K (tOp (rIxL K) ta tb) σ H d := fun H1 e Q q =>
  h H1 e _ fun v H2 e2 hd => hb H2 (e.trans e2) _ fun H3 e3 => by
    obtain ⟨a, xs, rfl, h1, h2⟩ := dp_lst_inv hd
    obtain ⟨w, hw, hdw⟩ := dpAll_at h2 hi
    exact ⟨a, xs, (i : Int), w, rfl, rfl, ex_l e3 h1, atI_nat hw, q w H3 (e2.trans e3) (hdw.ex e3)⟩
theorem atI_last {xs : List V} {w : V} (h : xs[xs.length - 1]? = some w) : atI xs (-1) = some w := by
  have hl : xs.length - 1 < xs.length := (List.getElem?_eq_some_iff.mp h).1
  show (ixN xs.length (-1)).bind (xs[·]?) = some w
  have e : ixN xs.length (-1) = some (xs.length - 1) := by
    unfold ixN
    split
    · omega
    · split
      · congr 1; omega
      · omega
  rw [e]
  exact h
theorem ed_lastL {ds : List PyData} (h : EvD K ta σ H (.list ds)) (hb : Ev tb σ H (.int (-1))) (hi : ds[ds.length - 1]? = some d) : EvD K (tOp (rIxL K) ta tb) σ H d := fun H1 e Q q =>
  h H1 e _ fun v H2 e2 hd => hb H2 (e.trans e2) _ fun H3 e3 => by
    obtain ⟨a, xs, rfl, h1, h2⟩ := dp_lst_inv hd
    obtain ⟨w, hw, hdw⟩ := dpAll_at h2 hi
    exact ⟨a, xs, -1, w, rfl, rfl, ex_l e3 h1, atI_last (by rw [dpAll_len h2]; exact hw), q w H3 (e2.trans e3) (hdw.ex e3)⟩
theorem ev_lenT {ds : List PyData} (h : EvD K ta σ H (.tuple ds)) : Ev (tCB (rLenS K) (tCons ta tNil)) σ H (.int (ds.length : Int)) := fun H1 e Q q =>
  h H1 e _ fun v H2 e2 hd => by
    obtain ⟨a, xs, rfl, h1, h2⟩ := dp_tup_inv hd
    refine ⟨a, xs, rfl, .inr h1, ?_⟩
    rw [dpAll_len h2]
    exact q H2 e2
theorem ev_lenLD {ds : List PyData} (h : EvD K ta σ H (.list ds)) : Ev (tCB (rLenS K) (tCons ta tNil)) σ H (.int (ds.length : Int)) := fun H1 e Q q =>
  h H1 e _ fun v H2 e2 hd => by
    obtain ⟨a, xs, rfl, h1, h2⟩ := dp_lst_inv hd
    refine ⟨a, xs, rfl, .inl h1, ?_⟩
    rw [dpAll_len h2]
    exact q H2 e2
theorem ed_slT {tl th : TO} {ds : List PyData} {lo hi : Option Int} (hn : ¬(HT.sIx ds.length 0 lo = 0 ∧ HT.sIx ds.length ds.length hi = ds.length)) (h : EvD K te σ H (.tuple ds)) (h1 : EvO tl σ H lo) (h2 : EvO th σ H hi) : EvD K (tSl (rSlT K) te tl th) σ H (.tuple (cutD ds lo hi)) := fun H1 e _ q =>
  h H1 e _ fun v H2 e2 hd => h1 H2 (e.trans e2) _ fun H3 e3 => h2 H3 ((e.trans e2).trans e3) _ fun H4 e4 => by
    obtain ⟨a, xs, rfl, g1, g2⟩ := dp_tup_inv hd
    exact ⟨a, xs, rfl, ex_t (e3.trans e4) g1, by rw [dpAll_len g2]; exact hn, fun p hp => q _ _ (((e2.trans e3).trans e4).trans (Ex.new hp)) (.tup (st_of upd_same) ((g2.ex (e3.trans e4)).cut lo hi |>.ex (Ex.new hp)))⟩
theorem ed_slL {tl th : TO} {ds : List PyData} {lo hi : Option Int} (h : EvD K te σ H (.list ds)) (h1 : EvO tl σ H lo) (h2 : EvO th σ H hi) : EvD K (tSl (rSlL K) te tl th) σ H (.list (cutD ds lo hi)) := fun H1 e _ q =>
  h H1 e _ fun v H2 e2 hd => h1 H2 (e.trans e2) _ fun H3 e3 => h2 H3 ((e.trans e2).trans e3) _ fun H4 e4 => by
    obtain ⟨a, xs, rfl, g1, g2⟩ := dp_lst_inv hd
    exact ⟨a, xs, rfl, ex_l (e3.trans e4) g1, fun p hp => q _ _ (((e2.trans e3).trans e4).trans (Ex.new hp)) (.lst (sq_of upd_same) ((g2.ex (e3.trans e4)).cut lo hi |>.ex (Ex.new hp)))⟩
/-- tuple(..) -/
theorem ed_tupOfT (h : EvD K te σ H (.tuple ds)) : EvD K (tCB (rTupOf K) (tCons te tNil)) σ H (.tuple ds) := fun H1 e _ q =>
  h H1 e _ fun v H2 e2 hd => by
    obtain ⟨a, xs, rfl, g1, g2⟩ := dp_tup_inv hd
    exact ⟨a, xs, rfl, .inr ⟨g1, q _ H2 e2 (.tup g1 g2)⟩⟩
theorem ed_tupOfL {ds : List PyData} (h : EvD K te σ H (.list ds)) : EvD K (tCB (rTupOf K) (tCons te tNil)) σ H (.tuple ds) := fun H1 e _ q =>
  h H1 e _ fun v H2 e2 hd => by
    obtain ⟨a, xs, rfl, g1, g2⟩ := dp_lst_inv hd
    exact ⟨a, xs, rfl, .inl ⟨g1, fun l hl => q _ _ (e2.trans (Ex.new hl)) (.tup (st_of upd_same) (g2.ex (Ex.new hl)))⟩⟩
theorem ed_lstOfT {ds : List PyData} (h : EvD K te σ H (.tuple ds)) : EvD K (tCB (rLstOf K) (tCons te tNil)) σ H (.list ds) := fun H1 e _ q =>
  h H1 e _ fun v H2 e2 hd => by
    obtain ⟨a, xs, rfl, g1, g2⟩ := dp_tup_inv hd
    exact ⟨a, xs, rfl, .inr g1, fun l hl => q _ _ (e2.trans (Ex.new hl)) (.lst (sq_of upd_same) (g2.ex (Ex.new hl)))⟩
/-- a new list of a tuple of ints -/
theorem el_lstOfT {ns : List Int} (h : EvD K te σ H (.tuple (ns.map PyData.int))) : EvL (tCB (rLstOf K) (tCons te tNil)) σ H (ns.map V.int) := fun H1 e _ q =>
  h H1 e _ fun v H2 e2 hd => by
    obtain ⟨a, rfl, g1⟩ := dp_intsT_inv hd
    exact ⟨a, _, rfl, .inr g1, fun l hl => q l _ (fresh_back e2 hl) (e2.trans (Ex.new hl)) upd_same⟩
/-! ### equality and repr of data -/
theorem eqv_refl_ints (ns ms : List Int) : PyData.eqv (.list (ns.map PyData.int)) (.list (ms.map PyData.int)) = decide (ns = ms) := by rw [PyData.eqv, eqv_ints]
theorem ev_eqD {d e : PyData} (ha : EvD K ta σ H d) (hb : EvD K tb σ H e) (hd : SeqAt.shaped d = true) (he : SeqAt.shaped e = true) : Ev (tOp (rEqD K) ta tb) σ H (.bl (PyData.eqv d e)) := fun H1 x Q q =>
  ha H1 x _ fun v H2 e2 h1 => hb H2 (x.trans e2) _ fun w H3 e3 h2 => ⟨d, e, h1.ex e3, h2, hd, he, q H3 (e2.trans e3)⟩
theorem ev_neD {d e : PyData} (ha : EvD K ta σ H d) (hb : EvD K tb σ H e) (hd : SeqAt.shaped d = true) (he : SeqAt.shaped e = true) : Ev (tOp (rNeD K) ta tb) σ H (.bl (!PyData.eqv d e)) := fun H1 x Q q =>
  ha H1 x _ fun v H2 e2 h1 => hb H2 (x.trans e2) _ fun w H3 e3 h2 => ⟨d, e, h1.ex e3, h2, hd, he, q H3 (e2.trans e3)⟩
/-- what repr may be asked of -/
structure Nice (d : PyData) : Prop where
  sh : d.showable = true
  nd : d.hasDict = false
  dp : d.depth ≤ 40
  ln : d.shown.length ≤ sizeLine
theorem ev_reprD {d : PyData} (h : EvD K te σ H d) (n : Nice d) : Ev (tCB (rRepr K) (tCons te tNil)) σ H (.str d.shown) := fun H1 e Q q =>
  h H1 e _ fun v H2 e2 hd => ⟨v, d, rfl, hd, n.sh, n.nd, n.dp, n.ln, q H2 e2⟩
end
/-! small data: ints below 10 ^ 100, no texts, no dicts -/
mutual
def smD : PyData → Bool
  | .none | .bool _ => true
  | .int i => decide (i.natAbs < 10 ^ 100)
  | .list ds | .tuple ds => smDs ds
  | .str _ | .dict _ => false
def smDs : List PyData → Bool
  | [] => true
  | d :: r => smD d && smDs r
end
theorem int_short {n : Int} (h : n.natAbs < 10 ^ 100) : (PyData.int n).leavesShort 101 = true := by
  rw [PyData.leavesShort]
  refine decide_eq_true ?_
  unfold PyData.shown
  have h := int_text_length_le10 (k := 100) (by decide) h
  have e : (Str.ofString (toString n)).length = (toString n).length := PySem.ofString_length _
  show (Str.ofString (toString n)).length ≤ 101
  rw [e]
  exact h
mutual
theorem sm_short : ∀ d : PyData, smD d = true → d.leavesShort 101 = true
  | .none, _ => by simp [PyData.leavesShort]
  | .bool _, _ => by simp [PyData.leavesShort]
  | .int i, h => int_short (by rw [smD] at h; exact of_decide_eq_true h)
  | .str _, h => by rw [smD] at h; cases h
  | .list ds, h => by rw [PyData.leavesShort]; exact sm_shorts ds (by rw [smD] at h; exact h)
  | .tuple ds, h => by rw [PyData.leavesShort]; exact sm_shorts ds (by rw [smD] at h; exact h)
  | .dict _, h => by rw [smD] at h; cases h
theorem sm_shorts : ∀ ds : List PyData, smDs ds = true → PyData.leavesShortAll 101 ds = true
  | [], _ => by simp [PyData.leavesShortAll]
  | d :: r, h => by
    rw [smDs, Bool.and_eq_true] at h
    rw [PyData.leavesShortAll, sm_short d h.1, sm_shorts r h.2]
    rfl
end
mutual
theorem sm_show : ∀ d : PyData, smD d = true → d.showable = true
  | .none, _ => by simp [PyData.showable]
  | .bool _, _ => by simp [PyData.showable]
  | .int i, h => by rw [PyData.showable]; exact decide_eq_true (log_lt (by rw [smD] at h; exact of_decide_eq_true h))
  | .str _, h => by rw [smD] at h; cases h
  | .list ds, h => by rw [PyData.showable]; exact sm_shows ds (by rw [smD] at h; exact h)
  | .tuple ds, h => by rw [PyData.showable]; exact sm_shows ds (by rw [smD] at h; exact h)
  | .dict _, h => by rw [smD] at h; cases h
theorem sm_shows : ∀ ds : List PyData, smDs ds = true → PyData.showableAll ds = true
  | [], _ => by simp [PyData.showableAll]
  | d :: r, h => by
    rw [smDs, Bool.and_eq_true] at h
    rw [PyData.showableAll, sm_show d h.1, sm_shows r h.2]
    rfl
end
mutual
theorem sm_dict : ∀ d : PyData, smD d = true → d.hasDict = false
  | .none, _ => by simp [PyData.hasDict]
  | .bool _, _ => by simp [PyData.hasDict]
  | .int i, h => by simp [PyData.hasDict]
  | .str _, h => by rw [smD] at h; cases h
  | .list ds, h => by rw [PyData.hasDict]; exact sm_dicts ds (by rw [smD] at h; exact h)
  | .tuple ds, h => by rw [PyData.hasDict]; exact sm_dicts ds (by rw [smD] at h; exact h)
  | .dict _, h => by rw [smD] at h; cases h
theorem sm_dicts : ∀ ds : List PyData, smDs ds = true → PyData.hasDictAll ds = false
  | [], _ => by simp [PyData.hasDictAll]
  | d :: r, h => by
    rw [smDs, Bool.and_eq_true] at h
    rw [PyData.hasDictAll, sm_dict d h.1, sm_dicts r h.2]
    rfl
end
theorem nice_sm {d : PyData} (h : smD d = true) (hd : d.depth ≤ 40) (hb : d.bulk ≤ 100000) : Nice d := by
  refine ⟨sm_show d h, sm_dict d h, hd, ?_⟩
  have hk := PyData.shown_le_bulk 101 (by decide) _ (sm_short d h)
  rw [sizeLine_eq]
  omega
theorem smDs_ints {ns : List Int} (h : ∀ n ∈ ns, n.natAbs < 10 ^ 100) : smDs (ns.map PyData.int) = true := by
  induction ns with
  | nil => simp [smDs]
  | cons n r ih =>
    rw [List.map_cons, smDs, smD, decide_eq_true (h n List.mem_cons_self), ih fun m hm => h m (List.mem_cons_of_mem _ hm)]
    rfl
theorem bulk_ints (ns : List Int) : PyData.bulkAll (ns.map PyData.int) = ns.length := by
  induction ns with
  | nil => simp [PyData.bulkAll]
  | cons n r ih => rw [List.map_cons, PyData.bulkAll, PyData.bulk, ih, List.length_cons]; omega
/-! ### dicts from ints to ints -/
def kvI (sd : List (Int × Int)) : List (Key × V) := sd.map fun p => (Sum.inl p.1, V.int p.2)
def getI : List (Int × Int) → Int → Option Int
  | [], _ => none
  | p :: r, k => if p.1 = k then some p.2 else getI r k
def putI (sd : List (Int × Int)) (k v : Int) : List (Int × Int) := if (sd.any fun p => decide (p.1 = k)) = true then sd.map (fun p => if p.1 = k then (p.1, v) else p) else sd ++ [(k, v)]
theorem kvI_get (sd : List (Int × Int)) (k : Int) : valV (kvI sd) (Sum.inl k) = (getI sd k).map V.int := by
  induction sd with
  | nil => rfl
  | cons p r ih =>
    unfold getI
    by_cases h : p.1 = k
    · rw [if_pos h]
      exact valV_pos (p := (Sum.inl p.1, V.int p.2)) (by rw [h])
    · rw [if_neg h, ← ih]
      exact valV_neg (p := (Sum.inl p.1, V.int p.2)) (fun z => h (Sum.inl.inj z))
theorem kvI_put (sd : List (Int × Int)) (k v : Int) : putK (kvI sd) (Sum.inl k) (V.int v) = kvI (putI sd k v) := by
  have ha : ((kvI sd).any fun kv => decide (kv.1 = Sum.inl k)) = sd.any fun p => decide (p.1 = k) := by
    unfold kvI
    rw [List.any_map]
    congr 1
    funext p
    show decide ((Sum.inl p.1 : Key) = Sum.inl k) = decide (p.1 = k)
    by_cases h : p.1 = k
    · rw [h]; simp
    · rw [decide_eq_false h, decide_eq_false (fun z => h (Sum.inl.inj z))]
  unfold putK putI
  rw [ha]
  by_cases a : (sd.any fun p => decide (p.1 = k)) = true
  · rw [if_pos a, if_pos a]
    unfold kvI
    rw [List.map_map, List.map_map]
    congr 1
    funext p
    show (if (Sum.inl p.1 : Key) = Sum.inl k then (Sum.inl p.1, V.int v) else (Sum.inl p.1, V.int p.2)) = (fun p : Int × Int => ((Sum.inl p.1 : Key), V.int p.2)) (if p.1 = k then (p.1, v) else p)
    by_cases h : p.1 = k
    · rw [if_pos (by rw [h]), if_pos h]
    · rw [if_neg (fun z => h (Sum.inl.inj z)), if_neg h]
  · rw [if_neg a, if_neg a]
    unfold kvI
    rw [List.map_append]
    rfl
theorem getI_put (sd : List (Int × Int)) (k j v : Int) : getI (putI sd k v) j = if j = k then some v else getI sd j := by
  have h := valV_put (kvI sd) (Sum.inl k) (Sum.inl j) (V.int v)
  rw [kvI_put, kvI_get, kvI_get] at h
  by_cases e : j = k
  · rw [if_pos e]
    rw [if_pos (by rw [e])] at h
    cases q : getI (putI sd k v) j with
    | none => rw [q] at h; cases h
    | some w => rw [q] at h; cases h; rfl
  · rw [if_neg e]
    rw [if_neg (fun z => e (Sum.inl.inj z))] at h
    cases q : getI (putI sd k v) j with
    | none => rw [q] at h; cases r : getI sd j with
      | none => rfl
      | some w => rw [r] at h; cases h
    | some w => rw [q] at h; cases r : getI sd j with
      | none => rw [r] at h; cases h
      | some u => rw [r] at h; cases h; rfl
theorem putI_len (sd : List (Int × Int)) (k v : Int) : (putI sd k v).length ≤ sd.length + 1 := by
  unfold putI
  split
  · rw [List.length_map]; omega
  · rw [List.length_append]; exact Nat.le_refl _
theorem kvI_len (sd : List (Int × Int)) : (kvI sd).length = sd.length := by unfold kvI; rw [List.length_map]
theorem kvI_keys (sd : List (Int × Int)) : (kvI sd).map (·.1) = (sd.map (·.1)).map Sum.inl := by unfold kvI; rw [List.map_map, List.map_map]; rfl
section
variable {K : PySem.W.Frag} {H H1 H' : Hp} {σ : L2.St} {ta tb te td ty tx tv : TE} {tt : TT} {t tr : TA} {D : Ends} {tz : TS} {a : Addr}
/-- d.get(k, x) -/
theorem ev_dget2 {kvs : List (Key × V)} {k : Key} {z : V} (h : Ev td σ H (.ref a)) (hd : H a = some (.dK kvs)) (hk : Ev ty σ H (kV k)) (hx : Ev tx σ H z) : Ev (tDGet2 td ty tx) σ H ((valV kvs k).getD z) := fun H1 e Q q =>
  h H1 e _ fun H2 e2 => ⟨a, rfl, .inl ⟨kvs, .inl (e2 _ _ (e _ _ hd))⟩, hk H2 (e.trans e2) _ fun H3 e3 => hx H3 ((e.trans e2).trans e3) _ fun H4 e4 => ⟨_, DGet.k (e4 _ _ (e3 _ _ (e2 _ _ (e _ _ hd)))), q H4 ((e2.trans e3).trans e4)⟩⟩
theorem ev_dget1 {kvs : List (Key × V)} {k : Key} (h : Ev td σ H (.ref a)) (hd : H a = some (.dK kvs)) (hk : Ev ty σ H (kV k)) : Ev (tDGet1 td ty) σ H ((valV kvs k).getD .non) := fun H1 e Q q =>
  h H1 e _ fun H2 e2 => ⟨a, rfl, .inl ⟨kvs, .inl (e2 _ _ (e _ _ hd))⟩, hk H2 (e.trans e2) _ fun H3 e3 => ⟨_, DGet.k (e3 _ _ (e2 _ _ (e _ _ hd))), q H3 (e2.trans e3)⟩⟩
theorem ev_getI {sd : List (Int × Int)} {k : Int} (h : Ev td σ H (.ref a)) (hd : H a = some (.dK (kvI sd))) (hk : Ev ty σ H (.int k)) (hx : Ev tx σ H (.int 0)) : Ev (tDGet2 td ty tx) σ H (.int ((getI sd k).getD 0)) := by
  have e := ev_dget2 (k := Sum.inl k) h hd hk hx
  rw [kvI_get] at e
  cases q : getI sd k with
  | none => rw [q] at e; exact e
  | some v => rw [q] at e; exact e
theorem ev_ixI {sd : List (Int × Int)} {k v : Int} (h : Ev td σ H (.ref a)) (hk : Ev ty σ H (.int k)) (hd : H a = some (.dK (kvI sd))) (hv : getI sd k = some v) : Ev (tDGet td ty) σ H (.int v) :=
  ev_dget (k := Sum.inl k) h hk hd (by rw [kvI_get, hv]; rfl)
theorem ev_inI {kvs : List (Key × V)} {k : Int} (hk : Ev ty σ H (.int k)) (h : Ev td σ H (.ref a)) (hd : H a = some (.dK kvs)) : Ev (tDIn ty td) σ H (.bl (valV kvs (Sum.inl k)).isSome) := fun H1 e Q q =>
  hk H1 e _ fun H2 e2 => h H2 (e.trans e2) _ fun H3 e3 => ⟨a, _, rfl, DGet.k (k := Sum.inl k) (e3 _ _ (e2 _ _ (e _ _ hd))), q H3 (e2.trans e3)⟩
theorem ev_niI {kvs : List (Key × V)} {k : Int} (hk : Ev ty σ H (.int k)) (h : Ev td σ H (.ref a)) (hd : H a = some (.dK kvs)) : Ev (tDNotIn ty td) σ H (.bl (!(valV kvs (Sum.inl k)).isSome)) := fun H1 e Q q =>
  hk H1 e _ fun H2 e2 => h H2 (e.trans e2) _ fun H3 e3 => ⟨a, _, rfl, DGet.k (k := Sum.inl k) (e3 _ _ (e2 _ _ (e _ _ hd))), q H3 (e2.trans e3)⟩
/-- d[k] = v, ints, within 100000 pairs; the value may change the heap -/
theorem s_dputI {P : V → Hp → Prop} {k : Int} (hv : EvP tv σ H P) (q : ∀ v H1, P v H1 → ∃ kvs, H1 a = some (.dK kvs) ∧ (∀ H2, Ex H1 H2 → Ev td σ H2 (.ref a)) ∧ (∀ H2, Ex H1 H2 → Ev ty σ H2 (.int k)) ∧ kvs.length < 100000 ∧ ∀ H2, Ex H1 H2 → D.nx σ (upd H2 a (.dK (putK kvs (Sum.inl k) v)))) : sDPut td ty tv D σ H :=
  hv _ fun v H1 h1 => by
    obtain ⟨kvs, hd, ha, hk, hz, g⟩ := q v H1 h1
    exact ha H1 (Ex.refl H1) H1 (Ex.refl H1) _ fun H2 e2 => hk H2 e2 H2 (Ex.refl H2) _ fun H3 e3 => ⟨a, _, rfl, DPut.k (k := Sum.inl k) (e3 _ _ (e2 _ _ hd)) (sz_lt hz), g H3 (e2.trans e3)⟩
theorem q_dputI {P : V → Hp → Prop} {k : Int} (hv : EvP tv σ H P) (q : ∀ v H1, P v H1 → ∃ kvs, H1 a = some (.dK kvs) ∧ (∀ H2, Ex H1 H2 → Ev td σ H2 (.ref a)) ∧ (∀ H2, Ex H1 H2 → Ev ty σ H2 (.int k)) ∧ kvs.length < 100000 ∧ ∀ H2, Ex H1 H2 → tz D σ (upd H2 a (.dK (putK kvs (Sum.inl k) v)))) : tSeq (sDPut td ty tv) tz D σ H :=
  s_dputI (D := { D with nx := tz D }) hv q
/-! ### arguments that change the heap -/
def EvAP (ta : TA) (σ : L2.St) (H : Hp) (PA : List V → Hp → Prop) : Prop := ∀ Q : List V → Hp → Prop, (∀ vs H', PA vs H' → Q vs H') → ta σ H Q
theorem eap_one {P : V → Hp → Prop} (h : EvP te σ H P) : EvAP (tCons te tNil) σ H (fun vs H' => ∃ v, vs = [v] ∧ P v H') := fun Q q => h _ fun v H1 h1 => q [v] H1 ⟨v, rfl, h1⟩
theorem ep_methP {sp : Sp} {E : XK} {PA : List V → Hp → Prop} {P : V → Hp → Prop} {C dx : Addr} {fs : List (Str × V)} {m : Str} (ha : Ev ta σ H (.ref a)) (ho : H a = some (.ins C dx fs)) (hl : fs.lookup m = none) (ht : ∀ H1, Ex H H1 → EvAP t σ H1 PA)
    (hs : ∀ vs H1, PA vs H1 → ∀ Q : VK, (∀ v H', P v H' → Q v H') → sp (.ref a :: (vs ++ [])) H1 Q E) : EvP (tMeth C m sp [] E ta t) σ H P := fun Q q =>
  ha H (Ex.refl H) _ fun H1 e1 => ⟨a, dx, fs, rfl, e1 _ _ ho, hl, ht H1 e1 _ fun vs H2 h2 => hs vs H2 h2 Q q⟩
/-- xs.append(e), e may change the heap -/
theorem s_appR {P : V → Hp → Prop} {xs : List V} (ha : Ev ta σ H (.ref a)) (hl : H a = some (.lst xs)) (h : ∀ H1, Ex H H1 → EvP te σ H1 P) (k : ∀ v H1, P v H1 → ∃ ys, H1 a = some (.lst ys) ∧ ys.length < 100000 ∧ D.nx σ (upd H1 a (.lst (ys ++ [v])))) :
    tDrop (tBM K "list" rAppend ta (tCons te tNil)) D σ H := ha H (Ex.refl H) _ fun H1 e1 =>
  ⟨.inl ⟨rfl, xs, sq_of (e1 a _ hl)⟩, h H1 e1 _ fun v H2 hv => by
    obtain ⟨ys, h1, h2, h3⟩ := k v H2 hv
    exact ⟨a, ys, v, rfl, rfl, h1, sz_lt h2, h3⟩⟩
theorem q_appR {P : V → Hp → Prop} {xs : List V} (ha : Ev ta σ H (.ref a)) (hl : H a = some (.lst xs)) (h : ∀ H1, Ex H H1 → EvP te σ H1 P) (k : ∀ v H1, P v H1 → ∃ ys, H1 a = some (.lst ys) ∧ ys.length < 100000 ∧ tz D σ (upd H1 a (.lst (ys ++ [v])))) :
    tSeq (tDrop (tBM K "list" rAppend ta (tCons te tNil))) tz D σ H := s_appR (D := { D with nx := tz D }) ha hl h k
theorem ep_opR {r : R2} {y : V} {P1 P : V → Hp → Prop} (ha : EvP ta σ H P1) (hb : ∀ v H1, P1 v H1 → Ev tb σ H1 y) (hr : ∀ v H1, P1 v H1 → ∀ H2, Ex H1 H2 → ∀ Q : VK, (∀ z H', P z H' → Q z H') → r v y H2 Q) : EvP (tOp r ta tb) σ H P := fun Q q =>
  ha _ fun v H1 h1 => hb v H1 h1 H1 (Ex.refl H1) _ fun H2 e2 => hr v H1 h1 H2 e2 Q q
theorem etp_val {P : V → Hp → Prop} {P2 : Bool → Hp → Prop} (h : EvP te σ H P) (k : ∀ v H1, P v H1 → ∃ b, v = .bl b ∧ P2 b H1) : EtP (tTest te) σ H P2 := fun Q q => h _ fun v H1 h1 => by
  obtain ⟨b, rfl, h2⟩ := k v H1 h1
  exact ⟨b, rfl, q b H1 h2⟩
end
section
variable {K : PySem.W.Frag} {H : Hp} {σ : L2.St} {te : TE} {tt : TT} {ta : TA} {d : PyData} {v : V} {Q : VK}
theorem go_ev (h : Ev te σ H v) (k : ∀ H1, Ex H H1 → Q v H1) : te σ H Q := h H (Ex.refl H) Q k
theorem go_ed (h : EvD K te σ H d) (k : ∀ v H1, Ex H H1 → Dp K H1 v d → Q v H1) : te σ H Q := h H (Ex.refl H) Q k
theorem go_et {b : Bool} {Q : Bool → Hp → Prop} (h : EvT tt σ H b) (k : ∀ H1, Ex H H1 → Q b H1) : tt σ H Q := h H (Ex.refl H) Q k
theorem go_ea {vs : List V} {Q : List V → Hp → Prop} (h : EvA ta σ H vs) (k : ∀ H1, Ex H H1 → Q vs H1) : ta σ H Q := h H (Ex.refl H) Q k
end
/-! ### sorted ints -/
def srt (ks : List Int) : List Int := ks.mergeSort (fun a b => decide (a ≤ b))
theorem srt_perm (ks : List Int) : (srt ks).Perm ks := List.mergeSort_perm ks _
theorem srt_sorted (ks : List Int) : (srt ks).Pairwise (· ≤ ·) := by
  have h := List.pairwise_mergeSort (le := fun a b : Int => decide (a ≤ b)) (fun a b c h1 h2 => by simp at *; omega) (fun a b => by simp; omega) ks
  exact h.imp fun h => by simpa using h
theorem srt_uniq {ks ns : List Int} (h : ns.Perm ks) (s : ns.Pairwise (· ≤ ·)) : ns = srt ks := PySem.W.ksm_same (h.trans (srt_perm ks).symm) s (srt_sorted ks)
end Gd

set_option Elab.async false
set_option linter.all false
set_option maxRecDepth 100000
set_option maxHeartbeats 4000000
/-! Of our own: comprehensions that give data; dict comprehensions; ranges by fours; tuples taken apart. -/
namespace Gd
open PySem PySem.Spec PyProof.Rows L2 Evl
/-- a new list of data -/
def EvLD (K : PySem.W.Frag) (te : TE) (σ : L2.St) (H : Hp) (ds : List PyData) : Prop := ∀ H1, Ex H H1 → ∀ Q : VK, (∀ p xs H2, H1 p = none → Ex H1 H2 → H2 p = some (.lst xs) → DpAll K H2 xs ds → Q (.ref p) H2) → te σ H1 Q
def givD (n : Nat) (b : Nat → Bool) (g : Nat → PyData) : List PyData := ((List.range n).filter b).map g
theorem givD_yes {n : Nat} {f : Nat → Bool} {v : Nat → PyData} (h : f n = true) : givD (n + 1) f v = givD n f v ++ [v n] := by
  unfold givD
  rw [List.range_succ, List.filter_append, List.map_append, List.filter_cons, if_pos h] <;> rfl
theorem givD_no {n : Nat} {f : Nat → Bool} {v : Nat → PyData} (h : f n = false) : givD (n + 1) f v = givD n f v := by
  unfold givD
  rw [List.range_succ, List.filter_append, List.map_append, List.filter_cons, if_neg (by rw [h]; decide)]
  show _ ++ [] = _
  rw [List.append_nil]
theorem givD_len (n : Nat) (f : Nat → Bool) (v : Nat → PyData) : (givD n f v).length ≤ n := by
  unfold givD
  rw [List.length_map]
  have h := List.length_filter_le f (List.range n)
  rw [List.length_range] at h
  exact h
theorem tupOs_at : ∀ {ds : List PyData}, (∀ d ∈ ds, tupO d = true) → tupOs ds = true
  | [], _ => by simp [tupOs]
  | d :: r, h => by rw [tupOs, h d List.mem_cons_self, tupOs_at fun e m => h e (List.mem_cons_of_mem _ m)]; rfl
theorem givD_tup {n : Nat} {b : Nat → Bool} {g : Nat → PyData} (h : ∀ i, i < n → tupO (g i) = true) : tupOs (givD n b g) = true := tupOs_at fun d m => by
  unfold givD at m
  obtain ⟨i, hi, rfl⟩ := List.mem_map.mp m
  exact h i (by have := (List.mem_filter.mp hi).1; simpa using this)
/-- what xs.map with a test gives, by places -/
theorem filter_range_map {α : Type} (l : List α) (p : α → Bool) (g : α → PyData) (z : α) : givD l.length (fun i => p (l.getD i z)) (fun i => g (l.getD i z)) = (l.filter p).map g := by
  have key : ∀ k, k ≤ l.length → givD k (fun i => p (l.getD i z)) (fun i => g (l.getD i z)) = ((l.take k).filter p).map g := by
    intro k
    induction k with
    | zero => intro _; rfl
    | succ k ih =>
      intro hk
      have hlt : k < l.length := by omega
      have hg : l[k]? = some l[k] := List.getElem?_eq_getElem hlt
      have hd : l.getD k z = l[k] := by rw [List.getD_eq_getElem?_getD, hg]; rfl
      rw [take_snoc hg, List.filter_append, List.map_append]
      cases hp : p l[k] with
      | true =>
        rw [givD_yes (by rw [hd]; exact hp), ih (by omega), hd]
        simp [hp]
      | false =>
        rw [givD_no (by rw [hd]; exact hp), ih (by omega)]
        simp [hp]
  have := key l.length (Nat.le_refl _)
  rw [List.take_length] at this
  exact this
section
variable {K : PySem.W.Frag} {σ : L2.St} {H H1 H' : Hp} {ta tb te tl tk tv : TE} {tt t u : TT} {D : Ends} {tz tu : TS} {vs : List Nat} {j : Nat}
theorem ed_LD {ds : List PyData} (h : EvLD K te σ H ds) : EvD K te σ H (.list ds) := fun H1 e Q q => h H1 e Q fun p xs H2 _ e2 hp hd => q _ H2 e2 (.lst (sq_of hp) hd)
theorem et_yes : EvT tYes σ H true := fun H1 _ _ q => q H1 (Ex.refl H1)
theorem q_asgLD {i : Nat} {ds : List PyData} (h : EvLD K te σ H ds) (k : ∀ p xs H1, H p = none → Ex H H1 → H1 p = some (.lst xs) → DpAll K H1 xs ds → tz D (σ.set i (some (.ref p))) H1) : tSeq (tAsg te (gName i)) tz D σ H := h H (Ex.refl H) _ k
theorem s_retLD {ds : List PyData} (h : EvLD K te σ H ds) (k : ∀ p xs H1, H p = none → Ex H H1 → H1 p = some (.lst xs) → DpAll K H1 xs ds → D.rt (.ref p) H1) : tRet te D σ H := h H (Ex.refl H) _ k
theorem eld_L {xs : List V} {ds : List PyData} (h : EvL te σ H xs) (hd : DpAll K H xs ds) : EvLD K te σ H ds := fun H1 e Q q => h H1 e Q fun p H2 hp e2 h2 => q p xs H2 hp e2 h2 (hd.ex (e.trans e2))
/-- EvLD of ints is EvL -/
theorem el_ints {ns : List Int} (h : EvLD K te σ H (ns.map PyData.int)) : EvL te σ H (ns.map V.int) := fun H1 e Q q => h H1 e Q fun p xs H2 hp e2 h2 hd => q p H2 hp e2 (by rw [← dpAll_ints_inv hd]; exact h2)
theorem lc_data {J : It} {n : Nat} {G : Hp → Prop} {Y : Nat → Hp → V → Hp → Prop} {b : Nat → Bool} {g : Nat → PyData} {Dl : Addr} {Qd : Hp → Prop} (w : Walk J n G Y) (xi : Nat → V) (hY : ∀ i H x H', i < n → Y i H x H' → H' = H ∧ x = xi i) (hz : n ≤ 90000)
    (hw : ∀ x, wipe ((wipe σ vs).set j (some x)) vs = wipe σ vs) (hG : ∀ H', Ex H1 H' → G H') (ht : ∀ i, i < n → tupO (g i) = true)
    (hb : ∀ i, i < n → ∀ H', Ex H1 H' → EvT tt ((wipe σ vs).set j (some (xi i))) H' (b i)) (he : ∀ i, i < n → b i = true → ∀ H', Ex H1 H' → EvD K te ((wipe σ vs).set j (some (xi i))) H' (g i)) (hD : H1 Dl = none)
    (k : ∀ xs H', Ex H1 H' → H' Dl = some (.lst xs) → DpAll K H' xs (givD n b g) → Qd H') :
    ∃ W : Nat → Nat → Hp → Prop, (∃ m, W 0 m (upd H1 Dl (.lst []))) ∧ ∀ i m H, W i m H →
      (J.stop i H ∧ Qd H) ∨ (J.go i H ∧ ∃ Nx : Hp → Prop, (∀ H', Nx H' → ∃ m', m' < m ∧ W (i + 1) m' H') ∧ ∀ x H', J.yld i H x H' → gName j x (wipe σ vs) H' fun σ2 H2 => wipe σ2 vs = wipe σ vs ∧ tt σ2 H2 fun b H3 =>
        if b = true then te σ2 H3 fun y H4 => ∃ acc, H4 Dl = some (.lst acc) ∧ acc.length < sizeLine ∧ Nx (upd H4 Dl (.lst (acc ++ [y]))) else Nx H3) := by
  refine lc_it w (fun i H' => Ex H1 H' ∧ ∃ xs, H' Dl = some (.lst xs) ∧ DpAll K H' xs (givD i b g)) ⟨Ex.new hD, [], upd_same, .nil⟩ (fun i H' _ p => hG H' p.1) ?_ (fun H' p => let ⟨xs, h1, h2⟩ := p.2; k xs H' p.1 h1 h2)
  intro i x H2 H3 hi p y
  obtain ⟨e, hx⟩ := hY i H2 x H3 hi y
  subst e hx
  obtain ⟨p1, xs, p2, p3⟩ := p
  refine ⟨hw _, hb i hi H3 p1 H3 (Ex.refl H3) _ fun H4 e4 => ?_⟩
  cases hbi : b i with
  | true =>
    rw [if_pos rfl]
    refine he i hi hbi H4 (p1.trans e4) H4 (Ex.refl H4) _ fun v H5 e5 hd => ⟨xs, e5 _ _ (e4 _ _ p2), sz_lt (by rw [dpAll_len p3]; have := givD_len i b g; omega), Ex.mut (p1.trans (e4.trans e5)) hD, _, upd_same, ?_⟩
    rw [givD_yes hbi]
    refine DpAll.app ((p3.ex (e4.trans e5)).upd (givD_tup fun m hm => ht m (by omega)) (e5 _ _ (e4 _ _ p2)) nt_lst) ?_
    exact .cons (hd.upd (ht i hi) (e5 _ _ (e4 _ _ p2)) nt_lst) .nil
  | false =>
    rw [if_neg Bool.false_ne_true]
    exact ⟨p1.trans e4, xs, e4 _ _ p2, by rw [givD_no hbi]; exact p3.ex e4⟩
/-- [e for x in range(i, j, c) if t] -/
theorem eld_lcC {tr : TA} {i0 j0 c0 : Int} {n : Nat} {b : Nat → Bool} {g : Nat → PyData} (h : EvA tr σ H [.int i0, .int j0, .int c0]) (hr : RgC i0 j0 c0 n) (hz : n ≤ 90000) (hw : ∀ x, wipe ((wipe σ vs).set j (some x)) vs = wipe σ vs) (ht : ∀ i, i < n → tupO (g i) = true)
    (hb : ∀ i, i < n → ∀ H', Ex H H' → EvT tt ((wipe σ vs).set j (some (.int (i0 + (i : Nat) * c0)))) H' (b i)) (he : ∀ i, i < n → b i = true → ∀ H', Ex H H' → EvD K te ((wipe σ vs).set j (some (.int (i0 + (i : Nat) * c0)))) H' (g i)) :
    EvLD K (tLc (iRng3 tr) (gName j) tt te vs) σ H (givD n b g) := fun H0 e Q q => h H0 e _ fun H1 e1 => ⟨i0, j0, c0, n, rfl, hr, fun Dl hD =>
  lc_data walk_rangeC (fun i => .int (i0 + (i : Nat) * c0)) (fun _ _ _ _ _ y => y) hz hw (fun _ _ => trivial) ht (fun i hi H' e' => hb i hi H' ((e.trans e1).trans e')) (fun i hi hbi H' e' => he i hi hbi H' ((e.trans e1).trans e')) hD
    (fun xs H' e' h1 h2 => q Dl xs H' (fresh_back e1 hD) (e1.trans e') h1 h2)⟩
/-- [e for x in range(n) if t] -/
theorem eld_lcR1 {tr : TA} {n : Nat} {b : Nat → Bool} {g : Nat → PyData} (h : EvA tr σ H [.int (n : Int)]) (hz : n ≤ 90000) (hw : ∀ x, wipe ((wipe σ vs).set j (some x)) vs = wipe σ vs) (ht : ∀ i, i < n → tupO (g i) = true)
    (hb : ∀ i, i < n → ∀ H', Ex H H' → EvT tt ((wipe σ vs).set j (some (.int (i : Int)))) H' (b i)) (he : ∀ i, i < n → b i = true → ∀ H', Ex H H' → EvD K te ((wipe σ vs).set j (some (.int (i : Int)))) H' (g i)) :
    EvLD K (tLc (iRng1 tr) (gName j) tt te vs) σ H (givD n b g) := fun H0 e Q q => h H0 e _ fun H1 e1 => ⟨(n : Int), rfl, by omega, by omega, fun Dl hD => by
  have z : ∀ i : Nat, (0 : Int) + (i : Int) = (i : Int) := fun i => Int.zero_add _
  exact lc_data (walk_range (lo := 0) (n := n)) (fun i => .int (i : Int)) (fun i H x H' _ y => by obtain ⟨y1, y2⟩ := y; exact ⟨y1, by rw [y2]; show V.int ((0 : Int) + (i : Int)) = _; rw [z]⟩) hz hw (fun _ _ => trivial) ht (fun i hi H' e' => hb i hi H' ((e.trans e1).trans e')) (fun i hi hbi H' e' => he i hi hbi H' ((e.trans e1).trans e')) hD
    (fun xs H' e' h1 h2 => q Dl xs H' (fresh_back e1 hD) (e1.trans e') h1 h2)⟩
/-- [e for x in l if t], l a list that stays -/
theorem eld_lcL {a : Addr} {xs : List V} {b : Nat → Bool} {g : Nat → PyData} (h : Ev tl σ H (.ref a)) (hx : SqL K H a xs) (hz : xs.length ≤ 90000) (hw : ∀ x, wipe ((wipe σ vs).set j (some x)) vs = wipe σ vs) (ht : ∀ i, i < xs.length → tupO (g i) = true)
    (hb : ∀ i x, xs[i]? = some x → ∀ H', Ex H H' → EvT tt ((wipe σ vs).set j (some x)) H' (b i)) (he : ∀ i x, xs[i]? = some x → b i = true → ∀ H', Ex H H' → EvD K te ((wipe σ vs).set j (some x)) H' (g i)) :
    EvLD K (tLc (iList K tl) (gName j) tt te vs) σ H (givD xs.length b g) := fun H0 e Q q => h H0 e _ fun H1 e1 => ⟨a, rfl, ⟨xs, ex_l (e.trans e1) hx⟩, fun Dl hD =>
  have g0 : ∀ i, i < xs.length → xs[i]? = some (xs.getD i .non) := fun i hi => by rw [List.getD_eq_getElem?_getD, List.getElem?_eq_getElem hi]; rfl
  lc_data walk_list (fun i => xs.getD i .non) (fun i H x H' hi y => ⟨y.1, Option.some.inj (y.2.symm.trans (g0 i hi))⟩) hz hw (fun H' e' => ex_l ((e.trans e1).trans e') hx) ht (fun i hi H' e' => hb i _ (g0 i hi) H' ((e.trans e1).trans e')) (fun i hi hbi H' e' => he i _ (g0 i hi) hbi H' ((e.trans e1).trans e')) hD
    (fun xs H' e' h1 h2 => q Dl xs H' (fresh_back e1 hD) (e1.trans e') h1 h2)⟩
/-- .. l a list made on the way -/
theorem eld_lcNL {xs : List V} {b : Nat → Bool} {g : Nat → PyData} (h : EvL tl σ H xs) (hz : xs.length ≤ 90000) (hw : ∀ x, wipe ((wipe σ vs).set j (some x)) vs = wipe σ vs) (ht : ∀ i, i < xs.length → tupO (g i) = true)
    (hb : ∀ i x, xs[i]? = some x → ∀ H', Ex H H' → EvT tt ((wipe σ vs).set j (some x)) H' (b i)) (he : ∀ i x, xs[i]? = some x → b i = true → ∀ H', Ex H H' → EvD K te ((wipe σ vs).set j (some x)) H' (g i)) :
    EvLD K (tLc (iList K tl) (gName j) tt te vs) σ H (givD xs.length b g) := fun H0 e Q q => h H0 e _ fun a H1 ha e1 h1 => ⟨a, rfl, ⟨xs, sq_of h1⟩, fun Dl hD =>
  have g0 : ∀ i, i < xs.length → xs[i]? = some (xs.getD i .non) := fun i hi => by rw [List.getD_eq_getElem?_getD, List.getElem?_eq_getElem hi]; rfl
  lc_data walk_list (fun i => xs.getD i .non) (fun i H x H' hi y => ⟨y.1, Option.some.inj (y.2.symm.trans (g0 i hi))⟩) hz hw (fun H' e' => sq_of (e' _ _ h1)) ht (fun i hi H' e' => hb i _ (g0 i hi) H' ((e.trans e1).trans e')) (fun i hi hbi H' e' => he i _ (g0 i hi) hbi H' ((e.trans e1).trans e')) hD
    (fun xs H' e' h1 h2 => q Dl xs H' (fresh_back e1 hD) (e1.trans e') h1 h2)⟩
/-- {k: v for x in ..}, by a word of the turn and the heap -/
theorem dc_it {J : It} {n : Nat} {G : Hp → Prop} {Y : Nat → Hp → V → Hp → Prop} (w : Walk J n G Y) {g : TG} {Dl : Addr} {Qd : Hp → Prop} (Pv : Nat → Hp → Prop) (h0 : Pv 0 (upd H1 Dl (.dK []))) (hG : ∀ i H, i ≤ n → Pv i H → G H)
    (hs : ∀ i x H H', i < n → Pv i H → Y i H x H' → g x (wipe σ vs) H' fun σ2 H2 => wipe σ2 vs = wipe σ vs ∧ tt σ2 H2 fun b H3 =>
      if b = true then tk σ2 H3 fun y H4 => tv σ2 H4 fun z H5 => ∃ kvs k, y = kV k ∧ H5 Dl = some (.dK kvs) ∧ kvs.length < sizeLine ∧ Pv (i + 1) (upd H5 Dl (.dK (putK kvs k z))) else Pv (i + 1) H3) (hd : ∀ H, Pv n H → Qd H) :
    ∃ W : Nat → Nat → Hp → Prop, (∃ m, W 0 m (upd H1 Dl (.dK []))) ∧ ∀ i m H, W i m H →
      (J.stop i H ∧ Qd H) ∨ (J.go i H ∧ ∃ Nx : Hp → Prop, (∀ H', Nx H' → ∃ m', m' < m ∧ W (i + 1) m' H') ∧ ∀ x H', J.yld i H x H' → g x (wipe σ vs) H' fun σ2 H2 => wipe σ2 vs = wipe σ vs ∧ tt σ2 H2 fun b H3 =>
        if b = true then tk σ2 H3 fun y H4 => tv σ2 H4 fun z H5 => ∃ kvs k, y = kV k ∧ H5 Dl = some (.dK kvs) ∧ kvs.length < sizeLine ∧ Nx (upd H5 Dl (.dK (putK kvs k z))) else Nx H3) := by
  refine ⟨fun i m H => m = n - i ∧ i ≤ n ∧ Pv i H, ⟨n, by simp, Nat.zero_le _, h0⟩, ?_⟩
  rintro i m H ⟨rfl, hi, p⟩
  have q := hG i H hi p
  by_cases hlt : i < n
  · exact .inr ⟨w.goes i H hlt q, Pv (i + 1), fun H' p' => ⟨n - (i + 1), by omega, rfl, hlt, p'⟩, fun x H' y => hs i x H H' hlt p (w.yields i H x H' hlt q y)⟩
  · have e : i = n := by omega
    subst e
    exact .inl ⟨w.stops H q, hd H p⟩
end
section
variable {K : PySem.W.Frag} {σ : L2.St} {H : Hp} {ta tv : TE} {D : Ends} {tz : TS} {a C dx : Addr} {fs : List (Str × V)} {f : Str}
theorem s_fldLD {ds : List PyData} (hv : EvLD K tv σ H ds) (ha : Ev ta σ H (.ref a)) (ho : H a = some (.ins C dx fs)) (hc : Cls K C) (hn : NoAttr K C f) (hz : fs.length < 1000) (k : ∀ p xs H1, H p = none → Ex H H1 → H1 p = some (.lst xs) → DpAll K H1 xs ds → D.nx σ (upd H1 a (.ins C dx (putF f (.ref p) fs)))) : sFld K ta tv f D σ H :=
  hv H (Ex.refl H) _ fun p xs H1 hp e1 h1 hd => ha H1 e1 _ fun H2 e2 => ⟨a, C, dx, fs, rfl, e2 _ _ (e1 _ _ ho), hc, hn, hz, k p xs H2 hp (e1.trans e2) (e2 _ _ h1) (hd.ex e2)⟩
theorem q_fldLD {ds : List PyData} (hv : EvLD K tv σ H ds) (ha : Ev ta σ H (.ref a)) (ho : H a = some (.ins C dx fs)) (hc : Cls K C) (hn : NoAttr K C f) (hz : fs.length < 1000) (k : ∀ p xs H1, H p = none → Ex H H1 → H1 p = some (.lst xs) → DpAll K H1 xs ds → tz D σ (upd H1 a (.ins C dx (putF f (.ref p) fs)))) : tSeq (sFld K ta tv f) tz D σ H :=
  s_fldLD (D := { D with nx := tz D }) hv ha ho hc hn hz k
end
section
variable {K : PySem.W.Frag} {σ : L2.St} {H : Hp} {tl tk tv : TE} {tt : TT} {g : TG} {vs : List Nat} {P : V → Hp → Prop} {a : Addr} {xs : List V}
/-- what one turn of a dict comprehension is asked -/
def DcTurn (g : TG) (tt : TT) (tk tv : TE) (vs : List Nat) (σ : L2.St) (Dt : Addr) (N : Hp → Prop) (x : V) (H : Hp) : Prop := g x (wipe σ vs) H fun σ2 H2 => wipe σ2 vs = wipe σ vs ∧ tt σ2 H2 fun b H3 =>
      if b = true then tk σ2 H3 fun y H4 => tv σ2 H4 fun z H5 => ∃ kvs k, y = kV k ∧ H5 Dt = some (.dK kvs) ∧ kvs.length < sizeLine ∧ N (upd H5 Dt (.dK (putK kvs k z))) else N H3
theorem ep_dcL (h : Ev tl σ H (.ref a)) (hx : SqL K H a xs) (k : ∀ H4, Ex H H4 → ∀ Dt, H4 Dt = none → ∃ Pv : Nat → Hp → Prop, Pv 0 (upd H4 Dt (.dK [])) ∧ (∀ i H', i ≤ xs.length → Pv i H' → SqL K H' a xs) ∧
    (∀ i x H', xs[i]? = some x → Pv i H' → DcTurn g tt tk tv vs σ Dt (Pv (i + 1)) x H') ∧ ∀ H', Pv xs.length H' → P (.ref Dt) H') : EvP (tDc (iList K tl) g tt tk tv vs) σ H P := fun Q q =>
  h H (Ex.refl H) _ fun H4 e4 => ⟨a, rfl, ⟨xs, ex_l e4 hx⟩, fun Dt nDt => by
    obtain ⟨Pv, h0, hG, hs, hd⟩ := k H4 e4 Dt nDt
    exact dc_it (walk_list (xs := xs)) Pv h0 hG (fun i x H5 H6 hi p y => by
      obtain ⟨e, hv⟩ := y
      subst e
      exact hs i x _ hv p) (fun H' p => q _ H' (hd H' p))⟩
theorem ep_dcT (h : Ev tl σ H (.ref a)) (hx : SqT K H a xs) (k : ∀ H4, Ex H H4 → ∀ Dt, H4 Dt = none → ∃ Pv : Nat → Hp → Prop, Pv 0 (upd H4 Dt (.dK [])) ∧ (∀ i H', i ≤ xs.length → Pv i H' → SqT K H' a xs) ∧
    (∀ i x H', xs[i]? = some x → Pv i H' → DcTurn g tt tk tv vs σ Dt (Pv (i + 1)) x H') ∧ ∀ H', Pv xs.length H' → P (.ref Dt) H') : EvP (tDc (iTup K tl) g tt tk tv vs) σ H P := fun Q q =>
  h H (Ex.refl H) _ fun H4 e4 => ⟨a, rfl, ⟨xs, ex_t e4 hx⟩, fun Dt nDt => by
    obtain ⟨Pv, h0, hG, hs, hd⟩ := k H4 e4 Dt nDt
    exact dc_it (walk_tup (xs := xs)) Pv h0 hG (fun i x H5 H6 hi p y => by
      obtain ⟨e, hv⟩ := y
      subst e
      exact hs i x _ hv p) (fun H' p => q _ H' (hd H' p))⟩
end
theorem filter_all {α : Type} (l : List α) : l.filter (fun _ => true) = l := by induction l with
  | nil => rfl
  | cons a r ih => rw [List.filter_cons, if_pos rfl, ih]
/-! ### range(0, len - 3, 4) -/
theorem rgC4 (L : Nat) (h : L ≤ 100000) : RgC 0 ((L : Int) - 3) 4 (L / 4) := by
  have hs : Builtin.Range.rangeSize 0 ((L : Int) - 3) 4 = ((L / 4 : Nat) : Int) := by
    unfold Builtin.Range.rangeSize
    simp only [show (4 : Int) > 0 by decide, if_true]
    split
    · omega
    · omega
  refine ⟨by decide, by decide, ?_, hs⟩
  unfold Builtin.Range.small
  rw [hs]
  simp only [Builtin.Range.rangeFitsLong, Bool.and_eq_true, Bool.or_eq_true, decide_eq_true_eq, beq_iff_eq, show (4 : Int) > 0 by decide, if_true]
  omega
/-! ### a tuple of two ints taken apart -/
theorem g_tup2 {K : PySem.W.Frag} {σ : L2.St} {H : Hp} {a : Addr} {x y : V} {i j : Nat} {Q : L2.St → Hp → Prop} (h : SqT K H a [x, y]) (q : Q ((σ.set i (some x)).set j (some y)) H) : gTup K 2 (gCons (gName i) (gCons (gName j) gNil)) (.ref a) σ H Q :=
  ⟨a, [x, y], rfl, h, rfl, x, [y], rfl, y, [], rfl, rfl, q⟩
end Gd

set_option Elab.async false
set_option linter.all false
set_option maxRecDepth 100000
set_option maxHeartbeats 4000000
/-! Of our own: walks over enumerate. -/
namespace Gd
open PySem PySem.Spec PyProof.Rows L2 Evl
section
variable {K : PySem.W.Frag} {σ : L2.St} {H : Hp} {D : Ends} {tu tz : TS} {te : TE} {a : Addr} {xs : List V} {j1 j2 : Nat}
theorem s_forE (h : Ev te σ H (.ref a)) (hx : SqL K H a xs) (Pv : Nat → L2.St → Hp → Prop) (h0 : ∀ H1, Ex H H1 → Pv 0 σ H1) (hG : ∀ i σ' H', i ≤ xs.length → Pv i σ' H' → SqL K H' a xs)
    (hs : ∀ i x σ' H' H'', xs[i]? = some x → Pv i σ' H' → Ex H' H'' → tu { D with nx := Pv (i + 1), ct := Pv (i + 1), bk := D.nx } ((σ'.set j1 (some (.int (i : Int)))).set j2 (some x)) H'') (hd : ∀ σ' H', Pv xs.length σ' H' → D.nx σ' H') :
    tFor (iEnum K (tCons te tNil)) (gTup K 2 (gCons (gName j1) (gCons (gName j2) gNil))) tu D σ H :=
  h H (Ex.refl H) _ fun H1 e1 => ⟨a, xs, rfl, ex_l e1 hx, for_it walk_enum Pv (h0 H1 e1) hG (fun i x σ' H' H'' hi p y => by
    obtain ⟨T, u, v, rfl, hT, rfl, h1, h2⟩ := y
    have h1 : u = .int (i : Int) := (Option.some.inj h1).symm
    subst h1
    exact g_tup2 (st_of upd_same) (hs i v σ' H' _ h2 p (Ex.new hT))) hd⟩
theorem q_forE (h : Ev te σ H (.ref a)) (hx : SqL K H a xs) (Pv : Nat → L2.St → Hp → Prop) (h0 : ∀ H1, Ex H H1 → Pv 0 σ H1) (hG : ∀ i σ' H', i ≤ xs.length → Pv i σ' H' → SqL K H' a xs)
    (hs : ∀ i x σ' H' H'', xs[i]? = some x → Pv i σ' H' → Ex H' H'' → tu { D with nx := Pv (i + 1), ct := Pv (i + 1), bk := tz D } ((σ'.set j1 (some (.int (i : Int)))).set j2 (some x)) H'') (hd : ∀ σ' H', Pv xs.length σ' H' → tz D σ' H') :
    tSeq (tFor (iEnum K (tCons te tNil)) (gTup K 2 (gCons (gName j1) (gCons (gName j2) gNil))) tu) tz D σ H := s_forE (D := { D with nx := tz D }) h hx Pv h0 hG hs hd
end
end Gd

set_option Elab.async false
set_option linter.all false
set_option maxRecDepth 100000
set_option maxHeartbeats 4000000
/-! Of our own: the machine, mirrored; what holds of its objects. -/
namespace Gd
open PySem PySem.Spec PyProof.Rows L2 Evl
/-! ### nodes of an image -/
abbrev Nd := Int × Int × Int
def rowsOf : List Int → List (Int × Nd)
  | a :: b :: c :: d :: r => (a, b, c, d) :: rowsOf r
  | _ => []
def pickR (k : Int) (acc : Option Nd) (r : Int × Nd) : Option Nd := if r.1 = k then some r.2 else acc
def nodeIn (rows : List (Int × Nd)) (k : Int) : Option Nd := rows.foldl (pickR k) none
def nodeAt (im : List Int) (k : Int) : Option Nd := nodeIn (rowsOf im) k
def rowL (r : Int × Nd) : List Int := [r.1, r.2.1, r.2.2.1, r.2.2.2]
def ndL (n : Nd) : List Int := [n.1, n.2.1, n.2.2]
def rowD (r : Int × Nd) : PyData := .tuple ((rowL r).map PyData.int)
theorem rows_len : ∀ im : List Int, (rowsOf im).length = im.length / 4
  | [] => rfl
  | [_] => by simp [rowsOf]
  | [_, _] => by simp [rowsOf]
  | [_, _, _] => by simp [rowsOf]
  | a :: b :: c :: d :: r => by
    rw [rowsOf, List.length_cons, rows_len r]
    simp only [List.length_cons]
    omega
theorem rows_at : ∀ (im : List Int) (i : Nat) (r : Int × Nd), (rowsOf im)[i]? = some r → (im.drop (4 * i)).take 4 = rowL r
  | [], _, _, h => by simp [rowsOf] at h
  | [_], _, _, h => by simp [rowsOf] at h
  | [_, _], _, _, h => by simp [rowsOf] at h
  | [_, _, _], _, _, h => by simp [rowsOf] at h
  | a :: b :: c :: d :: t, 0, r, h => by
    rw [rowsOf] at h
    simp at h
    subst h
    rfl
  | a :: b :: c :: d :: t, i + 1, r, h => by
    rw [rowsOf, List.getElem?_cons_succ] at h
    have e : 4 * (i + 1) = 4 * i + 1 + 1 + 1 + 1 := by omega
    rw [e]
    exact rows_at t i r h
/-- a dict that holds nodes by their numbers: tuples or lists of three -/
def TabT (K : PySem.W.Frag) (H : Hp) (kvs : List (Key × V)) (f : Int → Option Nd) : Prop := ∀ k, match f k with
  | none => valV kvs (Sum.inl k) = none
  | some n => ∃ p, valV kvs (Sum.inl k) = some (.ref p) ∧ SqT K H p ((ndL n).map V.int)
def TabL (K : PySem.W.Frag) (H : Hp) (kvs : List (Key × V)) (f : Int → Option Nd) : Prop := ∀ k, match f k with
  | none => valV kvs (Sum.inl k) = none
  | some n => ∃ p, valV kvs (Sum.inl k) = some (.ref p) ∧ H p = some (.lst ((ndL n).map V.int))
theorem TabT.ex {K : PySem.W.Frag} {H H' : Hp} {kvs : List (Key × V)} {f : Int → Option Nd} (h : TabT K H kvs f) (e : Ex H H') : TabT K H' kvs f := fun k => by
  have := h k
  cases q : f k with
  | none => rw [q] at this; exact this
  | some n => rw [q] at this; obtain ⟨p, h1, h2⟩ := this; exact ⟨p, h1, ex_t e h2⟩
theorem TabL.ex {K : PySem.W.Frag} {H H' : Hp} {kvs : List (Key × V)} {f : Int → Option Nd} (h : TabL K H kvs f) (e : ∀ a xs, H a = some (.lst xs) → H' a = some (.lst xs)) : TabL K H' kvs f := fun k => by
  have := h k
  cases q : f k with
  | none => rw [q] at this; exact this
  | some n => rw [q] at this; obtain ⟨p, h1, h2⟩ := this; exact ⟨p, h1, e _ _ h2⟩
/-- one of the image's cells, or 0 -/
def cellAt (im : List Int) (i : Int) : Int := (atI im i).getD 0
/-! ### the machine -/
structure MS where
  a : Int
  st : List Int
  sd : List (Int × Int)
  bk : List Int
  p : Int
  ou : List Int
  n : Int
def ms0 : MS := ⟨0, [], [], [], 0, [], 0⟩
def topM (s : MS) : Int := s.st.getLast?.getD 0
def popM (s : MS) : MS := { s with st := s.st.dropLast }
def pushM (s : MS) (v : Int) : MS := { s with st := s.st ++ [v] }
def lookM (s : MS) (k : Int) : Int := (getI s.sd k).getD 0
def putM (s : MS) (k v : Int) : MS := { s with sd := putI s.sd k v }
def callM (s : MS) (k : Int) : MS := { s with bk := s.bk ++ [s.a], a := k }
def combI (op x y : Int) : Int := if op = 43 then x + y else if op = 45 then x - y else if op = 42 then 10 * x + y else if op = 60 then (if x < y then 1 else 0) else (if x = y then 1 else 0)
abbrev ActF := List Int → List Int → Nd → MS → MS
def aPush : ActF := fun _ _ n s => pushM s n.2.1
def aComb : ActF := fun _ _ n s => pushM (popM (popM s)) (combI n.1 (topM (popM s)) (topM s))
def aGet : ActF := fun _ _ _ s => pushM (popM s) (lookM s (topM s))
def aPut : ActF := fun _ _ _ s => putM (popM (popM s)) (topM s) (topM (popM s))
def aSet : ActF := fun _ _ n s => putM (popM s) n.2.1 (topM s)
def aTake : ActF := fun _ nums _ s => if s.p < nums.length then { (pushM s ((atI nums s.p).getD 0)) with p := s.p + 1 } else pushM s (-1)
def aRew : ActF := fun _ _ _ s => { s with p := 0 }
def aWrite : ActF := fun _ _ _ s => { (popM s) with ou := s.ou ++ [topM s] }
def aCell : ActF := fun im _ _ s => pushM (popM s) (cellAt im (topM s))
def aDrop : ActF := fun _ _ _ s => popM s
def aDouble : ActF := fun _ _ _ s => pushM (pushM (popM s) (topM s)) (topM s)
def aExch : ActF := fun _ _ _ s => pushM (pushM (popM (popM s)) (topM s)) (topM (popM s))
def aBranch : ActF := fun _ _ n s => if topM s = 0 then { (popM s) with a := n.2.1 } else popM s
def aCallP : ActF := fun _ _ _ s => callM (popM s) (topM s)
def canC (im : List Int) (k : Int) : Bool := (decide (1 ≤ k) && decide (k ≤ 199)) && (nodeAt im k).isSome
def aCallD : ActF := fun im _ _ s => if canC im (topM s) = true then callM (popM s) (topM s) else pushM (popM s) (topM s)
def aRet : ActF := fun _ _ _ s => match s.bk.getLast? with
  | none => s
  | some b => { s with bk := s.bk.dropLast, a := b }
def isSm (c : Int) : Bool := decide (97 ≤ c) && decide (c ≤ 122)
def isCp (c : Int) : Bool := decide (65 ≤ c) && decide (c ≤ 90)
def ACTS : List (Int × ActF) := [(35, aPush), (43, aComb), (45, aComb), (42, aComb), (60, aComb), (126, aComb), (64, aGet), (33, aPut), (61, aSet), (44, aTake), (94, aRew), (46, aWrite), (38, aCell), (95, aDrop), (34, aDouble), (92, aExch), (63, aBranch), (40, aCallP), (36, aCallD), (41, aRet)]
def perfM : ActF := fun im nums n s => match ACTS.lookup n.1 with
  | some f => f im nums n s
  | none => if isSm n.1 = true then pushM s (lookM s n.1) else if isCp n.1 = true then callM s n.1 else s
def goM (s : MS) (n : Nd) : MS := { s with a := n.2.2, n := s.n + 1 }
def stepM (im nums : List Int) (s : MS) : Option MS := (nodeAt im s.a).map fun n => perfM im nums n (goM s n)
/-! ### plain forms -/
structure PS where
  a : Int
  st : List Int
  pr : List (Int × Int)
  bk : List Int
  p : Int
  ou : List Int
def pairsOf (sd : List (Int × Int)) : List (Int × Int) := ((srt (sd.map (·.1))).filter fun k => (getI sd k).getD 0 ≠ 0).map fun k => (k, (getI sd k).getD 0)
def plainM (s : MS) : PS := ⟨s.a, s.st, pairsOf s.sd, s.bk, s.p, s.ou⟩
def ofPlain (t : PS) : MS := ⟨t.a, t.st, t.pr.foldl (fun sd q => putI sd q.1 q.2) [], t.bk, t.p, t.ou, 0⟩
def pairD (q : Int × Int) : PyData := .tuple ([q.1, q.2].map PyData.int)
def plainD (t : PS) : PyData := .tuple [.int t.a, .tuple (t.st.map PyData.int), .tuple (t.pr.map pairD), .tuple (t.bk.map PyData.int), .int t.p, .tuple (t.ou.map PyData.int)]
def optD (o : Option PS) : PyData := match o with
  | none => .none
  | some t => plainD t
def lstepM (im nums : List Int) (t : PS) : Option PS := (stepM im nums (ofPlain t)).map plainM
/-! ### sizes -/
structure Sz (B : Nat) (s : MS) : Prop where
  st : s.st.length ≤ B
  sd : s.sd.length ≤ B
  bk : s.bk.length ≤ B
  ou : s.ou.length ≤ B
theorem Sz.mono {B B' : Nat} {s : MS} (h : Sz B s) (hb : B ≤ B') : Sz B' s := ⟨by have := h.st; omega, by have := h.sd; omega, by have := h.bk; omega, by have := h.ou; omega⟩
theorem Sz.pop {B : Nat} {s : MS} (h : Sz B s) : Sz B (popM s) := ⟨by have := h.st; show s.st.dropLast.length ≤ B; rw [List.length_dropLast]; omega, h.sd, h.bk, h.ou⟩
theorem Sz.push {B : Nat} {s : MS} {v : Int} (h : Sz B s) : Sz (B + 1) (pushM s v) := ⟨by have := h.st; show (s.st ++ [v]).length ≤ B + 1; rw [List.length_append]; simp; omega, by have := h.sd; show s.sd.length ≤ _; omega, by have := h.bk; show s.bk.length ≤ _; omega, by have := h.ou; show s.ou.length ≤ _; omega⟩
theorem Sz.put {B : Nat} {s : MS} {k v : Int} (h : Sz B s) : Sz (B + 1) (putM s k v) := ⟨by have := h.st; show s.st.length ≤ _; omega, by have := h.sd; have := putI_len s.sd k v; show (putI s.sd k v).length ≤ _; omega, by have := h.bk; show s.bk.length ≤ _; omega, by have := h.ou; show s.ou.length ≤ _; omega⟩
theorem Sz.call {B : Nat} {s : MS} {k : Int} (h : Sz B s) : Sz (B + 1) (callM s k) := ⟨by have := h.st; show s.st.length ≤ _; omega, by have := h.sd; show s.sd.length ≤ _; omega, by have := h.bk; show (s.bk ++ [s.a]).length ≤ _; rw [List.length_append]; simp; omega, by have := h.ou; show s.ou.length ≤ _; omega⟩
theorem Sz.go {B : Nat} {s : MS} {n : Nd} (h : Sz B s) : Sz B (goM s n) := ⟨h.st, h.sd, h.bk, h.ou⟩
theorem pop_len (s : MS) : (popM s).st.length = s.st.length - 1 := List.length_dropLast

theorem act_cases {P : ActF → Prop} {c : Int} {f : ActF} (h : ACTS.lookup c = some f) (hP : ∀ e ∈ ACTS, P e.2) : P f := by
  have : (c, f) ∈ ACTS := by
    revert h
    generalize ACTS = L
    induction L with
    | nil => intro h; cases h
    | cons e r ih =>
      obtain ⟨k, g⟩ := e
      intro h
      rw [List.lookup_cons] at h
      by_cases q : c = k
      · subst q
        rw [beq_self_eq_true] at h
        cases h
        exact List.mem_cons_self
      · rw [show (c == k) = false by simpa using q] at h
        exact List.mem_cons_of_mem _ (ih h)
  exact hP _ this
theorem Sz.act {B : Nat} {s : MS} {c : Int} {f : ActF} {im nums : List Int} {n : Nd} (h : Sz B s) (hf : ACTS.lookup c = some f) : Sz (B + 2) (f im nums n s) := by
  have h1 := h.mono (Nat.le_succ B)
  have h2 := h1.mono (Nat.le_succ (B + 1))
  have hp := h.pop
  have hpp := hp.pop
  refine act_cases (P := fun f => Sz (B + 2) (f im nums n s)) hf ?_
  unfold ACTS
  simp only [List.mem_cons, List.not_mem_nil, or_false, forall_eq_or_imp, forall_eq]
  refine ⟨?_, ?_, ?_, ?_, ?_, ?_, ?_, ?_, ?_, ?_, ?_, ?_, ?_, ?_, ?_, ?_, ?_, ?_, ?_, ?_⟩
  · exact h.push.mono (by omega)
  iterate 5 exact hpp.push.mono (by omega)
  · exact hp.push.mono (by omega)
  · exact hpp.put.mono (by omega)
  · exact hp.put.mono (by omega)
  · unfold aTake
    split
    · exact ⟨(h.push (v := _)).mono (Nat.le_succ (B + 1)) |>.st, h2.sd, h2.bk, h2.ou⟩
    · exact h.push.mono (by omega)
  · exact ⟨h2.st, h2.sd, h2.bk, h2.ou⟩
  · refine ⟨(hp.mono (by omega : B ≤ B + 2)).st, h2.sd, h2.bk, ?_⟩
    have := h.ou
    show (s.ou ++ [topM s]).length ≤ _
    rw [List.length_append]
    simp
    omega
  · exact hp.push.mono (by omega)
  · exact hp.mono (by omega)
  · exact hp.push.push.mono (by omega)
  · exact hpp.push.push.mono (by omega)
  · unfold aBranch
    split
    · exact ⟨(hp.mono (by omega : B ≤ B + 2)).st, h2.sd, h2.bk, h2.ou⟩
    · exact hp.mono (by omega)
  · exact hp.call.mono (by omega)
  · unfold aCallD
    split
    · exact hp.call.mono (by omega)
    · exact hp.push.mono (by omega)
  · unfold aRet
    split
    · exact h2
    · refine ⟨h2.st, h2.sd, ?_, h2.ou⟩
      have := h.bk
      show s.bk.dropLast.length ≤ _
      rw [List.length_dropLast]
      omega
theorem Sz.perf {B : Nat} {s : MS} {im nums : List Int} {n : Nd} (h : Sz B s) : Sz (B + 2) (perfM im nums n s) := by
  unfold perfM
  split
  · rename_i f hf
    exact h.act hf
  · split
    · exact h.push.mono (by omega)
    · split
      · exact h.call.mono (by omega)
      · exact h.mono (by omega)
theorem Sz.step {B : Nat} {s s' : MS} {im nums : List Int} (h : Sz B s) (e : stepM im nums s = some s') : Sz (B + 2) s' := by
  unfold stepM at e
  cases q : nodeAt im s.a with
  | none => rw [q] at e; cases e
  | some n => rw [q] at e; cases e; exact h.go.perf
/-! ### the objects of a state -/
structure AM where
  x : Addr
  dx : Addr
  n : Addr
  qn : Addr
  qs : Addr
  qd : Addr
  qb : Addr
  qo : Addr
def AM.L (A : AM) : List Addr := [A.x, A.qs, A.qd, A.qb, A.qo]
def FM (s : MS) (A : AM) : List (Str × V) := [("nodes", .ref A.n), ("numbers", .ref A.qn), ("at", .int s.a), ("stack", .ref A.qs), ("store", .ref A.qd), ("back", .ref A.qb), ("place", .int s.p), ("output", .ref A.qo), ("steps", .int s.n)]
structure NodesAt (K : PySem.W.Frag) (CN : Addr) (F : Hp) (n : Addr) (im : List Int) : Prop where
  ex : ∃ (dn qc qr qt : Addr) (kvs : List (Key × V)), F n = some (.ins CN dn [("_cells", .ref qc), ("_rows", .ref qr), ("_table", .ref qt)]) ∧ SqL K F qc (im.map V.int) ∧ Dp K F (.ref qr) (.list ((rowsOf im).map rowD)) ∧ F qt = some (.dK kvs) ∧ TabT K F kvs (nodeAt im)
  len : im.length ≤ 60000
theorem NodesAt.mono {K : PySem.W.Frag} {CN : Addr} {F H : Hp} {n : Addr} {im : List Int} (h : NodesAt K CN F n im) (e : Ex F H) : NodesAt K CN H n im := by
  obtain ⟨dn, qc, qr, qt, kvs, h1, h2, h3, h4, h5⟩ := h.ex
  exact ⟨⟨dn, qc, qr, qt, kvs, e _ _ h1, ex_l e h2, h3.ex e, e _ _ h4, h5.ex e⟩, h.len⟩
structure RM (K : PySem.W.Frag) (C CN : Addr) (F H : Hp) (A : AM) (im nums : List Int) (s : MS) : Prop where
  fr : Ex F H
  fx : F A.x = none
  fs : F A.qs = none
  fd : F A.qd = none
  fb : F A.qb = none
  fo : F A.qo = none
  ox : H A.x = some (.ins C A.dx (FM s A))
  os : H A.qs = some (.lst (s.st.map V.int))
  od : H A.qd = some (.dK (kvI s.sd))
  ob : H A.qb = some (.lst (s.bk.map V.int))
  oo : H A.qo = some (.lst (s.ou.map V.int))
  n1 : A.qs ≠ A.qb
  n2 : A.qs ≠ A.qo
  n3 : A.qb ≠ A.qo
  nd : NodesAt K CN F A.n im
  nu : SqL K F A.qn (nums.map V.int)
  pp : 0 ≤ s.p
section
variable {K : PySem.W.Frag} {C CN : Addr} {F H H' : Hp} {A : AM} {im nums : List Int} {s : MS}
theorem RM.ex (h : RM K C CN F H A im nums s) (e : Ex H H') : RM K C CN F H' A im nums s :=
  { h with fr := h.fr.trans e, ox := e _ _ h.ox, os := e _ _ h.os, od := e _ _ h.od, ob := e _ _ h.ob, oo := e _ _ h.oo }
theorem RM.ndH (h : RM K C CN F H A im nums s) : NodesAt K CN H A.n im := h.nd.mono h.fr
theorem RM.nuH (h : RM K C CN F H A im nums s) : SqL K H A.qn (nums.map V.int) := ex_l h.fr h.nu
theorem ne_of2 {H : Hp} {a b : Addr} {o u : HO} (h : H a = some o) (g : H b = some u) (n : o ≠ u) : a ≠ b := fun e => by
  subst e
  rw [h] at g
  exact n (Option.some.inj g)
theorem RM.stk (h : RM K C CN F H A im nums s) (l : List Int) : RM K C CN F (upd H A.qs (.lst (l.map V.int))) A im nums { s with st := l } :=
  { h with
    fr := h.fr.mut h.fs
    ox := by rw [upd_ne (ne_of2 h.ox h.os (by intro z; cases z))]; exact h.ox
    os := upd_same
    od := by rw [upd_ne (ne_of2 h.od h.os (by intro z; cases z))]; exact h.od
    ob := by rw [upd_ne h.n1.symm]; exact h.ob
    oo := by rw [upd_ne h.n2.symm]; exact h.oo }
theorem RM.bck (h : RM K C CN F H A im nums s) (l : List Int) : RM K C CN F (upd H A.qb (.lst (l.map V.int))) A im nums { s with bk := l } :=
  { h with
    fr := h.fr.mut h.fb
    ox := by rw [upd_ne (ne_of2 h.ox h.ob (by intro z; cases z))]; exact h.ox
    os := by rw [upd_ne h.n1]; exact h.os
    od := by rw [upd_ne (ne_of2 h.od h.ob (by intro z; cases z))]; exact h.od
    ob := upd_same
    oo := by rw [upd_ne h.n3.symm]; exact h.oo }
theorem RM.out (h : RM K C CN F H A im nums s) (l : List Int) : RM K C CN F (upd H A.qo (.lst (l.map V.int))) A im nums { s with ou := l } :=
  { h with
    fr := h.fr.mut h.fo
    ox := by rw [upd_ne (ne_of2 h.ox h.oo (by intro z; cases z))]; exact h.ox
    os := by rw [upd_ne h.n2]; exact h.os
    od := by rw [upd_ne (ne_of2 h.od h.oo (by intro z; cases z))]; exact h.od
    ob := by rw [upd_ne h.n3]; exact h.ob
    oo := upd_same }
theorem RM.sto (h : RM K C CN F H A im nums s) (l : List (Int × Int)) : RM K C CN F (upd H A.qd (.dK (kvI l))) A im nums { s with sd := l } :=
  { h with
    fr := h.fr.mut h.fd
    ox := by rw [upd_ne (ne_of2 h.ox h.od (by intro z; cases z))]; exact h.ox
    os := by rw [upd_ne (ne_of2 h.os h.od (by intro z; cases z))]; exact h.os
    od := upd_same
    ob := by rw [upd_ne (ne_of2 h.ob h.od (by intro z; cases z))]; exact h.ob
    oo := by rw [upd_ne (ne_of2 h.oo h.od (by intro z; cases z))]; exact h.oo }
theorem RM.fld (h : RM K C CN F H A im nums s) (s' : MS) (hp : 0 ≤ s'.p) (e1 : s'.st = s.st) (e2 : s'.sd = s.sd) (e3 : s'.bk = s.bk) (e4 : s'.ou = s.ou) : RM K C CN F (upd H A.x (.ins C A.dx (FM s' A))) A im nums s' :=
  { h with
    fr := h.fr.mut h.fx
    ox := upd_same
    os := by rw [upd_ne (ne_of2 h.os h.ox (by intro z; cases z)), e1]; exact h.os
    od := by rw [upd_ne (ne_of2 h.od h.ox (by intro z; cases z)), e2]; exact h.od
    ob := by rw [upd_ne (ne_of2 h.ob h.ox (by intro z; cases z)), e3]; exact h.ob
    oo := by rw [upd_ne (ne_of2 h.oo h.ox (by intro z; cases z)), e4]; exact h.oo
    pp := hp }
theorem RM.noT (h : RM K C CN F H A im nums s) : ∀ c ∈ A.L, ∃ o, H c = some o ∧ NoTup o := by
  intro c m
  simp only [AM.L, List.mem_cons, List.not_mem_nil, or_false] at m
  rcases m with rfl | rfl | rfl | rfl | rfl
  · exact ⟨_, h.ox, nt_ins⟩
  · exact ⟨_, h.os, nt_lst⟩
  · exact ⟨_, h.od, nt_dK⟩
  · exact ⟨_, h.ob, nt_lst⟩
  · exact ⟨_, h.oo, nt_lst⟩
theorem bm_x {o : HO} (b : Bu A.L H H') : Bu A.L H (upd H' A.x o) := b.upd (.inl (by simp [AM.L]))
theorem bm_s {o : HO} (b : Bu A.L H H') : Bu A.L H (upd H' A.qs o) := b.upd (.inl (by simp [AM.L]))
theorem bm_d {o : HO} (b : Bu A.L H H') : Bu A.L H (upd H' A.qd o) := b.upd (.inl (by simp [AM.L]))
theorem bm_b {o : HO} (b : Bu A.L H H') : Bu A.L H (upd H' A.qb o) := b.upd (.inl (by simp [AM.L]))
theorem bm_o {o : HO} (b : Bu A.L H H') : Bu A.L H (upd H' A.qo o) := b.upd (.inl (by simp [AM.L]))
theorem fm_at {s : MS} {v : Int} : putF "at" (.int v) (FM s A) = FM { s with a := v } A := rfl
theorem fm_place {s : MS} {v : Int} : putF "place" (.int v) (FM s A) = FM { s with p := v } A := rfl
theorem fm_steps {s : MS} {v : Int} : putF "steps" (.int v) (FM s A) = FM { s with n := v } A := rfl
theorem fm_len {s : MS} : (FM s A).length < 1000 := by show 9 < 1000; decide
end
/-! ### the promises' shape -/
/-- a method, or an action, of a state: s becomes f s, r s comes back -/
def spM (K : PySem.W.Frag) (C CN : Addr) (B : Nat) {α : Type} (arg : α → List V) (pre : List Int → List Int → Hp → α → Prop) (f : List Int → List Int → α → MS → MS) (r : List Int → List Int → α → MS → V) : Sp := fun vs H Q _ =>
  ∃ (F : Hp) (A : AM) (im nums : List Int) (s : MS) (a : α), vs = .ref A.x :: arg a ∧ RM K C CN F H A im nums s ∧ Sz B s ∧ pre im nums H a ∧ ∀ H', RM K C CN F H' A im nums (f im nums a s) → Bu A.L H H' → Q (r im nums a s) H'
/-- what it leaves -/
def LM (K : PySem.W.Frag) (C CN : Addr) (F H : Hp) (A : AM) (im nums : List Int) (s' : MS) (v : V) : V → Hp → Prop := fun v' H' => v' = v ∧ RM K C CN F H' A im nums s' ∧ Bu A.L H H'
section
variable {K : PySem.W.Frag} {C CN : Addr} {F H H' : Hp} {A : AM} {im nums : List Int} {s : MS} {σ : L2.St} {to te : TE} {t : TA} {B : Nat} {α : Type} {arg : α → List V} {pre : List Int → List Int → Hp → α → Prop} {f : List Int → List Int → α → MS → MS} {r : List Int → List Int → α → MS → V} {m : Str} {E : XK} {dvs : List V}
theorem ep_M (a : α) (ho : Ev to σ H (.ref A.x)) (hR : RM K C CN F H A im nums s) (hm : (FM s A).lookup m = none) (hz : Sz B s) (ht : EvA t σ H (arg a)) (hp : ∀ H1, Ex H H1 → pre im nums H1 a) :
    EvP (tMeth C m (spM K C CN B arg pre f r) [] E to t) σ H (LM K C CN F H A im nums (f im nums a s) (r im nums a s)) :=
  ep_meth ho hR.ox hm ht fun H1 e1 Q k => ⟨F, A, im, nums, s, a, by rw [List.append_nil], hR.ex e1, hz, hp H1 e1, fun H' h b => k _ H' ⟨rfl, h, (ex_bu e1).trans b⟩⟩
/-- one argument, an int that a method of the same state hands back -/
theorem ep_M1 {s1 : MS} {i : Int} (arg : Int → List V) (harg : arg i = [.int i]) {pre : List Int → List Int → Hp → Int → Prop} {f : List Int → List Int → Int → MS → MS} {r : List Int → List Int → Int → MS → V} (ho : Ev to σ H (.ref A.x)) (hR : RM K C CN F H A im nums s) (hm : (FM s A).lookup m = none)
    (ht : ∀ H1, Ex H H1 → EvP te σ H1 (LM K C CN F H1 A im nums s1 (.int i))) (hz : Sz B s1) (hp : ∀ H1, pre im nums H1 i) :
    EvP (tMeth C m (spM K C CN B arg pre f r) [] E to (tCons te tNil)) σ H (LM K C CN F H A im nums (f im nums i s1) (r im nums i s1)) :=
  ep_methP (PA := fun vs H1 => vs = [.int i] ∧ RM K C CN F H1 A im nums s1 ∧ Bu A.L H H1) ho hR.ox hm (fun H1 e1 Q q => eap_one (ht H1 e1) Q fun vs H2 h2 => by
    obtain ⟨v, rfl, rfl, h3, h4⟩ := h2
    exact q _ H2 ⟨rfl, h3, (ex_bu e1).trans h4⟩) fun vs H1 h1 Q k => by
      obtain ⟨rfl, h3, h4⟩ := h1
      exact ⟨F, A, im, nums, s1, i, by rw [harg]; rfl, h3, hz, hp H1, fun H' h b => k _ H' ⟨rfl, h, h4.trans b⟩⟩
theorem lm_bk {v v0 : V} {s' : MS} {H1 : Hp} (h : LM K C CN F H1 A im nums s' v v0 H') (b : Bu A.L H H1) : LM K C CN F H A im nums s' v v0 H' := ⟨h.1, h.2.1, b.trans h.2.2⟩
end

/-- xs.pop() of a list of ints that is not empty -/
theorem ep_pop {K : PySem.W.Frag} {σ : L2.St} {H : Hp} {ta : TE} {l : Addr} {ns : List Int} (ha : Ev ta σ H (.ref l)) (hl : H l = some (.lst (ns.map V.int))) (hn : ns ≠ []) :
    EvP (tBM0 K "list" rPop ta) σ H (fun v H' => v = .int (ns.getLast?.getD 0) ∧ ∃ H1, Ex H H1 ∧ H' = upd H1 l (.lst (ns.dropLast.map V.int))) := fun Q q =>
  ha H (Ex.refl H) _ fun H1 e1 => by
    have h2 := e1 _ _ hl
    have hd : ns = ns.dropLast ++ [ns.getLast?.getD 0] := by
      rw [List.getLast?_eq_some_getLast hn]
      exact (List.dropLast_concat_getLast hn).symm
    have hm := congrArg (List.map V.int) hd
    rw [List.map_append] at hm
    refine ⟨.inl ⟨rfl, _, sq_of h2⟩, l, ns.map V.int, .int (ns.getLast?.getD 0), rfl, rfl, h2, ?_, q _ _ ⟨rfl, H1, e1, ?_⟩⟩
    · rw [hm, List.length_append]
      simp
    · congr 2
      rw [hm, List.map_cons, List.map_nil, List.dropLast_concat]
end Gd

set_option Elab.async false
set_option linter.all false
set_option maxRecDepth 100000
set_option maxHeartbeats 4000000
/-! Of our own: the machine's objects made and remade. -/
namespace Gd
open PySem PySem.Spec PyProof.Rows L2 Evl
/-- a heap without one object -/
def rmH (x : Addr) (H : Hp) : Hp := fun a => if a = x then none else H a
theorem rm_at {x a : Addr} {H : Hp} (n : a ≠ x) : rmH x H a = H a := if_neg n
theorem rm_x {x : Addr} {H : Hp} : rmH x H x = none := if_pos rfl
theorem rm_ex {x : Addr} {H : Hp} : Ex (rmH x H) H := fun a o h => by
  unfold rmH at h
  split at h
  · cases h
  · exact h
theorem ex_rm {x : Addr} {G H : Hp} (e : Ex G H) (n : G x = none) : Ex G (rmH x H) := fun a o h => by
  rw [rm_at (ne_of_none h n)]
  exact e a o h
section
variable {K : PySem.W.Frag} {H : Hp} {x C dx : Addr} {fs : List (Str × V)}
theorem sqL_rm (hx : H x = some (.ins C dx fs)) {a : Addr} {xs : List V} (h : SqL K H a xs) : SqL K (rmH x H) a xs := by
  rcases h with (h | ⟨o, h⟩) | h
  · exact .inl (.inl (by rw [rm_at (ne_of2 h hx (by intro z; cases z))]; exact h))
  · exact .inl (.inr ⟨o, by rw [rm_at (ne_of2 h hx (by intro z; cases z))]; exact h⟩)
  · exact .inr h
theorem sqT_rm (hx : H x = some (.ins C dx fs)) {a : Addr} {xs : List V} (h : SqT K H a xs) : SqT K (rmH x H) a xs := by
  rcases h with (h | ⟨o, h⟩) | h
  · exact .inl (.inl (by rw [rm_at (ne_of2 h hx (by intro z; cases z))]; exact h))
  · exact .inl (.inr ⟨o, by rw [rm_at (ne_of2 h hx (by intro z; cases z))]; exact h⟩)
  · exact .inr h
mutual
theorem dp_rm (hx : H x = some (.ins C dx fs)) : ∀ (d : PyData) (v : V), Dp K H v d → Dp K (rmH x H) v d
  | .none, _, h => by cases h; exact .non
  | .bool _, _, h => by cases h; exact .bl _
  | .int _, _, h => by cases h; exact .int _
  | .str _, _, h => by cases h; exact .str _
  | .list ds, _, h => by cases h with | lst h1 h2 => exact .lst (sqL_rm hx h1) (dpAll_rm hx ds _ h2)
  | .tuple ds, _, h => by cases h with | tup h1 h2 => exact .tup (sqT_rm hx h1) (dpAll_rm hx ds _ h2)
  | .dict _, _, h => by cases h
theorem dpAll_rm (hx : H x = some (.ins C dx fs)) : ∀ (ds : List PyData) (vs : List V), DpAll K H vs ds → DpAll K (rmH x H) vs ds
  | [], _, h => by cases h; exact .nil
  | d :: ds, _, h => by cases h with | cons a b => exact .cons (dp_rm hx d _ a) (dpAll_rm hx ds _ b)
end
theorem NodesAt.rm {CN n : Addr} {im : List Int} (h : NodesAt K CN H n im) (hx : H x = some (.ins C dx fs)) (hn : n ≠ x) : NodesAt K CN (rmH x H) n im := by
  obtain ⟨dn, qc, qr, qt, kvs, h1, h2, h3, h4, h5⟩ := h.ex
  refine ⟨⟨dn, qc, qr, qt, kvs, by rw [rm_at hn]; exact h1, sqL_rm hx h2, dp_rm hx _ _ h3, by rw [rm_at (ne_of2 h4 hx (by intro z; cases z))]; exact h4, fun k => ?_⟩, h.len⟩
  have := h5 k
  cases q : nodeAt im k with
  | none => rw [q] at this; exact this
  | some n => rw [q] at this; obtain ⟨p, g1, g2⟩ := this; exact ⟨p, g1, sqT_rm hx g2⟩
end
section
variable {K : PySem.W.Frag} {C CN : Addr} {F H H1 : Hp} {A : AM} {im nums : List Int} {s : MS} {q : Addr}
theorem RM.newS (h : RM K C CN F H A im nums s) (hq : H q = none) (e : Ex H H1) (l : List Int) (h1 : H1 q = some (.lst (l.map V.int))) : RM K C CN F (upd H1 A.x (.ins C A.dx (FM { s with st := l } { A with qs := q }))) { A with qs := q } im nums { s with st := l } :=
  have nx : q ≠ A.x := fun z => by rw [z, h.ox] at hq; cases hq
  { fr := (h.fr.trans e).mut h.fx
    fx := h.fx
    fs := by cases z : F q with
      | none => rfl
      | some o => rw [h.fr _ _ z] at hq; cases hq
    fd := h.fd
    fb := h.fb
    fo := h.fo
    ox := upd_same
    os := by show upd H1 A.x _ q = _; rw [upd_ne nx]; exact h1
    od := by show upd H1 A.x _ A.qd = _; rw [upd_ne (ne_of2 h.od h.ox (by intro z; cases z))]; exact e _ _ h.od
    ob := by show upd H1 A.x _ A.qb = _; rw [upd_ne (ne_of2 h.ob h.ox (by intro z; cases z))]; exact e _ _ h.ob
    oo := by show upd H1 A.x _ A.qo = _; rw [upd_ne (ne_of2 h.oo h.ox (by intro z; cases z))]; exact e _ _ h.oo
    n1 := fun z => by have z : q = A.qb := z; rw [z, h.ob] at hq; cases hq
    n2 := fun z => by have z : q = A.qo := z; rw [z, h.oo] at hq; cases hq
    n3 := h.n3
    nd := h.nd
    nu := h.nu
    pp := h.pp }
theorem RM.newB (h : RM K C CN F H A im nums s) (hq : H q = none) (e : Ex H H1) (l : List Int) (h1 : H1 q = some (.lst (l.map V.int))) : RM K C CN F (upd H1 A.x (.ins C A.dx (FM { s with bk := l } { A with qb := q }))) { A with qb := q } im nums { s with bk := l } :=
  have nx : q ≠ A.x := fun z => by rw [z, h.ox] at hq; cases hq
  { fr := (h.fr.trans e).mut h.fx
    fx := h.fx
    fb := by cases z : F q with
      | none => rfl
      | some o => rw [h.fr _ _ z] at hq; cases hq
    fd := h.fd
    fs := h.fs
    fo := h.fo
    ox := upd_same
    ob := by show upd H1 A.x _ q = _; rw [upd_ne nx]; exact h1
    od := by show upd H1 A.x _ A.qd = _; rw [upd_ne (ne_of2 h.od h.ox (by intro z; cases z))]; exact e _ _ h.od
    os := by show upd H1 A.x _ A.qs = _; rw [upd_ne (ne_of2 h.os h.ox (by intro z; cases z))]; exact e _ _ h.os
    oo := by show upd H1 A.x _ A.qo = _; rw [upd_ne (ne_of2 h.oo h.ox (by intro z; cases z))]; exact e _ _ h.oo
    n1 := fun z => by have z : A.qs = q := z; rw [← z, h.os] at hq; cases hq
    n3 := fun z => by have z : q = A.qo := z; rw [z, h.oo] at hq; cases hq
    n2 := h.n2
    nd := h.nd
    nu := h.nu
    pp := h.pp }
theorem RM.newO (h : RM K C CN F H A im nums s) (hq : H q = none) (e : Ex H H1) (l : List Int) (h1 : H1 q = some (.lst (l.map V.int))) : RM K C CN F (upd H1 A.x (.ins C A.dx (FM { s with ou := l } { A with qo := q }))) { A with qo := q } im nums { s with ou := l } :=
  have nx : q ≠ A.x := fun z => by rw [z, h.ox] at hq; cases hq
  { fr := (h.fr.trans e).mut h.fx
    fx := h.fx
    fo := by cases z : F q with
      | none => rfl
      | some o => rw [h.fr _ _ z] at hq; cases hq
    fd := h.fd
    fs := h.fs
    fb := h.fb
    ox := upd_same
    oo := by show upd H1 A.x _ q = _; rw [upd_ne nx]; exact h1
    od := by show upd H1 A.x _ A.qd = _; rw [upd_ne (ne_of2 h.od h.ox (by intro z; cases z))]; exact e _ _ h.od
    os := by show upd H1 A.x _ A.qs = _; rw [upd_ne (ne_of2 h.os h.ox (by intro z; cases z))]; exact e _ _ h.os
    ob := by show upd H1 A.x _ A.qb = _; rw [upd_ne (ne_of2 h.ob h.ox (by intro z; cases z))]; exact e _ _ h.ob
    n2 := fun z => by have z : A.qs = q := z; rw [← z, h.os] at hq; cases hq
    n3 := fun z => by have z : A.qb = q := z; rw [← z, h.ob] at hq; cases hq
    n1 := h.n1
    nd := h.nd
    nu := h.nu
    pp := h.pp }
theorem RM.newD (h : RM K C CN F H A im nums s) (hq : H q = none) (e : Ex H H1) (l : List (Int × Int)) (h1 : H1 q = some (.dK (kvI l))) : RM K C CN F (upd H1 A.x (.ins C A.dx (FM { s with sd := l } { A with qd := q }))) { A with qd := q } im nums { s with sd := l } :=
  have nx : q ≠ A.x := fun z => by rw [z, h.ox] at hq; cases hq
  { fr := (h.fr.trans e).mut h.fx
    fx := h.fx
    fd := by cases z : F q with
      | none => rfl
      | some o => rw [h.fr _ _ z] at hq; cases hq
    fo := h.fo
    fs := h.fs
    fb := h.fb
    ox := upd_same
    od := by show upd H1 A.x _ q = _; rw [upd_ne nx]; exact h1
    oo := by show upd H1 A.x _ A.qo = _; rw [upd_ne (ne_of2 h.oo h.ox (by intro z; cases z))]; exact e _ _ h.oo
    os := by show upd H1 A.x _ A.qs = _; rw [upd_ne (ne_of2 h.os h.ox (by intro z; cases z))]; exact e _ _ h.os
    ob := by show upd H1 A.x _ A.qb = _; rw [upd_ne (ne_of2 h.ob h.ox (by intro z; cases z))]; exact e _ _ h.ob
    n2 := h.n2
    n3 := h.n3
    n1 := h.n1
    nd := h.nd
    nu := h.nu
    pp := h.pp }
end
/-! ### a table by codes -/
theorem lookup_map {α β : Type} (L : List (Int × α)) (g : α → β) (c : Int) : (L.map fun e => (e.1, g e.2)).lookup c = (L.lookup c).map g := by
  induction L with
  | nil => rfl
  | cons e r ih =>
    rw [List.map_cons, List.lookup_cons, List.lookup_cons, ih]
    cases (c == e.1) <;> rfl
theorem mem_lookup {κ β : Type} [BEq κ] [LawfulBEq κ] {L : List (κ × β)} {c : κ} {b : β} (h : L.lookup c = some b) : (c, b) ∈ L := by
  induction L with
  | nil => cases h
  | cons e r ih =>
    obtain ⟨k, g⟩ := e
    rw [List.lookup_cons] at h
    by_cases q : c = k
    · subst q
      rw [beq_self_eq_true] at h
      cases h
      exact List.mem_cons_self
    · rw [show (c == k) = false by simpa using q] at h
      exact List.mem_cons_of_mem _ (ih h)
theorem lookup_mem {κ β : Type} [BEq κ] [LawfulBEq κ] {L : List (κ × β)} {c : κ} {b : β} (h : (c, b) ∈ L) (nd : (L.map (·.1)).Nodup) : L.lookup c = some b := by
  induction L with
  | nil => cases h
  | cons e r ih =>
    obtain ⟨k, g⟩ := e
    rw [List.map_cons, List.nodup_cons] at nd
    rw [List.lookup_cons]
    rcases List.mem_cons.mp h with q | q
    · cases q
      rw [beq_self_eq_true]
    · have : c ≠ k := fun z => nd.1 (by rw [← z]; exact List.mem_map.mpr ⟨_, q, rfl⟩)
      rw [show (c == k) = false by simpa using this]
      exact ih q nd.2
end Gd
namespace Gd
open PySem PySem.Spec PyProof.Rows L2 Evl
/-! ### plain forms, made and read -/
theorem getI_mem : ∀ {sd : List (Int × Int)} {k : Int}, k ∈ sd.map (·.1) → ∃ v, getI sd k = some v
  | [], _, h => by cases h
  | p :: r, k, h => by
    unfold getI
    by_cases q : p.1 = k
    · rw [if_pos q]; exact ⟨_, rfl⟩
    · rw [if_neg q]
      rw [List.map_cons] at h
      rcases List.mem_cons.mp h with h | h
      · exact absurd h.symm q
      · exact getI_mem h
def rSrtDI : List V → Hp → VK → Prop := fun xs H Q => ∃ (a : Addr) (kvs : List (Key × V)) (ks : List Int), xs = [.ref a] ∧ Rd H a (.dK kvs) ∧ kvs.map (·.1) = ks.map Sum.inl ∧ ks.length < 64 ∧ ∀ (ys : List Int) (p : Addr), ys.Perm ks → ys.Pairwise (· ≤ ·) → H p = none → Q (.ref p) (upd H p (.lst (ys.map V.int)))
theorem el_sortedDI {te : TE} {σ : L2.St} {H : Hp} {a : Addr} {sd : List (Int × Int)} (h : Ev te σ H (.ref a)) (hd : H a = some (.dK (kvI sd))) (hl : sd.length < 64) : EvL (tCB rSrtDI (tCons te tNil)) σ H ((srt (sd.map (·.1))).map V.int) := fun H1 e Q q =>
  h H1 e _ fun H2 e2 => ⟨a, kvI sd, sd.map (·.1), rfl, .inl (e2 _ _ (e _ _ hd)), kvI_keys sd, by rw [List.length_map]; exact hl, fun ys p hp hs hn => by
    rw [srt_uniq hp hs]
    exact q p _ (fresh_back e2 hn) (e2.trans (Ex.new hn)) upd_same⟩
theorem srt_len (ks : List Int) : (srt ks).length = ks.length := (srt_perm ks).length_eq
theorem pairD_tup (q : Int × Int) : tupO (pairD q) = true := by simp [pairD, tupO, tupOs]
theorem plain_inv {K : PySem.W.Frag} {H : Hp} {v : V} {t : PS} (h : Dp K H v (plainD t)) : ∃ (r p1 p2 p3 p5 : Addr) (ps : List V), v = .ref r ∧ SqT K H r [.int t.a, .ref p1, .ref p2, .ref p3, .int t.p, .ref p5] ∧ SqT K H p1 (t.st.map V.int) ∧ SqT K H p2 ps ∧ DpAll K H ps (t.pr.map pairD) ∧ SqT K H p3 (t.bk.map V.int) ∧ SqT K H p5 (t.ou.map V.int) := by
  obtain ⟨r, xs, rfl, h1, h2⟩ := dp_tup_inv h
  cases h2 with | cons a1 h2 => cases h2 with | cons a2 h2 => cases h2 with | cons a3 h2 => cases h2 with | cons a4 h2 => cases h2 with | cons a5 h2 => cases h2 with | cons a6 h2 =>
    cases h2
    cases a1
    cases a5
    obtain ⟨p1, rfl, g1⟩ := dp_intsT_inv a2
    obtain ⟨p2, ps, rfl, g2, g2'⟩ := dp_tup_inv a3
    obtain ⟨p3, rfl, g3⟩ := dp_intsT_inv a4
    obtain ⟨p5, rfl, g5⟩ := dp_intsT_inv a6
    exact ⟨r, p1, p2, p3, p5, ps, rfl, h1, g1, g2, g2', g3, g5⟩
theorem plainD_tup (t : PS) : tupO (plainD t) = true := by
  have hi : ∀ l : List Int, tupOs (l.map PyData.int) = true := fun l => tupOs_at fun d m => by
    obtain ⟨z, _, rfl⟩ := List.mem_map.mp m
    simp [tupO]
  have hp : tupOs (t.pr.map pairD) = true := tupOs_at fun d m => by
    obtain ⟨z, _, rfl⟩ := List.mem_map.mp m
    exact pairD_tup z
  simp [plainD, tupO, tupOs, hi, hp]
theorem optD_tup (o : Option PS) : tupO (optD o) = true := by
  cases o with
  | none => simp [optD, tupO]
  | some t => exact plainD_tup t
def stoF (pr : List (Int × Int)) : List (Int × Int) := pr.foldl (fun sd q => putI sd q.1 q.2) []
theorem stoF_len (pr : List (Int × Int)) : (stoF pr).length ≤ pr.length := by
  have key : ∀ (l : List (Int × Int)) (sd : List (Int × Int)), (l.foldl (fun sd q => putI sd q.1 q.2) sd).length ≤ sd.length + l.length := by
    intro l
    induction l with
    | nil => intro sd; exact Nat.le_refl _
    | cons q r ih =>
      intro sd
      have h1 := ih (putI sd q.1 q.2)
      have h2 := putI_len sd q.1 q.2
      rw [List.foldl_cons, List.length_cons]
      omega
  have := key pr []
  unfold stoF
  simpa using this
theorem sd_act {s : MS} {c : Int} {f : ActF} {im nums : List Int} {n : Nd} (hf : ACTS.lookup c = some f) : (f im nums n s).sd.length ≤ s.sd.length + 1 := by
  refine act_cases (P := fun f => (f im nums n s).sd.length ≤ s.sd.length + 1) hf ?_
  unfold ACTS
  simp only [List.mem_cons, List.not_mem_nil, or_false, forall_eq_or_imp, forall_eq]
  have h0 : s.sd.length ≤ s.sd.length + 1 := Nat.le_succ _
  refine ⟨h0, h0, h0, h0, h0, h0, h0, putI_len _ _ _, putI_len _ _ _, ?_, h0, h0, h0, h0, h0, h0, ?_, h0, ?_, ?_⟩
  · unfold aTake; split <;> exact h0
  · unfold aBranch; split <;> exact h0
  · unfold aCallD; split <;> exact h0
  · unfold aRet; split <;> exact h0
theorem sd_step {s s' : MS} {im nums : List Int} (e : stepM im nums s = some s') : s'.sd.length ≤ s.sd.length + 1 := by
  unfold stepM at e
  cases q : nodeAt im s.a with
  | none => rw [q] at e; cases e
  | some n =>
    rw [q] at e
    cases e
    show (perfM im nums n (goM s n)).sd.length ≤ _
    unfold perfM
    split
    · rename_i f hf
      exact sd_act hf
    · split
      · exact Nat.le_succ _
      · split <;> exact Nat.le_succ _
end Gd

set_option Elab.async false
set_option linter.all false
set_option maxRecDepth 100000
set_option maxHeartbeats 4000000
/-! Of our own: a step as the laws compute it. -/
namespace Gd
open PySem PySem.Spec PyProof.Rows L2 Evl
def tp (l : List Int) : Int := l.getLast?.getD 0
def inStk (op : Int) : Bool := decide (op = 43 ∨ op = 45 ∨ op = 42 ∨ op = 60 ∨ op = 126 ∨ op = 95 ∨ op = 34 ∨ op = 92)
def lsS (op arg : Int) (st : List Int) : List Int :=
  if op = 35 then st ++ [arg]
  else if inStk op = true then
    if op = 95 then st.dropLast
    else if op = 34 then st.dropLast ++ [tp st] ++ [tp st]
    else if op = 92 then st.dropLast.dropLast ++ [tp st] ++ [tp st.dropLast]
    else st.dropLast.dropLast ++ [combI op (tp st.dropLast) (tp st)]
  else st
def lsT (op arg : Int) (st : List Int) (sd : List (Int × Int)) : List Int × List (Int × Int) :=
  if op = 64 then (st.dropLast ++ [(getI sd (tp st)).getD 0], sd)
  else if op = 33 then (st.dropLast.dropLast, putI sd (tp st) (tp st.dropLast))
  else if op = 61 then (st.dropLast, putI sd arg (tp st))
  else if (decide (97 ≤ op) && decide (op ≤ 122)) = true then (st ++ [(getI sd op).getD 0], sd)
  else (st, sd)
def lsP (im nums : List Int) (op : Int) (st : List Int) (p : Int) (ou : List Int) : List Int × Int × List Int :=
  if op = 44 then (if p < nums.length then (st ++ [(atI nums p).getD 0], p + 1, ou) else (st ++ [-1], p, ou))
  else if op = 94 then (st, 0, ou)
  else if op = 46 then (st.dropLast, p, ou ++ [tp st])
  else if op = 38 then (st.dropLast ++ [cellAt im (tp st)], p, ou)
  else (st, p, ou)
def lsC (im : List Int) (op arg su : Int) (st bk : List Int) : List Int × List Int × Int :=
  if op = 63 then (st.dropLast, bk, if tp st = 0 then arg else su)
  else if (decide (65 ≤ op) && decide (op ≤ 90)) = true then (st, bk ++ [su], op)
  else if op = 40 then (st.dropLast, bk ++ [su], tp st)
  else if op = 36 then (if canC im (tp st) = true then (st.dropLast, bk ++ [su], tp st) else (st.dropLast ++ [tp st], bk, su))
  else if op = 41 then (match bk.getLast? with
    | none => (st, bk, su)
    | some b => (st, bk.dropLast, b))
  else (st, bk, su)
def lawM (im nums : List Int) (n : Nd) (s : MS) : MS :=
  let st1 := lsS n.1 n.2.1 s.st
  let t2 := lsT n.1 n.2.1 st1 s.sd
  let t3 := lsP im nums n.1 t2.1 s.p s.ou
  let t4 := lsC im n.1 n.2.1 n.2.2 t3.1 s.bk
  { a := t4.2.2, st := t4.1, sd := t2.2, bk := t4.2.1, p := t3.2.1, ou := t3.2.2, n := s.n }
theorem law_perf (im nums : List Int) (n : Nd) (s : MS) (ha : s.a = n.2.2) : perfM im nums n s = lawM im nums n s := by
  obtain ⟨op, arg, su⟩ := n
  obtain ⟨a, st, sd, bk, p, ou, k⟩ := s
  have ha : a = su := ha
  subst ha
  by_cases h35 : op = 35
  · subst h35
    rfl
  by_cases h43 : op = 43
  · subst h43
    rfl
  by_cases h45 : op = 45
  · subst h45
    rfl
  by_cases h42 : op = 42
  · subst h42
    rfl
  by_cases h60 : op = 60
  · subst h60
    rfl
  by_cases h126 : op = 126
  · subst h126
    rfl
  by_cases h64 : op = 64
  · subst h64
    rfl
  by_cases h33 : op = 33
  · subst h33
    rfl
  by_cases h61 : op = 61
  · subst h61
    rfl
  by_cases h44 : op = 44
  · subst h44
    show aTake im nums (44, arg, a) ⟨a, st, sd, bk, p, ou, k⟩ = _
    unfold aTake lawM lsS lsT lsP lsC
    simp only [inStk]
    by_cases h : p < (nums.length : Int)
    · simp [h, pushM]
    · simp [h, pushM]
  by_cases h94 : op = 94
  · subst h94
    rfl
  by_cases h46 : op = 46
  · subst h46
    rfl
  by_cases h38 : op = 38
  · subst h38
    rfl
  by_cases h95 : op = 95
  · subst h95
    rfl
  by_cases h34 : op = 34
  · subst h34
    rfl
  by_cases h92 : op = 92
  · subst h92
    rfl
  by_cases h63 : op = 63
  · subst h63
    show aBranch im nums (63, arg, a) ⟨a, st, sd, bk, p, ou, k⟩ = _
    unfold aBranch lawM lsS lsT lsP lsC
    simp only [inStk]
    have : topM ⟨a, st, sd, bk, p, ou, k⟩ = tp st := rfl
    rw [this]
    by_cases h : tp st = 0
    · simp [h, popM]
    · simp [h, popM]
  by_cases h40 : op = 40
  · subst h40
    rfl
  by_cases h36 : op = 36
  · subst h36
    show aCallD im nums (36, arg, a) ⟨a, st, sd, bk, p, ou, k⟩ = _
    unfold aCallD lawM lsS lsT lsP lsC
    simp only [inStk]
    have : topM ⟨a, st, sd, bk, p, ou, k⟩ = tp st := rfl
    rw [this]
    by_cases h : canC im (tp st) = true
    · simp [h, popM, callM]
    · simp [h, popM, pushM]
  by_cases h41 : op = 41
  · subst h41
    show aRet im nums (41, arg, a) ⟨a, st, sd, bk, p, ou, k⟩ = _
    unfold aRet lawM lsS lsT lsP lsC
    simp only [inStk]
    cases h : bk.getLast? with
    | none => simp [h]
    | some b => simp [h]
  have hl : ACTS.lookup op = none := by
    unfold ACTS
    have b : ∀ {i j : Int}, ¬ i = j → (i == j) = false := fun h => by simpa using h
    simp only [List.lookup_cons, b h35, b h43, b h45, b h42, b h60, b h126, b h64, b h33, b h61, b h44, b h94, b h46, b h38, b h95, b h34, b h92, b h63, b h40, b h36, b h41, List.lookup_nil]
  unfold perfM lawM lsS lsT lsP lsC
  simp only [inStk, hl, h35, h43, h45, h42, h60, h126, h64, h33, h61, h44, h94, h46, h38, h95, h34, h92, h63, h40, h36, h41, if_false, or_self, decide_false]
  have e1 : isSm op = (decide (97 ≤ op) && decide (op ≤ 122)) := rfl
  have e2 : isCp op = (decide (65 ≤ op) && decide (op ≤ 90)) := rfl
  rw [e1, e2]
  by_cases hs : (decide (97 ≤ op) && decide (op ≤ 122)) = true
  · have hc : ¬ (decide (65 ≤ op) && decide (op ≤ 90)) = true := by simp at hs ⊢; omega
    simp [hs, hc, pushM, lookM]
  · by_cases hc : (decide (65 ≤ op) && decide (op ≤ 90)) = true
    · simp [hs, hc, callM]
    · simp [hs, hc]
/-! ### the laws' draws of numbers -/
def numL : List Int := [0, 1, 2, 3, 4, 5, 65, 70, 90, 97, 199, 200, -1, -2, 64, 91]
def smallL : List Int := [0, 1, -1, 2, 3, 5, 7, 65, 97, 122, 199, 200, -2, -3, 4, 12]
def pick16 (l : List Int) (v : Int) : Int := l.getD (v.fmod 16).toNat 0
theorem pick_at {l : List Int} (hl : l.length = 16) (v : Int) : atI l (v.fmod 16) = some (pick16 l v) := by
  have h := fmod_in v (show (0 : Int) < 16 by decide)
  have e : v.fmod 16 = (((v.fmod 16).toNat : Nat) : Int) := by omega
  have hlt : (v.fmod 16).toNat < l.length := by omega
  rw [e]
  refine atI_nat ?_
  unfold pick16
  rw [List.getD_eq_getElem?_getD, List.getElem?_eq_getElem hlt]
  rfl
theorem pick_in {l : List Int} (hl : l.length = 16) (v : Int) : pick16 l v ∈ l := by
  have h := fmod_in v (show (0 : Int) < 16 by decide)
  have hlt : (v.fmod 16).toNat < l.length := by omega
  unfold pick16
  rw [List.getD_eq_getElem?_getD, List.getElem?_eq_getElem hlt]
  exact List.getElem_mem _
theorem numL_le (v : Int) : (pick16 numL v).natAbs ≤ 200 := by
  have h : ∀ x ∈ numL, x.natAbs ≤ 200 := by decide
  exact h _ (pick_in rfl v)
theorem smallL_le (v : Int) : (pick16 smallL v).natAbs ≤ 200 := by
  have h : ∀ x ∈ smallL, x.natAbs ≤ 200 := by decide
  exact h _ (pick_in rfl v)
def smallBig (v : Int) : Int := if (v.fdiv 16).fmod 5 = 0 then pick16 smallL v * 10 ^ 9 + v else pick16 smallL v
/-! ### bounds of a step's ints -/
structure Bd (B : Nat) (s : MS) : Prop where
  st : ∀ x ∈ s.st, x.natAbs ≤ B
  sd : ∀ q ∈ s.sd, q.1.natAbs ≤ B ∧ q.2.natAbs ≤ B
  bk : ∀ x ∈ s.bk, x.natAbs ≤ B
  ou : ∀ x ∈ s.ou, x.natAbs ≤ B
  a : s.a.natAbs ≤ B
  p : s.p.natAbs ≤ B
theorem smallBig_le {v : Int} (h : 0 ≤ v ∧ v < 997) : (smallBig v).natAbs ≤ 10 ^ 12 := by
  have := smallL_le v
  unfold smallBig
  split <;> omega
structure PBd (B : Nat) (t : PS) : Prop where
  st : ∀ x ∈ t.st, x.natAbs ≤ B
  pr : ∀ q ∈ t.pr, q.1.natAbs ≤ B ∧ q.2.natAbs ≤ B
  bk : ∀ x ∈ t.bk, x.natAbs ≤ B
  ou : ∀ x ∈ t.ou, x.natAbs ≤ B
  a : t.a.natAbs ≤ B
  p : t.p.natAbs ≤ B
/-- a slice of ints -/
def cutZ (xs : List Int) (lo hi : Option Int) : List Int := (xs.drop (HT.sIx xs.length 0 lo)).take (HT.sIx xs.length xs.length hi - HT.sIx xs.length 0 lo)
theorem cutZ_map (xs : List Int) (lo hi : Option Int) : cutV (xs.map V.int) lo hi = (cutZ xs lo hi).map V.int := by
  unfold cutV cutZ
  rw [List.length_map, ← List.map_drop, ← List.map_take]
theorem cutZ_mem {xs : List Int} {lo hi : Option Int} {x : Int} (h : x ∈ cutZ xs lo hi) : x ∈ xs := List.mem_of_mem_drop (List.mem_of_mem_take h)
theorem cutZ_len (xs : List Int) (lo hi : Option Int) : (cutZ xs lo hi).length ≤ xs.length := by
  unfold cutZ
  rw [List.length_take, List.length_drop]
  omega
section
variable {K : PySem.W.Frag} {H : Hp} {σ : L2.St} {te tv : TE} {lo hi : TO} {vs : List Nat} {j : Nat}
theorem el_slI {a : Addr} {l : List Int} {i k : Option Int} (h : Ev te σ H (.ref a)) (hS : SqL K H a (l.map V.int)) (h1 : EvO lo σ H i) (h2 : EvO hi σ H k) : EvL (tSl (rSlL K) te lo hi) σ H ((cutZ l i k).map V.int) := by
  rw [← cutZ_map]
  exact el_sl h h1 h2 hS
/-- [f(v) for v in a new list of ints] -/
theorem el_mapI {l : List Int} (g : Int → Int) (h : EvL te σ H (l.map V.int)) (hz : l.length ≤ 90000) (hw : ∀ x, wipe ((wipe σ vs).set j (some x)) vs = wipe σ vs) (he : ∀ c ∈ l, ∀ H1, Ex H H1 → Ev tv ((wipe σ vs).set j (some (.int c))) H1 (.int (g c))) : EvL (tLc (iList K te) (gName j) tYes tv vs) σ H ((l.map g).map V.int) := by
  let f : V → V := fun v => match v with | .int c => .int (g c) | _ => .non
  have e : (l.map V.int).map f = (l.map g).map V.int := by rw [List.map_map, List.map_map]; rfl
  rw [← e]
  exact el_mapNL f h (by rw [List.length_map]; exact hz) hw fun x hx H1 e1 => by
    obtain ⟨c, hc, rfl⟩ := List.mem_map.mp hx
    exact he c hc H1 e1
/-- .. over a list that stays -/
theorem el_mapIL {a : Addr} {l : List Int} (g : Int → Int) (h : Ev te σ H (.ref a)) (hS : SqL K H a (l.map V.int)) (hz : l.length ≤ 90000) (hw : ∀ x, wipe ((wipe σ vs).set j (some x)) vs = wipe σ vs) (he : ∀ c ∈ l, ∀ H1, Ex H H1 → Ev tv ((wipe σ vs).set j (some (.int c))) H1 (.int (g c))) : EvL (tLc (iList K te) (gName j) tYes tv vs) σ H ((l.map g).map V.int) := by
  let f : V → V := fun v => match v with | .int c => .int (g c) | _ => .non
  have e : (l.map V.int).map f = (l.map g).map V.int := by rw [List.map_map, List.map_map]; rfl
  rw [← e]
  exact el_mapL f h hS (by rw [List.length_map]; exact hz) hw fun x hx H1 e1 => by
    obtain ⟨c, hc, rfl⟩ := List.mem_map.mp hx
    exact he c hc H1 e1
end
theorem putI_bd {sd : List (Int × Int)} {k v : Int} {B : Nat} (h : ∀ q ∈ sd, q.1.natAbs ≤ B ∧ q.2.natAbs ≤ B) (hk : k.natAbs ≤ B) (hv : v.natAbs ≤ B) : ∀ q ∈ putI sd k v, q.1.natAbs ≤ B ∧ q.2.natAbs ≤ B := by
  unfold putI
  split
  · intro q hq
    obtain ⟨r, hr, rfl⟩ := List.mem_map.mp hq
    split
    · exact ⟨(h r hr).1, hv⟩
    · exact h r hr
  · intro q hq
    rcases List.mem_append.mp hq with hq | hq
    · exact h q hq
    · rw [List.mem_singleton.mp hq]
      exact ⟨hk, hv⟩
theorem getI_bd {sd : List (Int × Int)} {k : Int} {B : Nat} (h : ∀ q ∈ sd, q.1.natAbs ≤ B ∧ q.2.natAbs ≤ B) : ((getI sd k).getD 0).natAbs ≤ B := by
  induction sd with
  | nil => exact Nat.zero_le _
  | cons p r ih =>
    unfold getI
    split
    · exact (h p List.mem_cons_self).2
    · exact ih fun q hq => h q (List.mem_cons_of_mem _ hq)
theorem pairsOf_bd {sd : List (Int × Int)} {B : Nat} (h : ∀ q ∈ sd, q.1.natAbs ≤ B ∧ q.2.natAbs ≤ B) : ∀ q ∈ Gd.pairsOf sd, q.1.natAbs ≤ B ∧ q.2.natAbs ≤ B := by
  intro q hq
  unfold Gd.pairsOf at hq
  obtain ⟨k, hk, rfl⟩ := List.mem_map.mp hq
  have hk := (srt_perm _).mem_iff.mp (List.mem_filter.mp hk).1
  obtain ⟨r, hr, rfl⟩ := List.mem_map.mp hk
  exact ⟨(h r hr).1, getI_bd h⟩
theorem pairsOf_len (sd : List (Int × Int)) : (Gd.pairsOf sd).length ≤ sd.length := by
  unfold Gd.pairsOf
  rw [List.length_map]
  refine Nat.le_trans (List.length_filter_le _ _) ?_
  rw [srt_len, List.length_map]
  exact Nat.le_refl _
theorem due_get (op x y : Int) : (valV (mergeK [] [((Sum.inl 43 : Key), V.int (x + y)), (Sum.inl 45, .int (x - y)), (Sum.inl 42, .int (10 * x + y)), (Sum.inl 60, .int (if decide (x < y) = true then 1 else 0))]) (Sum.inl op)).getD (.int (if x = y then 1 else 0)) = .int (combI op x y) := by
  unfold mergeK combI
  simp only [List.foldl_cons, List.foldl_nil, valV_put]
  have si : ∀ i j : Int, ((Sum.inl i : Key) = Sum.inl j) = (i = j) := fun i j => propext ⟨Sum.inl.inj, fun h => by rw [h]⟩
  simp only [si]
  have vn : valV ([] : List (Key × V)) (Sum.inl op) = none := rfl
  rw [vn]
  by_cases c1 : op = 60
  · subst c1; simp
  by_cases c2 : op = 42
  · subst c2; simp
  by_cases c3 : op = 45
  · subst c3; simp
  by_cases c4 : op = 43
  · subst c4; simp
  simp [c1, c2, c3, c4]
end Gd

set_option Elab.async false
set_option linter.all false
set_option maxRecDepth 100000
set_option maxHeartbeats 4000000
/-! Of our own: how great the ints of a step become, and that plain forms may be shown. -/
namespace Gd
open PySem PySem.Spec PyProof.Rows L2 Evl
theorem rows_mem : ∀ {im : List Int} {r : Int × Nd}, r ∈ rowsOf im → ∀ x ∈ rowL r, x ∈ im
  | [], _, h => by simp [rowsOf] at h
  | [_], _, h => by simp [rowsOf] at h
  | [_, _], _, h => by simp [rowsOf] at h
  | [_, _, _], _, h => by simp [rowsOf] at h
  | a :: b :: c :: d :: t, r, h => by
    rw [rowsOf] at h
    intro x hx
    rcases List.mem_cons.mp h with rfl | h
    · simp only [rowL, List.mem_cons, List.not_mem_nil, or_false] at hx ⊢
      rcases hx with h | h | h | h
      · exact .inl h
      · exact .inr (.inl h)
      · exact .inr (.inr (.inl h))
      · exact .inr (.inr (.inr (.inl h)))
    · exact List.mem_cons_of_mem _ (List.mem_cons_of_mem _ (List.mem_cons_of_mem _ (List.mem_cons_of_mem _ (rows_mem h x hx))))
theorem nodeIn_mem {k : Int} {n : Nd} : ∀ (rows : List (Int × Nd)) (acc : Option Nd), rows.foldl (pickR k) acc = some n → acc = some n ∨ ∃ r ∈ rows, r.2 = n
  | [], acc, h => .inl h
  | r :: t, acc, h => by
    rw [List.foldl_cons] at h
    rcases nodeIn_mem t _ h with h | ⟨q, hq, e⟩
    · unfold pickR at h
      split at h
      · exact .inr ⟨r, List.mem_cons_self, Option.some.inj h⟩
      · exact .inl h
    · exact .inr ⟨q, List.mem_cons_of_mem _ hq, e⟩
theorem node_bd {im : List Int} {B : Nat} (h : ∀ x ∈ im, x.natAbs ≤ B) {k : Int} {n : Nd} (e : nodeAt im k = some n) : n.1.natAbs ≤ B ∧ n.2.1.natAbs ≤ B ∧ n.2.2.natAbs ≤ B := by
  rcases nodeIn_mem (rowsOf im) none e with z | ⟨r, hr, rfl⟩
  · cases z
  · have m := rows_mem hr
    exact ⟨h _ (m _ (by simp [rowL])), h _ (m _ (by simp [rowL])), h _ (m _ (by simp [rowL]))⟩
theorem tp_bd {l : List Int} {B : Nat} (h : ∀ x ∈ l, x.natAbs ≤ B) : (tp l).natAbs ≤ B := by
  unfold tp
  cases e : l.getLast? with
  | none => exact Nat.zero_le _
  | some v => exact h v (List.mem_of_getLast? e)
theorem drop_bd {l : List Int} {B : Nat} (h : ∀ x ∈ l, x.natAbs ≤ B) : ∀ x ∈ l.dropLast, x.natAbs ≤ B := fun x hx => h x (List.dropLast_subset l hx)
theorem app_bd {l : List Int} {v : Int} {B : Nat} (h : ∀ x ∈ l, x.natAbs ≤ B) (hv : v.natAbs ≤ B) : ∀ x ∈ l ++ [v], x.natAbs ≤ B := fun x hx => by
  rcases List.mem_append.mp hx with hx | hx
  · exact h x hx
  · rw [List.mem_singleton.mp hx]
    exact hv
theorem up_bd {l : List Int} {B C : Nat} (h : ∀ x ∈ l, x.natAbs ≤ B) (c : B ≤ C) : ∀ x ∈ l, x.natAbs ≤ C := fun x hx => Nat.le_trans (h x hx) c
theorem comb_bd {op x y : Int} {B : Nat} (hx : x.natAbs ≤ B) (hy : y.natAbs ≤ B) : (combI op x y).natAbs ≤ 11 * B + 1 := by
  unfold combI
  repeat' split
  all_goals omega
theorem at_bd {l : List Int} {i : Int} {B : Nat} (h : ∀ x ∈ l, x.natAbs ≤ B) : ((atI l i).getD 0).natAbs ≤ B := by
  cases e : atI l i with
  | none => exact Nat.zero_le _
  | some v =>
    unfold atI at e
    cases q : ixN l.length i with
    | none => rw [q] at e; cases e
    | some j => rw [q] at e; exact h v (List.mem_of_getElem? e)
theorem lsS_bd {op arg : Int} {st : List Int} {B : Nat} (h : ∀ x ∈ st, x.natAbs ≤ B) (ha : arg.natAbs ≤ B) : ∀ x ∈ lsS op arg st, x.natAbs ≤ 11 * B + 1 := by
  have d1 := drop_bd h
  have d2 := drop_bd d1
  have t1 := tp_bd h
  have t2 := tp_bd d1
  have u : B ≤ 11 * B + 1 := by omega
  unfold lsS
  repeat' split
  · exact app_bd (up_bd h u) (by omega)
  · exact up_bd d1 u
  · exact up_bd (app_bd (app_bd d1 t1) t1) u
  · exact up_bd (app_bd (app_bd d2 t1) t2) u
  · exact app_bd (up_bd d2 u) (comb_bd t2 t1)
  · exact up_bd h u
theorem lsT_bd {op arg : Int} {st : List Int} {sd : List (Int × Int)} {B : Nat} (h : ∀ x ∈ st, x.natAbs ≤ B) (hs : ∀ q ∈ sd, q.1.natAbs ≤ B ∧ q.2.natAbs ≤ B) (ha : arg.natAbs ≤ B) :
    (∀ x ∈ (lsT op arg st sd).1, x.natAbs ≤ B) ∧ ∀ q ∈ (lsT op arg st sd).2, q.1.natAbs ≤ B ∧ q.2.natAbs ≤ B := by
  have d1 := drop_bd h
  have d2 := drop_bd d1
  have t1 := tp_bd h
  have t2 := tp_bd d1
  unfold lsT
  repeat' split
  · exact ⟨app_bd d1 (getI_bd hs), hs⟩
  · exact ⟨d2, putI_bd hs t1 t2⟩
  · exact ⟨d1, putI_bd hs ha t1⟩
  · exact ⟨app_bd h (getI_bd hs), hs⟩
  · exact ⟨h, hs⟩
theorem lsP_bd {im nums : List Int} {op p : Int} {st ou : List Int} {B : Nat} (h1 : 1 ≤ B) (hi : ∀ x ∈ im, x.natAbs ≤ B) (hn : ∀ x ∈ nums, x.natAbs ≤ B) (h : ∀ x ∈ st, x.natAbs ≤ B) (ho : ∀ x ∈ ou, x.natAbs ≤ B) (hp : (p + 1).natAbs ≤ B ∧ p.natAbs ≤ B) :
    (∀ x ∈ (lsP im nums op st p ou).1, x.natAbs ≤ B) ∧ (lsP im nums op st p ou).2.1.natAbs ≤ B ∧ ∀ x ∈ (lsP im nums op st p ou).2.2, x.natAbs ≤ B := by
  have d1 := drop_bd h
  have t1 := tp_bd h
  unfold lsP
  repeat' split
  · exact ⟨app_bd h (at_bd hn), hp.1, ho⟩
  · exact ⟨app_bd h (by simpa using h1), hp.2, ho⟩
  · exact ⟨h, Nat.zero_le _, ho⟩
  · exact ⟨d1, hp.2, app_bd ho t1⟩
  · exact ⟨app_bd d1 (at_bd hi), hp.2, ho⟩
  · exact ⟨h, hp.2, ho⟩
theorem lsC_bd {im : List Int} {op arg su : Int} {st bk : List Int} {B : Nat} (h : ∀ x ∈ st, x.natAbs ≤ B) (hb : ∀ x ∈ bk, x.natAbs ≤ B) (ho : op.natAbs ≤ B) (ha : arg.natAbs ≤ B) (hs : su.natAbs ≤ B) :
    (∀ x ∈ (lsC im op arg su st bk).1, x.natAbs ≤ B) ∧ (∀ x ∈ (lsC im op arg su st bk).2.1, x.natAbs ≤ B) ∧ (lsC im op arg su st bk).2.2.natAbs ≤ B := by
  have d1 := drop_bd h
  have t1 := tp_bd h
  unfold lsC
  split
  · refine ⟨d1, hb, ?_⟩
    show (if tp st = 0 then arg else su).natAbs ≤ B
    split
    · exact ha
    · exact hs
  split
  · exact ⟨h, app_bd hb hs, ho⟩
  split
  · exact ⟨d1, app_bd hb hs, t1⟩
  split
  · split
    · exact ⟨d1, app_bd hb hs, t1⟩
    · exact ⟨app_bd d1 t1, hb, hs⟩
  split
  · cases e : bk.getLast? with
    | none => exact ⟨h, hb, hs⟩
    | some b => exact ⟨h, drop_bd hb, hb b (List.mem_of_getLast? e)⟩
  · exact ⟨h, hb, hs⟩
theorem lawM_bd {im nums : List Int} {n : Nd} {s : MS} {B : Nat} (h1 : 1 ≤ B) (hi : ∀ x ∈ im, x.natAbs ≤ B) (hq : ∀ x ∈ nums, x.natAbs ≤ B) (hn : n.1.natAbs ≤ B ∧ n.2.1.natAbs ≤ B ∧ n.2.2.natAbs ≤ B) (hs : Bd B s) : Bd (11 * B + 1) (lawM im nums n s) := by
  have u : B ≤ 11 * B + 1 := by omega
  have a1 := lsS_bd (op := n.1) hs.st hn.2.1
  have hsd : ∀ q ∈ s.sd, q.1.natAbs ≤ 11 * B + 1 ∧ q.2.natAbs ≤ 11 * B + 1 := fun q m => ⟨Nat.le_trans (hs.sd q m).1 u, Nat.le_trans (hs.sd q m).2 u⟩
  have a2 := lsT_bd (op := n.1) (arg := n.2.1) a1 hsd (by omega)
  have hp := hs.p
  have a3 := lsP_bd (op := n.1) (p := s.p) (im := im) (nums := nums) (by omega) (up_bd hi u) (up_bd hq u) a2.1 (up_bd hs.ou u) (by constructor <;> omega)
  have a4 := lsC_bd (im := im) (op := n.1) (arg := n.2.1) (su := n.2.2) a3.1 (up_bd hs.bk u) (by omega) (by omega) (by omega)
  exact ⟨a4.1, a2.2, a4.2.1, a3.2.2, a4.2.2, a3.2.1⟩
theorem stepM_bd {im nums : List Int} {s s' : MS} {B : Nat} (h1 : 1 ≤ B) (hi : ∀ x ∈ im, x.natAbs ≤ B) (hq : ∀ x ∈ nums, x.natAbs ≤ B) (hs : Bd B s) (e : stepM im nums s = some s') : Bd (11 * B + 1) s' := by
  unfold stepM at e
  cases q : nodeAt im s.a with
  | none => rw [q] at e; cases e
  | some n =>
    rw [q] at e
    have e : perfM im nums n (goM s n) = s' := Option.some.inj e
    rw [law_perf im nums n (goM s n) rfl] at e
    rw [← e]
    have hn := node_bd hi q
    exact lawM_bd h1 hi hq hn ⟨hs.st, hs.sd, hs.bk, hs.ou, hn.2.2, hs.p⟩
theorem stoF_bd {pr : List (Int × Int)} {B : Nat} (h : ∀ q ∈ pr, q.1.natAbs ≤ B ∧ q.2.natAbs ≤ B) : ∀ q ∈ stoF pr, q.1.natAbs ≤ B ∧ q.2.natAbs ≤ B := by
  unfold stoF
  have g : ∀ (pr sd : List (Int × Int)), (∀ q ∈ pr, q.1.natAbs ≤ B ∧ q.2.natAbs ≤ B) → (∀ q ∈ sd, q.1.natAbs ≤ B ∧ q.2.natAbs ≤ B) → ∀ q ∈ pr.foldl (fun sd q => putI sd q.1 q.2) sd, q.1.natAbs ≤ B ∧ q.2.natAbs ≤ B := by
    intro pr
    induction pr with
    | nil => intro sd _ h; exact h
    | cons p r ih =>
      intro sd h1 h2
      have hp := h1 p List.mem_cons_self
      exact ih _ (fun q m => h1 q (List.mem_cons_of_mem _ m)) (putI_bd h2 hp.1 hp.2)
  exact g pr [] h fun q m => nomatch m
theorem PBd.of {t : PS} {B : Nat} (h : PBd B t) : Bd B (ofPlain t) := ⟨h.st, stoF_bd h.pr, h.bk, h.ou, h.a, h.p⟩
theorem Bd.plain {s : MS} {B : Nat} (h : Bd B s) : PBd B (plainM s) := ⟨h.st, pairsOf_bd h.sd, h.bk, h.ou, h.a, h.p⟩
/-! ### shown -/
theorem smD_pairs {pr : List (Int × Int)} (h : ∀ q ∈ pr, q.1.natAbs < 10 ^ 100 ∧ q.2.natAbs < 10 ^ 100) : smDs (pr.map pairD) = true := by
  induction pr with
  | nil => simp [smDs]
  | cons p r ih =>
    have hp := h p List.mem_cons_self
    rw [List.map_cons, smDs, ih fun q m => h q (List.mem_cons_of_mem _ m), Bool.and_true]
    unfold pairD
    rw [smD]
    exact smDs_ints fun n hn => by
      simp only [List.mem_cons, List.not_mem_nil, or_false] at hn
      rcases hn with rfl | rfl
      · exact hp.1
      · exact hp.2
theorem depth_ints (ns : List Int) : PyData.depthAll (ns.map PyData.int) = 0 := by
  induction ns with
  | nil => simp [PyData.depthAll]
  | cons n r ih => rw [List.map_cons, PyData.depthAll, ih, PyData.depth]; rfl
theorem depth_pairs (pr : List (Int × Int)) : PyData.depthAll (pr.map pairD) ≤ 1 := by
  induction pr with
  | nil => simp [PyData.depthAll]
  | cons p r ih =>
    rw [List.map_cons, PyData.depthAll]
    have : (pairD p).depth = 1 := by unfold pairD; rw [PyData.depth, depth_ints]
    omega
theorem bulk_pairs (pr : List (Int × Int)) : PyData.bulkAll (pr.map pairD) = 3 * pr.length := by
  induction pr with
  | nil => simp [PyData.bulkAll]
  | cons p r ih =>
    rw [List.map_cons, PyData.bulkAll, ih, List.length_cons]
    have : (pairD p).bulk = 2 := by unfold pairD; rw [PyData.bulk, bulk_ints]; rfl
    omega
theorem depth_plain (t : PS) : (plainD t).depth ≤ 3 := by
  have := depth_pairs t.pr
  unfold plainD
  simp only [PyData.depth, PyData.depthAll, depth_ints]
  omega
theorem bulk_plain (t : PS) : (plainD t).bulk = t.st.length + 3 * t.pr.length + t.bk.length + t.ou.length + 6 := by
  unfold plainD
  simp only [PyData.bulk, PyData.bulkAll, bulk_ints, bulk_pairs]
  omega
theorem sm_plain {t : PS} {B : Nat} (h : PBd B t) (hB : B < 10 ^ 100) : smD (plainD t) = true := by
  have f : ∀ l : List Int, (∀ x ∈ l, x.natAbs ≤ B) → smDs (l.map PyData.int) = true := fun l hl => smDs_ints fun n hn => Nat.lt_of_le_of_lt (hl n hn) hB
  have hp : smDs (t.pr.map pairD) = true := smD_pairs fun q m => ⟨Nat.lt_of_le_of_lt (h.pr q m).1 hB, Nat.lt_of_le_of_lt (h.pr q m).2 hB⟩
  have ha := Nat.lt_of_le_of_lt h.a hB
  have hpp := Nat.lt_of_le_of_lt h.p hB
  unfold plainD
  rw [smD, smDs, smD, decide_eq_true ha, smDs, smD, f _ h.st, smDs, smD, hp, smDs, smD, f _ h.bk, smDs, smD, decide_eq_true hpp, smDs, smD, f _ h.ou, smDs]
  rfl
theorem nice_plain {t : PS} {B : Nat} (h : PBd B t) (hB : B < 10 ^ 100) (hz : t.st.length + 3 * t.pr.length + t.bk.length + t.ou.length + 6 ≤ 100000) : Nice (plainD t) :=
  nice_sm (sm_plain h hB) (by have := depth_plain t; omega) (by rw [bulk_plain]; exact hz)
theorem nice_none : Nice PyData.none := nice_sm rfl (by decide) (by decide)
/-- sizes of what a step leaves -/
theorem stepM_sz {im nums : List Int} {s s' : MS} {B : Nat} (hz : Sz B s) (e : stepM im nums s = some s') : Sz (B + 3) s' := by
  unfold stepM at e
  cases q : nodeAt im s.a with
  | none => rw [q] at e; cases e
  | some n =>
    rw [q] at e
    have e : perfM im nums n (goM s n) = s' := Option.some.inj e
    rw [← e]
    exact (Sz.perf hz.go).mono (by omega)
end Gd

set_option Elab.async false
set_option linter.all false
set_option maxRecDepth 100000
set_option maxHeartbeats 4000000
/-! Of our own: tuples of ints of the top, a dict of the top that holds them. -/
namespace Gd
open PySem PySem.Spec PyProof.Rows L2 Evl
def intsV : List Value → Option (List Int)
  | [] => some []
  | .int i _ :: r => (intsV r).map (i :: ·)
  | _ => none
theorem intsV_vals : ∀ {us : List Value} {ns : List Int}, intsV us = some ns → Vals (ns.map V.int) us
  | [], ns, h => by cases h; exact .nil
  | u :: r, ns, h => by
    cases u with
    | int i t =>
      rw [intsV] at h
      cases q : intsV r with
      | none => rw [q] at h; cases h
      | some l => rw [q] at h; cases h; exact .cons ⟨t, rfl⟩ (intsV_vals q)
    | _ => cases h
/-- at a: a tuple of ints of the top -/
def TupK (K : PySem.W.Frag) (a : Addr) (xs : List V) : Prop := ∃ (o : Obj) (its : Array Value) (n : Nat), K.lookup a = some o ∧ o.cls = .type "tuple" ∧ o.data = .seq its n ∧ its.size ≤ sizeLine ∧ Vals xs its.toList
theorem tupK_of {K : PySem.W.Frag} {a : Addr} {od : Option Addr} {its : Array Value} {n : Nat} {sl : Array (Option Value)} {ns : List Int} (h : K.lookup a = some ⟨.type "tuple", od, .seq its n, sl⟩) (hi : intsV its.toList = some ns) (hz : ns.length ≤ 1000) : TupK K a (ns.map V.int) := by
  have v := intsV_vals hi
  refine ⟨_, its, n, h, rfl, rfl, ?_, v⟩
  have l : ∀ {xs : List V} {us : List Value}, Vals xs us → xs.length = us.length := fun h => by
    induction h with
    | nil => rfl
    | cons _ _ ih => rw [List.length_cons, List.length_cons, ih]
  have l2 := l v
  rw [List.length_map] at l2
  have l3 : its.toList.length = its.size := Array.length_toList
  exact Nat.le_trans (by omega) (Nat.le_trans hz (by decide))
theorem TupK.sq {K : PySem.W.Frag} {a : Addr} {xs : List V} (h : TupK K a xs) (H : Hp) : SqT K H a xs := .inr h
/-- at d: a dict of the top from ints to tuples of ints -/
inductive TRows (K : PySem.W.Frag) : List (Int × Value) → List (Int × List Int) → Prop
  | nil : TRows K [] []
  | cons {k : Int} {a : Addr} {ns : List Int} {tb : List (Int × Value)} {ts : List (Int × List Int)} (h : TupK K a (ns.map V.int)) (r : TRows K tb ts) : TRows K ((k, .ref a) :: tb) ((k, ns) :: ts)
def TTab (K : PySem.W.Frag) (d : Addr) (ts : List (Int × List Int)) : Prop := ∃ tb, ITab K d tb ∧ TRows K tb ts
theorem trows_at {K : PySem.W.Frag} {tb : List (Int × Value)} {ts : List (Int × List Int)} (h : TRows K tb ts) (c : Int) : match ts.lookup c with
    | none => tb.lookup c = none
    | some ns => ∃ a, tb.lookup c = some (.ref a) ∧ TupK K a (ns.map V.int) := by
  induction h with
  | nil => rfl
  | @cons k a ns tb ts h r ih =>
    rw [List.lookup_cons, List.lookup_cons]
    by_cases e : c = k
    · subst e
      rw [beq_self_eq_true]
      exact ⟨a, rfl, h⟩
    · have : (c == k) = false := by simpa using e
      rw [this]
      exact ih
/-- d.get(i, x), d the top's -/
def tItGet2 (K : PySem.W.Frag) (d : Addr) (ts : List (Int × List Int)) (td ty tx : TE) : TE := fun σ H Q => td σ H fun x H1 => x = .ref d ∧ ty σ H1 fun y H2 => tx σ H2 fun z H3 => ∃ i : Int, y = .int i ∧
  (ts.lookup i = none → Q z H3) ∧ ∀ ns, ts.lookup i = some ns → ∀ p, SqT K H3 p (ns.map V.int) → Q (.ref p) H3
section
variable {X : Cx} {o e f : Expr} {apos cpos : Pos} {td ty tx : TE} {d : Addr} {ts : List (Int × List Int)}
theorem pe_itget2 (D : TTab X.K d ts) (ho : PE X o td) (he : PE X e ty) (hf : PE X f tx) (m : M2 X o "get" apos e f cpos) : PE X (.Call (.Attribute o "get" apos) [e, f] [] cpos) (tItGet2 X.K d ts td ty tx) := by
  obtain ⟨tb, D, hr⟩ := D
  refine ⟨fun pins s σ H Q I h => ?_⟩
  refine wpAny_Call_method m.base m.few m.line PySem.F.plainAttrs_dict PySem.F.slot_dict_get PySem.F.type_dict_get (thn (ho.run pins s σ H _ I h) fun u s1 ⟨x, H1, I1, rx, ex, q1⟩ => ?_)
  subst ex
  obtain rfl : u = Value.ref d := rx
  have hm := itab_map D I1
  refine ⟨hm.typeIs, fun b q => ?_, ?_⟩
  · cases q
    obtain ⟨es, n, hl, _⟩ := D.ex
    exact ⟨_, I1.kIn _ _ hl, rfl⟩
  rw [m.trees]
  refine Calls.callWith_builtin rfl (Calls.evalArgs_plain (Calls.spliced_cons (thn (he.run pins s1 σ H1 _ I1 q1) fun iv s2 ⟨y, H2, I2, ry, q2⟩ =>
    Calls.spliced_cons (thn (hf.run pins s2 σ H2 _ I2 q2) fun fv s3 ⟨z, H3, I3, rz, i, ei, g1, g2⟩ => Calls.spliced_nil ?_))))
  subst ei
  obtain ⟨t, rfl⟩ := ry
  have hm3 := itab_map D I3
  refine call_meetsIn PySem.F.slot_dict_get hm3.typeIs PySem.F.entry_dict_get (PySem.F.args_dict_get_3 _ _ _) (meets_dict_get_default (intKind X.prog X.w) d (k := i) (by simp [intKind, Value.isInt]) D.low fv) ⟨_, hm3, ?_⟩
  have hx := trows_at hr i
  cases q : ts.lookup i with
  | none =>
    rw [q] at hx
    rw [hx]
    exact ⟨z, H3, I3.tok _, rz, g1 q⟩
  | some ns =>
    rw [q] at hx
    obtain ⟨a, h1, h2⟩ := hx
    rw [h1]
    exact ⟨.ref a, H3, I3.tok _, rfl, g2 ns q a (h2.sq _)⟩
end
section
variable {K : PySem.W.Frag} {H : Hp} {σ : L2.St} {td ty tx : TE} {d : Addr} {ts : List (Int × List Int)} {i : Int}
theorem ed_itget2 {ms : List Int} (h : Ev td σ H (.ref d)) (hk : Ev ty σ H (.int i)) (hx : EvD K tx σ H (.tuple (ms.map PyData.int))) : EvD K (tItGet2 K d ts td ty tx) σ H (.tuple (((ts.lookup i).getD ms).map PyData.int)) := fun H1 e Q q =>
  h H1 e _ fun H2 e2 => ⟨rfl, hk H2 (e.trans e2) _ fun H3 e3 => hx H3 ((e.trans e2).trans e3) _ fun v H4 e4 hv => ⟨i, rfl, fun hn => q v H4 ((e2.trans e3).trans e4) (by rw [hn]; exact hv), fun ns hn p hp => q _ H4 ((e2.trans e3).trans e4) (by rw [hn]; exact dp_intsT hp)⟩⟩
end
end Gd

set_option Elab.async false
set_option linter.all false
set_option maxRecDepth 100000
set_option maxHeartbeats 4000000
/-! Of our own: footprints. -/
namespace Gd
open PySem PySem.Spec PyProof.Rows L2 Evl
def CNTS : List (Int × List Int) := [(35, [0, 1]), (43, [2, 1]), (45, [2, 1]), (42, [2, 1]), (60, [2, 1]), (126, [2, 1]), (64, [1, 1]), (33, [2, 0]), (61, [1, 0]), (44, [0, 1]), (46, [1, 0]), (38, [1, 1]), (95, [1, 0]), (34, [1, 2]), (92, [2, 2]), (63, [1, 0]), (40, [1, 0]), (36, [1, 1])]
def cntM (im : List Int) (op top : Int) : List Int := if isSm op = true then [0, 1] else if (decide (op = 36) && canC im top) = true then [1, 0] else (CNTS.lookup op).getD [0, 0]
def rdM (op top : Int) : Option Int := if op = 64 then some top else if isSm op = true then some op else none
def wrM (op arg top : Int) : Option Int := if op = 33 then some top else if op = 61 then some arg else none
structure FP where
  po : Int
  pu : Int
  rd : Option Int
  wr : Option Int
  tk : Bool
  ce : Option Int
def oiD : Option Int → PyData
  | none => .none
  | some i => .int i
def fpD (f : FP) : PyData := .tuple [.int f.po, .int f.pu, oiD f.rd, oiD f.wr, .bool f.tk, oiD f.ce]
def fpN (im nums : List Int) (n : Nd) (top p : Int) : FP := ⟨(cntM im n.1 top).getD 0 0, (cntM im n.1 top).getD 1 0, rdM n.1 top, wrM n.1 n.2.1 top, decide (n.1 = 44) && decide (p < nums.length), if n.1 = 38 then some top else none⟩
def fpM (im nums : List Int) (t : PS) : Option FP := (nodeAt im t.a).map fun n => fpN im nums n (tp t.st) t.p
def foD : Option FP → PyData
  | none => .none
  | some f => fpD f
/-- the law's own counts -/
def inP2 (op : Int) : Bool := decide (op ∈ ([43, 45, 42, 60, 126, 33, 92] : List Int))
def inP1 (op : Int) : Bool := decide (op ∈ ([64, 61, 46, 38, 95, 34, 63, 40, 36] : List Int))
def inU1 (op : Int) : Bool := decide (op ∈ ([35, 43, 45, 42, 60, 126, 64, 44, 38] : List Int))
def popL (op : Int) : Int := if inP2 op = true then 2 else if inP1 op = true then 1 else 0
def pushL (im : List Int) (op top : Int) : Int := if (inU1 op || isSm op) = true then 1 else if (decide (op = 34) || decide (op = 92)) = true then 2 else if (decide (op = 36) && !canC im top) = true then 1 else 0
theorem cnt_law (im : List Int) (op top : Int) : cntM im op top = [popL op, pushL im op top] := by
  by_cases h35 : op = 35
  · subst h35; rfl
  by_cases h43 : op = 43
  · subst h43; rfl
  by_cases h45 : op = 45
  · subst h45; rfl
  by_cases h42 : op = 42
  · subst h42; rfl
  by_cases h60 : op = 60
  · subst h60; rfl
  by_cases h126 : op = 126
  · subst h126; rfl
  by_cases h64 : op = 64
  · subst h64; rfl
  by_cases h33 : op = 33
  · subst h33; rfl
  by_cases h61 : op = 61
  · subst h61; rfl
  by_cases h44 : op = 44
  · subst h44; rfl
  by_cases h46 : op = 46
  · subst h46; rfl
  by_cases h38 : op = 38
  · subst h38; rfl
  by_cases h95 : op = 95
  · subst h95; rfl
  by_cases h34 : op = 34
  · subst h34; rfl
  by_cases h92 : op = 92
  · subst h92; rfl
  by_cases h63 : op = 63
  · subst h63; rfl
  by_cases h40 : op = 40
  · subst h40; rfl
  by_cases h36 : op = 36
  · subst h36
    unfold cntM pushL
    cases h : canC im top with
    | true => rfl
    | false => rfl
  have hl : CNTS.lookup op = none := by
    unfold CNTS
    have b : ∀ {i j : Int}, ¬ i = j → (i == j) = false := fun h => by simpa using h
    simp only [List.lookup_cons, b h35, b h43, b h45, b h42, b h60, b h126, b h64, b h33, b h61, b h44, b h46, b h38, b h95, b h34, b h92, b h63, b h40, b h36, List.lookup_nil]
  unfold cntM popL pushL inP2 inP1 inU1
  simp only [hl, List.mem_cons, List.not_mem_nil, h35, h43, h45, h42, h60, h126, h64, h33, h61, h44, h46, h38, h95, h34, h92, h63, h40, h36, or_self, decide_false, Bool.false_and, Bool.false_or, Bool.or_self]
  cases h : isSm op with
  | true => rfl
  | false => rfl
theorem inV_ints (c : Int) (ns : List Int) : inV (.int c) (ns.map V.int) = decide (c ∈ ns) := by
  induction ns with
  | nil => rfl
  | cons n r ih =>
    show ((n == c) || inV (.int c) (r.map V.int)) = _
    rw [ih]
    by_cases e : n = c
    · subst e; simp
    · have : (n == c) = false := by simpa using e
      rw [this, Bool.false_or]
      have : (c ∈ n :: r) ↔ (c ∈ r) := by
        rw [List.mem_cons]
        exact ⟨fun h => h.resolve_left fun z => e z.symm, .inr⟩
      exact decide_eq_decide.mpr this.symm
section
variable {K : PySem.W.Frag} {H : Hp} {σ : L2.St} {te ta tb tu : TE} {tt : TT}
/-- a if t else b -/
theorem ev_ifE {b : Bool} {v : V} (ht : EvT tt σ H b) (ha : b = true → ∀ H1, Ex H H1 → Ev ta σ H1 v) (hb : b = false → ∀ H1, Ex H H1 → Ev tb σ H1 v) : Ev (tIf tt ta tb) σ H v := fun H1 e Q q =>
  ht H1 e _ fun H2 e2 => by
    cases b with
    | true => rw [if_pos rfl]; exact ha rfl H2 (e.trans e2) H2 (Ex.refl H2) Q fun H3 e3 => q H3 (e2.trans e3)
    | false => rw [if_neg Bool.false_ne_true]; exact hb rfl H2 (e.trans e2) H2 (Ex.refl H2) Q fun H3 e3 => q H3 (e2.trans e3)
theorem ev_andB {a b : Bool} (ha : Ev ta σ H (.bl a)) (hb : a = true → Ev tb σ H (.bl b)) : Ev (tAndV ta tb) σ H (.bl (a && b)) := fun H1 e Q q =>
  ha H1 e _ fun H2 e2 => ⟨a, rfl, by
    cases a with
    | true => rw [if_pos rfl]; exact hb rfl H2 (e.trans e2) Q fun H3 e3 => q H3 (e2.trans e3)
    | false => rw [if_neg Bool.false_ne_true]; exact q H2 e2⟩
theorem q_unpD2 {D : Ends} {tz : TS} {ns : List Int} {i j : Nat} (h : EvD K te σ H (.tuple (ns.map PyData.int))) (hn : ns.length = 2) (k : ∀ H1, Ex H H1 → tz D ((σ.set i (some (.int (ns.getD 0 0)))).set j (some (.int (ns.getD 1 0)))) H1) : tSeq (tAsg te (gTup K 2 (gCons (gName i) (gCons (gName j) gNil)))) tz D σ H :=
  h H (Ex.refl H) _ fun v H1 e1 hv => by
    obtain ⟨a, rfl, ha⟩ := dp_intsT_inv hv
    match ns, hn with
    | [x, y], _ => exact g_tup2 ha (k H1 e1)
theorem et_truT {a : Addr} {xs : List V} (h : Ev te σ H (.ref a)) (hx : SqT K H a xs) : EvT (fun σ H Q => te σ H fun x H' => ∃ k, TruV K x H' k ∧ Q k H') σ H (!xs.isEmpty) := fun H1 e Q q =>
  h H1 e _ fun H2 e2 => ⟨!xs.isEmpty, .inr (.inl ⟨xs, ex_t (e.trans e2) hx, rfl⟩), q H2 e2⟩
theorem last_tp {st : List Int} (h : st ≠ []) : atI st (-1) = some (tp st) := by
  have e : ixN st.length (-1) = some (st.length - 1) := by
    have : st.length ≠ 0 := fun z => h (List.length_eq_zero_iff.mp z)
    unfold ixN
    split
    · omega
    · split
      · congr 1; omega
      · omega
  show (ixN st.length (-1)).bind (st[·]?) = _
  rw [e]
  show st[st.length - 1]? = _
  unfold tp
  rw [← List.getLast?_eq_getElem?, List.getLast?_eq_some_getLast h]
  rfl
theorem ed_opt {o : Option Int} (h : Ev te σ H (optV o)) : EvD K te σ H (oiD o) := ed_ev h (by cases o with
  | none => exact .non
  | some i => exact .int i)
/-- the truth of x in (..), ints -/
theorem et_inI {t : TA} {c : Int} {ns : List Int} (h : Ev te σ H (.int c)) (ht : EvA t σ H (ns.map V.int)) (hz : ns.length ≤ 1000) : EvT (tTest (tOp (rIn K false) te (tTup t))) σ H (decide (c ∈ ns)) := by
  rw [← inV_ints]
  refine et_test (ev_opU h (eu_tup ht (by rw [List.length_map]; omega)) fun p H1 h1 _ H2 e2 Q q => ?_)
  exact ⟨p, _, rfl, .inr (ex_t e2 (st_of h1)), rfl, by rw [List.all_eq_true]; intro x hx; obtain ⟨i, _, rfl⟩ := List.mem_map.mp hx; rfl, q H2 (Ex.refl H2)⟩
end
theorem sm_fp {f : FP} (h1 : f.po.natAbs ≤ 9) (h2 : f.pu.natAbs ≤ 9) (h3 : ∀ i, f.rd = some i → i.natAbs < 10 ^ 100) (h4 : ∀ i, f.wr = some i → i.natAbs < 10 ^ 100) (h6 : ∀ i, f.ce = some i → i.natAbs < 10 ^ 100) : smD (fpD f) = true := by
  have o : ∀ o : Option Int, (∀ i, o = some i → i.natAbs < 10 ^ 100) → smD (oiD o) = true := fun o h => by
    cases o with
    | none => rfl
    | some i => unfold oiD; rw [smD, decide_eq_true (h i rfl)]
  have a1 : f.po.natAbs < 10 ^ 100 := Nat.lt_of_le_of_lt h1 (by decide)
  have a2 : f.pu.natAbs < 10 ^ 100 := Nat.lt_of_le_of_lt h2 (by decide)
  unfold fpD
  rw [smD, smDs, smD, decide_eq_true a1, smDs, smD, decide_eq_true a2, smDs, o _ h3, smDs, o _ h4, smDs, smD, smDs, o _ h6, smDs]
  rfl
theorem depth_oi (o : Option Int) : (oiD o).depth = 0 := by cases o <;> simp [oiD, PyData.depth]
theorem bulk_oi (o : Option Int) : (oiD o).bulk = 0 := by cases o <;> simp [oiD, PyData.bulk]
theorem nice_fp {f : FP} (h : smD (fpD f) = true) : Nice (fpD f) := nice_sm h (by unfold fpD; simp only [PyData.depth, PyData.depthAll, depth_oi]; decide) (by unfold fpD; simp only [PyData.bulk, PyData.bulkAll, bulk_oi]; decide)
theorem cnt_le (im : List Int) (op top : Int) : ((cntM im op top).getD 0 0).natAbs ≤ 9 ∧ ((cntM im op top).getD 1 0).natAbs ≤ 9 := by
  rw [cnt_law]
  show (popL op).natAbs ≤ 9 ∧ (pushL im op top).natAbs ≤ 9
  unfold popL pushL
  constructor <;> (repeat' split) <;> decide
theorem fp_sm {im nums : List Int} {n : Nd} {top p : Int} (h1 : n.1.natAbs < 10 ^ 100) (h2 : n.2.1.natAbs < 10 ^ 100) (h3 : top.natAbs < 10 ^ 100) : smD (fpD (fpN im nums n top p)) = true := by
  refine sm_fp (cnt_le im n.1 top).1 (cnt_le im n.1 top).2 (fun i h => ?_) (fun i h => ?_) (fun i h => ?_)
  · have h : rdM n.1 top = some i := h
    unfold rdM at h
    repeat' split at h
    · cases h; exact h3
    · cases h; exact h1
    · cases h
  · have h : wrM n.1 n.2.1 top = some i := h
    unfold wrM at h
    repeat' split at h
    · cases h; exact h3
    · cases h; exact h2
    · cases h
  · have h : (if n.1 = 38 then some top else none) = some i := h
    split at h
    · cases h; exact h3
    · cases h
end Gd

set_option Elab.async false
set_option linter.all false
set_option maxRecDepth 100000
set_option maxHeartbeats 4000000
/-! Of our own: walks over lists of data that were just made; calls with a new list; join of a list at hand. -/
namespace Gd
open PySem PySem.Spec PyProof.Rows L2 Evl
section
variable {K : PySem.W.Frag} {σ : L2.St} {H : Hp} {D : Ends} {tu tz : TS} {te tl to ta : TE}
theorem q_forNLDn {ds : List PyData} {tl : TE} {j : Nat} (h : EvLD K tl σ H ds) (Pv : Addr → List V → Nat → L2.St → Hp → Prop) (h0 : ∀ p xs H1, H p = none → Ex H H1 → H1 p = some (.lst xs) → DpAll K H1 xs ds → Pv p xs 0 σ H1) (hl : ∀ p xs i σ' H', i ≤ xs.length → Pv p xs i σ' H' → SqL K H' p xs)
    (hs : ∀ p xs i x σ' H', xs[i]? = some x → Pv p xs i σ' H' → tu { D with nx := Pv p xs (i + 1), ct := Pv p xs (i + 1), bk := tz D } (σ'.set j (some x)) H') (hd : ∀ p xs σ' H', Pv p xs xs.length σ' H' → tz D σ' H') : tSeq (tFor (iList K tl) (gName j) tu) tz D σ H :=
  h H (Ex.refl H) _ fun p xs H1 np e1 hp hds => ⟨p, rfl, ⟨xs, sq_of hp⟩, for_it (D := { D with nx := tz D }) walk_list (Pv p xs) (h0 p xs H1 np e1 hp hds) (fun i σ' H' hi q => hl p xs i σ' H' hi q) (fun i x σ' H' H'' hi q y => by
    obtain ⟨rfl, hx⟩ := y
    exact hs p xs i x σ' _ hx q) (fun σ' H' q => hd p xs σ' H' q)⟩
theorem ev_joinV {a : Str} {ys : List Str} {p : Addr} (ho : Ev to σ H (.str a)) (h : Ev te σ H (.ref p)) (hp : SqL K H p (ys.map V.str)) (hz : (ys.map (·.length)).sum + ys.length * a.length ≤ 16777216) : Ev (tM1 (rJoinT K) to te) σ H (.str (Txt.join a ys)) := fun H0 e Q q =>
  ho H0 e _ fun H1 e1 => ⟨⟨a, rfl⟩, h H1 (e.trans e1) _ fun H2 e2 => ⟨a, p, ys, rfl, rfl, .inl (ex_l (e.trans (e1.trans e2)) hp), hz, q H2 (e1.trans e2)⟩⟩
theorem ev_callL {sp : Sp} {E : XK} {xs : List V} {z : V} (h : EvL te σ H xs) (hr : ∀ p H1, H1 p = some (.lst xs) → Ex H H1 → SpV sp [.ref p] H1 z) : Ev (tCall sp [] E (tCons te tNil)) σ H z := fun H0 e Q q =>
  h H0 e _ fun p H1 _ e1 hp => hr p H1 hp (e.trans e1) H1 (Ex.refl H1) Q (fun H2 e2 => q H2 (e1.trans e2)) _
theorem rows_tup (rows : List (Int × Nd)) : tupOs (rows.map rowD) = true := tupOs_at fun d m => by
  obtain ⟨r, _, rfl⟩ := List.mem_map.mp m
  unfold rowD
  rw [tupO]
  exact tupOs_at fun d m => by
    obtain ⟨z, _, rfl⟩ := List.mem_map.mp m
    rfl
end
end Gd

set_option Elab.async false
set_option linter.all false
set_option maxRecDepth 100000
set_option maxHeartbeats 4000000
/-! Of our own: tuples of texts of the top, dicts of the top from texts to texts. -/
namespace Gd
open PySem PySem.Spec PyProof.Rows L2 Evl
def strsV : List Value → Option (List Str)
  | [] => some []
  | .str i _ :: r => (strsV r).map (i :: ·)
  | _ => none
theorem strsV_vals : ∀ {us : List Value} {ns : List Str}, strsV us = some ns → Vals (ns.map V.str) us
  | [], ns, h => by cases h; exact .nil
  | u :: r, ns, h => by
    cases u with
    | str i t =>
      rw [strsV] at h
      cases q : strsV r with
      | none => rw [q] at h; cases h
      | some l => rw [q] at h; cases h; exact .cons ⟨t, rfl⟩ (strsV_vals q)
    | _ => cases h
theorem tupS_of {K : PySem.W.Frag} {a : Addr} {od : Option Addr} {its : Array Value} {n : Nat} {sl : Array (Option Value)} {ns : List Str} (h : K.lookup a = some ⟨.type "tuple", od, .seq its n, sl⟩) (hi : strsV its.toList = some ns) (hz : ns.length ≤ 1000) : TupK K a (ns.map V.str) := by
  have v := strsV_vals hi
  refine ⟨_, its, n, h, rfl, rfl, ?_, v⟩
  have l : ∀ {xs : List V} {us : List Value}, Vals xs us → xs.length = us.length := fun h => by
    induction h with
    | nil => rfl
    | cons _ _ ih => rw [List.length_cons, List.length_cons, ih]
  have l2 := l v
  rw [List.length_map] at l2
  have l3 : its.toList.length = its.size := Array.length_toList
  exact Nat.le_trans (by omega) (Nat.le_trans hz (by decide))
section
variable {K : PySem.W.Frag} {w : World} {σ : L2.St} {H : Hp} {te : TE}
theorem rv_ixKD {p : Addr} {z : Str} {v : V} (h : KDct K w p z v) : RV (rIxD K w) (.ref p) (.str z) H v := fun H1 _ _ q => ⟨p, z, v, rfl, rfl, h, q H1 (Ex.refl H1)⟩
theorem inV_strs (c : Str) (ns : List Str) : inV (.str c) (ns.map V.str) = decide (c ∈ ns) := by
  induction ns with
  | nil => rfl
  | cons n r ih =>
    show ((n == c) || inV (.str c) (r.map V.str)) = _
    rw [ih]
    by_cases e : n = c
    · subst e; simp
    · have : (n == c) = false := by simpa using e
      rw [this, Bool.false_or]
      have : (c ∈ n :: r) ↔ (c ∈ r) := by
        rw [List.mem_cons]
        exact ⟨fun h => h.resolve_left fun z => e z.symm, .inr⟩
      exact decide_eq_decide.mpr this.symm
theorem q_forS {D : Ends} {tu tz : TS} {z : Str} {j : Nat} (h : Ev te σ H (.str z)) (Pv : Nat → L2.St → Hp → Prop) (h0 : ∀ H1, Ex H H1 → Pv 0 σ H1)
    (hs : ∀ i c σ' H', z.cps.toList[i]? = some c → Pv i σ' H' → tu { D with nx := Pv (i + 1), ct := Pv (i + 1), bk := tz D } (σ'.set j (some (.str ⟨#[c]⟩))) H') (hd : ∀ σ' H', Pv (sgns z).length σ' H' → tz D σ' H') : tSeq (tFor (iStr te) (gName j) tu) tz D σ H :=
  h H (Ex.refl H) _ fun H1 e1 => ⟨z, rfl, for_it (D := { D with nx := tz D }) (walk_signs z) Pv (h0 H1 e1) (fun _ _ _ _ _ => trivial) (fun i x σ' H' H'' hi q y => by
    obtain ⟨rfl, hx⟩ := y
    unfold sgns at hx
    obtain ⟨c, hc, rfl⟩ := map_at hx
    exact hs i c σ' _ hc q) hd⟩
theorem el_listT {p : Addr} {xs : List V} (ha : Ev te σ H (.ref p)) (h : ∀ G, SqT K G p xs) : EvL (tCB (rListS K) (tCons te tNil)) σ H xs := fun H1 e Q q =>
  ha H1 e _ fun H2 e2 => ⟨p, xs, rfl, Or.inr (h _), fun l hl => q l _ (fresh_back e2 hl) (e2.trans (Ex.new hl)) upd_same⟩
end
end Gd

set_option Elab.async false
set_option linter.all false
set_option maxRecDepth 100000
set_option maxHeartbeats 4000000
/-! Of our own: [y for x in xs for y in x] over tuples of ints; tuples of tuples of the top. -/
namespace Gd
open PySem PySem.Spec PyProof.Rows L2 Evl
def rowT (l : List Int) : PyData := .tuple (l.map PyData.int)
section
variable {K : PySem.W.Frag} {σ : L2.St} {H : Hp}
theorem lc2_rows {J : It} {xs : List V} {G : Hp → Prop} (w : Walk J xs.length G (YAt xs)) {rows : List (List Int)} {H1 : Hp} {Dl : Addr} {Qd : Hp → Prop} {j j1 : Nat} {vs vs1 : List Nat}
    (hG : ∀ H', Ex H1 H' → G H') (hd : DpAll K H1 xs (rows.map rowT)) (hz : rows.flatten.length ≤ 90000)
    (w1 : ∀ x, wipe ((wipe σ vs).set j (some x)) vs = wipe σ vs)
    (w2 : ∀ x y, wipe ((wipe ((wipe σ vs).set j (some x)) vs1).set j1 (some y)) vs1 = wipe ((wipe σ vs).set j (some x)) vs1)
    (v1 : ∀ x, ((wipe σ vs).set j (some x))[j]? = some (some x))
    (v2 : ∀ x y, ((wipe ((wipe σ vs).set j (some x)) vs1).set j1 (some y))[j1]? = some (some y))
    (hD : H1 Dl = none) (k : ∀ H', Ex H1 H' → H' Dl = some (.lst (rows.flatten.map V.int)) → Qd H') :
    ∃ W : Nat → Nat → Hp → Prop, (∃ m, W 0 m (upd H1 Dl (.lst []))) ∧ ∀ i m H, W i m H →
      (J.stop i H ∧ Qd H) ∨ (J.go i H ∧ ∃ Nx : Hp → Prop, (∀ H', Nx H' → ∃ m', m' < m ∧ W (i + 1) m' H') ∧ ∀ x H', J.yld i H x H' → gName j x (wipe σ vs) H' fun σ2 H2 => wipe σ2 vs = wipe σ vs ∧ tYes σ2 H2 fun b H3 =>
        if b = true then iTup K (tVar j) σ2 H3 fun J1 H4 => ∃ W1 : Nat → Nat → Hp → Prop, (∃ m, W1 0 m H4) ∧ ∀ j k H, W1 j k H →
          (J1.stop j H ∧ Nx H) ∨ (J1.go j H ∧ ∃ Nx1 : Hp → Prop, (∀ H', Nx1 H' → ∃ k', k' < k ∧ W1 (j + 1) k' H') ∧ ∀ x H', J1.yld j H x H' → gName j1 x (wipe σ2 vs1) H' fun σ3 H5 => wipe σ3 vs1 = wipe σ2 vs1 ∧ tYes σ3 H5 fun b H6 =>
            if b = true then tVar j1 σ3 H6 fun y H7 => ∃ acc, H7 Dl = some (.lst acc) ∧ acc.length < sizeLine ∧ Nx1 (upd H7 Dl (.lst (acc ++ [y]))) else Nx1 H6)
        else Nx H3) := by
  have hlen : xs.length = rows.length := by rw [dpAll_len hd, List.length_map]
  refine ⟨fun i m H' => m = xs.length - i ∧ i ≤ xs.length ∧ Ex H1 H' ∧ H' Dl = some (.lst ((rows.take i).flatten.map V.int)), ⟨xs.length, by simp, Nat.zero_le _, Ex.new hD, upd_same⟩, ?_⟩
  rintro i m H' ⟨rfl, hi, e, hl⟩
  by_cases hlt : i < xs.length
  · have hr : rows[i]? = some (rows[i]'(by omega)) := List.getElem?_eq_getElem (by omega)
    obtain ⟨v, hv, hdv⟩ := dpAll_at hd (i := i) (d := rowT (rows[i]'(by omega))) (by rw [List.getElem?_map, hr]; rfl)
    generalize (rows[i]'(by omega)) = l at hr hdv
    obtain ⟨t, rfl, ht⟩ := dp_intsT_inv (ns := l) hdv
    refine .inr ⟨w.goes i H' hlt (hG H' e), fun H'' => Ex H1 H'' ∧ H'' Dl = some (.lst ((rows.take (i + 1)).flatten.map V.int)), fun H'' p => ⟨xs.length - (i + 1), by omega, rfl, hlt, p⟩, fun x H2 y => ?_⟩
    obtain ⟨rfl, hx⟩ := w.yields i H' x H2 hlt (hG H' e) y
    rw [hv] at hx
    cases hx
    refine ⟨w1 _, ?_⟩
    dsimp only [tYes]
    rw [if_pos rfl]
    refine ⟨_, v1 _, t, rfl, ⟨_, ex_t e ht⟩, ?_⟩
    have hsn := take_snocF hr
    have hfl := len_take_flat rows (i + 1)
    rw [hsn] at hfl ⊢
    refine ⟨fun q k Hc => k = l.length - q ∧ q ≤ l.length ∧ Ex H1 Hc ∧ Hc Dl = some (.lst (((rows.take i).flatten ++ l.take q).map V.int)), ⟨l.length, by simp, Nat.zero_le _, e, by rw [List.take_zero, List.append_nil]; exact hl⟩, ?_⟩
    rintro q k Hc ⟨rfl, hq, ec, hc⟩
    have htc := ex_t ec ht
    by_cases hql : q < l.length
    · have hql' : q < (l.map V.int).length := by rw [List.length_map]; exact hql
      refine .inr ⟨(walk_tup (K := K) (a := t) (xs := l.map V.int)).goes q Hc hql' htc, fun H'' => Ex H1 H'' ∧ H'' Dl = some (.lst (((rows.take i).flatten ++ l.take (q + 1)).map V.int)), fun H'' p => ⟨l.length - (q + 1), by omega, rfl, hql, p⟩, fun x Hd y => ?_⟩
      obtain ⟨rfl, hx⟩ := (walk_tup (K := K) (a := t) (xs := l.map V.int)).yields q Hc x Hd hql' htc y
      obtain ⟨c, hc1, rfl⟩ := map_at hx
      refine ⟨w2 _ _, ?_⟩
      rw [if_pos rfl]
      refine ⟨_, v2 _ _, _, hc, sz_lt ?_, ec.mut hD, ?_⟩
      · rw [List.length_map, List.length_append, List.length_take]
        rw [List.length_append] at hfl
        omega
      · rw [upd_same, take_snoc hc1, ← List.append_assoc, List.map_append (l₂ := [c])]
        rfl
    · have hq' : q = l.length := by omega
      subst hq'
      refine .inl ⟨?_, ec, by rw [hc, List.take_length]⟩
      have := (walk_tup (K := K) (a := t) (xs := l.map V.int)).stops Hc htc
      rwa [List.length_map] at this
  · have hi' : i = xs.length := by omega
    subst hi'
    refine .inl ⟨w.stops H' (hG H' e), k H' e ?_⟩
    rw [hl, hlen, List.take_length]
/-- [y for x in l for y in x], l a list of tuples of ints -/
theorem el_lc2L {tl : TE} {a : Addr} {xs : List V} {rows : List (List Int)} {j j1 : Nat} {vs vs1 : List Nat} (h : Ev tl σ H (.ref a)) (hx : SqL K H a xs) (hd : DpAll K H xs (rows.map rowT)) (hz : rows.flatten.length ≤ 90000)
    (w1 : ∀ x, wipe ((wipe σ vs).set j (some x)) vs = wipe σ vs)
    (w2 : ∀ x y, wipe ((wipe ((wipe σ vs).set j (some x)) vs1).set j1 (some y)) vs1 = wipe ((wipe σ vs).set j (some x)) vs1)
    (v1 : ∀ x, ((wipe σ vs).set j (some x))[j]? = some (some x))
    (v2 : ∀ x y, ((wipe ((wipe σ vs).set j (some x)) vs1).set j1 (some y))[j1]? = some (some y)) :
    EvL (tLc2 (iList K tl) (gName j) tYes (iTup K (tVar j)) (gName j1) tYes (tVar j1) vs vs1) σ H (rows.flatten.map V.int) := fun H0 e Q q => h H0 e _ fun H1 e1 => ⟨a, rfl, ⟨xs, ex_l (e.trans e1) hx⟩, fun Dl hD =>
  lc2_rows walk_list (fun H' e' => ex_l ((e.trans e1).trans e') hx) (hd.ex (e.trans e1)) hz w1 w2 v1 v2 hD (fun H' e' h' => q Dl H' (fresh_back e1 hD) (e1.trans e') h')⟩
theorem el_lc2T {tl : TE} {a : Addr} {xs : List V} {rows : List (List Int)} {j j1 : Nat} {vs vs1 : List Nat} (h : Ev tl σ H (.ref a)) (hx : SqT K H a xs) (hd : DpAll K H xs (rows.map rowT)) (hz : rows.flatten.length ≤ 90000)
    (w1 : ∀ x, wipe ((wipe σ vs).set j (some x)) vs = wipe σ vs)
    (w2 : ∀ x y, wipe ((wipe ((wipe σ vs).set j (some x)) vs1).set j1 (some y)) vs1 = wipe ((wipe σ vs).set j (some x)) vs1)
    (v1 : ∀ x, ((wipe σ vs).set j (some x))[j]? = some (some x))
    (v2 : ∀ x y, ((wipe ((wipe σ vs).set j (some x)) vs1).set j1 (some y))[j1]? = some (some y)) :
    EvL (tLc2 (iTup K tl) (gName j) tYes (iTup K (tVar j)) (gName j1) tYes (tVar j1) vs vs1) σ H (rows.flatten.map V.int) := fun H0 e Q q => h H0 e _ fun H1 e1 => ⟨a, rfl, ⟨xs, ex_t (e.trans e1) hx⟩, fun Dl hD =>
  lc2_rows walk_tup (fun H' e' => ex_t ((e.trans e1).trans e') hx) (hd.ex (e.trans e1)) hz w1 w2 v1 v2 hD (fun H' e' h' => q Dl H' (fresh_back e1 hD) (e1.trans e') h')⟩
end
theorem rc_isTupS {K : PySem.W.Frag} {H : Hp} {p : Addr} {xs : List V} (h : SqT K H p xs) : RC (rIsi K) [.ref p, .ty "tuple"] H (.bl true) := fun H1 e _ q => by
  suffices ht : TyX K H1 (.ref p) (.type "tuple") from ⟨_, _, _, _, true, rfl, .ty "tuple", ht, kit_ty (by decide +kernel), q H1 (Ex.refl H1)⟩
  rcases ex_t e h with (h | ⟨o, h⟩) | ⟨o, its, n, h1, h2, _⟩
  · exact .base (.tup h)
  · exact .fTuple h
  · exact .kTuple h1 h2
theorem rc_isListS {K : PySem.W.Frag} {H : Hp} {p : Addr} {xs : List V} (h : SqL K H p xs) : RC (rIsi K) [.ref p, .ty "list"] H (.bl true) := fun H1 e _ q => by
  suffices ht : TyX K H1 (.ref p) (.type "list") from ⟨_, _, _, _, true, rfl, .ty "list", ht, kit_ty (by decide +kernel), q H1 (Ex.refl H1)⟩
  rcases ex_l e h with (h | ⟨o, h⟩) | ⟨o, its, n, h1, h2, _⟩
  · exact .base (.lst h)
  · exact .base (.frz h)
  · exact .kList h1 h2
theorem ev_callD {K : PySem.W.Frag} {σ : L2.St} {H : Hp} {sp : Sp} {E : XK} {t : TA} {ds : List PyData} {z : V} (h : EvDA K t σ H ds) (hs : ∀ vs H1, Ex H H1 → DpAll K H1 vs ds → SpV sp vs H1 z) : Ev (tCall sp [] E t) σ H z := fun H1 e Q q =>
  h H1 e _ fun vs H2 e2 hd => by
    have := hs vs H2 (e.trans e2) hd H2 (Ex.refl H2) Q (fun H3 e3 => q H3 (e2.trans e3)) E
    rwa [List.append_nil]
theorem rv_isnotB {H : Hp} {b c : Bool} : RV (fun x y H Q => ∃ a b, x = .bl a ∧ y = .bl b ∧ Q (.bl (!decide (a = b))) H) (.bl b) (.bl c) H (.bl (!decide (b = c))) := fun H1 _ _ q => ⟨b, c, rfl, rfl, q H1 (Ex.refl H1)⟩
theorem pi_tupK {X : Cx} {K : PySem.W.Frag} {tg l : Expr} {tl : TE} (e : X.K = K) (h : PE X l tl) : PI X tg l (iTup K tl) := e ▸ pi_tup h
theorem pi_listK {X : Cx} {K : PySem.W.Frag} {tg l : Expr} {tl : TE} (e : X.K = K) (h : PE X l tl) : PI X tg l (iList K tl) := e ▸ pi_list h
/-- a tuple of the top whose items are tuples of ints -/
def refsV : List Value → Option (List Addr)
  | [] => some []
  | .ref a :: r => (refsV r).map (a :: ·)
  | _ => none
theorem refsV_vals : ∀ {us : List Value} {ps : List Addr}, refsV us = some ps → Vals (ps.map V.ref) us
  | [], ps, h => by cases h; exact .nil
  | u :: r, ps, h => by
    cases u with
    | ref a =>
      rw [refsV] at h
      cases g : refsV r with
      | none => rw [g] at h; cases h
      | some l =>
        rw [g] at h
        cases h
        exact .cons rfl (refsV_vals g)
    | _ => cases h
inductive TupRows (K : PySem.W.Frag) : List Addr → List (List Int) → Prop
  | nil : TupRows K [] []
  | cons {a : Addr} {ns : List Int} {ps : List Addr} {rows : List (List Int)} (h : TupK K a (ns.map V.int)) (r : TupRows K ps rows) : TupRows K (a :: ps) (ns :: rows)
theorem TupRows.dp {K : PySem.W.Frag} {H : Hp} {ps : List Addr} {rows : List (List Int)} (h : TupRows K ps rows) : DpAll K H (ps.map V.ref) (rows.map rowT) := by
  induction h with
  | nil => exact .nil
  | cons h r ih => exact .cons (dp_intsT (h.sq H)) ih
def TupTT (K : PySem.W.Frag) (a : Addr) (rows : List (List Int)) : Prop := ∃ ps : List Addr, TupK K a (ps.map V.ref) ∧ TupRows K ps rows
theorem tupTT_of {K : PySem.W.Frag} {a : Addr} {od : Option Addr} {its : Array Value} {n : Nat} {sl : Array (Option Value)} {ps : List Addr} (h : K.lookup a = some ⟨.type "tuple", od, .seq its n, sl⟩) (hi : refsV its.toList = some ps) (hz : ps.length ≤ 1000) : TupK K a (ps.map V.ref) := by
  have hv := refsV_vals hi
  refine ⟨_, its, n, h, rfl, rfl, ?_, hv⟩
  have l : ∀ {xs : List V} {us : List Value}, Vals xs us → xs.length = us.length := fun h => by
    induction h with
    | nil => rfl
    | cons _ _ ih => rw [List.length_cons, List.length_cons, ih]
  have l2 := l hv
  rw [List.length_map] at l2
  have l3 : its.toList.length = its.size := Array.length_toList
  exact Nat.le_trans (by omega) (Nat.le_trans hz (by decide))
end Gd

set_option Elab.async false
set_option linter.all false
set_option maxRecDepth 100000
set_option maxHeartbeats 4000000
/-! Of our own: keyword-only parameters that must be written; methods called with them; while loops. -/
namespace Gd
open PySem PySem.Spec PyProof.Rows L2 Evl
theorem fun_kbn {K : PySem.W.Frag} {x qual : Str} {st : Stmt} {f : Addr} {fd : FuncData} (F : Fun K x qual st f fd) {n : Nat} {ks ps : List Str}
    (h : ∀ (kV doc pm : Value) (an : Option Addr) (cdv ct : Value) (us ws : List Value), us.length = n → ws.length = ks.length → bindArgs (PySem.W.fnOf x qual (defArgs st) (defBody st) (defScope st) .none kV doc pm an cdv ct) ⟨us, ks.zip ws⟩ = pure (ps.zip (us ++ ws))) : KBn K fd ps n ks (fun us ws => us ++ ws) (fun vs zs => vs ++ zs) := by
  obtain ⟨oc, od, kV, doc, pm, an, cdv, ct, osl, rfl, lk, hcd⟩ := F.ex
  exact ⟨fun s us ws X h1 h2 => .of_eq (h kV doc pm an cdv ct us ws h1 h2), fun r1 r2 => r1.append r2⟩
/-- o.m(k = v, ..) -/
def tMethN0 (C : Addr) (m : Str) (n : Nat) (sp : Sp) (gV : List V → List V → List V) (E : XK) (ta : TE) (tk : TA) : TE := fun σ H Q => ta σ H fun x H1 => ∃ a dx fs, x = .ref a ∧ H1 a = some (.ins C dx fs) ∧ fs.lookup m = none ∧
  tk σ H1 fun zs H2 => zs.length = n ∧ sp (gV [.ref a] zs) H2 Q E
section
variable {X : Cx} {CX : CXT} {k : Nat} {f C : Addr} {fd : FuncData} {ps ks : List Str} {sp : Sp} {E : XK} {x m : Str} {p pos apos : Pos} {o : Expr} {kws : List Keyword} {ta : TE} {tk : TA} {g : List Value → List Value → List Value} {gV : List V → List V → List V}
theorem pe_methN0 {pl : Sem Bool} (he : PE X o ta) (c : Cls X.K C) (hm : Meth X.K C m f) (F : FnOk X.prog X.w X.K X.mg X.base CX k f fd ps sp) (hr : Room k X.A) (hb : KBn X.K fd ps 1 ks g gV) (hx : Passes CX X E) (hkw : PK X kws tk)
    (hall : (backToKw pos (keywordEach kws X.env)).all (·.1.isSome) = true := by rfl) (hks : (backToKw pos (keywordEach kws X.env)).filterMap (·.1) = ks := by rfl)
    (hpl : ((backTo pos (starEach [] X.env)).any (·.1) || (backToKw pos (keywordEach kws X.env)).any (·.1.isNone)) = false := by rfl)
    (ht : eval (.Call (.Attribute o m apos) [] kws pos) X.env = (do
      let ov ← eval o X.env
      standAt apos.atName
      let (f, first) ← holding [ov] (getMethod ov m pl)
      callWith pos f first (backTo pos (starEach [] X.env)) (backToKw pos (keywordEach kws X.env))) := by rfl) :
    PE X (.Call (.Attribute o m apos) [] kws pos) (tMethN0 C m ks.length sp gV E ta tk) := by
  refine ⟨fun pins s σ H Q I h => ?_⟩
  refine PySem.W.methodCall_KW (pl := pl) (thn (he.run pins s σ H _ I h) fun u s1 ⟨x, H1, I1, rx, a, dx, fs, ex, ea, l, q⟩ => ?_) ht
  subst ex
  obtain rfl : u = Value.ref a := rx
  refine getmeth_ok I1 ea c hm l ?_
  refine PySem.W.callWith_KW0 (first := [.ref a]) (h₀ := X.base) I.ok.mod.kin hm.kp hall ?_ hpl
  refine thn (hkw.run pos pins s1 σ H1 _ I1 q) fun ws s2 ⟨zs, H2, I2, rz, l2, q2⟩ => ⟨I2.kIn, ?_⟩
  rw [hks]
  exact run_fnN (us := [.ref a]) (vs := [.ref a]) F hr hb hx I2 (.cons rfl .nil) rz rfl l2 q2
end
section
variable {K : PySem.W.Frag} {H : Hp} {σ : L2.St} {ta : TE} {t tk : TA} {sp : Sp} {gV : List V → List V → List V} {E : XK} {P : V → Hp → Prop} {n m : Nat}
theorem ep_methN0 {C a dx : Addr} {fs : List (Str × V)} {mm : Str} {zs : List V} (ha : Ev ta σ H (.ref a)) (ho : H a = some (.ins C dx fs)) (hl : fs.lookup mm = none) (hk : EvA tk σ H zs) (lz : zs.length = n) (hs : ∀ H1, Ex H H1 → ∀ Q : VK, (∀ v H', P v H' → Q v H') → sp (gV [.ref a] zs) H1 Q E) : EvP (tMethN0 C mm n sp gV E ta tk) σ H P := fun Q q =>
  ha H (Ex.refl H) _ fun H1 e1 => ⟨a, dx, fs, rfl, e1 _ _ ho, hl, hk H1 e1 _ fun H2 e2 => ⟨lz, hs H2 (e1.trans e2) Q q⟩⟩
theorem ep_callN {vs zs : List V} (h1 : EvA t σ H vs) (h2 : EvA tk σ H zs) (l1 : vs.length = n) (l2 : zs.length = m) (hs : ∀ H1, Ex H H1 → ∀ Q : VK, (∀ v H', P v H' → Q v H') → sp (gV vs zs) H1 Q E) : EvP (tCallN n m sp gV E t tk) σ H P := fun Q q =>
  h1 H (Ex.refl H) _ fun H1 e1 => h2 H1 e1 _ fun H2 e2 => ⟨l1, l2, hs H2 (e1.trans e2) Q q⟩
theorem ed_callN {d : PyData} {vs zs : List V} (h1 : EvA t σ H vs) (h2 : EvA tk σ H zs) (l1 : vs.length = n) (l2 : zs.length = m) (hs : ∀ H1, Ex H H1 → ∀ Q : VK, RetD K d H1 Q → sp (gV vs zs) H1 Q E) : EvD K (tCallN n m sp gV E t tk) σ H d := fun H0 e Q q =>
  h1 H0 e _ fun H1 e1 => h2 H1 (e.trans e1) _ fun H2 e2 => ⟨l1, l2, hs H2 ((e.trans e1).trans e2) Q fun v H3 e3 hv => q v H3 ((e1.trans e2).trans e3) hv⟩
theorem eld_lst1 {d : PyData} {te : TE} (h : EvD K te σ H d) : EvLD K (tLst (tCons te tNil)) σ H [d] := fun H1 e Q q => h H1 e _ fun v H2 e2 hv => ⟨sz_of (n := 1) (by decide), fun p hp => q p [v] _ (fresh_back e2 hp) (e2.trans (Ex.new hp)) upd_same (.cons (hv.ex (Ex.new hp)) .nil)⟩
theorem ep_ofD {d : PyData} {te : TE} (h : EvD K te σ H d) : EvP te σ H (fun v H' => Ex H H' ∧ Dp K H' v d) := fun Q q => h H (Ex.refl H) Q fun v H2 e2 hv => q v H2 ⟨e2, hv⟩
theorem RM.outP {C CN : Addr} {F : Hp} {A : AM} {im nums : List Int} {s : MS} {p : Addr} {o : HO} (h : RM K C CN F H A im nums s) (hF : F p = none) (hp : p ∉ A.L) : RM K C CN F (upd H p o) A im nums s := by
  have hne : ∀ c ∈ A.L, c ≠ p := fun c m z => hp (by rw [← z]; exact m)
  have u : ∀ c ∈ A.L, (upd H p o) c = H c := fun c m => upd_ne (hne c m)
  exact { h with fr := h.fr.mut hF, ox := by rw [u _ (by simp [AM.L])]; exact h.ox, os := by rw [u _ (by simp [AM.L])]; exact h.os, od := by rw [u _ (by simp [AM.L])]; exact h.od, ob := by rw [u _ (by simp [AM.L])]; exact h.ob, oo := by rw [u _ (by simp [AM.L])]; exact h.oo }
theorem RM.notL {C CN : Addr} {F : Hp} {A : AM} {im nums : List Int} {s : MS} {p : Addr} (h : RM K C CN F H A im nums s) (hp : H p = none) : p ∉ A.L := fun m => by
  obtain ⟨o, ho, _⟩ := h.noT p m
  rw [hp] at ho
  cases ho
theorem q_whileP {c : TT} {tu tz : TS} {D : Ends} (W : Nat → L2.St → Hp → Prop) (m0 : Nat) (h0 : W m0 σ H) (turn : ∀ m σ H, W m σ H → c σ H fun b H1 => if b = true then ∃ N : L2.St → Hp → Prop, (∀ σ' H', N σ' H' → ∃ m', m' < m ∧ W m' σ' H') ∧ tu { D with nx := N, ct := N, bk := tz D } σ H1 else tz D σ H1) : tSeq (tWhile c tu) tz D σ H := ⟨W, ⟨m0, h0⟩, turn⟩
end
end Gd

set_option Elab.async false
set_option linter.all false
set_option maxRecDepth 100000
set_option maxHeartbeats 4000000
/-! Of our own: whole runs; a state and its plain form step alike. -/
namespace Gd
open PySem PySem.Spec PyProof.Rows L2 Evl
def lk (sd : List (Int × Int)) (k : Int) : Int := (getI sd k).getD 0
def KN (sd : List (Int × Int)) : Prop := (sd.map (·.1)).Nodup
theorem getI_none : ∀ {sd : List (Int × Int)} {k : Int}, k ∉ sd.map (·.1) → getI sd k = none
  | [], _, _ => rfl
  | p :: r, k, h => by
    rw [List.map_cons, List.mem_cons, not_or] at h
    unfold getI
    rw [if_neg (fun z => h.1 z.symm)]
    exact getI_none h.2
theorem lk_mem {sd : List (Int × Int)} {k : Int} (h : lk sd k ≠ 0) : k ∈ sd.map (·.1) := by
  by_cases m : k ∈ sd.map (·.1)
  · exact m
  · unfold lk at h
    rw [getI_none m] at h
    exact absurd rfl h
theorem lk_put (sd : List (Int × Int)) (k j v : Int) : lk (putI sd k v) j = if j = k then v else lk sd j := by
  unfold lk
  rw [getI_put]
  split <;> rfl
theorem put_keys (sd : List (Int × Int)) (k v : Int) : (putI sd k v).map (·.1) = if k ∈ sd.map (·.1) then sd.map (·.1) else sd.map (·.1) ++ [k] := by
  have ha : (sd.any fun p => decide (p.1 = k)) = decide (k ∈ sd.map (·.1)) := by
    induction sd with
    | nil => rfl
    | cons p r ih =>
      rw [List.any_cons, ih]
      by_cases e : p.1 = k
      · subst e; simp
      · rw [decide_eq_false e, Bool.false_or]
        refine decide_eq_decide.mpr ?_
        rw [List.map_cons, List.mem_cons]
        exact ⟨.inr, fun h => h.resolve_left fun z => e z.symm⟩
  unfold putI
  rw [ha]
  by_cases m : k ∈ sd.map (·.1)
  · rw [if_pos (decide_eq_true m), if_pos m, List.map_map]
    congr 1
    funext p
    show (if p.1 = k then (p.1, v) else p).1 = p.1
    split <;> rfl
  · rw [if_neg (by simpa using m), if_neg m, List.map_append]
    rfl
theorem KN.put {sd : List (Int × Int)} (h : KN sd) (k v : Int) : KN (putI sd k v) := by
  unfold KN
  rw [put_keys]
  split
  · exact h
  · rename_i m
    exact List.nodup_append.mpr ⟨h, (by simp), fun a ha b hb e => m (by rw [← List.mem_singleton.mp hb, ← e]; exact ha)⟩
theorem KN.nil : KN [] := List.nodup_nil
theorem KN.fold {pr : List (Int × Int)} : ∀ {sd : List (Int × Int)}, KN sd → KN (pr.foldl (fun sd q => putI sd q.1 q.2) sd) := by
  induction pr with
  | nil => intro sd h; exact h
  | cons q r ih => intro sd h; exact ih (h.put q.1 q.2)
/-- the addresses that are not 0, in order -/
def nz (sd : List (Int × Int)) : List Int := (srt (sd.map (·.1))).filter fun k => decide (lk sd k ≠ 0)
theorem pairs_nz (sd : List (Int × Int)) : Gd.pairsOf sd = (nz sd).map fun k => (k, lk sd k) := rfl
theorem mem_nz {sd : List (Int × Int)} {k : Int} : k ∈ nz sd ↔ lk sd k ≠ 0 := by
  unfold nz
  rw [List.mem_filter]
  constructor
  · intro h
    exact of_decide_eq_true h.2
  · intro h
    exact ⟨(srt_perm _).mem_iff.mpr (lk_mem h), decide_eq_true h⟩
theorem nz_eq {sd sd' : List (Int × Int)} (h : KN sd) (h' : KN sd') (e : ∀ k, lk sd k = lk sd' k) : nz sd = nz sd' := by
  have n1 : (nz sd).Nodup := ((srt_perm _).nodup_iff.mpr h).filter _
  have n2 : (nz sd').Nodup := ((srt_perm _).nodup_iff.mpr h').filter _
  have p : (nz sd).Perm (nz sd') := (List.perm_ext_iff_of_nodup n1 n2).mpr fun k => by rw [mem_nz, mem_nz, e]
  exact PySem.W.ksm_same p ((srt_sorted _).filter _) ((srt_sorted _).filter _)
theorem pairs_eq {sd sd' : List (Int × Int)} (h : KN sd) (h' : KN sd') (e : ∀ k, lk sd k = lk sd' k) : Gd.pairsOf sd = Gd.pairsOf sd' := by
  rw [pairs_nz, pairs_nz, nz_eq h h' e]
  congr 1
  funext k
  rw [e]
theorem get_fold (L : List Int) (f : Int → Int) (j : Int) : ∀ sd : List (Int × Int), getI ((L.map fun k => (k, f k)).foldl (fun sd q => putI sd q.1 q.2) sd) j = if j ∈ L then some (f j) else getI sd j := by
  induction L with
  | nil => intro sd; rfl
  | cons x r ih =>
    intro sd
    rw [List.map_cons, List.foldl_cons, ih, getI_put]
    by_cases m : j ∈ r
    · rw [if_pos m, if_pos (List.mem_cons_of_mem _ m)]
    · rw [if_neg m]
      by_cases e : j = x
      · subst e
        rw [if_pos rfl, if_pos List.mem_cons_self]
      · rw [if_neg e, if_neg (fun z => (List.mem_cons.mp z).elim e m)]
theorem lk_back (sd : List (Int × Int)) (j : Int) : lk (stoF (Gd.pairsOf sd)) j = lk sd j := by
  have h := get_fold (nz sd) (fun k => lk sd k) j []
  unfold lk at h ⊢
  unfold stoF
  rw [pairs_nz]
  show (getI (List.foldl _ [] ((nz sd).map fun k => (k, (getI sd k).getD 0))) j).getD 0 = _
  rw [h]
  by_cases m : j ∈ nz sd
  · rw [if_pos m]; rfl
  · rw [if_neg m]
    have := fun z => m (mem_nz.mpr z)
    unfold lk at this
    show 0 = _
    by_cases z : (getI sd j).getD 0 = 0
    · exact z.symm
    · exact absurd z this
/-- alike: the same but for the order and the zeros of the store -/
structure Al (s t : MS) : Prop where
  a : s.a = t.a
  st : s.st = t.st
  bk : s.bk = t.bk
  p : s.p = t.p
  ou : s.ou = t.ou
  lk : ∀ k, lk s.sd k = lk t.sd k
theorem lsT_al {op arg : Int} {st : List Int} {sd sd' : List (Int × Int)} (h : ∀ k, lk sd k = lk sd' k) : (lsT op arg st sd).1 = (lsT op arg st sd').1 ∧ ∀ k, lk (lsT op arg st sd).2 k = lk (lsT op arg st sd').2 k := by
  have h' : ∀ k, (getI sd k).getD 0 = (getI sd' k).getD 0 := h
  unfold lsT
  repeat' split
  · exact ⟨by rw [h'], h⟩
  · exact ⟨rfl, fun k => by show lk (putI _ _ _) k = lk (putI _ _ _) k; rw [lk_put, lk_put, h]⟩
  · exact ⟨rfl, fun k => by show lk (putI _ _ _) k = lk (putI _ _ _) k; rw [lk_put, lk_put, h]⟩
  · exact ⟨by rw [h'], h⟩
  · exact ⟨rfl, h⟩
theorem lawM_al {im nums : List Int} {n : Nd} {s t : MS} (h : Al s t) : Al (lawM im nums n s) (lawM im nums n t) := by
  obtain ⟨h1, h2, h3, h4, h5, h6⟩ := h
  have g := lsT_al (op := n.1) (arg := n.2.1) (st := lsS n.1 n.2.1 t.st) h6
  unfold lawM
  rw [h2, h3, h4, h5]
  dsimp only
  rw [g.1]
  exact ⟨rfl, rfl, rfl, rfl, rfl, g.2⟩
theorem lsT_kn {op arg : Int} {st : List Int} {sd : List (Int × Int)} (h : KN sd) : KN (lsT op arg st sd).2 := by
  unfold lsT
  repeat' split
  · exact h
  · exact h.put _ _
  · exact h.put _ _
  · exact h
  · exact h
theorem stepM_law {im nums : List Int} {s : MS} : stepM im nums s = (nodeAt im s.a).map fun n => lawM im nums n (goM s n) := by
  unfold stepM
  congr 1
  funext n
  exact law_perf im nums n (goM s n) rfl
theorem step_kn {im nums : List Int} {s s' : MS} (h : KN s.sd) (e : stepM im nums s = some s') : KN s'.sd := by
  rw [stepM_law] at e
  cases q : nodeAt im s.a with
  | none => rw [q] at e; cases e
  | some n =>
    rw [q] at e
    have e : lawM im nums n (goM s n) = s' := Option.some.inj e
    rw [← e]
    exact lsT_kn h
theorem step_p {im nums : List Int} {s s' : MS} (h : 0 ≤ s.p) (e : stepM im nums s = some s') : 0 ≤ s'.p := by
  rw [stepM_law] at e
  cases q : nodeAt im s.a with
  | none => rw [q] at e; cases e
  | some n =>
    rw [q] at e
    have e : lawM im nums n (goM s n) = s' := Option.some.inj e
    rw [← e]
    show 0 ≤ (lsP im nums n.1 _ s.p s.ou).2.1
    unfold lsP
    repeat' split
    all_goals first | exact h | (show 0 ≤ s.p + 1; omega) | exact Int.le_refl 0
theorem step_n {im nums : List Int} {s s' : MS} (e : stepM im nums s = some s') : s'.n = s.n + 1 := by
  rw [stepM_law] at e
  cases q : nodeAt im s.a with
  | none => rw [q] at e; cases e
  | some n =>
    rw [q] at e
    have e : lawM im nums n (goM s n) = s' := Option.some.inj e
    rw [← e]
    rfl
theorem Al.step {im nums : List Int} {s t : MS} (h : Al s t) (ks : KN s.sd) (kt : KN t.sd) : (stepM im nums s).map plainM = (stepM im nums t).map plainM := by
  rw [stepM_law, stepM_law, h.a]
  cases q : nodeAt im t.a with
  | none => rfl
  | some n =>
    have g := lawM_al (im := im) (nums := nums) (n := n) (s := goM s n) (t := goM t n) ⟨rfl, h.st, h.bk, h.p, h.ou, h.lk⟩
    show some (plainM _) = some (plainM _)
    unfold plainM
    rw [g.a, g.st, g.bk, g.p, g.ou]
    have e := pairs_eq (sd := (lawM im nums n (goM s n)).sd) (sd' := (lawM im nums n (goM t n)).sd) (lsT_kn ks) (lsT_kn kt) g.lk
    rw [e]
theorem lstep_plain {im nums : List Int} {s : MS} (h : KN s.sd) : lstepM im nums (plainM s) = (stepM im nums s).map plainM := by
  unfold lstepM
  exact Al.step ⟨rfl, rfl, rfl, rfl, rfl, fun k => lk_back s.sd k⟩ (KN.fold KN.nil) h
/-! ### whole runs -/
def advM (im nums : List Int) (s : MS) : Nat → MS × Nat
  | 0 => (s, 0)
  | n + 1 => if (advM im nums s n).2 = n then (match stepM im nums (advM im nums s n).1 with
      | none => advM im nums s n
      | some t => (t, n + 1)) else advM im nums s n
section
variable {im nums : List Int} {s : MS}
theorem adv_step {i : Nat} {t t' : MS} (h : advM im nums s i = (t, i)) (e : stepM im nums t = some t') : advM im nums s (i + 1) = (t', i + 1) := by
  rw [advM, h]
  dsimp only
  rw [if_pos rfl, e]
theorem adv_stop {i : Nat} {t : MS} (h : advM im nums s i = (t, i)) (e : stepM im nums t = none) : ∀ j, advM im nums s (i + j) = (t, i)
  | 0 => h
  | j + 1 => by
    have ih := adv_stop h e j
    show advM im nums s (i + j + 1) = _
    rw [advM, ih]
    dsimp only
    split
    · rw [e]
    · rfl
theorem adv_inv : ∀ n : Nat, (advM im nums s n).2 ≤ n ∧ advM im nums s (advM im nums s n).2 = advM im nums s n ∧ ((advM im nums s n).2 < n → stepM im nums (advM im nums s n).1 = none)
  | 0 => ⟨Nat.le_refl _, rfl, fun h => absurd h (Nat.not_lt_zero _)⟩
  | n + 1 => by
    obtain ⟨h1, h2, h3⟩ := adv_inv n
    by_cases e : (advM im nums s n).2 = n
    · cases q : stepM im nums (advM im nums s n).1 with
      | none =>
        have : advM im nums s (n + 1) = advM im nums s n := by rw [advM, if_pos e, q]
        rw [this]
        exact ⟨by omega, h2, fun _ => q⟩
      | some t =>
        have : advM im nums s (n + 1) = (t, n + 1) := by rw [advM, if_pos e, q]
        rw [this]
        exact ⟨Nat.le_refl _, this, fun h => absurd h (Nat.lt_irrefl _)⟩
    · have : advM im nums s (n + 1) = advM im nums s n := by rw [advM, if_neg e]
      rw [this]
      exact ⟨by omega, h2, fun _ => h3 (by omega)⟩
theorem adv_end {n : Nat} (e : stepM im nums (advM im nums s n).1 = none) (j : Nat) : advM im nums s (n + j) = advM im nums s n := by
  obtain ⟨h1, h2, _⟩ := adv_inv (im := im) (nums := nums) (s := s) n
  have := adv_stop (i := (advM im nums s n).2) (t := (advM im nums s n).1) h2 e (n - (advM im nums s n).2 + j)
  rw [show (advM im nums s n).2 + (n - (advM im nums s n).2 + j) = n + j by omega] at this
  exact this
theorem adv_full {n i : Nat} (h : i ≤ (advM im nums s n).2) : (advM im nums s i).2 = i := by
  obtain ⟨h1, h2, h3⟩ := adv_inv (im := im) (nums := nums) (s := s) i
  by_cases e : (advM im nums s i).2 = i
  · exact e
  · have hz := h3 (by omega)
    obtain ⟨g1, _, _⟩ := adv_inv (im := im) (nums := nums) (s := s) n
    have := adv_end hz (n - i)
    rw [show i + (n - i) = n by omega] at this
    rw [this] at h
    omega
theorem adv_le {n i : Nat} (h : i ≤ n) : advM im nums s i = advM im nums s (min i (advM im nums s n).2) := by
  obtain ⟨h1, h2, h3⟩ := adv_inv (im := im) (nums := nums) (s := s) n
  by_cases c : i ≤ (advM im nums s n).2
  · rw [Nat.min_eq_left c]
  · rw [Nat.min_eq_right (by omega)]
    have hz := h3 (by omega)
    rw [← h2] at hz
    have := adv_end hz (i - (advM im nums s n).2)
    rw [show (advM im nums s n).2 + (i - (advM im nums s n).2) = i by omega] at this
    exact this
/-- an invariant of the steps -/
theorem adv_keep {P : Nat → MS → Prop} (h0 : P 0 s) (hs : ∀ i t t', P i t → stepM im nums t = some t' → P (i + 1) t') : ∀ n : Nat, P (advM im nums s n).2 (advM im nums s n).1
  | 0 => h0
  | n + 1 => by
    have ih := adv_keep h0 hs n
    by_cases e : (advM im nums s n).2 = n
    · cases q : stepM im nums (advM im nums s n).1 with
      | none =>
        have : advM im nums s (n + 1) = advM im nums s n := by rw [advM, if_pos e, q]
        rw [this]
        exact ih
      | some t =>
        have : advM im nums s (n + 1) = (t, n + 1) := by rw [advM, if_pos e, q]
        rw [this]
        rw [e] at ih
        exact hs n _ t ih q
    · have : advM im nums s (n + 1) = advM im nums s n := by rw [advM, if_neg e]
      rw [this]
      exact ih
end
theorem adv_n {im nums : List Int} {s : MS} (n : Nat) : (advM im nums s n).1.n = s.n + ((advM im nums s n).2 : Int) :=
  adv_keep (P := fun i t => t.n = s.n + (i : Int)) (by simp) (fun i t t' h e => by rw [step_n e, h]; omega) n
theorem adv_kn {im nums : List Int} {s : MS} (h : KN s.sd) (n : Nat) : KN (advM im nums s n).1.sd := adv_keep (P := fun _ t => KN t.sd) h (fun _ _ _ h e => step_kn h e) n
theorem adv_p {im nums : List Int} {s : MS} (h : 0 ≤ s.p) (n : Nat) : 0 ≤ (advM im nums s n).1.p := adv_keep (P := fun _ t => 0 ≤ t.p) h (fun _ _ _ h e => step_p h e) n
theorem adv_sz {im nums : List Int} {s : MS} {B : Nat} (h : Sz B s) (n : Nat) : Sz (B + 3 * (advM im nums s n).2) (advM im nums s n).1 := adv_keep (P := fun i t => Sz (B + 3 * i) t) (by simpa using h) (fun i t t' h e => (stepM_sz h e).mono (by omega)) n
theorem adv_sd {im nums : List Int} {s : MS} (n : Nat) : (advM im nums s n).1.sd.length ≤ s.sd.length + (advM im nums s n).2 := adv_keep (P := fun i t => t.sd.length ≤ s.sd.length + i) (by simp) (fun i t t' h e => by have := sd_step e; omega) n
theorem adv_bd {im nums : List Int} {s : MS} {B : Nat} (h1 : 1 ≤ B) (hi : ∀ x ∈ im, x.natAbs ≤ B) (hq : ∀ x ∈ nums, x.natAbs ≤ B) (h : Bd B s) (n : Nat) : Bd (B * 12 ^ (advM im nums s n).2) (advM im nums s n).1 :=
  adv_keep (P := fun i t => Bd (B * 12 ^ i) t) (by simpa using h) (fun i t t' h e => by
    have hp : 1 ≤ 12 ^ i := Nat.one_le_pow _ _ (by decide)
    have hb : B ≤ B * 12 ^ i := Nat.le_mul_of_pos_right B hp
    have hb1 : 1 ≤ B * 12 ^ i := Nat.le_trans h1 hb
    have := stepM_bd (B := B * 12 ^ i) hb1 (up_bd hi hb) (up_bd hq hb) h e
    have e2 : 11 * (B * 12 ^ i) + 1 ≤ B * 12 ^ (i + 1) := by
      have e3 : B * 12 ^ (i + 1) = B * 12 ^ i * 12 := by rw [Nat.pow_succ, Nat.mul_assoc]
      rw [e3]
      generalize B * 12 ^ i = z at *
      omega
    exact ⟨up_bd this.st e2, fun q m => ⟨Nat.le_trans (this.sd q m).1 e2, Nat.le_trans (this.sd q m).2 e2⟩, up_bd this.bk e2, up_bd this.ou e2, Nat.le_trans this.a e2, Nat.le_trans this.p e2⟩) n
/-- the states of a run, in plain form -/
def stD (im nums : List Int) (s : MS) (i : Nat) : PyData := plainD (plainM (advM im nums s i).1)
def stL (im nums : List Int) (s : MS) (k : Nat) : List PyData := (List.range (k + 1)).map (stD im nums s)
theorem stL_succ (im nums : List Int) (s : MS) (k : Nat) : stL im nums s (k + 1) = stL im nums s k ++ [stD im nums s (k + 1)] := by
  unfold stL
  rw [List.range_succ, List.map_append]
  rfl
theorem stL_len (im nums : List Int) (s : MS) (k : Nat) : (stL im nums s k).length = k + 1 := by unfold stL; rw [List.length_map, List.length_range]
theorem stL_at {im nums : List Int} {s : MS} {k i : Nat} (h : i ≤ k) : (stL im nums s k)[i]? = some (stD im nums s i) := by
  unfold stL
  rw [List.getElem?_map, List.getElem?_range (by omega)]
  rfl
theorem stL_tup (im nums : List Int) (s : MS) (k : Nat) : tupOs (stL im nums s k) = true := tupOs_at fun d m => by
  obtain ⟨i, _, rfl⟩ := List.mem_map.mp m
  exact plainD_tup _
end Gd

set_option Elab.async false
set_option linter.all false
set_option maxRecDepth 100000
set_option maxHeartbeats 4000000
/-! Of our own: runs and their states may be shown. -/
namespace Gd
open PySem PySem.Spec PyProof.Rows L2 Evl
theorem bulkAll_le {M : Nat} : ∀ {ds : List PyData}, (∀ d ∈ ds, d.bulk ≤ M) → PyData.bulkAll ds ≤ ds.length * (M + 1)
  | [], _ => by simp [PyData.bulkAll]
  | d :: r, h => by
    have ih := bulkAll_le (M := M) (ds := r) fun x m => h x (List.mem_cons_of_mem _ m)
    have h1 := h d List.mem_cons_self
    rw [PyData.bulkAll, List.length_cons, Nat.add_mul]
    omega
theorem depthAll_le {M : Nat} : ∀ {ds : List PyData}, (∀ d ∈ ds, d.depth ≤ M) → PyData.depthAll ds ≤ M
  | [], _ => by simp [PyData.depthAll]
  | d :: r, h => by
    have ih := depthAll_le (M := M) (ds := r) fun x m => h x (List.mem_cons_of_mem _ m)
    have h1 := h d List.mem_cons_self
    rw [PyData.depthAll]
    omega
theorem smDs_all : ∀ {ds : List PyData}, (∀ d ∈ ds, smD d = true) → smDs ds = true
  | [], _ => by simp [smDs]
  | d :: r, h => by rw [smDs, h d List.mem_cons_self, smDs_all fun x m => h x (List.mem_cons_of_mem _ m)]; rfl
theorem pow12 {i : Nat} (h : i ≤ 62) : 1000 * 12 ^ i < 10 ^ 100 := Nat.lt_of_le_of_lt (Nat.mul_le_mul_left 1000 (Nat.pow_le_pow_right (by decide) h)) (by decide)
section
variable {im nums : List Int} {i : Nat}
theorem bd0 : Bd 1000 ms0 := ⟨(fun x m => nomatch m), (fun x m => nomatch m), (fun x m => nomatch m), (fun x m => nomatch m), Nat.zero_le _, Nat.zero_le _⟩
theorem adv_small (hi : ∀ x ∈ im, x.natAbs ≤ 1000) (hq : ∀ x ∈ nums, x.natAbs ≤ 1000) (h : i ≤ 62) : ∃ B, B < 10 ^ 100 ∧ Bd B (advM im nums ms0 i).1 := by
  have h1 := (adv_inv (im := im) (nums := nums) (s := ms0) i).1
  exact ⟨_, pow12 (i := (advM im nums ms0 i).2) (by omega), adv_bd (by decide) hi hq bd0 i⟩
theorem adv_sizes (h : i ≤ 62) : (advM im nums ms0 i).1.st.length ≤ 186 ∧ (advM im nums ms0 i).1.sd.length ≤ 62 ∧ (advM im nums ms0 i).1.bk.length ≤ 186 ∧ (advM im nums ms0 i).1.ou.length ≤ 186 := by
  have h1 := (adv_inv (im := im) (nums := nums) (s := ms0) i).1
  have hz := adv_sz (im := im) (nums := nums) (s := ms0) (B := 0) ⟨Nat.zero_le _, Nat.zero_le _, Nat.zero_le _, Nat.zero_le _⟩ i
  have g1 := hz.st
  have g3 := hz.bk
  have g4 := hz.ou
  have h2 := adv_sd (im := im) (nums := nums) (s := ms0) i
  have : ms0.sd.length = 0 := rfl
  exact ⟨by omega, by omega, by omega, by omega⟩
theorem st_sm (hi : ∀ x ∈ im, x.natAbs ≤ 1000) (hq : ∀ x ∈ nums, x.natAbs ≤ 1000) (h : i ≤ 62) : smD (stD im nums ms0 i) = true := by
  obtain ⟨B, hB, hb⟩ := adv_small hi hq h
  exact sm_plain hb.plain hB
theorem st_bulk (h : i ≤ 62) : (stD im nums ms0 i).bulk ≤ 750 := by
  have hs := adv_sizes (im := im) (nums := nums) h
  have hp := pairsOf_len (advM im nums ms0 i).1.sd
  have e := bulk_plain (plainM (advM im nums ms0 i).1)
  unfold stD
  rw [e]
  show (advM im nums ms0 i).1.st.length + 3 * (Gd.pairsOf (advM im nums ms0 i).1.sd).length + (advM im nums ms0 i).1.bk.length + (advM im nums ms0 i).1.ou.length + 6 ≤ 750
  omega
theorem nice_st (hi : ∀ x ∈ im, x.natAbs ≤ 1000) (hq : ∀ x ∈ nums, x.natAbs ≤ 1000) (h : i ≤ 62) : Nice (stD im nums ms0 i) :=
  nice_sm (st_sm hi hq h) (Nat.le_trans (depth_plain _) (by decide)) (Nat.le_trans (st_bulk h) (by decide))
theorem nice_stL (hi : ∀ x ∈ im, x.natAbs ≤ 1000) (hq : ∀ x ∈ nums, x.natAbs ≤ 1000) (h : i ≤ 62) : Nice (.list (stL im nums ms0 i)) := by
  have hm : ∀ d ∈ stL im nums ms0 i, ∃ j, j ≤ 62 ∧ d = stD im nums ms0 j := fun d m => by
    obtain ⟨j, hj, rfl⟩ := List.mem_map.mp m
    have := List.mem_range.mp hj
    exact ⟨j, by omega, rfl⟩
  refine nice_sm ?_ ?_ ?_
  · rw [smD]
    exact smDs_all fun d m => by
      obtain ⟨j, hj, rfl⟩ := hm d m
      exact st_sm hi hq hj
  · rw [PyData.depth]
    have := depthAll_le (M := 3) (ds := stL im nums ms0 i) fun d m => by
      obtain ⟨j, hj, rfl⟩ := hm d m
      exact depth_plain _
    omega
  · rw [PyData.bulk]
    have := bulkAll_le (M := 750) (ds := stL im nums ms0 i) fun d m => by
      obtain ⟨j, hj, rfl⟩ := hm d m
      exact st_bulk hj
    rw [stL_len] at this
    have h2 : (i + 1) * (750 + 1) ≤ 63 * 751 := Nat.mul_le_mul_right _ (by omega)
    omega
theorem nice_list {ns : List Int} (h : ∀ x ∈ ns, x.natAbs < 10 ^ 100) (hl : ns.length ≤ 90000) : Nice (.list (ns.map PyData.int)) :=
  nice_sm (by rw [smD]; exact smDs_ints h) (by rw [PyData.depth, depth_ints]; decide) (by rw [PyData.bulk, bulk_ints]; omega)
end
section
variable {K : PySem.W.Frag} {H : Hp} {σ : L2.St} {te ta tb : TE} {o : Option PS}
/-- .. is None -/
theorem ev_isNoneD (h : EvD K te σ H (optD o)) : Ev (tOp (fun x y H Q => y = .non ∧ Q (.bl (decide (x = .non))) H) te (tC .non)) σ H (.bl o.isNone) := fun H1 e Q q =>
  h H1 e _ fun v H2 e2 hv => by
    refine ⟨rfl, ?_⟩
    have : decide (v = .non) = o.isNone := by
      cases o with
      | none =>
        have hv : Dp K H2 v .none := hv
        cases hv
        rfl
      | some t =>
        have hv : Dp K H2 v (plainD t) := hv
        obtain ⟨r, zs, rfl, _⟩ := dp_tup_inv hv
        rfl
    rw [this]
    exact q H2 e2
end
theorem step_none {im nums : List Int} {s : MS} : (stepM im nums s).isNone = (nodeAt im s.a).isNone := by
  unfold stepM
  cases nodeAt im s.a <;> rfl
end Gd

set_option Elab.async false
set_option linter.all false
set_option maxRecDepth 100000
set_option maxHeartbeats 4000000
/-! Of our own: calls with keywords that may raise. -/
namespace Gd
open PySem PySem.Spec PyProof.Rows L2 Evl
def tCallNS (n m : Nat) (sp : Sp) (gV : List V → List V → List V) (E : L2.St → XK) (t tk : TA) : TE := fun σ H Q => t σ H fun vs H1 => tk σ H1 fun zs H2 => vs.length = n ∧ zs.length = m ∧ sp (gV vs zs) H2 Q (E σ)
def tMethN0S (C : Addr) (m : Str) (n : Nat) (sp : Sp) (gV : List V → List V → List V) (E : L2.St → XK) (ta : TE) (tk : TA) : TE := fun σ H Q => ta σ H fun x H1 => ∃ a dx fs, x = .ref a ∧ H1 a = some (.ins C dx fs) ∧ fs.lookup m = none ∧
  tk σ H1 fun zs H2 => zs.length = n ∧ sp (gV [.ref a] zs) H2 Q (E σ)
section
variable {X : Cx} {CX : CXT} {k n : Nat} {f C : Addr} {fd : FuncData} {ps ks : List Str} {sp : Sp} {E : L2.St → XK} {x m : Str} {p pos apos : Pos} {o e : Expr} {es : List Expr} {kws : List Keyword} {ta : TE} {t tk : TA} {g : List Value → List Value → List Value} {gV : List V → List V → List V}
theorem run_fnNS {pins : List (Addr × Obj)} {σ : L2.St} {H : Hp} {s : Shared} {Q : VK} {us ws : List Value} {vs zs : List V} (F : FnOk X.prog X.w X.K X.mg X.base CX k f fd ps sp) (hr : Room k X.A) (hb : KBn X.K fd ps n ks g gV) (hx : PassesAt CX X σ (E σ))
    (I : Inv X pins σ H s) (r : Vals vs us) (rz : Vals zs ws) (l1 : vs.length = n) (l2 : zs.length = ks.length) (h : sp (gV vs zs) H Q (E σ)) : wpAny (model X.prog X.w) X.A (call (.ref f) us (ks.zip ws)) (EP X pins σ Q) X.xe s := by
  have r2 := hb.rel r rz
  refine wpAny_call (codeAny_mono (F.run X.A X.stack s H ⟨us, ks.zip ws⟩ (g us ws) (gV vs zs) Q (E σ) hr I.env0 (hb.to s us ws I.kIn (r.length.symm.trans l1) (rz.length.symm.trans l2)) r2 h) fun r s' hq => ?_)
  cases r with
  | error e => exact hx pins H s e s' I hq
  | ok fl =>
    cases fl with
    | ret u => exact I.after hq
    | next => exact False.elim hq
    | brk => exact False.elim hq
    | cont => exact False.elim hq
theorem pe_callNS (F : FnOk X.prog X.w X.K X.mg X.base CX k f fd ps sp) (hr : Room k X.A) (hg : Gl X x) (hm : X.mg x = some (.ref f)) (hk : PySem.W.keepIn X.K (.ref f) = true) (hb : KBn X.K fd ps n ks g gV) (hx : ∀ σ, PassesAt CX X σ (E σ))
    (ha : PA X (e :: es) t) (hkw : PK X kws tk) (hall : (backToKw pos (keywordEach kws X.env)).all (·.1.isSome) = true := by rfl) (hks : (backToKw pos (keywordEach kws X.env)).filterMap (·.1) = ks := by rfl)
    (hdb : (x == ("__debug__" : Str)) = false := by decide) (he : starEach (e :: es) X.env = (false, eval e X.env) :: starEach es X.env := by rfl)
    (hpl : ((backTo pos (starEach (e :: es) X.env)).any (·.1) || (backToKw pos (keywordEach kws X.env)).any (·.1.isNone)) = false := by rfl) :
    PE X (.Call (.Name x p) (e :: es) kws pos) (tCallNS n ks.length sp gV E t tk) := by
  refine ⟨fun pins s σ H Q I h => ?_⟩
  refine wpAny_Call_Name_kw (ld_glob I hg hm ?_ hdb)
  refine PySem.W.callWith_KW (h₀ := X.base) I.ok.mod.kin hk hall (thn (ha.run pos pins s σ H _ I h) fun us s1 ⟨vs, H1, I1, r, q⟩ => ?_) hpl he
  refine thn (hkw.run pos pins s1 σ H1 _ I1 q) fun ws s2 ⟨zs, H2, I2, rz, l1, l2, q2⟩ => ⟨I2.kIn, ?_⟩
  rw [hks]
  exact run_fnNS F hr hb (hx σ) I2 r rz l1 l2 q2
theorem pe_methN0S {pl : Sem Bool} (he : PE X o ta) (c : Cls X.K C) (hm : Meth X.K C m f) (F : FnOk X.prog X.w X.K X.mg X.base CX k f fd ps sp) (hr : Room k X.A) (hb : KBn X.K fd ps 1 ks g gV) (hx : ∀ σ, PassesAt CX X σ (E σ)) (hkw : PK X kws tk)
    (hall : (backToKw pos (keywordEach kws X.env)).all (·.1.isSome) = true := by rfl) (hks : (backToKw pos (keywordEach kws X.env)).filterMap (·.1) = ks := by rfl)
    (hpl : ((backTo pos (starEach [] X.env)).any (·.1) || (backToKw pos (keywordEach kws X.env)).any (·.1.isNone)) = false := by rfl)
    (ht : eval (.Call (.Attribute o m apos) [] kws pos) X.env = (do
      let ov ← eval o X.env
      standAt apos.atName
      let (f, first) ← holding [ov] (getMethod ov m pl)
      callWith pos f first (backTo pos (starEach [] X.env)) (backToKw pos (keywordEach kws X.env))) := by rfl) :
    PE X (.Call (.Attribute o m apos) [] kws pos) (tMethN0S C m ks.length sp gV E ta tk) := by
  refine ⟨fun pins s σ H Q I h => ?_⟩
  refine PySem.W.methodCall_KW (pl := pl) (thn (he.run pins s σ H _ I h) fun u s1 ⟨x, H1, I1, rx, a, dx, fs, ex, ea, l, q⟩ => ?_) ht
  subst ex
  obtain rfl : u = Value.ref a := rx
  refine getmeth_ok I1 ea c hm l ?_
  refine PySem.W.callWith_KW0 (first := [.ref a]) (h₀ := X.base) I.ok.mod.kin hm.kp hall ?_ hpl
  refine thn (hkw.run pos pins s1 σ H1 _ I1 q) fun ws s2 ⟨zs, H2, I2, rz, l2, q2⟩ => ⟨I2.kIn, ?_⟩
  rw [hks]
  exact run_fnNS (us := [.ref a]) (vs := [.ref a]) F hr hb (hx σ) I2 (.cons rfl .nil) rz rfl l2 q2
end
section
variable {K : PySem.W.Frag} {H : Hp} {σ : L2.St} {ta : TE} {t tk : TA} {sp : Sp} {gV : List V → List V → List V} {E : L2.St → XK} {P : V → Hp → Prop} {n m : Nat}
theorem ep_callS {vs : List V} (h : EvA t σ H vs) (hs : ∀ H1, Ex H H1 → ∀ Q : VK, (∀ v H', P v H' → Q v H') → sp vs H1 Q (E σ)) : EvP (tCallS sp E t) σ H P := fun Q q => h H (Ex.refl H) _ fun H1 e1 => hs H1 e1 Q q
theorem ep_callNS {vs zs : List V} (h1 : EvA t σ H vs) (h2 : EvA tk σ H zs) (l1 : vs.length = n) (l2 : zs.length = m) (hs : ∀ H1, Ex H H1 → ∀ Q : VK, (∀ v H', P v H' → Q v H') → sp (gV vs zs) H1 Q (E σ)) : EvP (tCallNS n m sp gV E t tk) σ H P := fun Q q =>
  h1 H (Ex.refl H) _ fun H1 e1 => h2 H1 e1 _ fun H2 e2 => ⟨l1, l2, hs H2 (e1.trans e2) Q q⟩
theorem ep_methN0S {C a dx : Addr} {fs : List (Str × V)} {mm : Str} {zs : List V} (ha : Ev ta σ H (.ref a)) (ho : H a = some (.ins C dx fs)) (hl : fs.lookup mm = none) (hk : EvA tk σ H zs) (lz : zs.length = n) (hs : ∀ H1, Ex H H1 → ∀ Q : VK, (∀ v H', P v H' → Q v H') → sp (gV [.ref a] zs) H1 Q (E σ)) : EvP (tMethN0S C mm n sp gV E ta tk) σ H P := fun Q q =>
  ha H (Ex.refl H) _ fun H1 e1 => ⟨a, dx, fs, rfl, e1 _ _ ho, hl, hk H1 e1 _ fun H2 e2 => ⟨lz, hs H2 (e1.trans e2) Q q⟩⟩
end
end Gd

set_option Elab.async false
set_option linter.all false
set_option maxRecDepth 100000
set_option maxHeartbeats 4000000
/-! Of our own: what a step changes, by its footprint. -/
namespace Gd
open PySem PySem.Spec PyProof.Rows L2 Evl
theorem tk0 (l : List Int) : l = l.take (l.length - 0) := by rw [Nat.sub_zero, List.take_length]
theorem tk1 (l : List Int) : l.dropLast = l.take (l.length - 1) := List.dropLast_eq_take
theorem tk2 (l : List Int) : l.dropLast.dropLast = l.take (l.length - 2) := by
  rw [List.dropLast_eq_take, List.length_dropLast, tk1, List.take_take]
  congr 1
  omega
/-- the stack behind a step: what is left, and what was pushed -/
def ysL (im nums : List Int) (n : Nd) (s : MS) : List Int :=
  if n.1 = 35 then [n.2.1]
  else if n.1 = 43 ∨ n.1 = 45 ∨ n.1 = 42 ∨ n.1 = 60 ∨ n.1 = 126 then [combI n.1 (tp s.st.dropLast) (tp s.st)]
  else if n.1 = 34 then [tp s.st, tp s.st]
  else if n.1 = 92 then [tp s.st, tp s.st.dropLast]
  else if n.1 = 64 then [lk s.sd (tp s.st)]
  else if n.1 = 44 then [if s.p < nums.length then (atI nums s.p).getD 0 else -1]
  else if n.1 = 38 then [cellAt im (tp s.st)]
  else if n.1 = 36 then (if canC im (tp s.st) = true then [] else [tp s.st])
  else if isSm n.1 = true then [lk s.sd n.1]
  else []
theorem law_st (im nums : List Int) (n : Nd) (s : MS) : (lawM im nums n s).st = s.st.take (s.st.length - (popL n.1).toNat) ++ ysL im nums n s ∧ ((ysL im nums n s).length : Int) = pushL im n.1 (tp s.st) := by
  obtain ⟨op, arg, su⟩ := n
  obtain ⟨a, st, sd, bk, p, ou, k⟩ := s
  have n0 : ∀ ys : List Int, ys = [] → ∀ l : List Int, l = l.take (l.length - 0) ++ ys := fun ys h l => by rw [h, List.append_nil]; exact tk0 l
  by_cases h35 : op = 35
  · subst h35; exact ⟨congrArg (· ++ [arg]) (tk0 st), rfl⟩
  by_cases h43 : op = 43
  · subst h43; exact ⟨congrArg (· ++ [combI 43 (tp st.dropLast) (tp st)]) (tk2 st), rfl⟩
  by_cases h45 : op = 45
  · subst h45; exact ⟨congrArg (· ++ [combI 45 (tp st.dropLast) (tp st)]) (tk2 st), rfl⟩
  by_cases h42 : op = 42
  · subst h42; exact ⟨congrArg (· ++ [combI 42 (tp st.dropLast) (tp st)]) (tk2 st), rfl⟩
  by_cases h60 : op = 60
  · subst h60; exact ⟨congrArg (· ++ [combI 60 (tp st.dropLast) (tp st)]) (tk2 st), rfl⟩
  by_cases h126 : op = 126
  · subst h126; exact ⟨congrArg (· ++ [combI 126 (tp st.dropLast) (tp st)]) (tk2 st), rfl⟩
  by_cases h64 : op = 64
  · subst h64; exact ⟨congrArg (· ++ [lk sd (tp st)]) (tk1 st), rfl⟩
  by_cases h33 : op = 33
  · subst h33; exact ⟨by show st.dropLast.dropLast = st.take (st.length - 2) ++ []; rw [List.append_nil]; exact tk2 st, rfl⟩
  by_cases h61 : op = 61
  · subst h61; exact ⟨by show st.dropLast = st.take (st.length - 1) ++ []; rw [List.append_nil]; exact tk1 st, rfl⟩
  by_cases h44 : op = 44
  · subst h44
    refine ⟨?_, rfl⟩
    show (lsP im nums 44 st p ou).1 = st.take (st.length - 0) ++ [if p < nums.length then (atI nums p).getD 0 else -1]
    unfold lsP
    rw [if_pos rfl]
    by_cases h : p < (nums.length : Int)
    · rw [if_pos h, if_pos h]; exact congrArg (· ++ [(atI nums p).getD 0]) (tk0 st)
    · rw [if_neg h, if_neg h]; exact congrArg (· ++ [-1]) (tk0 st)
  by_cases h94 : op = 94
  · subst h94; exact ⟨n0 _ rfl st, rfl⟩
  by_cases h46 : op = 46
  · subst h46; exact ⟨by show st.dropLast = st.take (st.length - 1) ++ []; rw [List.append_nil]; exact tk1 st, rfl⟩
  by_cases h38 : op = 38
  · subst h38; exact ⟨congrArg (· ++ [cellAt im (tp st)]) (tk1 st), rfl⟩
  by_cases h95 : op = 95
  · subst h95; exact ⟨by show st.dropLast = st.take (st.length - 1) ++ []; rw [List.append_nil]; exact tk1 st, rfl⟩
  by_cases h34 : op = 34
  · subst h34; exact ⟨by show st.dropLast ++ [tp st] ++ [tp st] = st.take (st.length - 1) ++ [tp st, tp st]; rw [← tk1, List.append_assoc]; rfl, rfl⟩
  by_cases h92 : op = 92
  · subst h92; exact ⟨by show st.dropLast.dropLast ++ [tp st] ++ [tp st.dropLast] = st.take (st.length - 2) ++ [tp st, tp st.dropLast]; rw [← tk2, List.append_assoc]; rfl, rfl⟩
  by_cases h63 : op = 63
  · subst h63; exact ⟨by show st.dropLast = st.take (st.length - 1) ++ []; rw [List.append_nil]; exact tk1 st, rfl⟩
  by_cases h40 : op = 40
  · subst h40; exact ⟨by show st.dropLast = st.take (st.length - 1) ++ []; rw [List.append_nil]; exact tk1 st, rfl⟩
  by_cases h36 : op = 36
  · subst h36
    refine ⟨?_, ?_⟩
    · show (lsC im 36 arg su st bk).1 = st.take (st.length - 1) ++ (if canC im (tp st) = true then [] else [tp st])
      unfold lsC
      rw [if_neg (by decide), if_neg (by decide), if_neg (by decide), if_pos rfl]
      by_cases h : canC im (tp st) = true
      · rw [if_pos h, if_pos h, List.append_nil]; exact tk1 st
      · rw [if_neg h, if_neg h]; exact congrArg (· ++ [tp st]) (tk1 st)
    · show ((if canC im (tp st) = true then ([] : List Int) else [tp st]).length : Int) = pushL im 36 (tp st)
      unfold pushL
      cases h : canC im (tp st) with
      | true => rfl
      | false => rfl
  by_cases h41 : op = 41
  · subst h41
    refine ⟨?_, rfl⟩
    show (lsC im 41 arg su st bk).1 = st.take (st.length - 0) ++ []
    unfold lsC
    rw [if_neg (by decide), if_neg (by decide), if_neg (by decide), if_neg (by decide), if_pos rfl]
    cases bk.getLast? <;> exact n0 _ rfl st
  have p2 : inP2 op = false := by unfold inP2; simp [h43, h45, h42, h60, h126, h33, h92]
  have p1 : inP1 op = false := by unfold inP1; simp [h64, h61, h46, h38, h95, h34, h63, h40, h36]
  have u1 : inU1 op = false := by unfold inU1; simp [h35, h43, h45, h42, h60, h126, h64, h44, h38]
  have ep : (popL op).toNat = 0 := by unfold popL; rw [p2, p1]; rfl
  have es : lsS op arg st = st := by
    unfold lsS inStk
    simp only [h35, h43, h45, h42, h60, h126, h95, h34, h92, or_self, decide_false, if_false]
    rfl
  have e1 : isSm op = (decide (97 ≤ op) && decide (op ≤ 122)) := rfl
  by_cases hs : isSm op = true
  · have hc : ¬ (decide (65 ≤ op) && decide (op ≤ 90)) = true := by rw [e1] at hs; simp at hs ⊢; omega
    have et : lsT op arg st sd = (st ++ [lk sd op], sd) := by
      unfold lsT
      rw [e1] at hs
      rw [if_neg h64, if_neg h33, if_neg h61, if_pos hs]
      rfl
    have epp : (lsP im nums op (st ++ [lk sd op]) p ou).1 = st ++ [lk sd op] := by
      unfold lsP
      rw [if_neg h44, if_neg h94, if_neg h46, if_neg h38]
    have ecc : (lsC im op arg su (st ++ [lk sd op]) bk).1 = st ++ [lk sd op] := by
      unfold lsC
      rw [if_neg h63, if_neg hc, if_neg h40, if_neg h36, if_neg h41]
    have ey : ysL im nums (op, arg, su) ⟨a, st, sd, bk, p, ou, k⟩ = [lk sd op] := by
      unfold ysL
      simp only [h35, h43, h45, h42, h60, h126, h34, h92, h64, h44, h38, h36, or_self, if_false, hs, if_true]
    rw [ey]
    refine ⟨?_, ?_⟩
    · show (lsC im op arg su (lsP im nums op (lsT op arg (lsS op arg st) sd).1 p ou).1 bk).1 = st.take (st.length - (popL op).toNat) ++ [lk sd op]
      rw [es, et, epp, ecc, ep]
      exact congrArg (· ++ [lk sd op]) (tk0 st)
    · show (1 : Int) = pushL im op (tp st)
      unfold pushL
      rw [u1, hs]
      rfl
  · have hs' : isSm op = false := by simpa using hs
    have et : lsT op arg st sd = (st, sd) := by
      unfold lsT
      rw [e1] at hs
      rw [if_neg h64, if_neg h33, if_neg h61, if_neg hs]
    have epp : (lsP im nums op st p ou).1 = st := by
      unfold lsP
      rw [if_neg h44, if_neg h94, if_neg h46, if_neg h38]
    have ecc : (lsC im op arg su st bk).1 = st := by
      unfold lsC
      rw [if_neg h63]
      by_cases hc : (decide (65 ≤ op) && decide (op ≤ 90)) = true
      · rw [if_pos hc]
      · rw [if_neg hc, if_neg h40, if_neg h36, if_neg h41]
    have ey : ysL im nums (op, arg, su) ⟨a, st, sd, bk, p, ou, k⟩ = [] := by
      unfold ysL
      simp only [h35, h43, h45, h42, h60, h126, h34, h92, h64, h44, h38, h36, or_self, if_false, hs']
      rfl
    rw [ey]
    refine ⟨?_, ?_⟩
    · show (lsC im op arg su (lsP im nums op (lsT op arg (lsS op arg st) sd).1 p ou).1 bk).1 = st.take (st.length - (popL op).toNat) ++ []
      rw [es, et, epp, ecc, ep]
      exact n0 _ rfl st
    · show (0 : Int) = pushL im op (tp st)
      unfold pushL
      rw [u1, hs', decide_eq_false h34, decide_eq_false h92, decide_eq_false h36]
      rfl
theorem law_sd (im nums : List Int) (n : Nd) (s : MS) (k : Int) (h : lk (lawM im nums n s).sd k ≠ lk s.sd k) : wrM n.1 n.2.1 (tp s.st) = some k := by
  obtain ⟨op, arg, su⟩ := n
  have h : lk (lsT op arg (lsS op arg s.st) s.sd).2 k ≠ lk s.sd k := h
  unfold wrM
  unfold lsT at h
  by_cases h64 : op = 64
  · rw [if_pos h64] at h
    exact absurd rfl h
  rw [if_neg h64] at h
  by_cases h33 : op = 33
  · subst h33
    rw [if_pos rfl] at h
    have h : lk (putI s.sd (tp s.st) _) k ≠ lk s.sd k := h
    rw [lk_put] at h
    show some (tp s.st) = some k
    by_cases e : k = tp s.st
    · rw [e]
    · rw [if_neg e] at h
      exact absurd rfl h
  rw [if_neg h33] at h
  show (if op = 33 then some (tp s.st) else if op = 61 then some arg else none) = some k
  rw [if_neg h33]
  by_cases h61 : op = 61
  · subst h61
    rw [if_pos rfl] at h
    have h : lk (putI s.sd arg _) k ≠ lk s.sd k := h
    rw [lk_put] at h
    rw [if_pos rfl]
    by_cases e : k = arg
    · rw [e]
    · rw [if_neg e] at h
      exact absurd rfl h
  rw [if_neg h61] at h
  split at h <;> exact absurd rfl h
theorem law_p (im nums : List Int) (n : Nd) (s : MS) : (lawM im nums n s).p = if (decide (n.1 = 44) && decide (s.p < nums.length)) = true then s.p + 1 else if n.1 = 94 then 0 else s.p := by
  obtain ⟨op, arg, su⟩ := n
  show (lsP im nums op _ s.p s.ou).2.1 = if (decide (op = 44) && decide (s.p < nums.length)) = true then s.p + 1 else if op = 94 then 0 else s.p
  unfold lsP
  by_cases h44 : op = 44
  · subst h44
    rw [if_pos rfl]
    by_cases h : s.p < (nums.length : Int)
    · rw [if_pos h, if_pos (by simpa using h)]
    · rw [if_neg h, if_neg (by simpa using h), if_neg (by decide)]
  · have hn : ¬ (decide (op = 44) && decide (s.p < nums.length)) = true := by rw [decide_eq_false h44]; exact Bool.false_ne_true
    rw [if_neg h44, if_neg hn]
    by_cases h94 : op = 94
    · rw [if_pos h94, if_pos h94]
    · rw [if_neg h94, if_neg h94]
      by_cases h46 : op = 46
      · rw [if_pos h46]
      · rw [if_neg h46]
        by_cases h38 : op = 38
        · rw [if_pos h38]
        · rw [if_neg h38]
theorem law_ou (im nums : List Int) (n : Nd) (s : MS) : (lawM im nums n s).ou = s.ou ∨ ∃ x, (lawM im nums n s).ou = s.ou ++ [x] := by
  obtain ⟨op, arg, su⟩ := n
  show (lsP im nums op _ s.p s.ou).2.2 = s.ou ∨ ∃ x, (lsP im nums op _ s.p s.ou).2.2 = s.ou ++ [x]
  unfold lsP
  repeat' split
  all_goals first | exact .inl rfl | exact .inr ⟨_, rfl⟩
theorem law_bk (im nums : List Int) (n : Nd) (s : MS) : (lawM im nums n s).bk = s.bk ∨ (∃ x, (lawM im nums n s).bk = s.bk ++ [x]) ∨ (s.bk ≠ [] ∧ (lawM im nums n s).bk = s.bk.dropLast) := by
  obtain ⟨op, arg, su⟩ := n
  show (lsC im op arg su _ s.bk).2.1 = s.bk ∨ (∃ x, (lsC im op arg su _ s.bk).2.1 = s.bk ++ [x]) ∨ (s.bk ≠ [] ∧ (lsC im op arg su _ s.bk).2.1 = s.bk.dropLast)
  unfold lsC
  split
  · exact .inl rfl
  split
  · exact .inr (.inl ⟨_, rfl⟩)
  split
  · exact .inr (.inl ⟨_, rfl⟩)
  split
  · split
    · exact .inr (.inl ⟨_, rfl⟩)
    · exact .inl rfl
  split
  · cases e : s.bk.getLast? with
    | none => exact .inl rfl
    | some b =>
      refine .inr (.inr ⟨?_, rfl⟩)
      rintro z
      rw [z] at e
      cases e
  · exact .inl rfl
/-! ### slices of tuples, the whole of them too -/
section
variable {K : PySem.W.Frag} {H : Hp} {σ : L2.St} {te ta tb : TE}
theorem ed_slA {tl th : TO} {ds : List PyData} {lo hi : Option Int} (h : EvD K te σ H (.tuple ds)) (h1 : EvO tl σ H lo) (h2 : EvO th σ H hi) : EvD K (tSl (rSlA K) te tl th) σ H (.tuple (cutD ds lo hi)) := fun H1 e _ q =>
  h H1 e _ fun v H2 e2 hd => h1 H2 (e.trans e2) _ fun H3 e3 => h2 H3 ((e.trans e2).trans e3) _ fun H4 e4 => by
    obtain ⟨a, xs, rfl, g1, g2⟩ := dp_tup_inv hd
    refine ⟨a, xs, rfl, ex_t (e3.trans e4) g1, fun hw => ?_, fun hn p hp => q _ _ (((e2.trans e3).trans e4).trans (Ex.new hp)) (.tup (st_of upd_same) ((g2.ex (e3.trans e4)).cut lo hi |>.ex (Ex.new hp)))⟩
    have e5 : cutD ds lo hi = ds := by
      unfold cutD
      rw [dpAll_len g2] at hw
      rw [hw.1, hw.2, List.drop_zero, Nat.sub_zero, List.take_length]
    exact q _ _ ((e2.trans e3).trans e4) (by rw [e5]; exact hd.ex (e3.trans e4))
theorem shaped_intsT (ns : List Int) : SeqAt.shaped (.tuple (ns.map PyData.int)) = true := by
  unfold SeqAt.shaped
  rw [PyData.canLay0, can_ints, PyData.depth, depth_ints]
  rfl
theorem eqv_intsT (ns ms : List Int) : PyData.eqv (.tuple (ns.map PyData.int)) (.tuple (ms.map PyData.int)) = decide (ns = ms) := by rw [PyData.eqv, eqv_ints]
/-- two tuples of ints differ -/
theorem ev_neT {ns ms : List Int} (ha : EvD K ta σ H (.tuple (ns.map PyData.int))) (hb : EvD K tb σ H (.tuple (ms.map PyData.int))) : Ev (tOp (rNeD K) ta tb) σ H (.bl (!decide (ns = ms))) := by
  rw [← eqv_intsT]
  exact ev_neD ha hb (shaped_intsT ns) (shaped_intsT ms)
theorem cutD_take (ns : List Int) (k : Nat) (h : k ≤ ns.length) : cutD (ns.map PyData.int) none (some (k : Int)) = (ns.take k).map PyData.int := by
  unfold cutD
  rw [List.length_map]
  have e1 : HT.sIx ns.length 0 none = 0 := rfl
  have e2 : HT.sIx ns.length ns.length (some (k : Int)) = k := by
    rw [HT.sIx_nat]
    omega
  rw [e1, e2, List.drop_zero, Nat.sub_zero, List.map_take]
end
end Gd

set_option Elab.async false
set_option linter.all false
set_option maxRecDepth 100000
set_option maxHeartbeats 4000000
/-! Of our own: how many addresses a run can write. -/
namespace Gd
open PySem PySem.Spec PyProof.Rows L2 Evl
def nzs (l : List Int) : Nat := (l.filter fun x => decide (x ≠ 0)).length
def oth (args : List Int) (sd : List (Int × Int)) : Nat := ((sd.map (·.1)).filter fun k => decide (k ∉ (0 :: args))).length
theorem nzs_app (l m : List Int) : nzs (l ++ m) = nzs l + nzs m := by unfold nzs; rw [List.filter_append, List.length_append]
theorem nzs_one (x : Int) : nzs [x] = if x = 0 then 0 else 1 := by
  unfold nzs
  by_cases h : x = 0
  · rw [if_pos h, List.filter_cons_of_neg (by simpa using h)]; rfl
  · rw [if_neg h, List.filter_cons_of_pos (by simpa using h)]; rfl
theorem nzs_take (l : List Int) (k : Nat) : nzs (l.take k) ≤ nzs l := by
  have := nzs_app (l.take k) (l.drop k)
  rw [List.take_append_drop] at this
  omega
theorem nzs_drop (l : List Int) : nzs l.dropLast + (if tp l = 0 then 0 else 1) = nzs l := by
  by_cases h : l = []
  · subst h; rfl
  · have e := List.dropLast_concat_getLast h
    have ht : tp l = l.getLast h := by unfold tp; rw [List.getLast?_eq_some_getLast h]; rfl
    rw [ht, ← nzs_one, ← nzs_app, e]
theorem nzs_len (l : List Int) : nzs l ≤ l.length := List.length_filter_le _ _
theorem nodup_sub : ∀ {l m : List Int}, l.Nodup → (∀ x ∈ l, x ∈ m) → l.length ≤ m.length
  | [], _, _, _ => Nat.zero_le _
  | a :: r, m, h, hs => by
    have hm := hs a List.mem_cons_self
    have hn := List.nodup_cons.mp h
    have ih := nodup_sub (l := r) (m := m.erase a) hn.2 fun x hx => by
      have hx' := hs x (List.mem_cons_of_mem _ hx)
      have : x ≠ a := fun z => hn.1 (by rw [← z]; exact hx)
      exact (List.mem_erase_of_ne this).mpr hx'
    rw [List.length_erase_of_mem hm] at ih
    have : 0 < m.length := List.length_pos_of_mem hm
    rw [List.length_cons]
    omega
theorem oth_put (args : List Int) (sd : List (Int × Int)) (k v : Int) : oth args (putI sd k v) ≤ oth args sd + (if k ∈ (0 :: args) then 0 else 1) := by
  unfold oth
  rw [put_keys]
  split
  · omega
  · rw [List.filter_append, List.length_append]
    have : (([k] : List Int).filter fun k => decide (k ∉ (0 :: args))).length ≤ (if k ∈ (0 :: args) then 0 else 1) := by
      by_cases m : k ∈ (0 :: args)
      · rw [if_pos m, List.filter_cons_of_neg (by rw [decide_eq_false (not_not_intro m)]; exact Bool.false_ne_true)]; exact Nat.le_refl _
      · rw [if_neg m, List.filter_cons_of_pos (by exact decide_eq_true m)]; exact Nat.le_refl _
    omega
def argsOf (im : List Int) : List Int := (rowsOf im).map fun r => r.2.2.1
theorem node_arg {im : List Int} {k : Int} {n : Nd} (e : nodeAt im k = some n) : n.2.1 ∈ argsOf im := by
  rcases nodeIn_mem (rowsOf im) none e with z | ⟨r, hr, rfl⟩
  · cases z
  · exact List.mem_map.mpr ⟨r, hr, rfl⟩
theorem lawM_sd (im nums : List Int) (n : Nd) (s : MS) : (lawM im nums n s).sd = if n.1 = 33 then putI s.sd (tp s.st) (tp s.st.dropLast) else if n.1 = 61 then putI s.sd n.2.1 (tp s.st) else s.sd := by
  obtain ⟨op, arg, su⟩ := n
  show (lsT op arg (lsS op arg s.st) s.sd).2 = if op = 33 then putI s.sd (tp s.st) (tp s.st.dropLast) else if op = 61 then putI s.sd arg (tp s.st) else s.sd
  unfold lsT
  by_cases h64 : op = 64
  · subst h64; rfl
  rw [if_neg h64]
  by_cases h33 : op = 33
  · subst h33; rfl
  rw [if_neg h33, if_neg h33]
  by_cases h61 : op = 61
  · subst h61; rfl
  rw [if_neg h61, if_neg h61]
  split <;> rfl
/-- the measure of a state -/
def phi (im : List Int) (s : MS) : Nat := 2 * oth (argsOf im) s.sd + nzs s.st
theorem ys_le (im nums : List Int) (n : Nd) (s : MS) (h33 : n.1 ≠ 33) : nzs (s.st.take (s.st.length - (popL n.1).toNat)) + nzs (ysL im nums n s) ≤ nzs s.st + 1 := by
  obtain ⟨op, arg, su⟩ := n
  have one : ∀ (x : Int) (k : Nat), nzs (s.st.take k) + nzs [x] ≤ nzs s.st + 1 := fun x k => by
    have h1 := nzs_take s.st k
    have h2 : nzs [x] ≤ 1 := nzs_len [x]
    omega
  have zero : ∀ k : Nat, nzs (s.st.take k) + nzs [] ≤ nzs s.st + 1 := fun k => by
    have h1 := nzs_take s.st k
    have h2 : nzs [] = 0 := rfl
    omega
  unfold ysL
  dsimp only
  by_cases h35 : op = 35
  · rw [if_pos h35]; exact one _ _
  rw [if_neg h35]
  split
  · exact one _ _
  by_cases h34 : op = 34
  · rw [if_pos h34]
    subst h34
    show nzs (s.st.take (s.st.length - 1)) + nzs [tp s.st, tp s.st] ≤ _
    have h1 := nzs_drop s.st
    have h2 : nzs [tp s.st, tp s.st] = nzs [tp s.st] + nzs [tp s.st] := nzs_app [tp s.st] [tp s.st]
    rw [← tk1, h2, nzs_one]
    split at h1 <;> simp_all <;> omega
  rw [if_neg h34]
  by_cases h92 : op = 92
  · rw [if_pos h92]
    subst h92
    show nzs (s.st.take (s.st.length - 2)) + nzs [tp s.st, tp s.st.dropLast] ≤ _
    have h1 := nzs_drop s.st
    have h3 := nzs_drop s.st.dropLast
    have h2 : nzs [tp s.st, tp s.st.dropLast] = nzs [tp s.st] + nzs [tp s.st.dropLast] := nzs_app [tp s.st] [tp s.st.dropLast]
    rw [← tk2, h2, nzs_one, nzs_one]
    omega
  rw [if_neg h92]
  repeat' split
  all_goals first | exact one _ _ | exact zero _
theorem phi_step {im nums : List Int} {s s' : MS} (e : stepM im nums s = some s') : phi im s' ≤ phi im s + 1 := by
  rw [stepM_law] at e
  cases q : nodeAt im s.a with
  | none => rw [q] at e; cases e
  | some n =>
    rw [q] at e
    have e : lawM im nums n (goM s n) = s' := Option.some.inj e
    have hst := (law_st im nums n (goM s n)).1
    have hsd := lawM_sd im nums n (goM s n)
    have ha := node_arg q
    rw [e] at hst hsd
    have hst : s'.st = s.st.take (s.st.length - (popL n.1).toNat) ++ ysL im nums n (goM s n) := hst
    have hsd : s'.sd = if n.1 = 33 then putI s.sd (tp s.st) (tp s.st.dropLast) else if n.1 = 61 then putI s.sd n.2.1 (tp s.st) else s.sd := hsd
    unfold phi
    rw [hst, nzs_app]
    by_cases h33 : n.1 = 33
    · rw [if_pos h33] at hsd
      have hp : popL n.1 = 2 := by rw [h33]; rfl
      have hy : ysL im nums n (goM s n) = [] := by
        obtain ⟨op, arg, su⟩ := n
        have h33 : op = 33 := h33
        subst h33
        rfl
      rw [hp, hy, hsd]
      have h1 := oth_put (argsOf im) s.sd (tp s.st) (tp s.st.dropLast)
      have h2 := nzs_drop s.st
      have h3 := nzs_take s.st.dropLast (s.st.dropLast.length - 1)
      rw [← tk1, tk2] at h3
      have h4 : nzs [] = 0 := rfl
      show 2 * oth (argsOf im) (putI s.sd (tp s.st) (tp s.st.dropLast)) + (nzs (s.st.take (s.st.length - 2)) + nzs []) ≤ _
      by_cases h0 : tp s.st = 0
      · rw [if_pos (by rw [h0]; exact List.mem_cons_self)] at h1
        omega
      · rw [if_neg h0] at h2
        have : (if tp s.st ∈ (0 :: argsOf im) then 0 else 1) ≤ 1 := by split <;> omega
        omega
    · rw [if_neg h33] at hsd
      have h5 := ys_le im nums n (goM s n) h33
      have h5 : nzs (s.st.take (s.st.length - (popL n.1).toNat)) + nzs (ysL im nums n (goM s n)) ≤ nzs s.st + 1 := h5
      have h6 : oth (argsOf im) s'.sd ≤ oth (argsOf im) s.sd := by
        rw [hsd]
        split
        · have := oth_put (argsOf im) s.sd n.2.1 (tp s.st)
          rw [if_pos (List.mem_cons_of_mem _ ha)] at this
          omega
        · exact Nat.le_refl _
      omega
theorem adv_phi {im nums : List Int} (n : Nat) : phi im (advM im nums ms0 n).1 ≤ (advM im nums ms0 n).2 :=
  adv_keep (P := fun i t => phi im t ≤ i) (by show phi im ms0 ≤ 0; exact Nat.le_refl 0) (fun i t t' h e => by have := phi_step e; omega) n
theorem sd_few {im nums : List Int} {n : Nat} (hl : im.length ≤ 63) (hn : n ≤ 80) : (advM im nums ms0 n).1.sd.length ≤ 56 := by
  have h1 := adv_phi (im := im) (nums := nums) n
  have h2 := (adv_inv (im := im) (nums := nums) (s := ms0) n).1
  have hk := adv_kn (im := im) (nums := nums) (s := ms0) KN.nil n
  generalize (advM im nums ms0 n).1 = s at *
  unfold phi at h1
  have ha : (argsOf im).length ≤ 15 := by
    unfold argsOf
    rw [List.length_map, rows_len]
    omega
  have hin : ((s.sd.map (·.1)).filter fun k => decide (k ∈ (0 :: argsOf im))).length ≤ (0 :: argsOf im).length := nodup_sub (hk.filter _) fun x hx => of_decide_eq_true (List.mem_filter.mp hx).2
  have hsplit : ((s.sd.map (·.1)).filter fun k => decide (k ∈ (0 :: argsOf im))).length + oth (argsOf im) s.sd = (s.sd.map (·.1)).length := by
    unfold oth
    induction s.sd.map (·.1) with
    | nil => rfl
    | cons k r ih =>
      by_cases m : k ∈ (0 :: argsOf im)
      · rw [List.filter_cons_of_pos (by exact decide_eq_true m), List.filter_cons_of_neg (by rw [decide_eq_false (not_not_intro m)]; exact Bool.false_ne_true), List.length_cons, List.length_cons]
        omega
      · rw [List.filter_cons_of_neg (by rw [decide_eq_false m]; exact Bool.false_ne_true), List.filter_cons_of_pos (by exact decide_eq_true m), List.length_cons, List.length_cons]
        omega
  rw [List.length_map] at hsplit
  rw [List.length_cons] at hin
  omega
end Gd

set_option Elab.async false
set_option linter.all false
set_option maxRecDepth 100000
set_option maxHeartbeats 4000000
/-! Of our own: runs that go on. -/
namespace Gd
open PySem PySem.Spec PyProof.Rows L2 Evl
section
variable {im nums : List Int} {s : MS}
theorem adv_succN {n : Nat} (h : stepM im nums (advM im nums s n).1 = none) : advM im nums s (n + 1) = advM im nums s n := adv_end h 1
theorem adv_succS {n : Nat} {t : MS} (h : stepM im nums (advM im nums s n).1 = some t) : advM im nums s (n + 1) = (t, (advM im nums s n).2 + 1) := by
  obtain ⟨h1, h2, h3⟩ := adv_inv (im := im) (nums := nums) (s := s) n
  have e : (advM im nums s n).2 = n := by
    by_cases c : (advM im nums s n).2 < n
    · rw [h3 c] at h; cases h
    · omega
  have := adv_step (i := n) (t := (advM im nums s n).1) (by rw [← Prod.eta (advM im nums s n), e]) h
  rw [this, e]
theorem adv_add (n : Nat) : ∀ m : Nat, advM im nums s (n + m) = ((advM im nums (advM im nums s n).1 m).1, (advM im nums s n).2 + (advM im nums (advM im nums s n).1 m).2)
  | 0 => rfl
  | m + 1 => by
    have ih := adv_add n m
    cases q : stepM im nums (advM im nums (advM im nums s n).1 m).1 with
    | none =>
      rw [adv_succN q]
      have q2 : stepM im nums (advM im nums s (n + m)).1 = none := by rw [ih]; exact q
      have := adv_succN q2
      rw [show n + (m + 1) = n + m + 1 by omega, this, ih]
    | some t =>
      rw [adv_succS q]
      have q2 : stepM im nums (advM im nums s (n + m)).1 = some t := by rw [ih]; exact q
      have := adv_succS q2
      rw [show n + (m + 1) = n + m + 1 by omega, this, ih]
      rfl
theorem adv_ou (m : Nat) : (advM im nums s m).1.ou.take s.ou.length = s.ou ∧ s.ou.length ≤ (advM im nums s m).1.ou.length :=
  adv_keep (P := fun _ t => t.ou.take s.ou.length = s.ou ∧ s.ou.length ≤ t.ou.length) ⟨List.take_length, Nat.le_refl _⟩ (fun i t t' h e => by
    rw [stepM_law] at e
    cases q : nodeAt im t.a with
    | none => rw [q] at e; cases e
    | some n =>
      rw [q] at e
      have e : lawM im nums n (goM t n) = t' := Option.some.inj e
      have ho := law_ou im nums n (goM t n)
      rw [e] at ho
      rcases ho with h1 | ⟨x, h1⟩
      · have h1 : t'.ou = t.ou := h1
        rw [h1]
        exact h
      · have h1 : t'.ou = t.ou ++ [x] := h1
        rw [h1, List.length_append]
        refine ⟨?_, by omega⟩
        rw [List.take_append_of_le_length h.2]
        exact h.1) m
theorem pow12b {i : Nat} (h : i ≤ 80) : 1000 * 12 ^ i < 10 ^ 100 := Nat.lt_of_le_of_lt (Nat.mul_le_mul_left 1000 (Nat.pow_le_pow_right (by decide) h)) (by decide)
theorem adv_small2 {i : Nat} (hi : ∀ x ∈ im, x.natAbs ≤ 1000) (hq : ∀ x ∈ nums, x.natAbs ≤ 1000) (h : i ≤ 80) : ∃ B, B < 10 ^ 100 ∧ Bd B (advM im nums ms0 i).1 := by
  have h1 := (adv_inv (im := im) (nums := nums) (s := ms0) i).1
  exact ⟨_, pow12b (i := (advM im nums ms0 i).2) (by omega), adv_bd (by decide) hi hq bd0 i⟩
theorem adv_sizes2 {i : Nat} (h : i ≤ 80) : (advM im nums ms0 i).1.st.length ≤ 240 ∧ (advM im nums ms0 i).1.sd.length ≤ 80 ∧ (advM im nums ms0 i).1.bk.length ≤ 240 ∧ (advM im nums ms0 i).1.ou.length ≤ 240 := by
  have h1 := (adv_inv (im := im) (nums := nums) (s := ms0) i).1
  have hz := adv_sz (im := im) (nums := nums) (s := ms0) (B := 0) ⟨Nat.zero_le _, Nat.zero_le _, Nat.zero_le _, Nat.zero_le _⟩ i
  have g1 := hz.st
  have g3 := hz.bk
  have g4 := hz.ou
  have h2 := adv_sd (im := im) (nums := nums) (s := ms0) i
  have : ms0.sd.length = 0 := rfl
  exact ⟨by omega, by omega, by omega, by omega⟩
theorem nice_st2 {i : Nat} (hi : ∀ x ∈ im, x.natAbs ≤ 1000) (hq : ∀ x ∈ nums, x.natAbs ≤ 1000) (h : i ≤ 80) : Nice (stD im nums ms0 i) := by
  obtain ⟨B, hB, hb⟩ := adv_small2 hi hq h
  have hs := adv_sizes2 (im := im) (nums := nums) h
  have hp := pairsOf_len (advM im nums ms0 i).1.sd
  exact nice_plain (t := plainM (advM im nums ms0 i).1) hb.plain hB (by
    show (advM im nums ms0 i).1.st.length + 3 * (Gd.pairsOf (advM im nums ms0 i).1.sd).length + (advM im nums ms0 i).1.bk.length + (advM im nums ms0 i).1.ou.length + 6 ≤ 100000
    omega)
def runD (im nums : List Int) (n : Nat) : PyData := .tuple [.bool (nodeAt im (advM im nums ms0 n).1.a).isNone, .list ((advM im nums ms0 n).1.ou.map PyData.int), .int ((advM im nums ms0 n).2 : Int)]
theorem nice_run {i : Nat} (hi : ∀ x ∈ im, x.natAbs ≤ 1000) (hq : ∀ x ∈ nums, x.natAbs ≤ 1000) (h : i ≤ 80) : Nice (runD im nums i) := by
  obtain ⟨B, hB, hb⟩ := adv_small2 hi hq h
  have hs := adv_sizes2 (im := im) (nums := nums) h
  have hk := (adv_inv (im := im) (nums := nums) (s := ms0) i).1
  have hk2 : ((advM im nums ms0 i).2 : Int).natAbs < 10 ^ 100 := Nat.lt_of_le_of_lt (show ((advM im nums ms0 i).2 : Int).natAbs ≤ 100 by omega) (by decide)
  refine nice_sm ?_ ?_ ?_
  · unfold runD
    rw [smD, smDs, smD, smDs, smD, smDs_ints fun x hx => Nat.lt_of_le_of_lt (hb.ou x hx) hB, smDs, smD, decide_eq_true hk2, smDs]
    rfl
  · unfold runD
    simp only [PyData.depth, PyData.depthAll, depth_ints]
    decide
  · unfold runD
    simp only [PyData.bulk, PyData.bulkAll, bulk_ints]
    omega
theorem nice_ou {i : Nat} (hi : ∀ x ∈ im, x.natAbs ≤ 1000) (hq : ∀ x ∈ nums, x.natAbs ≤ 1000) (h : i ≤ 80) : Nice (.list ((advM im nums ms0 i).1.ou.map PyData.int)) := by
  obtain ⟨B, hB, hb⟩ := adv_small2 hi hq h
  have hs := adv_sizes2 (im := im) (nums := nums) h
  exact nice_list (fun x hx => Nat.lt_of_le_of_lt (hb.ou x hx) hB) (by omega)
/-- a run that has ended stays; one that has not has used all its fuel -/
theorem ended_stop {n : Nat} (h : (nodeAt im (advM im nums ms0 n).1.a).isNone = true) (m : Nat) : advM im nums ms0 (n + m) = advM im nums ms0 n := by
  rw [← step_none (nums := nums)] at h
  refine adv_end ?_ m
  cases q : stepM im nums (advM im nums ms0 n).1 with
  | none => rfl
  | some t => rw [q] at h; cases h
theorem not_ended {n : Nat} (h : (nodeAt im (advM im nums ms0 n).1.a).isNone = false) : (advM im nums ms0 n).2 = n := by
  obtain ⟨h1, h2, h3⟩ := adv_inv (im := im) (nums := nums) (s := ms0) n
  by_cases c : (advM im nums ms0 n).2 < n
  · rw [← step_none (nums := nums), h3 c] at h
    cases h
  · omega
end
section
variable {K : PySem.W.Frag} {H : Hp} {σ : L2.St} {ta tb te : TE} {t tk : TA} {sp : Sp} {gV : List V → List V → List V} {E : L2.St → XK} {D : Ends} {tz : TS} {n m : Nat}
theorem ep_opRR {r : R2} {x : V} {P1 P : V → Hp → Prop} (ha : Ev ta σ H x) (hb : ∀ H1, Ex H H1 → EvP tb σ H1 P1) (hr : ∀ v H1, P1 v H1 → ∀ Q : VK, (∀ z H', P z H' → Q z H') → r x v H1 Q) : EvP (tOp r ta tb) σ H P := fun Q q =>
  ha H (Ex.refl H) _ fun H1 e1 => hb H1 e1 _ fun v H2 h2 => hr v H2 h2 Q q
theorem s_dropNS {vs zs : List V} (h1 : EvA t σ H vs) (h2 : EvA tk σ H zs) (l1 : vs.length = n) (l2 : zs.length = m) (k : ∀ H1, Ex H H1 → sp (gV vs zs) H1 (fun _ H' => D.nx σ H') (E σ)) : tDrop (tCallNS n m sp gV E t tk) D σ H :=
  h1 H (Ex.refl H) _ fun H1 e1 => h2 H1 e1 _ fun H2 e2 => ⟨l1, l2, k H2 (e1.trans e2)⟩
theorem s_dropS {vs : List V} (h1 : EvA t σ H vs) (k : ∀ H1, Ex H H1 → sp vs H1 (fun _ H' => D.nx σ H') (E σ)) : tDrop (tCallS sp E t) D σ H :=
  h1 H (Ex.refl H) _ fun H1 e1 => k H1 e1
theorem q_dropS {vs : List V} (h1 : EvA t σ H vs) (k : ∀ H1, Ex H H1 → sp vs H1 (fun _ H' => tz D σ H') (E σ)) : tSeq (tDrop (tCallS sp E t)) tz D σ H :=
  h1 H (Ex.refl H) _ fun H1 e1 => k H1 e1
theorem q_asgMS {C a dx : Addr} {fs : List (Str × V)} {mm : Str} {zs : List V} {i : Nat} (ha : Ev ta σ H (.ref a)) (ho : H a = some (.ins C dx fs)) (hl : fs.lookup mm = none) (hk : EvA tk σ H zs) (lz : zs.length = n) (k : ∀ H1, Ex H H1 → sp (gV [.ref a] zs) H1 (fun v H' => tz D (σ.set i (some v)) H') (E σ)) : tSeq (tAsg (tMethN0S C mm n sp gV E ta tk) (gName i)) tz D σ H :=
  ha H (Ex.refl H) _ fun H1 e1 => ⟨a, dx, fs, rfl, e1 _ _ ho, hl, hk H1 e1 _ fun H2 e2 => ⟨lz, k H2 (e1.trans e2)⟩⟩
theorem q_dropMS {C a dx : Addr} {fs : List (Str × V)} {mm : Str} {zs : List V} (ha : Ev ta σ H (.ref a)) (ho : H a = some (.ins C dx fs)) (hl : fs.lookup mm = none) (hk : EvA tk σ H zs) (lz : zs.length = n) (k : ∀ H1, Ex H H1 → sp (gV [.ref a] zs) H1 (fun v H' => tz D σ H') (E σ)) : tSeq (tDrop (tMethN0S C mm n sp gV E ta tk)) tz D σ H :=
  ha H (Ex.refl H) _ fun H1 e1 => ⟨a, dx, fs, rfl, e1 _ _ ho, hl, hk H1 e1 _ fun H2 e2 => ⟨lz, k H2 (e1.trans e2)⟩⟩
/-- a new object's method, called for its own sake -/
theorem s_dropMSP {P1 : V → Hp → Prop} {C : Addr} {mm : Str} {zs : List V} (ha : EvP ta σ H P1) (hp : ∀ v H1, P1 v H1 → ∃ a dx fs, v = .ref a ∧ H1 a = some (.ins C dx fs) ∧ fs.lookup mm = none ∧ EvA tk σ H1 zs ∧ zs.length = n ∧ ∀ H2, Ex H1 H2 → sp (gV [.ref a] zs) H2 (fun v H' => D.nx σ H') (E σ)) : tDrop (tMethN0S C mm n sp gV E ta tk) D σ H :=
  ha _ fun v H1 h1 => by
    obtain ⟨a, dx, fs, rfl, ho, hl, hk, lz, k⟩ := hp v H1 h1
    exact ⟨a, dx, fs, rfl, ho, hl, hk H1 (Ex.refl H1) _ fun H2 e2 => ⟨lz, k H2 e2⟩⟩
end
end Gd

set_option Elab.async false
set_option linter.all false
set_option maxRecDepth 100000
set_option maxHeartbeats 4000000
/-! Of our own: runs of a written image, told by what is visible of the states. -/
namespace Gd
open PySem PySem.Spec PyProof.Rows L2 Evl
inductive Goes (im nums : List Int) : Nat → MS → MS → Prop
  | refl {s : MS} : Goes im nums 0 s s
  | step {k : Nat} {s t u : MS} (h : stepM im nums s = some t) (r : Goes im nums k t u) : Goes im nums (k + 1) s u
theorem Goes.trans {im nums : List Int} {j k : Nat} {s t u : MS} (h : Goes im nums j s t) (g : Goes im nums k t u) : Goes im nums (j + k) s u := by
  induction h with
  | refl => rw [Nat.zero_add]; exact g
  | @step i a b c h1 h2 ih => rw [show i + 1 + k = (i + k) + 1 by omega]; exact .step h1 (ih g)
theorem adv_zero {im nums : List Int} {s : MS} : advM im nums s 0 = (s, 0) := rfl
theorem Goes.adv {im nums : List Int} {k : Nat} {s t : MS} (h : Goes im nums k s t) : advM im nums s k = (t, k) := by
  induction h with
  | refl => rfl
  | @step i a b c h1 h2 ih =>
    have h := adv_step (im := im) (nums := nums) (s := a) (i := 0) (t := a) (t' := b) rfl h1
    have g := adv_add (im := im) (nums := nums) (s := a) 1 i
    rw [show i + 1 = 1 + i by omega, g]
    have h : advM im nums a 1 = (b, 1) := h
    rw [h]
    dsimp only
    rw [ih]
/-- what is visible of a state; the store as a function -/
structure AS where
  a : Int
  st : List Int
  f : Int → Int
  bk : List Int
  p : Nat
  ou : List Int
structure Sees (A : AS) (s : MS) : Prop where
  a : s.a = A.a
  st : s.st = A.st
  f : ∀ k, lk s.sd k = A.f k
  bk : s.bk = A.bk
  p : s.p = (A.p : Int)
  ou : s.ou = A.ou
def GoS (im nums : List Int) (k : Nat) (A B : AS) : Prop := ∀ s, Sees A s → ∃ t, Goes im nums k s t ∧ Sees B t
theorem GoS.refl {im nums : List Int} {A : AS} : GoS im nums 0 A A := fun s h => ⟨s, .refl, h⟩
theorem GoS.trans {im nums : List Int} {j k : Nat} {A B C : AS} (h : GoS im nums j A B) (g : GoS im nums k B C) : GoS im nums (j + k) A C := fun s hs =>
  let ⟨t, h1, h2⟩ := h s hs
  let ⟨u, h3, h4⟩ := g t h2
  ⟨u, h1.trans h3, h4⟩
theorem GoS.cast {im nums : List Int} {j k : Nat} {A B : AS} (h : GoS im nums j A B) (e : j = k) : GoS im nums k A B := e ▸ h
theorem GoS.one {im nums : List Int} {k : Nat} {A B C : AS} (h : ∀ s, Sees A s → ∃ t, stepM im nums s = some t ∧ Sees B t) (g : GoS im nums k B C) : GoS im nums (k + 1) A C := fun s hs =>
  let ⟨t, h1, h2⟩ := h s hs
  let ⟨u, h3, h4⟩ := g t h2
  ⟨u, .step h1 h3, h4⟩
def upF (f : Int → Int) (k v : Int) : Int → Int := fun j => if j = k then v else f j
section
variable {im nums : List Int} {k : Nat} {a op arg su v x y : Int} {st bk ou : List Int} {f : Int → Int} {p : Nat} {C : AS}
theorem top_snoc {l : List Int} {y : Int} {s : MS} (h : s.st = l ++ [y]) : topM s = y := by unfold topM; rw [h, List.getLast?_concat]; rfl
theorem pop_snoc {l : List Int} {y : Int} {s : MS} (h : s.st = l ++ [y]) : popM s = { s with st := l } := by unfold popM; rw [h, List.dropLast_concat]
theorem stepM_at {s : MS} {n : Nd} (h : nodeAt im s.a = some n) : stepM im nums s = some (perfM im nums n (goM s n)) := by unfold stepM; rw [h]; rfl
theorem g_push (h : nodeAt im a = some (35, v, su)) (g : GoS im nums k ⟨su, st ++ [v], f, bk, p, ou⟩ C) : GoS im nums (k + 1) ⟨a, st, f, bk, p, ou⟩ C := GoS.one (fun s hs => ⟨_, stepM_at (by rw [hs.a]; exact h), by
  refine ⟨rfl, ?_, hs.f, hs.bk, hs.p, hs.ou⟩
  show s.st ++ [v] = st ++ [v]
  rw [hs.st]⟩) g
theorem g_small (h : nodeAt im a = some (op, arg, su)) (hl : ACTS.lookup op = none) (hs : isSm op = true) (g : GoS im nums k ⟨su, st ++ [f op], f, bk, p, ou⟩ C) : GoS im nums (k + 1) ⟨a, st, f, bk, p, ou⟩ C := GoS.one (fun s hz => ⟨pushM (goM s (op, arg, su)) (lookM s op), by
  rw [stepM_at (n := (op, arg, su)) (by rw [hz.a]; exact h)]
  unfold perfM
  dsimp only
  rw [hl]
  dsimp only
  rw [if_pos hs]
  rfl, by
  refine ⟨rfl, ?_, hz.f, hz.bk, hz.p, hz.ou⟩
  show s.st ++ [lk s.sd op] = st ++ [f op]
  rw [hz.st, hz.f]⟩) g
theorem g_comb (h : nodeAt im a = some (op, arg, su)) (hl : ACTS.lookup op = some aComb) (g : GoS im nums k ⟨su, st ++ [combI op x y], f, bk, p, ou⟩ C) : GoS im nums (k + 1) ⟨a, st ++ [x] ++ [y], f, bk, p, ou⟩ C := GoS.one (fun s hz => ⟨aComb im nums (op, arg, su) (goM s (op, arg, su)), by
  rw [stepM_at (n := (op, arg, su)) (by rw [hz.a]; exact h)]
  unfold perfM
  dsimp only
  rw [hl], by
  have h1 := hz.st
  have e : aComb im nums (op, arg, su) (goM s (op, arg, su)) = { (goM s (op, arg, su)) with st := st ++ [combI op x y] } := by
    unfold aComb
    have t1 : topM (goM s (op, arg, su)) = y := top_snoc h1
    have p1 : popM (goM s (op, arg, su)) = { (goM s (op, arg, su)) with st := st ++ [x] } := pop_snoc h1
    rw [t1, p1, top_snoc (l := st) (y := x) rfl, pop_snoc (l := st) (y := x) rfl]
    rfl
  rw [e]
  exact ⟨rfl, rfl, hz.f, hz.bk, hz.p, hz.ou⟩⟩) g
theorem g_set (h : nodeAt im a = some (61, arg, su)) (g : GoS im nums k ⟨su, st, upF f arg v, bk, p, ou⟩ C) : GoS im nums (k + 1) ⟨a, st ++ [v], f, bk, p, ou⟩ C := GoS.one (fun s hz => ⟨_, stepM_at (by rw [hz.a]; exact h), by
  have e : perfM im nums (61, arg, su) (goM s (61, arg, su)) = { (goM s (61, arg, su)) with st := st, sd := putI s.sd arg v } := by
    show putM (popM (goM s (61, arg, su))) arg (topM (goM s (61, arg, su))) = _
    rw [top_snoc (s := goM s (61, arg, su)) hz.st, pop_snoc (s := goM s (61, arg, su)) hz.st]
    rfl
  rw [e]
  refine ⟨rfl, rfl, fun j => ?_, hz.bk, hz.p, hz.ou⟩
  show lk (putI s.sd arg v) j = upF f arg v j
  rw [lk_put]
  unfold upF
  rw [hz.f]⟩) g
theorem g_take {c : Int} (h : nodeAt im a = some (44, arg, su)) (hc : nums[p]? = some c) (g : GoS im nums k ⟨su, st ++ [c], f, bk, p + 1, ou⟩ C) : GoS im nums (k + 1) ⟨a, st, f, bk, p, ou⟩ C := GoS.one (fun s hz => ⟨_, stepM_at (by rw [hz.a]; exact h), by
  have hp : p < nums.length := (List.getElem?_eq_some_iff.mp hc).1
  have e : perfM im nums (44, arg, su) (goM s (44, arg, su)) = { (goM s (44, arg, su)) with st := st ++ [c], p := ((p + 1 : Nat) : Int) } := by
    show (if s.p < nums.length then { (pushM (goM s (44, arg, su)) ((atI nums s.p).getD 0)) with p := s.p + 1 } else pushM (goM s (44, arg, su)) (-1)) = _
    have e0 : s.p = (p : Int) := hz.p
    rw [e0, if_pos (by omega), atI_nat hc]
    show MS.mk _ (s.st ++ [c]) _ _ _ _ _ = _
    rw [hz.st]
    rfl
  rw [e]
  exact ⟨rfl, rfl, hz.f, hz.bk, rfl, hz.ou⟩⟩) g
theorem g_eof (h : nodeAt im a = some (44, arg, su)) (hc : nums.length ≤ p) (g : GoS im nums k ⟨su, st ++ [-1], f, bk, p, ou⟩ C) : GoS im nums (k + 1) ⟨a, st, f, bk, p, ou⟩ C := GoS.one (fun s hz => ⟨_, stepM_at (by rw [hz.a]; exact h), by
  have e : perfM im nums (44, arg, su) (goM s (44, arg, su)) = { (goM s (44, arg, su)) with st := st ++ [-1] } := by
    show (if s.p < nums.length then { (pushM (goM s (44, arg, su)) ((atI nums s.p).getD 0)) with p := s.p + 1 } else pushM (goM s (44, arg, su)) (-1)) = _
    have e0 : s.p = (p : Int) := hz.p
    rw [e0, if_neg (by omega)]
    show MS.mk _ (s.st ++ [-1]) _ _ _ _ _ = _
    rw [hz.st]
  rw [e]
  exact ⟨rfl, rfl, hz.f, hz.bk, hz.p, hz.ou⟩⟩) g
theorem g_br0 (h : nodeAt im a = some (63, arg, su)) (hv : v = 0) (g : GoS im nums k ⟨arg, st, f, bk, p, ou⟩ C) : GoS im nums (k + 1) ⟨a, st ++ [v], f, bk, p, ou⟩ C := GoS.one (fun s hz => ⟨_, stepM_at (by rw [hz.a]; exact h), by
  have e : perfM im nums (63, arg, su) (goM s (63, arg, su)) = { (goM s (63, arg, su)) with st := st, a := arg } := by
    show (if topM (goM s (63, arg, su)) = 0 then { (popM (goM s (63, arg, su))) with a := arg } else popM (goM s (63, arg, su))) = _
    rw [top_snoc (s := goM s (63, arg, su)) hz.st, pop_snoc (s := goM s (63, arg, su)) hz.st, if_pos hv]
  rw [e]
  exact ⟨rfl, rfl, hz.f, hz.bk, hz.p, hz.ou⟩⟩) g
theorem g_br1 (h : nodeAt im a = some (63, arg, su)) (hv : v ≠ 0) (g : GoS im nums k ⟨su, st, f, bk, p, ou⟩ C) : GoS im nums (k + 1) ⟨a, st ++ [v], f, bk, p, ou⟩ C := GoS.one (fun s hz => ⟨_, stepM_at (by rw [hz.a]; exact h), by
  have e : perfM im nums (63, arg, su) (goM s (63, arg, su)) = { (goM s (63, arg, su)) with st := st } := by
    show (if topM (goM s (63, arg, su)) = 0 then { (popM (goM s (63, arg, su))) with a := arg } else popM (goM s (63, arg, su))) = _
    rw [top_snoc (s := goM s (63, arg, su)) hz.st, pop_snoc (s := goM s (63, arg, su)) hz.st, if_neg hv]
  rw [e]
  exact ⟨rfl, rfl, hz.f, hz.bk, hz.p, hz.ou⟩⟩) g
theorem g_cap (h : nodeAt im a = some (op, arg, su)) (hl : ACTS.lookup op = none) (hs : isSm op = false) (hc : isCp op = true) (g : GoS im nums k ⟨op, st, f, bk ++ [su], p, ou⟩ C) : GoS im nums (k + 1) ⟨a, st, f, bk, p, ou⟩ C := GoS.one (fun s hz => ⟨callM (goM s (op, arg, su)) op, by
  rw [stepM_at (n := (op, arg, su)) (by rw [hz.a]; exact h)]
  unfold perfM
  dsimp only
  rw [hl]
  dsimp only
  rw [if_neg (by rw [hs]; exact Bool.false_ne_true), if_pos hc], by
  refine ⟨rfl, hz.st, hz.f, ?_, hz.p, hz.ou⟩
  show s.bk ++ [su] = bk ++ [su]
  rw [hz.bk]⟩) g
theorem g_ret (h : nodeAt im a = some (41, arg, su)) (g : GoS im nums k ⟨v, st, f, bk, p, ou⟩ C) : GoS im nums (k + 1) ⟨a, st, f, bk ++ [v], p, ou⟩ C := GoS.one (fun s hz => ⟨_, stepM_at (by rw [hz.a]; exact h), by
  have e : perfM im nums (41, arg, su) (goM s (41, arg, su)) = { (goM s (41, arg, su)) with bk := bk, a := v } := by
    show aRet im nums (41, arg, su) (goM s (41, arg, su)) = _
    unfold aRet
    have hb : (goM s (41, arg, su)).bk = bk ++ [v] := hz.bk
    rw [hb, List.getLast?_concat]
    dsimp only
    rw [List.dropLast_concat]
  rw [e]
  exact ⟨rfl, hz.st, hz.f, rfl, hz.p, hz.ou⟩⟩) g
theorem g_ret0 (h : nodeAt im a = some (41, arg, su)) (g : GoS im nums k ⟨su, st, f, [], p, ou⟩ C) : GoS im nums (k + 1) ⟨a, st, f, [], p, ou⟩ C := GoS.one (fun s hz => ⟨_, stepM_at (by rw [hz.a]; exact h), by
  have e : perfM im nums (41, arg, su) (goM s (41, arg, su)) = goM s (41, arg, su) := by
    show aRet im nums (41, arg, su) (goM s (41, arg, su)) = _
    unfold aRet
    have hb : (goM s (41, arg, su)).bk = [] := hz.bk
    rw [hb]
    rfl
  rw [e]
  exact ⟨rfl, hz.st, hz.f, hz.bk, hz.p, hz.ou⟩⟩) g
theorem g_write (h : nodeAt im a = some (46, arg, su)) (g : GoS im nums k ⟨su, st, f, bk, p, ou ++ [v]⟩ C) : GoS im nums (k + 1) ⟨a, st ++ [v], f, bk, p, ou⟩ C := GoS.one (fun s hz => ⟨_, stepM_at (by rw [hz.a]; exact h), by
  have e : perfM im nums (46, arg, su) (goM s (46, arg, su)) = { (goM s (46, arg, su)) with st := st, ou := s.ou ++ [v] } := by
    show { (popM (goM s (46, arg, su))) with ou := s.ou ++ [topM (goM s (46, arg, su))] } = _
    rw [top_snoc (s := goM s (46, arg, su)) hz.st, pop_snoc (s := goM s (46, arg, su)) hz.st]
  rw [e]
  refine ⟨rfl, rfl, hz.f, hz.bk, hz.p, ?_⟩
  show s.ou ++ [v] = ou ++ [v]
  rw [hz.ou]⟩) g
theorem g_double (h : nodeAt im a = some (34, arg, su)) (g : GoS im nums k ⟨su, st ++ [v] ++ [v], f, bk, p, ou⟩ C) : GoS im nums (k + 1) ⟨a, st ++ [v], f, bk, p, ou⟩ C := GoS.one (fun s hz => ⟨_, stepM_at (by rw [hz.a]; exact h), by
  have e : perfM im nums (34, arg, su) (goM s (34, arg, su)) = { (goM s (34, arg, su)) with st := st ++ [v] ++ [v] } := by
    show pushM (pushM (popM (goM s (34, arg, su))) (topM (goM s (34, arg, su)))) (topM (goM s (34, arg, su))) = _
    rw [top_snoc (s := goM s (34, arg, su)) hz.st, pop_snoc (s := goM s (34, arg, su)) hz.st]
    rfl
  rw [e]
  exact ⟨rfl, rfl, hz.f, hz.bk, hz.p, hz.ou⟩⟩) g
theorem g_nop (h : nodeAt im a = some (op, arg, su)) (hl : ACTS.lookup op = none) (hs : isSm op = false) (hc : isCp op = false) (g : GoS im nums k ⟨su, st, f, bk, p, ou⟩ C) : GoS im nums (k + 1) ⟨a, st, f, bk, p, ou⟩ C := GoS.one (fun s hz => ⟨goM s (op, arg, su), by
  rw [stepM_at (n := (op, arg, su)) (by rw [hz.a]; exact h)]
  unfold perfM
  dsimp only
  rw [hl]
  dsimp only
  rw [if_neg (by rw [hs]; exact Bool.false_ne_true), if_neg (by rw [hc]; exact Bool.false_ne_true)], by exact ⟨rfl, hz.st, hz.f, hz.bk, hz.p, hz.ou⟩⟩) g
theorem g_drop (h : nodeAt im a = some (95, arg, su)) (g : GoS im nums k ⟨su, st, f, bk, p, ou⟩ C) : GoS im nums (k + 1) ⟨a, st ++ [v], f, bk, p, ou⟩ C := GoS.one (fun s hz => ⟨_, stepM_at (by rw [hz.a]; exact h), by
  have e : perfM im nums (95, arg, su) (goM s (95, arg, su)) = { (goM s (95, arg, su)) with st := st } := by
    show popM (goM s (95, arg, su)) = _
    rw [pop_snoc (s := goM s (95, arg, su)) hz.st]
  rw [e]
  exact ⟨rfl, rfl, hz.f, hz.bk, hz.p, hz.ou⟩⟩) g
theorem g_exch (h : nodeAt im a = some (92, arg, su)) (g : GoS im nums k ⟨su, st ++ [y] ++ [x], f, bk, p, ou⟩ C) : GoS im nums (k + 1) ⟨a, st ++ [x] ++ [y], f, bk, p, ou⟩ C := GoS.one (fun s hz => ⟨_, stepM_at (by rw [hz.a]; exact h), by
  have h1 := hz.st
  have e : perfM im nums (92, arg, su) (goM s (92, arg, su)) = { (goM s (92, arg, su)) with st := st ++ [y] ++ [x] } := by
    show pushM (pushM (popM (popM (goM s (92, arg, su)))) (topM (goM s (92, arg, su)))) (topM (popM (goM s (92, arg, su)))) = _
    have t1 : topM (goM s (92, arg, su)) = y := top_snoc h1
    have p1 : popM (goM s (92, arg, su)) = { (goM s (92, arg, su)) with st := st ++ [x] } := pop_snoc h1
    rw [t1, p1, top_snoc (l := st) (y := x) rfl, pop_snoc (l := st) (y := x) rfl]
    rfl
  rw [e]
  exact ⟨rfl, rfl, hz.f, hz.bk, hz.p, hz.ou⟩⟩) g
end
/-- a whole run: it ends there, and is told -/
theorem run_of {im nums : List Int} {k : Nat} {f : Int → Int} {e : Int} {st bk ou : List Int} {p : Nat} (g : GoS im nums k ⟨0, [], fun _ => 0, [], 0, []⟩ ⟨e, st, f, bk, p, ou⟩) (he : nodeAt im e = none) {n : Nat} (hn : k ≤ n) : advM im nums ms0 n = advM im nums ms0 k ∧ (advM im nums ms0 k).2 = k ∧ runD im nums n = .tuple [.bool true, .list (ou.map PyData.int), .int (k : Int)] := by
  obtain ⟨t, h1, h2⟩ := g ms0 ⟨rfl, rfl, fun _ => rfl, rfl, rfl, rfl⟩
  have ha := h1.adv
  have hs : stepM im nums (advM im nums ms0 k).1 = none := by rw [ha]; unfold stepM; rw [h2.a, he]; rfl
  have hN : advM im nums ms0 n = advM im nums ms0 k := by
    have := adv_end (im := im) (nums := nums) (s := ms0) (n := k) hs (n - k)
    rwa [show k + (n - k) = n by omega] at this
  refine ⟨hN, by rw [ha], ?_⟩
  unfold runD
  rw [hN, ha]
  dsimp only
  rw [h2.a, he, h2.ou]
  rfl
def dgI (c : Int) : Int := combI 126 (combI 42 (combI 60 47 c) (combI 60 c 58)) 11
theorem dg_yes {c : Int} (h : isDg c = true) : dgI c ≠ 0 := by
  unfold isDg at h
  simp only [Bool.and_eq_true, decide_eq_true_eq] at h
  have h1 : combI 60 47 c = 1 := by show (if (47 : Int) < c then (1 : Int) else 0) = 1; rw [if_pos (by omega)]
  have h2 : combI 60 c 58 = 1 := by show (if c < (58 : Int) then (1 : Int) else 0) = 1; rw [if_pos (by omega)]
  unfold dgI
  rw [h1, h2]
  decide
theorem dg_no {c : Int} (h : isDg c = false) : dgI c = 0 := by
  unfold isDg at h
  simp only [Bool.and_eq_false_iff, decide_eq_false_iff_not] at h
  unfold dgI
  by_cases a : (47 : Int) < c
  · have h1 : combI 60 47 c = 1 := by show (if (47 : Int) < c then (1 : Int) else 0) = 1; rw [if_pos a]
    have h2 : combI 60 c 58 = 0 := by show (if c < (58 : Int) then (1 : Int) else 0) = 0; rw [if_neg (by omega)]
    rw [h1, h2]
    decide
  · have h1 : combI 60 47 c = 0 := by show (if (47 : Int) < c then (1 : Int) else 0) = 0; rw [if_neg a]
    rw [h1]
    by_cases b : c < (58 : Int)
    · have h2 : combI 60 c 58 = 1 := by show (if c < (58 : Int) then (1 : Int) else 0) = 1; rw [if_pos b]
      rw [h2]
      decide
    · have h2 : combI 60 c 58 = 0 := by show (if c < (58 : Int) then (1 : Int) else 0) = 0; rw [if_neg b]
      rw [h2]
      decide
theorem up_at {f : Int → Int} {k v : Int} : upF f k v k = v := if_pos rfl
theorem drop_cons {nums ls : List Int} {p : Nat} {c : Int} (h : nums.drop p = c :: ls) : nums[p]? = some c ∧ nums.drop (p + 1) = ls := by
  constructor
  · have := List.getElem?_drop (xs := nums) (i := p) (j := 0)
    rw [h] at this
    simpa using this.symm
  · rw [← List.drop_drop, h]
    rfl
theorem drop_nil {nums : List Int} {p : Nat} (h : nums.drop p = []) : nums.length ≤ p := List.drop_eq_nil_iff.mp h
theorem tw_go {c : Int} {ls : List Int} (h : nn c = true) : ((c :: ls).takeWhile nn).length = (ls.takeWhile nn).length + 1 := by rw [List.takeWhile_cons, h]; rfl
theorem dg_nn {c : Int} (h : nn c = false) : isDg c = false := by
  unfold nn at h
  unfold isDg
  have := of_decide_eq_false h
  rw [decide_eq_false (by omega)]
  rfl
theorem run_sz {im nums : List Int} {k : Nat} (hk : (advM im nums ms0 k).2 = k) (he : ∀ n, k ≤ n → advM im nums ms0 n = advM im nums ms0 k) (hl : 3 * k ≤ 90000) (i : Nat) : Sz 90000 (advM im nums ms0 i).1 := by
  have h0 : Sz 0 ms0 := ⟨Nat.le_refl _, Nat.le_refl _, Nat.le_refl _, Nat.le_refl _⟩
  have h1 := adv_sz (im := im) (nums := nums) h0 i
  refine h1.mono ?_
  by_cases h : k ≤ i
  · rw [he i h, hk]; omega
  · have := (adv_inv (im := im) (nums := nums) (s := ms0) i).1
    omega

theorem lt1 {x y : Int} (h : x < y) : combI 60 x y ≠ 0 := by show (if x < y then (1 : Int) else 0) ≠ 0; rw [if_pos h]; decide
theorem lt0 {x y : Int} (h : ¬ x < y) : combI 60 x y = 0 := by show (if x < y then (1 : Int) else 0) = 0; rw [if_neg h]
theorem eq1 {x y : Int} (h : x = y) : combI 126 x y ≠ 0 := by show (if x = y then (1 : Int) else 0) ≠ 0; rw [if_pos h]; decide
theorem eq0 {x y : Int} (h : ¬ x = y) : combI 126 x y = 0 := by show (if x = y then (1 : Int) else 0) = 0; rw [if_neg h]
end Gd

set_option Elab.async false
set_option linter.all false
set_option maxRecDepth 100000
set_option maxHeartbeats 4000000
/-! Of our own: comprehensions whose elements are drawn; tuples of three taken apart behind a call that may raise; exceptions of two classes looked at. -/
namespace Gd
open PySem PySem.Spec PyProof.Rows L2 Evl
section
variable {K : PySem.W.Frag} {σ : L2.St} {H : Hp} {te tr : TE} {p : Addr} {C : Int → Prop}
/-- a new list of n drawn ints -/
def DrL (p : Addr) (H : Hp) (n : Nat) (C : Int → Prop) : V → Hp → Prop := fun v H' => ∃ (q : Addr) (cs : List Int), v = .ref q ∧ H q = none ∧ But p H H' ∧ Drw p H' ∧ H' q = some (.lst (cs.map V.int)) ∧ cs.length = n ∧ ∀ c ∈ cs, C c
theorem drw_upd {p q : Addr} {H : Hp} {o : HO} (h : Drw p H) (hq : q ≠ p) : Drw p (upd H q o) := by
  obtain ⟨ds, h1, h2⟩ := h
  exact ⟨ds, by rw [upd_ne (Ne.symm hq)]; exact h1, h2⟩
theorem but_new {p q : Addr} {H H' : Hp} {o : HO} (b : But p H H') (hq : H q = none) : But p H (upd H' q o) := fun c u n e => by
  rw [upd_ne (ne_of_none e hq)]
  exact b _ _ n e
theorem drw_ne {p q : Addr} {H : Hp} (h : Drw p H) (hq : H q = none) : q ≠ p := fun e => by
  obtain ⟨ds, h, _⟩ := h
  rw [e, h] at hq
  cases hq
/-- [e for k in range(n)], e drawn -/
theorem ep_lcDr {ta : TA} {n j : Nat} {vs : List Nat} (h : EvA ta σ H [.int (n : Int)]) (hz : n ≤ 90000) (hD : Drw p H) (hw : ∀ x, wipe ((wipe σ vs).set j (some x)) vs = wipe σ vs)
    (he : ∀ i, i < n → ∀ H', But p H H' → Drw p H' → EvP te ((wipe σ vs).set j (some (.int (i : Int)))) H' (DP p H' C)) : EvP (tLc (iRng1 ta) (gName j) tYes te vs) σ H (DrL p H n C) := fun Q q =>
  h H (Ex.refl H) _ fun H1 e1 => ⟨(n : Int), rfl, by omega, by omega, fun Dl hDl => by
    have z : ∀ i : Nat, (0 : Int) + (i : Int) = (i : Int) := fun i => Int.zero_add _
    have hD1 := hD.ex e1
    have np : Dl ≠ p := drw_ne hD1 hDl
    refine lc_range (lo := 0) (n := n) (fun i H' => But p H H' ∧ Drw p H' ∧ ∃ cs : List Int, H' Dl = some (.lst (cs.map V.int)) ∧ cs.length = i ∧ ∀ c ∈ cs, C c) ⟨but_new (ex_but e1) (fresh_back e1 hDl), drw_upd hD1 np, [], upd_same, rfl, fun c hc => nomatch hc⟩ (fun i H' hi hP => ?_) (fun H' hP => ?_)
    · obtain ⟨b, hD', cs, hl, hc, hC⟩ := hP
      refine ⟨hw _, ?_⟩
      dsimp only [tYes]
      rw [if_pos rfl, z]
      refine he i hi H' b hD' _ fun v H4 hv => ?_
      obtain ⟨d, rfl, hd, hD4, b4⟩ := hv
      have hl4 := b4 _ _ np hl
      refine ⟨_, hl4, sz_lt (by rw [List.length_map]; omega), but_new (b.trans b4) (fresh_back e1 hDl), drw_upd hD4 np, cs ++ [d], ?_, by rw [List.length_append, hc]; rfl, fun c hm => ?_⟩
      · rw [List.map_append (l₂ := [d])]
        exact upd_same
      · rcases List.mem_append.mp hm with m | m
        · exact hC c m
        · rw [List.mem_singleton.mp m]; exact hd
    · obtain ⟨b, hD', cs, hl, hc, hC⟩ := hP
      exact q _ H' ⟨Dl, cs, rfl, fresh_back e1 hDl, b, hD', hl, hc, hC⟩⟩
theorem ep_callP1 {sp : Sp} {E : XK} {P1 P : V → Hp → Prop} (h : EvP te σ H P1) (hs : ∀ v H1, P1 v H1 → ∀ Q : VK, (∀ v H', P v H' → Q v H') → sp [v] H1 Q E) : EvP (tCall sp [] E (tCons te tNil)) σ H P := fun Q q => h _ fun v H1 hv => hs v H1 hv Q q
theorem g_tup3 {a : Addr} {x y z : V} {i j k : Nat} {Q : L2.St → Hp → Prop} (h : SqT K H a [x, y, z]) (q : Q (((σ.set i (some x)).set j (some y)).set k (some z)) H) : gTup K 3 (gCons (gName i) (gCons (gName j) (gCons (gName k) gNil))) (.ref a) σ H Q :=
  ⟨a, [x, y, z], rfl, h, rfl, x, [y, z], rfl, y, [z], rfl, z, [], rfl, rfl, q⟩
/-- a, b, c = f(.., k=..), where f may raise -/
theorem q_unpNS {n m : Nat} {sp : Sp} {gV : List V → List V → List V} {E : L2.St → XK} {t tk : TA} {vs zs : List V} {g : TG} {D : Ends} {tz : TS} (h1 : EvA t σ H vs) (h2 : EvA tk σ H zs) (l1 : vs.length = n) (l2 : zs.length = m) (k : ∀ H1, Ex H H1 → sp (gV vs zs) H1 (fun v H' => g v σ H' (tz D)) (E σ)) : tSeq (tAsg (tCallNS n m sp gV E t tk) g) tz D σ H :=
  h1 H (Ex.refl H) _ fun H1 e1 => h2 H1 e1 _ fun H2 e2 => ⟨l1, l2, k H2 (e1.trans e2)⟩
theorem q_unpD {d : PyData} {g : TG} {D : Ends} {tz : TS} (h : EvD K te σ H d) (k : ∀ v H1, Ex H H1 → Dp K H1 v d → g v σ H1 (tz D)) : tSeq (tAsg te g) tz D σ H := h H (Ex.refl H) _ fun v H1 e1 hv => k v H1 e1 hv
def rMin2 : List V → Hp → VK → Prop := fun xs H Q => ∃ i j, xs = [.int i, .int j] ∧ Q (.int (if j < i then j else i)) H
theorem ev_min2 {ta tb : TE} {i j : Int} (ha : Ev ta σ H (.int i)) (hb : Ev tb σ H (.int j)) : Ev (tCB rMin2 (tCons ta (tCons tb tNil))) σ H (.int (if j < i then j else i)) := fun H1 e Q q =>
  ha H1 e _ fun H2 e2 => hb H2 (e.trans e2) _ fun H3 e3 => ⟨i, j, rfl, q H3 (e2.trans e3)⟩
/-- x if t else y, told by data -/
theorem ed_ifE {ta tb : TE} {tt : TT} {b : Bool} {d : PyData} (ht : EvT tt σ H b) (ha : b = true → EvD K ta σ H d) (hb : b = false → EvD K tb σ H d) : EvD K (tIf tt ta tb) σ H d := fun H1 e Q q =>
  ht H1 e _ fun H2 e2 => by
    cases b with
    | true => rw [if_pos rfl]; exact ha rfl H2 (e.trans e2) Q fun v H3 e3 hv => q v H3 (e2.trans e3) hv
    | false => rw [if_neg Bool.false_ne_true]; exact hb rfl H2 (e.trans e2) Q fun v H3 e3 hv => q v H3 (e2.trans e3) hv
end
theorem hq1 {K : PySem.W.Frag} {D : Addr} {x : Str} {i : Int} {t : Tok} (h1 : PySem.W.nsIn K D x = some (some (.int i t))) : ∀ q ∈ [(x, V.int i)], ∃ u, PySem.W.nsIn K D q.1 = some (some u) ∧ RelV q.2 u := fun q hq => by
  simp only [List.mem_singleton] at hq
  subst hq
  exact ⟨_, h1, ⟨_, rfl⟩⟩
/-- isinstance of an exception that is of one of two classes -/
def rIsX2 (K : PySem.W.Frag) (D1 D2 a : Addr) (cls : Value) (d : Option Addr) : List V → Hp → VK → Prop := fun xs H Q => rIsX K D1 a cls d xs H Q ∨ rIsX K D2 a cls d xs H Q
theorem call_isX2 {X : Cx} {a D1 D2 : Addr} {oe : Obj} {pn : List (Addr × Obj)} {cls : Value} {d : Option Addr} (C1 : ExcC X.K D1) (C2 : ExcC X.K D2) (hz : Zc cls d oe) (hf : ∃ vs, oe.data = .fields vs) : CallR (X.suite a ((a, oe) :: pn)) (.builtin "isinstance") (rIsX2 X.K D1 D2 a cls d) := by
  intro pins s σ H xs us Q I r h
  rcases h with h | h
  · exact call_isX C1 hz hf pins s σ H xs us Q I r h
  · exact call_isX C2 hz hf pins s σ H xs us Q I r h
theorem rc_isX21 {K : PySem.W.Frag} {H : Hp} {D1 D2 a : Addr} {c : V} {cv : Value} {b : Bool} (hc : ∀ u, RelV c u → u = cv) (hk : PySem.W.kitOne K (.ref D1) cv = some b) : RC (rIsX2 K D1 D2 a (.ref D1) none) [.ref a, c] H (.bl b) := fun H1 e Q q => .inl (rc_isX hc hk H1 e Q q)
theorem rc_isX22 {K : PySem.W.Frag} {H : Hp} {D1 D2 a : Addr} {c : V} {cv : Value} {b : Bool} (hc : ∀ u, RelV c u → u = cv) (hk : PySem.W.kitOne K (.ref D2) cv = some b) : RC (rIsX2 K D1 D2 a (.ref D2) none) [.ref a, c] H (.bl b) := fun H1 e Q q => .inr (rc_isX hc hk H1 e Q q)
/-! ### what a run puts out, if it ends -/
def childO (im nums : List Int) (n : Nat) : Option (List Int) := if (nodeAt im (advM im nums ms0 n).1.a).isNone = true then some (advM im nums ms0 n).1.ou else none
def optL : Option (List Int) → PyData
  | none => .none
  | some l => .list (l.map PyData.int)
theorem child_len {im nums : List Int} {n : Nat} {l : List Int} (h : childO im nums n = some l) : l.length ≤ 3 * n := by
  unfold childO at h
  split at h
  · cases h
    have h0 : Sz 0 ms0 := ⟨Nat.le_refl _, Nat.le_refl _, Nat.le_refl _, Nat.le_refl _⟩
    have h1 := (adv_sz (im := im) (nums := nums) h0 n).ou
    have h2 := (adv_inv (im := im) (nums := nums) (s := ms0) n).1
    omega
  · cases h
/-- a run's result: a new list within a tuple -/
def RetR (K : PySem.W.Frag) (im nums : List Int) (n : Nat) (H : Hp) (Q : VK) : Prop := ∀ (r o : Addr) (H2 : Hp), Ex H H2 → SqT K H2 r [.bl (nodeAt im (advM im nums ms0 n).1.a).isNone, .ref o, .int ((advM im nums ms0 n).2 : Int)] → H o = none → H2 o = some (.lst ((advM im nums ms0 n).1.ou.map V.int)) → Q (.ref r) H2
theorem dp_run {K : PySem.W.Frag} {H : Hp} {im nums : List Int} {n : Nat} {r o : Addr} (h : SqT K H r [.bl (nodeAt im (advM im nums ms0 n).1.a).isNone, .ref o, .int ((advM im nums ms0 n).2 : Int)]) (ho : H o = some (.lst ((advM im nums ms0 n).1.ou.map V.int))) : Dp K H (.ref r) (runD im nums n) :=
  .tup h (.cons (.bl _) (.cons (dp_ints (sq_of ho)) (.cons (.int _) .nil)))
theorem s_retT3L {K : PySem.W.Frag} {σ : L2.St} {H : Hp} {t1 t2 t3 : TE} {x z : V} {xs : List V} {D : Ends} (h1 : Ev t1 σ H x) (h2 : EvL t2 σ H xs) (h3 : ∀ H1, Ex H H1 → Ev t3 σ H1 z) (k : ∀ r o H2, Ex H H2 → H2 r = some (.tup [x, .ref o, z]) → H o = none → H2 o = some (.lst xs) → D.rt (.ref r) H2) : tRet (tTup (tCons t1 (tCons t2 (tCons t3 tNil)))) D σ H :=
  h1 H (Ex.refl H) _ fun H1 e1 => h2 H1 e1 _ fun o H2 no e2 ho => h3 H2 (e1.trans e2) H2 (Ex.refl H2) _ fun H3 e3 => ⟨sz_of (n := 3) (by decide), fun r hr => k r o _ (((e1.trans e2).trans e3).trans (Ex.new hr)) upd_same (fresh_back e1 no) (by rw [upd_ne (ne_of_none (e3 _ _ ho) hr)]; exact e3 _ _ ho)⟩
/-- None, or a new list -/
def RetO (o : Option (List Int)) (H : Hp) (Q : VK) : Prop := match o with
  | none => RetV .non H Q
  | some l => RetL (l.map V.int) H Q
def OutV (H : Hp) (o : Option (List Int)) (v : V) (H2 : Hp) : Prop := (o = none ∧ v = .non) ∨ ∃ l a, o = some l ∧ v = .ref a ∧ H a = none ∧ H2 a = some (.lst (l.map V.int))
theorem ret_o {o : Option (List Int)} {H : Hp} {Q : VK} (h : ∀ v H2, Ex H H2 → OutV H o v H2 → Q v H2) : RetO o H Q := by
  cases o with
  | none => exact fun H2 e2 => h _ H2 e2 (.inl ⟨rfl, rfl⟩)
  | some l => exact fun p H2 np e2 hp => h _ H2 e2 (.inr ⟨l, p, rfl, rfl, np, hp⟩)
theorem q_asgO {te : TE} {σ : L2.St} {H : Hp} {i : Nat} {o : Option (List Int)} {D : Ends} {tz : TS} (h : ∀ Q : VK, RetO o H Q → te σ H Q) (k : ∀ v H2, Ex H H2 → OutV H o v H2 → tz D (σ.set i (some v)) H2) : tSeq (tAsg te (gName i)) tz D σ H := h _ (ret_o k)
/-- the first index at which two lists differ -/
def comP : List Int → List Int → Nat
  | x :: r, y :: q => if x = y then comP r q + 1 else 0
  | _, _ => 0
def difI (xs ys : List Int) : Option Nat := if xs = ys then none else some (comP xs ys)
theorem comP_of : ∀ (i : Nat) {xs ys : List Int}, xs.take i = ys.take i → i ≤ xs.length → i ≤ ys.length → xs[i]? ≠ ys[i]? → comP xs ys = i
  | 0, xs, ys, _, _, _, h => by
    cases xs with
    | nil => rfl
    | cons x r =>
      cases ys with
      | nil => rfl
      | cons y q =>
        unfold comP
        rw [if_neg]
        intro e
        exact h (by rw [e]; rfl)
  | i + 1, xs, ys, h, h1, h2, h3 => by
    cases xs with
    | nil => simp at h1
    | cons x r =>
      cases ys with
      | nil => simp at h2
      | cons y q =>
        rw [List.take_succ_cons, List.take_succ_cons] at h
        obtain ⟨e, h⟩ := List.cons.inj h
        unfold comP
        rw [if_pos e, comP_of i h (by simpa using h1) (by simpa using h2) (by simpa using h3)]
theorem dif_some {i : Nat} {xs ys : List Int} (h : xs.take i = ys.take i) (h1 : i ≤ xs.length) (h2 : i ≤ ys.length) (h3 : xs[i]? ≠ ys[i]?) : difI xs ys = some i := by
  unfold difI
  rw [if_neg (fun e => h3 (by rw [e])), comP_of i h h1 h2 h3]
theorem dif_none {xs ys : List Int} (h : xs = ys) : difI xs ys = none := if_pos h
/-! ### generations -/
def itC (im cs : List Int) (n : Nat) : Nat → Option (List Int)
  | 0 => some im
  | k + 1 => (itC im cs n k).bind fun l => childO l cs n
def rowC (im cs : List Int) (n c : Nat) : List (List Int) := (List.range (c + 1)).filterMap (itC im cs n)
section
variable {im cs : List Int} {n : Nat}
theorem rowC_succ (c : Nat) : rowC im cs n (c + 1) = rowC im cs n c ++ (itC im cs n (c + 1)).toList := by
  unfold rowC
  rw [List.range_succ, List.filterMap_append]
  cases h : itC im cs n (c + 1) <;> simp [h]
theorem itC_some {k : Nat} {l : List Int} (h : itC im cs n (k + 1) = some l) : ∃ l', itC im cs n k = some l' ∧ childO l' cs n = some l := by
  unfold itC at h
  cases g : itC im cs n k with
  | none => rw [g] at h; cases h
  | some l' => rw [g] at h; exact ⟨l', rfl, h⟩
theorem itC_next {k : Nat} {l : List Int} (h : itC im cs n k = some l) : itC im cs n (k + 1) = childO l cs n := by
  rw [itC, h]
  rfl
theorem itC_none {k : Nat} (h : itC im cs n k = none) : itC im cs n (k + 1) = none := by rw [itC, h]; rfl
theorem rowC_len : ∀ {k : Nat} {l : List Int}, itC im cs n k = some l → (rowC im cs n k).length = k + 1
  | 0, l, h => by unfold rowC; simp [itC]
  | k + 1, l, h => by
    obtain ⟨l', h1, _⟩ := itC_some h
    rw [rowC_succ, h, List.length_append, rowC_len h1]
    rfl
theorem rowC_last {k : Nat} {l : List Int} (h : itC im cs n k = some l) : (rowC im cs n k)[k]? = some l := by
  cases k with
  | zero => cases h; unfold rowC; simp [itC]
  | succ k =>
    obtain ⟨l', h1, _⟩ := itC_some h
    rw [rowC_succ, h, List.getElem?_append_right (by rw [rowC_len h1]; omega), rowC_len h1]
    simp
theorem rowC_stop {k : Nat} (h : itC im cs n (k + 1) = none) : ∀ j : Nat, rowC im cs n (k + j) = rowC im cs n k ∧ itC im cs n (k + j + 1) = none
  | 0 => ⟨rfl, h⟩
  | j + 1 => by
    obtain ⟨h1, h2⟩ := rowC_stop h j
    rw [show k + (j + 1) = k + j + 1 by omega, rowC_succ, h2, h1]
    exact ⟨by simp, itC_none h2⟩
theorem rowC_pre (c : Nat) : ∀ d : Nat, ∃ r, rowC im cs n (c + d) = rowC im cs n c ++ r
  | 0 => ⟨[], by simp⟩
  | d + 1 => by
    obtain ⟨r, h⟩ := rowC_pre c d
    exact ⟨r ++ (itC im cs n (c + d + 1)).toList, by rw [show c + (d + 1) = c + d + 1 by omega, rowC_succ, h, List.append_assoc]⟩
theorem rowC_at {k c : Nat} {l : List Int} (h : itC im cs n k = some l) (hc : k ≤ c) : (rowC im cs n c)[k]? = some l ∧ k < (rowC im cs n c).length := by
  obtain ⟨r, hr⟩ := rowC_pre (im := im) (cs := cs) (n := n) k (c - k)
  rw [show k + (c - k) = c by omega] at hr
  have := rowC_len h
  have h1 : (rowC im cs n c)[k]? = some l := by rw [hr, List.getElem?_append_left (by omega)]; exact rowC_last h
  exact ⟨h1, (List.getElem?_eq_some_iff.mp h1).1⟩
theorem rowC_no {k c : Nat} {l : List Int} (h0 : itC im cs n k = some l) (h : itC im cs n (k + 1) = none) (hc : k ≤ c) : (rowC im cs n c).length = k + 1 := by
  have := (rowC_stop h (c - k)).1
  rw [show k + (c - k) = c by omega] at this
  rw [this, rowC_len h0]
theorem rowC_take {c d : Nat} (hc : c ≤ d) : (rowC im cs n d).take (c + 1) = rowC im cs n c := by
  obtain ⟨r, hr⟩ := rowC_pre (im := im) (cs := cs) (n := n) c (d - c)
  rw [show c + (d - c) = d by omega] at hr
  by_cases h : (rowC im cs n c).length = c + 1
  · rw [hr, List.take_append_of_le_length (by omega), List.take_of_length_le (by omega)]
  · have hl : (rowC im cs n c).length ≤ c + 1 := by
      unfold rowC
      exact Nat.le_trans (List.length_filterMap_le _ _) (by rw [List.length_range]; exact Nat.le_refl _)
    have hn : itC im cs n c = none := by
      cases g : itC im cs n c with
      | none => rfl
      | some l => exact absurd (rowC_len g) h
    have h2 : rowC im cs n d = rowC im cs n c := by
      cases c with
      | zero => cases hn
      | succ k =>
        have h3 := (rowC_stop hn (d - k)).1
        have h4 := (rowC_stop hn 1).1
        rw [show k + (d - k) = d by omega] at h3
        rw [h3, h4]
    rw [h2, List.take_of_length_le hl]
end
def setD (cs : List Int) (n : Nat) : Nat → Nat → List Int → PyData
  | 0, _, _ => .none
  | m + 1, k, im => match childO im cs n with
    | none => .none
    | some l => if l = im then .tuple [.int (k : Int), .list (im.map PyData.int)] else setD cs n m (k + 1) l
/-- a new list of new lists -/
structure NewLL (H H2 : Hp) (A : Addr) (ps : List Addr) (ls : List (List Int)) : Prop where
  na : H A = none
  ex : Ex H H2
  ha : H2 A = some (.lst (ps.map V.ref))
  pc : Pcs H2 ps ls
  np : ∀ p ∈ ps, H p = none
  no : A ∉ ps
theorem NewLL.exx {H H2 H3 : Hp} {A : Addr} {ps : List Addr} {ls : List (List Int)} (h : NewLL H H2 A ps ls) (e : Ex H2 H3) : NewLL H H3 A ps ls := ⟨h.na, h.ex.trans e, e _ _ h.ha, h.pc.ex e, h.np, h.no⟩
theorem NewLL.app {H H2 : Hp} {A o : Addr} {ps : List Addr} {ls : List (List Int)} {l : List Int} (h : NewLL H H2 A ps ls) (ho : H o = none) (hl : H2 o = some (.lst (l.map V.int))) (hA : o ≠ A) : NewLL H (upd H2 A (.lst (ps.map V.ref ++ [.ref o]))) A (ps ++ [o]) (ls ++ [l]) := by
  refine ⟨h.na, h.ex.mut h.na, by rw [List.map_append]; exact upd_same, Pcs.snoc (h.pc.keep fun a u ha hu => by rw [upd_ne (fun e => h.no (by rw [← e]; exact ha))]; exact hu) (by rw [upd_ne hA]; exact hl), fun p hp => ?_, fun hp => ?_⟩
  · rcases List.mem_append.mp hp with m | m
    · exact h.np p m
    · rw [List.mem_singleton.mp m]; exact ho
  · rcases List.mem_append.mp hp with m | m
    · exact h.no m
    · exact hA (List.mem_singleton.mp m).symm
def rowsD (ls : List (List Int)) : PyData := .list (ls.map fun l => .list (l.map PyData.int))
theorem dp_pcs {K : PySem.W.Frag} {H : Hp} : ∀ {ps : List Addr} {ls : List (List Int)}, Pcs H ps ls → DpAll K H (ps.map V.ref) (ls.map fun l => .list (l.map PyData.int))
  | [], [], _ => .nil
  | a :: as, l :: ls, h => .cons (dp_ints (sq_of h.1)) (dp_pcs h.2)
  | [], _ :: _, h => h.elim
  | _ :: _, [], h => h.elim
theorem NewLL.dp {K : PySem.W.Frag} {H H2 : Hp} {A : Addr} {ps : List Addr} {ls : List (List Int)} (h : NewLL H H2 A ps ls) : Dp K H2 (.ref A) (rowsD ls) := .lst (sq_of h.ha) (dp_pcs h.pc)
theorem rowsD_eqv : ∀ ls ms : List (List Int), PyData.eqvAll (ls.map fun l => PyData.list (l.map PyData.int)) (ms.map fun l => .list (l.map PyData.int)) = decide (ls = ms)
  | [], [] => by simp [PyData.eqvAll]
  | [], m :: r => by simp [PyData.eqvAll]
  | l :: r, [] => by simp [PyData.eqvAll]
  | l :: r, m :: q => by
    rw [List.map_cons, List.map_cons, PyData.eqvAll, rowsD_eqv r q, eqv_refl_ints]
    by_cases h : l = m
    · subst h
      by_cases h2 : r = q
      · subst h2; simp
      · simp [h2]
    · simp [h]
theorem rowsD_lay : ∀ ls : List (List Int), PyData.canLayAll0 (ls.map fun l => PyData.list (l.map PyData.int)) = true
  | [] => by simp [PyData.canLayAll0]
  | l :: r => by rw [List.map_cons, PyData.canLayAll0, rowsD_lay r, PyData.canLay0, can_ints]; rfl
theorem rowsD_dep : ∀ ls : List (List Int), PyData.depthAll (ls.map fun l => PyData.list (l.map PyData.int)) ≤ 3
  | [] => by simp [PyData.depthAll]
  | l :: r => by
    have h1 := rowsD_dep r
    have h2 := Gd.depthAll_ints l
    rw [List.map_cons, PyData.depthAll, PyData.depth]
    omega
theorem rowsD_ok (ls : List (List Int)) : PyData.eqv (rowsD ls) (rowsD ls) = true ∧ SeqAt.shaped (rowsD ls) = true := by
  constructor
  · unfold rowsD
    rw [PyData.eqv, rowsD_eqv, decide_eq_true rfl]
  · have := rowsD_dep ls
    unfold rowsD SeqAt.shaped
    rw [PyData.canLay0, rowsD_lay, PyData.depth]
    simp only [Bool.true_and]
    exact decide_eq_true (by omega)
end Gd

set_option Elab.async false
set_option linter.all false
set_option maxRecDepth 100000
set_option maxHeartbeats 4000000
/-! Of our own: a slice that takes each k-th item; images that write cells. -/
namespace Gd
open PySem PySem.Spec PyProof.Rows L2 Evl
def stepJ (k n : Nat) : List Nat := sliceRange 0 (n : Int) (k : Int)
def stepV {α : Type} (k : Nat) (xs : List α) : List α := (stepJ k xs.length).filterMap (xs[·]?)
theorem vals_pick {xs : List V} {us : List Value} (h : Vals xs us) : ∀ js : List Nat, Vals (js.filterMap (xs[·]?)) (js.filterMap (us[·]?))
  | [] => .nil
  | j :: r => by
    cases e : xs[j]? with
    | none => rw [List.filterMap_cons_none e, List.filterMap_cons_none (h.none_of e)]; exact vals_pick h r
    | some x =>
      obtain ⟨u, e2, rx⟩ := h.get e
      rw [List.filterMap_cons_some e, List.filterMap_cons_some e2]
      exact .cons rx (vals_pick h r)
theorem pick_step {k : Nat} (hk : 0 < k) (its : List Value) : slicePick its.toArray none none (some (k : Int)) = (stepV k its).toArray := by
  have hk' : (k : Int) > 0 := by omega
  unfold slicePick stepV stepJ
  simp only [sliceBounds, Option.getD_some, hk', if_true, List.size_toArray, List.getElem?_toArray]
theorem stepV_len {α : Type} (k : Nat) (hk : 0 < k) (xs : List α) : (stepV k xs).length ≤ xs.length := by
  unfold stepV stepJ
  exact Nat.le_trans (List.length_filterMap_le _ _) (sliceRange_length_le _ _ _ _ (fun _ => by omega) (fun h => absurd (show (k : Int) > 0 by omega) h))
def rSlK (K : PySem.W.Frag) (k : Nat) : V → Hp → VK → Prop := fun x H Q => ∃ a xs, x = .ref a ∧ SqL K H a xs ∧ ∀ p, H p = none → Q (.ref p) (upd H p (.lst (stepV k xs)))
def tSlK (K : PySem.W.Frag) (k : Nat) (te : TE) : TE := fun σ H Q => te σ H fun x H1 => rSlK K k x H1 Q
theorem pe_sliceK {X : Cx} {K : PySem.W.Frag} {e : Expr} {te : TE} {k j : Nat} {p2 p3 pos : Pos} (eK : X.K = K) (hk : 0 < k) (he : PE X e te) : PE X (.Subscript e (.Slice none none (some (.Constant (.int (k : Int)) j p3)) p2) pos) (tSlK K k te) := by
  subst eK
  refine ⟨fun pins s σ H Q I h => ?_⟩
  refine Subscript_ (thn (he.run pins s σ H _ I h) fun v s1 ⟨x, H1, I1, r1, q1⟩ => ?_)
  obtain ⟨a, xs, rfl, hx, q⟩ := q1
  cases r1
  have part : PO X (some (.Constant (.int (k : Int)) j p3)) (tPart (tC (.int (k : Int)))) := po_some pe_int
  refine wpAny_Slice (thn (po_none.run pins s1 σ H1 (fun o G => o = none ∧ G = H1) I1 ⟨rfl, rfl⟩) fun vl s2 ⟨l, H2, I2, pl, el, e2⟩ => ?_)
  subst el e2
  refine thn (po_none.run pins s2 σ H2 (fun o G => o = none ∧ G = H2) I2 ⟨rfl, rfl⟩) fun vu s3 ⟨u, H3, I3, pu, eu, e3⟩ => ?_
  subst eu e3
  refine thn (part.run pins s3 σ H3 (fun o G => o = some (k : Int) ∧ G = H3) I3 ⟨k, rfl, rfl, rfl⟩) fun vs s4 ⟨o, H4, I4, ps, eo, e4⟩ => ?_
  subst eo e4
  have J : Inv X pins σ H4 { s4 with heap := s4.heap.push { cls := .type "slice", data := .fields #[vl, vu, vs] } } := I4.kept (t' := s4.toks) fun b ob q => Heap.get?_push_of_some _ q
  obtain ⟨its, r, ht, hz⟩ := J.list hx
  have hl := r.length
  refine tail_any (ops := [.ref a, .ref s4.heap.objs.size]) ht.isList.typeIs (PySem.slot_list_getitem.lookup) ?_ (by with_unfolding_all rfl)
  refine wpAny_getItem_list_slice ht.isList (Heap.IsSliceOf.new _ vl vu vs) pl pu ps (by intro z; have := Option.some.inj z; omega) ?_ (by rw [List.size_toArray]; omega)
  rw [pick_step hk]
  refine ⟨.ref _, _, J.laid (t' := s4.toks) (o := .lst (stepV k xs)) (fun b ob q => Heap.get?_push_of_some _ q) (Nat.le_refl _) ?_, rfl, q _ (J.hok.fresh (Nat.le_refl _))⟩
  refine ⟨Nat.le_trans (stepV_len k hk xs) hz, _, 0, ?_, Heap.get?_push_size _ rfl⟩
  unfold stepV
  rw [hl]
  exact vals_pick r _
theorem el_slK {K : PySem.W.Frag} {te : TE} {σ : L2.St} {H : Hp} {a : Addr} {k : Nat} {xs : List V} (h : Ev te σ H (.ref a)) (hx : SqL K H a xs) : EvL (tSlK K k te) σ H (stepV k xs) := fun H1 e Q q =>
  h H1 e _ fun H2 e2 => ⟨a, xs, rfl, ex_l (e.trans e2) hx, fun p hp => q p _ (fresh_back e2 hp) (e2.trans (Ex.new hp)) upd_same⟩
theorem stepV_map {α β : Type} (f : α → β) (k : Nat) (xs : List α) : stepV k (xs.map f) = (stepV k xs).map f := by
  unfold stepV
  rw [List.length_map, List.map_filterMap]
  congr 1
  funext j
  rw [List.getElem?_map]
theorem mem_stepJ {j n : Nat} : j ∈ stepJ 4 n ↔ ∃ i, j = 4 * i ∧ j < n := by
  unfold stepJ sliceRange
  simp only [show ((4 : Nat) : Int) > 0 by decide, if_true]
  constructor
  · intro h
    obtain ⟨i, h1, h2⟩ := List.mem_map.mp h
    have h1 := List.mem_range.mp h1
    refine ⟨i, by omega, ?_⟩
    split at h1
    · omega
    · omega
  · rintro ⟨i, rfl, h⟩
    refine List.mem_map.mpr ⟨i, List.mem_range.mpr ?_, by omega⟩
    rw [if_pos (by omega)]
    omega
theorem mem_step4 {x : Int} {xs : List Int} : x ∈ stepV 4 xs ↔ ∃ i : Nat, xs[4 * i]? = some x := by
  unfold stepV
  rw [List.mem_filterMap]
  constructor
  · rintro ⟨j, h1, h2⟩
    obtain ⟨i, rfl, h3⟩ := mem_stepJ.mp h1
    exact ⟨i, h2⟩
  · rintro ⟨i, h⟩
    exact ⟨4 * i, mem_stepJ.mpr ⟨i, rfl, (List.getElem?_eq_some_iff.mp h).1⟩, h⟩
/-! ### a cell of the image is pushed -/
theorem g_cell {im nums : List Int} {k : Nat} {a arg su v : Int} {st bk ou : List Int} {f : Int → Int} {p : Nat} {C : AS} (h : nodeAt im a = some (38, arg, su)) (g : GoS im nums k ⟨su, st ++ [cellAt im v], f, bk, p, ou⟩ C) : GoS im nums (k + 1) ⟨a, st ++ [v], f, bk, p, ou⟩ C := GoS.one (fun s hz => ⟨_, stepM_at (by rw [hz.a]; exact h), by
  have e : perfM im nums (38, arg, su) (goM s (38, arg, su)) = { (goM s (38, arg, su)) with st := st ++ [cellAt im v] } := by
    show pushM (popM (goM s (38, arg, su))) (cellAt im (topM (goM s (38, arg, su)))) = _
    rw [top_snoc (s := goM s (38, arg, su)) hz.st, pop_snoc (s := goM s (38, arg, su)) hz.st]
    rfl
  rw [e]
  exact ⟨rfl, rfl, hz.f, hz.bk, hz.p, hz.ou⟩⟩) g
/-! ### nodes by their rows -/
theorem fold_none {k : Int} : ∀ (rows : List (Int × Nd)) (acc : Option Nd), (∀ r ∈ rows, r.1 ≠ k) → rows.foldl (pickR k) acc = acc
  | [], _, _ => rfl
  | r :: t, acc, h => by
    rw [List.foldl_cons, show pickR k acc r = acc from if_neg (h r List.mem_cons_self)]
    exact fold_none t acc fun x hx => h x (List.mem_cons_of_mem _ hx)
theorem rowsOf_app4 : ∀ (l r : List Int), l.length % 4 = 0 → rowsOf (l ++ r) = rowsOf l ++ rowsOf r
  | [], r, _ => rfl
  | [_], r, h => by simp at h
  | [_, _], r, h => by simp at h
  | [_, _, _], r, h => by simp at h
  | a :: b :: c :: d :: t, r, h => by
    show (a, b, c, d) :: rowsOf (t ++ r) = (a, b, c, d) :: rowsOf t ++ rowsOf r
    rw [rowsOf_app4 t r (by simp only [List.length_cons] at h; omega)]
    rfl
theorem rows_num : ∀ {im : List Int} {r : Int × Nd}, r ∈ rowsOf im → ∃ i : Nat, im[4 * i]? = some r.1 ∧ 4 * i + 3 < im.length
  | a :: b :: c :: d :: t, r, h => by
    rw [rowsOf] at h
    rcases List.mem_cons.mp h with rfl | h
    · exact ⟨0, rfl, by simp only [List.length_cons]; omega⟩
    · obtain ⟨i, hi, hl⟩ := rows_num h
      exact ⟨i + 1, by rw [show 4 * (i + 1) = 4 * i + 1 + 1 + 1 + 1 by omega]; exact hi, by simp only [List.length_cons]; omega⟩
  | [], _, h => nomatch h
  | [_], _, h => nomatch h
  | [_, _], _, h => nomatch h
  | [_, _, _], _, h => nomatch h
/-! ### a list is written, node after node -/
def wrR : Nat → List Int → List (Int × Nd)
  | _, [] => []
  | n, c :: r => (((2 * n : Nat) : Int), 35, c, ((2 * n + 1 : Nat) : Int)) :: (((2 * n + 1 : Nat) : Int), 46, 0, ((2 * n + 2 : Nat) : Int)) :: wrR (n + 1) r
def wrI (n : Nat) (cs : List Int) : List Int := (wrR n cs).flatMap rowL
theorem rowsOf_flat : ∀ rows : List (Int × Nd), rowsOf (rows.flatMap rowL) = rows
  | [] => rfl
  | (a, b, c, d) :: r => by
    rw [List.flatMap_cons]
    show (a, b, c, d) :: rowsOf (r.flatMap rowL) = _
    rw [rowsOf_flat r]
theorem wrR_num : ∀ (n : Nat) (cs : List Int) (r : Int × Nd), r ∈ wrR n cs → (2 * n : Int) ≤ r.1 ∧ r.1 < 2 * (n + cs.length : Int)
  | _, [], _, h => nomatch h
  | n, c :: t, r, h => by
    rw [wrR] at h
    rcases List.mem_cons.mp h with rfl | h
    · dsimp only [List.length_cons]; omega
    · rcases List.mem_cons.mp h with rfl | h
      · dsimp only [List.length_cons]; omega
      · have := wrR_num (n + 1) t r h
        simp only [List.length_cons]
        omega
theorem wrR_app : ∀ (n : Nat) (xs ys : List Int), wrR n (xs ++ ys) = wrR n xs ++ wrR (n + xs.length) ys
  | n, [], ys => rfl
  | n, c :: t, ys => by
    show _ :: _ :: wrR (n + 1) (t ++ ys) = _ :: _ :: (wrR (n + 1) t ++ wrR (n + (c :: t).length) ys)
    rw [wrR_app (n + 1) t ys, List.length_cons, show n + (t.length + 1) = n + 1 + t.length by omega]
theorem wr_len (n : Nat) (cs : List Int) : (wrI n cs).length = 8 * cs.length := by
  induction cs generalizing n with
  | nil => rfl
  | cons c t ih =>
    have := ih (n + 1)
    unfold wrI at this ⊢
    rw [wrR, List.flatMap_cons, List.flatMap_cons, List.length_append, List.length_append, this]
    show 4 + (4 + 8 * t.length) = 8 * (t.length + 1)
    omega
theorem wr_nodes (xs : List Int) (c : Int) (ys : List Int) : nodeAt (wrI 0 (xs ++ c :: ys)) ((2 * xs.length : Nat) : Int) = some (35, c, ((2 * xs.length + 1 : Nat) : Int)) ∧ nodeAt (wrI 0 (xs ++ c :: ys)) ((2 * xs.length + 1 : Nat) : Int) = some (46, 0, ((2 * xs.length + 2 : Nat) : Int)) := by
  unfold nodeAt wrI nodeIn
  rw [rowsOf_flat, wrR_app, Nat.zero_add, wrR]
  have h1 := wrR_num 0 xs
  have h2 := wrR_num (xs.length + 1) ys
  constructor
  · rw [List.foldl_append, List.foldl_cons, List.foldl_cons, fold_none (wrR (xs.length + 1) ys) _ (fun r hr => by have := h2 r hr; omega), fold_none (wrR 0 xs) _ (fun r hr => by have := h1 r hr; omega)]
    unfold pickR
    dsimp only
    rw [if_neg (by omega), if_pos rfl]
  · rw [List.foldl_append, List.foldl_cons, List.foldl_cons, fold_none (wrR (xs.length + 1) ys) _ (fun r hr => by have := h2 r hr; omega), fold_none (wrR 0 xs) _ (fun r hr => by have := h1 r hr; omega)]
    unfold pickR
    dsimp only
    rw [if_pos rfl]
theorem wr_end (cs : List Int) : nodeAt (wrI 0 cs) ((2 * cs.length : Nat) : Int) = none := by
  unfold nodeAt wrI nodeIn
  rw [rowsOf_flat]
  exact fold_none _ _ fun r hr => by have := wrR_num 0 cs r hr; omega
theorem wr_go (cs : List Int) : ∀ (ys xs : List Int), xs ++ ys = cs → GoS (wrI 0 cs) [] (2 * ys.length) ⟨((2 * xs.length : Nat) : Int), [], fun _ => 0, [], 0, xs⟩ ⟨((2 * cs.length : Nat) : Int), [], fun _ => 0, [], 0, cs⟩
  | [], xs, h => by
    rw [List.append_nil] at h
    subst h
    exact GoS.refl
  | c :: t, xs, h => by
    have hn := wr_nodes xs c t
    rw [h] at hn
    have hr := wr_go cs t (xs ++ [c]) (by rw [List.append_assoc]; exact h)
    rw [List.length_append, show 2 * (xs.length + [c].length) = 2 * xs.length + 2 from rfl] at hr
    exact g_push (st := []) hn.1 (g_write (st := []) hn.2 hr)
theorem atI_back {l : List Int} {m : Nat} {x : Int} (h0 : 0 < m) (h1 : m ≤ l.length) (h : l[l.length - m]? = some x) : atI l (-(m : Int)) = some x := by
  have e : ixN l.length (-(m : Int)) = some (l.length - m) := by
    unfold ixN
    split
    · omega
    · split
      · congr 1
        omega
      · omega
  unfold atI
  rw [e]
  exact h
/-! ### an image that writes its own end -/
def SELF (n : Int) : List Int := [0, 35, -n, 1, 1, 34, 0, 2, 2, 38, 0, 3, 3, 46, 0, 4, 4, 35, 1, 5, 5, 43, 0, 6, 6, 34, 0, 7, 7, 63, 8, 1]
theorem self_node {n : Int} {r : List Int} {k : Int} (hk : 0 ≤ k ∧ k ≤ 8) (hr : ∀ x ∈ rowsOf r, ¬ (0 ≤ x.1 ∧ x.1 < 200)) : nodeAt (SELF n ++ r) k = nodeAt (SELF n) k := by
  unfold nodeAt nodeIn
  rw [rowsOf_app4 _ _ (by simp [SELF]), List.foldl_append]
  exact fold_none _ _ fun x hx => by
    have := hr x hx
    omega
theorem self_go {n : Nat} {r : List Int} (hr : ∀ x ∈ rowsOf r, ¬ (0 ≤ x.1 ∧ x.1 < 200)) : ∀ (m : Nat) (ou : List Int), m < n → n ≤ (SELF n ++ r).length →
    GoS (SELF n ++ r) [] (7 * (m + 1)) ⟨1, [-((m + 1 : Nat) : Int)], fun _ => 0, [], 0, ou⟩ ⟨8, [0], fun _ => 0, [], 0, ou ++ (SELF n ++ r).drop ((SELF n ++ r).length - (m + 1))⟩ := by
  have nd : ∀ {k : Int}, 0 ≤ k ∧ k ≤ 8 → nodeAt (SELF n ++ r) k = nodeAt (SELF n) k := fun hk => self_node hk hr
  intro m
  induction m with
  | zero =>
    intro ou hm hl
    have hc : ∃ x, cellAt (SELF n ++ r) (-((0 + 1 : Nat) : Int)) = x ∧ (SELF n ++ r).drop ((SELF n ++ r).length - (0 + 1)) = [x] := by
      generalize SELF n ++ r = l at hl
      refine ⟨l[l.length - 1]'(by omega), ?_, ?_⟩
      · unfold cellAt
        rw [atI_back (by omega) (by omega) (List.getElem?_eq_getElem (by omega))]
        rfl
      · rw [List.drop_eq_getElem_cons (by omega), List.drop_eq_nil_of_le (by omega)]
    obtain ⟨x, h1, h2⟩ := hc
    rw [h2]
    refine g_double (st := []) (arg := 0) (su := 2) (by rw [nd (by omega)]; rfl) (g_cell (st := [-((0 + 1 : Nat) : Int)]) (arg := 0) (su := 3) (by rw [nd (by omega)]; rfl) ?_)
    rw [h1]
    refine g_write (st := [-((0 + 1 : Nat) : Int)]) (arg := 0) (su := 4) (by rw [nd (by omega)]; rfl) (g_push (st := [-((0 + 1 : Nat) : Int)]) (v := 1) (su := 5) (by rw [nd (by omega)]; rfl) (g_comb (st := []) (op := 43) (arg := 0) (su := 6) (x := -((0 + 1 : Nat) : Int)) (y := 1) (by rw [nd (by omega)]; rfl) rfl ?_))
    exact g_double (st := []) (arg := 0) (su := 7) (by rw [nd (by omega)]; rfl) (g_br0 (st := [0]) (arg := 8) (su := 1) (by rw [nd (by omega)]; rfl) rfl GoS.refl)
  | succ m ih =>
    intro ou hm hl
    obtain ⟨x, h1, h2⟩ : ∃ x, cellAt (SELF n ++ r) (-((m + 1 + 1 : Nat) : Int)) = x ∧ (SELF n ++ r).drop ((SELF n ++ r).length - (m + 1 + 1)) = x :: (SELF n ++ r).drop ((SELF n ++ r).length - (m + 1)) := by
      generalize SELF n ++ r = l at hl
      refine ⟨l[l.length - (m + 1 + 1)]'(by omega), ?_, ?_⟩
      · unfold cellAt
        rw [atI_back (by omega) (by omega) (List.getElem?_eq_getElem (by omega))]
        rfl
      · rw [List.drop_eq_getElem_cons (by omega), show l.length - (m + 1 + 1) + 1 = l.length - (m + 1) by omega]
    rw [h2, List.append_cons ou x]
    have h3 := ih (ou ++ [x]) (by omega) hl
    refine GoS.cast (j := 7 * (m + 1) + 1 + 1 + 1 + 1 + 1 + 1 + 1) ?_ (by omega)
    refine g_double (st := []) (arg := 0) (su := 2) (by rw [nd (by omega)]; rfl) (g_cell (st := [-((m + 1 + 1 : Nat) : Int)]) (arg := 0) (su := 3) (by rw [nd (by omega)]; rfl) ?_)
    rw [h1]
    refine g_write (st := [-((m + 1 + 1 : Nat) : Int)]) (arg := 0) (su := 4) (by rw [nd (by omega)]; rfl) (g_push (st := [-((m + 1 + 1 : Nat) : Int)]) (v := 1) (su := 5) (by rw [nd (by omega)]; rfl) (g_comb (st := []) (op := 43) (arg := 0) (su := 6) (x := -((m + 1 + 1 : Nat) : Int)) (y := 1) (by rw [nd (by omega)]; rfl) rfl ?_))
    have hv : combI 43 (-((m + 1 + 1 : Nat) : Int)) 1 = -((m + 1 : Nat) : Int) := by
      show -((m + 1 + 1 : Nat) : Int) + 1 = _
      omega
    rw [hv]
    exact g_double (st := []) (arg := 0) (su := 7) (by rw [nd (by omega)]; rfl) (g_br1 (st := [-((m + 1 : Nat) : Int)]) (arg := 8) (su := 1) (by rw [nd (by omega)]; rfl) (by omega) h3)
theorem self_run {n : Nat} {r : List Int} (hn : 0 < n) (hl : n ≤ (SELF n ++ r).length) (hr : ∀ x ∈ rowsOf r, ¬ (0 ≤ x.1 ∧ x.1 < 200)) :
    GoS (SELF n ++ r) [] (7 * n + 1) ⟨0, [], fun _ => 0, [], 0, []⟩ ⟨8, [0], fun _ => 0, [], 0, (SELF n ++ r).drop ((SELF n ++ r).length - n)⟩ := by
  obtain ⟨m, rfl⟩ : ∃ m, n = m + 1 := ⟨n - 1, by omega⟩
  exact g_push (st := []) (v := -((m + 1 : Nat) : Int)) (su := 1) (by rw [self_node (by omega) hr]; rfl) (self_go hr m [] (by omega) hl)
theorem self_end {n : Int} {r : List Int} (hr : ∀ x ∈ rowsOf r, ¬ (0 ≤ x.1 ∧ x.1 < 200)) : nodeAt (SELF n ++ r) 8 = none := by
  rw [self_node (by omega) hr]
  rfl
/-! ### lists of new tuples of ints -/
def Tups (H : Hp) : List Addr → List (List Int) → Prop
  | [], [] => True
  | p :: ps, r :: rs => H p = some (.tup (r.map V.int)) ∧ Tups H ps rs
  | _, _ => False
theorem Tups.ex {H H' : Hp} (e : Ex H H') : ∀ {ps : List Addr} {rs : List (List Int)}, Tups H ps rs → Tups H' ps rs
  | [], [], _ => trivial
  | _ :: _, _ :: _, h => ⟨e _ _ h.1, h.2.ex e⟩
theorem Tups.upd {H : Hp} {l : Addr} {xs : List V} {o : HO} (hl : H l = some (.lst xs)) : ∀ {ps : List Addr} {rs : List (List Int)}, Tups H ps rs → Tups (L2.upd H l o) ps rs
  | [], [], _ => trivial
  | p :: _, _ :: _, h => ⟨by
    rw [upd_ne (fun e => by have h1 := h.1; rw [e, hl] at h1; cases h1)]
    exact h.1, h.2.upd hl⟩
theorem Tups.app {H : Hp} : ∀ {ps qs : List Addr} {rs ss : List (List Int)}, Tups H ps rs → Tups H qs ss → Tups H (ps ++ qs) (rs ++ ss)
  | [], _, [], _, _, h => h
  | _ :: _, _, _ :: _, _, h, g => ⟨h.1, h.2.app g⟩
theorem Tups.len {H : Hp} : ∀ {ps : List Addr} {rs : List (List Int)}, Tups H ps rs → ps.length = rs.length
  | [], [], _ => rfl
  | _ :: _, _ :: _, h => by rw [List.length_cons, List.length_cons, h.2.len]
theorem Tups.dp {K : PySem.W.Frag} {H : Hp} : ∀ {ps : List Addr} {rs : List (List Int)}, Tups H ps rs → DpAll K H (ps.map V.ref) (rs.map rowT)
  | [], [], _ => .nil
  | _ :: _, _ :: _, h => .cons (.tup (.inl (.inl h.1)) (dpAll_ints _)) h.2.dp
def EvTs (t : TA) (σ : L2.St) (H : Hp) (rows : List (List Int)) : Prop := ∀ H1, Ex H H1 → ∀ Q : List V → Hp → Prop, (∀ ps H2, Ex H1 H2 → Tups H2 ps rows → Q (ps.map V.ref) H2) → t σ H1 Q
theorem ets_nil {σ : L2.St} {H : Hp} : EvTs tNil σ H [] := fun H1 e Q q => q [] H1 (Ex.refl H1) trivial
theorem ets_cons {t u : TA} {σ : L2.St} {H : Hp} {r : List Int} {rows : List (List Int)} (h1 : EvA t σ H (r.map V.int)) (hr : r.length ≤ 100000) (h2 : EvTs u σ H rows) : EvTs (tCons (tTup t) u) σ H (r :: rows) := fun H1 e Q q =>
  h1 H1 e _ fun H2 e2 => ⟨sz_of (by rw [List.length_map]; exact hr), fun p hp => h2 _ (e.trans (e2.trans (Ex.new hp))) _ fun ps H3 e3 hT => q (p :: ps) H3 (e2.trans ((Ex.new hp).trans e3)) ⟨e3 _ _ upd_same, hT⟩⟩
theorem s_extT {K : PySem.W.Frag} {σ : L2.St} {H : Hp} {D : Ends} {ta : TE} {t : TA} {l : Addr} {xs : List V} {rows : List (List Int)} (hl : H l = some (.lst xs)) (ha : Ev ta σ H (.ref l)) (h : EvTs t σ H rows) (hz : xs.length + rows.length ≤ 100000)
    (k : ∀ ps H1, Ex H H1 → Tups H1 ps rows → D.nx σ (upd H1 l (.lst (xs ++ ps.map V.ref)))) : tDrop (tBM K "list" rExtend ta (tCons (tLst t) tNil)) D σ H := ha H (Ex.refl H) _ fun H1 e1 =>
  ⟨Or.inl ⟨rfl, xs, sq_of (e1 l _ hl)⟩, h H1 e1 _ fun ps H2 e2 hT => ⟨sz_of (by rw [List.length_map, hT.len]; omega), fun p hp => by
    have hp1 := (Ex.new (o := HO.lst (ps.map V.ref)) hp)
    exact ⟨l, p, xs, ps.map V.ref, rfl, rfl, hp1 _ _ (e2 l _ (e1 l _ hl)), upd_same, sz_of (by rw [List.length_map, hT.len]; exact hz), k ps _ (e1.trans (e2.trans hp1)) (hT.ex hp1)⟩⟩⟩
theorem q_asgTs {σ : L2.St} {H : Hp} {D : Ends} {tz : TS} {t : TA} {i : Nat} {rows : List (List Int)} (h : EvTs t σ H rows) (hz : rows.length ≤ 100000) (k : ∀ q ps H1, Ex H H1 → H1 q = some (.lst (ps.map V.ref)) → Tups H1 ps rows → tz D (σ.set i (some (.ref q))) H1) : tSeq (tAsg (tLst t) (gName i)) tz D σ H :=
  h H (Ex.refl H) _ fun ps H2 e2 hT => ⟨sz_of (by rw [List.length_map, hT.len]; exact hz), fun q hq => k q ps _ (e2.trans (Ex.new hq)) upd_same (hT.ex (Ex.new hq))⟩
theorem rc_any {K : PySem.W.Frag} {H : Hp} {p : Addr} {bs : List Bool} (h : SqL K H p (bs.map V.bl)) : RC (rAny K) [.ref p] H (.bl (bs.any id)) := fun H1 e _ q => ⟨p, bs, rfl, ex_l e h, q H1 (Ex.refl H1)⟩
theorem rv_isB {H : Hp} {b c : Bool} : RV (fun x y H Q => ∃ a b, x = .bl a ∧ y = .bl b ∧ Q (.bl (decide (a = b))) H) (.bl b) (.bl c) H (.bl (decide (b = c))) := fun H1 _ _ q => ⟨b, c, rfl, rfl, q H1 (Ex.refl H1)⟩
/-- a number of a node that is one of the program's own -/
def ownN (x : Int) : Bool := decide (0 ≤ x) && decide (x < 200)
def badP (ps : List Int) : Bool := (stepV 4 ps).any ownN
theorem bad_no {ps : List Int} (h : badP ps = false) : ∀ i x, ps[4 * i]? = some x → ¬ (0 ≤ x ∧ x < 200) := fun i x hx hn => by
  have h1 : ownN x = true := by unfold ownN; rw [decide_eq_true hn.1, decide_eq_true hn.2]; rfl
  have := List.any_eq_true.mpr ⟨x, mem_step4.mpr ⟨i, hx⟩, h1⟩
  unfold badP at h
  rw [h] at this
  cases this
theorem bad_yes {ps : List Int} {i : Nat} {x : Int} (hx : ps[4 * i]? = some x) (h0 : 0 ≤ x ∧ x < 200) : badP ps = true :=
  List.any_eq_true.mpr ⟨x, mem_step4.mpr ⟨i, hx⟩, by unfold ownN; rw [decide_eq_true h0.1, decide_eq_true h0.2]; rfl⟩
theorem wrR_rows (n : Nat) (cs : List Int) : ((wrR n cs).map rowL).flatten = wrI n cs := by
  unfold wrI
  rw [List.flatMap_def]
theorem self_rows {ps t : List Int} (h : badP ps = false) (ht : t.length ≤ 2) : ∀ x ∈ rowsOf (ps ++ t), ¬ (0 ≤ x.1 ∧ x.1 < 200) := fun x hx => by
  obtain ⟨i, hi, hl⟩ := rows_num hx
  rw [List.length_append] at hl
  rw [List.getElem?_append_left (by omega)] at hi
  exact bad_no h i _ hi
theorem wr_ops : ∀ (n : Nat) (cs : List Int) (k : Nat) (x : Int), (wrI n cs)[4 * k + 1]? = some x → x ≠ 38
  | _, [], _, _, h => by cases h
  | n, c :: r, k, x, h => by
    have e : wrI n (c :: r) = [((2 * n : Nat) : Int), 35, c, ((2 * n + 1 : Nat) : Int), ((2 * n + 1 : Nat) : Int), 46, 0, ((2 * n + 2 : Nat) : Int)] ++ wrI (n + 1) r := rfl
    rw [e] at h
    match k, h with
    | 0, h => cases h; decide
    | 1, h => cases h; decide
    | k + 2, h =>
      rw [List.getElem?_append_right (by simp only [List.length_cons, List.length_nil]; omega)] at h
      exact wr_ops (n + 1) r k x (by rw [← h]; congr 1)
end Gd

set_option Elab.async false
set_option linter.all false
set_option maxRecDepth 100000
set_option maxHeartbeats 4000000
/-! Of our own: a list comprehension an element of which may raise: the exception leaves the block, then the def. -/
namespace Gd
open PySem PySem.Spec PyProof.Rows L2 Evl
/-- what is wanted behind a block that may raise; F: the frame that runs -/
def postX (M : Model) (A : Around) (E : Value → Shared → Prop) (F : Option Addr) (use : Option (Value → Sem Unit)) (Q : Value → Shared → Prop) (acc : Value) (C : Addr) (r : Result) (t : Shared) : Prop :=
  match r, use with
  | .ok _, none => ∃ m, t.heap.Ns C m ∧ ∀ g, Heap.SameBut C t.heap g → Q acc { t with heap := g }
  | .ok _, some u => wpAny M A (u acc) (fun _ t2 => ∃ m, t2.heap.Ns C m ∧ ∀ g, Heap.SameBut C t2.heap g → Q .none { t2 with heap := g }) E t
  | .error x, _ => ∃ m, t.heap.Ns C m ∧ ∀ g, Heap.SameBut C t.heap g → ∀ ce : Env, ce.frame = F → wpAny M A (passOn "comprehension.variables-let-go" x ce : Sem Value) (fun _ _ => False) E { t with heap := g }
section
variable {M : Model} {A : Around} {E : Value → Shared → Prop} {s : Shared} {env : Env}
theorem comp_freeX {e : Expr} {scope : Scope} {pos : Pos} {acc0 first : Sem Value} {g : Comprehension} {gs : List Comprehension} {cl : List (Str × Addr)} {use : Option (Value → Sem Unit)} {Q : Value → Shared → Prop}
    (hcl : clausesOf e = g :: gs) (hs : ∀ x, foldedSetIterable g.iter env x = pure x) (hclos : closureFor scope env = pure cl)
    (hk : scope.kind = .function) (hn : ∀ x ∈ scope.names, x.2 = .local → scope.names.lookup x.1 = some .local)
    (h : wpAny M A first (fun x s₁ => wpAny M A (pyIter x) (fun it s₂ => wpAny M A acc0 (fun acc s₃ =>
      wpAny M A (newFunctionEnv scope env.globals cl [] env.qual none .none (some env)) (fun cv s₄ => cv.frame = env.frame ∧
        codeAny M A (.compStart e 0 it acc { cv with scope := relabel scope env }) (postX M A E env.frame use Q acc cv.locals) s₄) E s₃) E s₂) E s₁) E s) :
    wpAny M A (comprehension e scope env pos acc0 false first use) Q E s := by
  unfold comprehension
  rw [hclos, hcl]
  have idE : ∀ {x : Value} {t : Shared}, E x t → E x t := fun h => h
  refine wpAny_bind (wpAny_mono h (fun x s₁ h₁ => wpAny_bind (wpAny_standAt (wpAny_bind (wpAny_of_eq (hs x) (wpAny_bind (wpAny_holding ?_)))))) fun _ _ => idE)
  refine wpAny_mono h₁ (fun it s₂ h₂ => wpAny_standIf (wpAny_bind ?_)) fun _ _ => idE
  refine wpAny_mono h₂ (fun acc s₃ h₃ => wpAny_bind (wpAny_pure (wpAny_bind ?_))) fun _ _ => idE
  refine wpAny_mono h₃ (fun cv s₄ h₄ => ?_) fun _ _ => idE
  obtain ⟨hF, h₄⟩ := h₄
  dsimp only
  generalize hvs : (scope.names.filter fun x => (x.2 == .local || x.2 == .cell) && x.1 != (".0" : Str)).reverse = vs
  have kind : ∀ x ∈ vs, x.2 = .local → Env.kindOf { cv with scope := relabel scope env } x.1 = some .local := fun x hx hl => by
    rw [← hvs] at hx
    exact lookup_relabel_local (hn x (List.mem_filter.mp (List.mem_reverse.mp hx)).1 hl)
  have kind2 : ∀ x ∈ vs.drop 1 ++ vs.take 1, x.2 = .local → Env.kindOf { cv with scope := relabel scope env } x.1 = some .local := fun x hx hl =>
    (List.mem_append.mp hx).elim (fun m => kind x (List.mem_of_mem_drop m) hl) fun m => kind x (List.mem_of_mem_take m) hl
  refine wpAny_holding (wpAny_bind (wpAny_attempt (wpAny_holding (wpAny_run (codeAny_mono h₄ fun r t hr => ?_)))))
  cases r with
  | ok f =>
    cases use with
    | none =>
      obtain ⟨m, hm, hr⟩ := hr
      refine wpAny_bind (wpAny_holding ?_)
      exact wpAny_comp_letGo (cenv := { cv with scope := relabel scope env }) hk vs t m kind hm fun g _ _ sb => wpAny_pure (hr g sb)
    | some u =>
      refine wpAny_bind (wpAny_rule (wpAny_bind (wpAny_holding (wpAny_mono hr (fun _ t2 hr2 => ?_) fun _ _ => idE))))
      obtain ⟨m, hm, hr2⟩ := hr2
      exact wpAny_bind (wpAny_comp_letGo (cenv := { cv with scope := relabel scope env }) hk _ t2 m kind2 hm fun g _ _ sb => wpAny_pure (hr2 g sb))
  | error x =>
    have hr2 : ∃ m, t.heap.Ns cv.locals m ∧ ∀ g, Heap.SameBut cv.locals t.heap g → ∀ ce : Env, ce.frame = env.frame → wpAny M A (passOn "comprehension.variables-let-go" x ce : Sem Value) (fun _ _ => False) E { t with heap := g } := by
      cases use <;> exact hr
    obtain ⟨m, hm, hr3⟩ := hr2
    refine wpAny_bind (wpAny_holding ?_)
    exact wpAny_comp_letGo (cenv := { cv with scope := relabel scope env }) hk vs t m kind hm fun g _ _ sb => wpAny_mono (hr3 g sb _ hF) (fun _ _ z => z.elim) fun _ _ => idE
end
section
variable {M : Model} {A : Around} {E : Value → Shared → Prop} {s : Shared} {env : Env} {outer : List Env} {B : Heap} {a L L2 : Addr} {Z : Obj → Prop}
/-- an exception that another frame's record noted last is noted by this one -/
theorem look_over {Q : Unit → Shared → Prop} (hZ : HandSPX.Steady Z) (hfr : A.frames = some (env :: outer)) (hf : env.frame = some L) (x : HandSPX.HeldZ B (env :: outer) a Z L2 s.heap)
    (hQ : ∀ g, HandSPX.HeldZ B (env :: outer) a Z L g → s.heap.UpToSlots g → Q () { s with heap := g }) : wpAny M A (noteFrame (.ref a) env) Q E s := by
  obtain ⟨hB, hn, hl, tr⟩ := x
  by_cases same : L2 = L
  · subst same
    exact HandSPX.againZ hf tr (hQ s.heap ⟨hB, hn, hl, tr⟩ (Heap.UpToSlots.refl _))
  obtain ⟨oe, us, T, oT, ts, he, hz, hd, h1, nT, Ta, hT, dT, h3⟩ := tr
  unfold noteFrame
  simp only [hf]
  refine wpAny_bind (wpAny_field he hd h1 ?_)
  rw [if_pos (show (Value.ref T != Value.none) = true from by simp)]
  refine wpAny_bind (wpAny_field hT dT h3 ?_)
  rw [if_neg (show ¬ ((rawInt L2 == rawInt L) = true) from by simp only [rawInt, beq_iff_eq, Value.int.injEq]; exact fun e => same (Int.ofNat.inj e.1))]
  refine wpAny_bind (wpAny_setField hT dT (Array.getElem?_eq_some_iff.mp h3).1 ?_)
  have but : ∀ b, b ≠ T → (s.heap.update T (Obj.mapFields (·.setIfInBounds 3 Value.none))).get? b = s.heap.get? b := fun b hb => Heap.get?_update_other _ _ (Ne.symm hb)
  have nrec : ∀ b o, s.heap.get? b = some o → (∀ ws, o.data ≠ .fields ws) → b ≠ T := fun b o hb hw q => by
    subst q
    rw [hT] at hb
    cases hb
    exact hw ts dT
  refine HandSPX.wpAny_entryZ hZ hfr (hl.of_keeps fun b o hb hw => ⟨o, (but b (nrec b o hb hw)).trans hb, rfl⟩) hf ((but a (Ne.symm Ta)).trans he)
    (fun b o hb => (but b fun q => by rw [q, nT] at hb; cases hb).trans (hB b o hb)) hn hd (Array.getElem?_eq_some_iff.mp h1).1 hz fun g hN => ?_
  obtain ⟨y1, y2, y3, y4⟩ := hN
  exact hQ g ⟨y1, hn, y2, y3⟩ fun b o hb hw => y4 b o ((but b (nrec b o hb hw)).trans hb) hw
/-- in the air, however: noted -/
theorem sky_note {Q : Unit → Shared → Prop} (hZ : HandSPX.Steady Z) (hfr : A.frames = some (env :: outer)) (hf : env.frame = some L) (x : Sky B (env :: outer) a Z L2 s.heap)
    (hQ : ∀ g, HandSPX.HeldZ B (env :: outer) a Z L g → s.heap.UpToSlots g → Q () { s with heap := g }) : wpAny M A (noteFrame (.ref a) env) Q E s := by
  rcases x with ⟨hB, hn, hl, oe, us, he, hz, hd, h1⟩ | fl | hh
  · exact HandSPX.look_newZ hZ hfr hl hf he hB hn hd h1 hz hQ
  · exact HandSPX.looks_onZ hZ hfr hf fl hQ
  · exact look_over hZ hfr hf hh hQ
end
section
variable {X : Cx} {pins : List (Addr × Obj)} {σ : L2.St} {H H' : Hp} {s t : Shared} {B : Heap}
/-- an exception of a block that started at s is in the air of the def; fp: what the block has walked -/
theorem XE.of_blk {fp : List Addr} {a : Addr} {cls : Value} {d : Option Addr} {W : WX} (I : Inv X pins σ H s)
    (hch : ∀ b ∈ fp, (b ∈ X.ex ∨ X.s_0.heap.objs.size ≤ b) ∧ b ≠ X.env.locals ∧ (∀ x c, X.env.cells.lookup x = some c → c ≠ b) ∧ ∀ p ∈ X.pn ++ pins, p.1 ≠ b)
    (hh : HandSPX.HeldZ B X.stack a (Zc cls d) X.env.locals t.heap) (hok : HOk X.prog X.w H' B)
    (k1 : ∀ b o, s.heap.get? b = some o → H b = none → b ∉ frs X.stack → b ∉ fp → B.get? b = some o)
    (k2 : ∀ b o, s.heap.get? b = some o → b ∈ frs X.stack → b ∉ fp → ∃ sl, t.heap.get? b = some { o with slots := sl })
    (k3 : ∀ b o, s.heap.get? b = some o → H b = none → b ∉ fp → H' b = none)
    (k4 : ∀ b o, s.heap.get? b = some o → b ∉ frs X.stack → b ∉ fp → ∃ o', B.get? b = some o')
    (k5 : ∀ b xs, H b = some (.tup xs) → H' b = some (.tup xs)) (k6 : ∀ b o u, H b = some (.frz o u) → H' b = some (.frz o u)) (k7 : ∀ b ps, H b = some (.tbl ps) → ∃ more, H' b = some (.tbl (ps ++ more)))
    (na : H' a = none) (os : t.os = s.os) (ag : AllBare t.gens) (w : W cls d σ H') : XE X W (.ref a) t := by
  obtain ⟨G, g1, g2⟩ := restrict t.heap fun b => decide (b ∈ frs X.stack) || (B.get? b).isSome
  have st := hh.1
  have up : ∀ b o, B.get? b = some o → G.get? b = some o := fun b o q => by
    have : (decide (b ∈ frs X.stack) || (B.get? b).isSome) = true := by rw [q]; simp
    rw [g1 b this]
    exact st b o q
  have fr : ∀ b, b ∈ frs X.stack → G.get? b = t.heap.get? b := fun b m => g1 b (by rw [decide_eq_true m]; rfl)
  have dn : ∀ b o, G.get? b = some o → t.heap.get? b = some o ∧ (b ∈ frs X.stack ∨ (B.get? b).isSome = true) := fun b o q => by
    by_cases y : (decide (b ∈ frs X.stack) || (B.get? b).isSome) = true
    · rw [g1 b y] at q
      exact ⟨q, by simpa using y⟩
    · rw [g2 b (by simpa using y)] at q
      cases q
  refine ⟨a, B, { s with heap := G, gens := t.gens, drawn := t.drawn, toks := t.toks }, pins, σ, H', cls, d, rfl, ?_, fun b o q nb => ?_, Heap.UpToSlots.of_keeps fun b o q => (dn b o q).1, .inr (.inr hh), na, os, ag, w⟩
  · refine I.call (ch := fp) ⟨fun b o q n nb nf => up b o (k1 b o q n nb nf), fun b o q n hb nf => ?_, fun b o q n nf => k3 b o q n nf, fun b o q nf => ?_, k5, k6, k7⟩ (hok.kept up) ag hch
    · obtain ⟨sl, y⟩ := k2 b o q hb nf
      exact ⟨sl, (fr b hb).trans y⟩
    · by_cases hb : b ∈ frs X.stack
      · obtain ⟨sl, y⟩ := k2 b o q hb nf
        exact ⟨_, (fr b hb).trans y⟩
      · obtain ⟨o', y⟩ := k4 b o q hb nf
        exact ⟨o', up b o' y⟩
  · obtain ⟨q1, q2⟩ := dn b o q
    have q2 := q2.resolve_left nb
    obtain ⟨o', y⟩ := Option.isSome_iff_exists.mp q2
    have := st b o' y
    rw [q1] at this
    cases this
    exact y
/-- the block's own air, however its wish was named -/
theorem XE.ofTr {pn : List (Addr × Obj)} {xe : Value → Shared → Prop} {W : WX} {u : Value} (x : XE (X.tr (X.pn ++ pn) xe) W u t) : XE X W u t := by
  obtain ⟨a, B, sI, ps, σ, H, cls, d, e, I, nb, up, sky, na, os, ag, w⟩ := x
  exact ⟨a, B, sI, pn, σ, H, cls, d, e, I.ofTry I.ok.ofTry, nb, up, sky, na, os, ag, w⟩
theorem funs_at {h h' base : Heap} : ∀ {l : List Env}, h.FunFrames base l → (∀ b ∈ frs l, h'.get? b = h.get? b) → h'.FunFrames base l
  | [], x, _ => x
  | e :: r, x, k => by
    obtain ⟨x0, ⟨L, o, hf, hn, ho, hd⟩, x2⟩ := x
    have kr : ∀ b ∈ frs r, h'.get? b = h.get? b := fun b m => k b (by
      unfold frs at m ⊢
      rw [List.filterMap_cons]
      cases e.frame with
      | none => exact m
      | some L => exact List.mem_cons_of_mem _ m)
    have hL : L ∈ frs (e :: r) := by
      unfold frs
      rw [List.filterMap_cons, hf]
      exact List.mem_cons_self ..
    exact ⟨x0, ⟨L, o, hf, hn, (k L hL).trans ho, hd⟩, funs_at x2 kr⟩
/-- what leaves a block is taken where what leaves the def is -/
theorem err_out {scope : Scope} {ce : Env} {fp : List Addr} {E1 : XK} {u : Value} {Eo : Value → Shared → Prop} {use : Option (Value → Sem Unit)} {Qf : Value → Shared → Prop} {acc : Value}
    (hs : X.stack = X.env :: X.outer) (hf : X.env.frame = some X.env.locals) (I3 : Inv X pins σ H s) (f3 : ∀ b ∈ fp, FpOk X pins H b ∧ b < s.heap.objs.size)
    (cL : ce.locals = s.heap.objs.size) (cF : ce.frame = X.env.frame) (tk : Takes X fun cls d _ G => E1 cls d G)
    (hx : XE (X.blk s H scope ce fp) (fun cls d _ G => E1 cls d G) u t) :
    wpAny (model X.prog X.w) X.A (noteFrame u ce) (fun _ t2 => postX (model X.prog X.w) X.A X.xe X.env.frame use Qf acc s.heap.objs.size (.error u) t2) Eo t := by
  obtain ⟨a, B, sI, ps, τ, H', cls, d, rfl, I, nb, up, sky, na, os, ag, w⟩ := hx
  have I0 := I
  have en : noteFrame (.ref a) ce = noteFrame (.ref a) X.env := by
    unfold noteFrame PySem.frameOf
    rw [cF]
  rw [en]
  have hfr : X.A.frames = some (X.env :: X.outer) := by rw [I3.ok.frames, hs]
  have sky' : Sky B (X.env :: X.outer) a (Zc cls d) ce.locals t.heap := by rw [← hs]; exact sky
  refine sky_note Zc.steady hfr hf sky' fun g hh upg => ?_
  generalize hC : s.heap.objs.size = C at *
  have hCn : C ∉ frs X.stack := fun m => by
    obtain ⟨_, o, ho, _⟩ := I3.stack.mem m
    have := Heap.lt_size ho
    rw [hC] at this
    exact Nat.lt_irrefl _ this
  obtain ⟨m, hns, _⟩ := I.loc
  have hns : sI.heap.Ns ce.locals m := hns
  rw [cL] at hns
  have hg : ∀ o, sI.heap.get? C = some o → g.get? C = some o := fun o q => hh.1 C o (nb C o q hCn)
  refine ⟨m, hns.at hg, fun g2 sb ce1 cF1 => ?_⟩
  -- the ground without the block's names
  obtain ⟨B2, r1, r2⟩ := restrict B fun b => decide (b ≠ C)
  have hB2 : ∀ b o, B2.get? b = some o → B.get? b = some o ∧ b ≠ C := fun b o q => by
    by_cases e : b = C
    · rw [r2 b (by rw [e]; simp)] at q
      cases q
    · rw [r1 b (by simp [e])] at q
      exact ⟨q, e⟩
  have hB3 : ∀ b o, b ≠ C → B.get? b = some o → B2.get? b = some o := fun b o e q => by rw [r1 b (by simp [e])]; exact q
  obtain ⟨oe, us, T, oT, ts, he, hz, hd, h1, nT, Ta, hT, dT, h3⟩ := hh.2.2.2
  obtain ⟨oC, ho, hdict⟩ : ∃ o, g.get? C = some o ∧ ∀ ws, o.data ≠ .fields ws := by
    obtain ⟨o, es, ep, q, e, _⟩ := hns.at hg
    exact ⟨o, q, fun ws z => by simp [z] at e⟩
  have aC : a ≠ C := fun e => by rw [e, ho] at he; cases he; exact hdict us hd
  have TC : T ≠ C := fun e => by rw [e, ho] at hT; cases hT; exact hdict ts dT
  have gk : ∀ b o, b ≠ C → g.get? b = some o → g2.get? b = some o := fun b o e q => (sb.2 b e).trans q
  have hh2 : HandSPX.HeldZ B2 (X.env :: X.outer) a (Zc cls d) X.env.locals g2 := by
    refine ⟨fun b o q => gk b o (hB2 b o q).2 (hh.1 b o (hB2 b o q).1), ?_, ?_, oe, us, T, oT, ts, gk _ _ aC he, hz, hd, h1, ?_, Ta, gk _ _ TC hT, dT, h3⟩
    · rw [r1 a (by simp [aC])]
      exact hh.2.1
    · have fz := hh.2.2.1
      have fz2 : g2.FunFrames B (X.env :: X.outer) := by
        rw [← hs] at fz ⊢
        exact funs_at fz fun b hb => sb.2 b fun e => hCn (e ▸ hb)
      rw [← hs] at fz2 ⊢
      exact funFrames_none fz2 fun b hb => by
        cases q : B2.get? b with
        | none => rfl
        | some o =>
          have := (fz2.mem hb).1
          rw [(hB2 b o q).1] at this
          cases this
    · rw [r1 T (by simp [TC])]
      exact nT
  have fields : ∀ {α : Type} (f : Value → Sem α) {Q : α → Shared → Prop}, wpAny (model X.prog X.w) X.A (f (.ref T)) Q X.xe { t with heap := g2 } → wpAny (model X.prog X.w) X.A (field (.ref a) 1 >>= f) Q X.xe { t with heap := g2 } := fun f Q h => wpAny_bind (wpAny_field (gk _ _ aC he) hd h1 h)
  unfold PySem.passOn
  refine fields _ ?_
  rw [if_neg (show ¬ ((Value.ref T == Value.none) = true) from by simp)]
  rw [cF1, hf]
  refine wpAny_bind (HandSPX.setFlight_onZ (s := { t with heap := g2 }) hh2 fun g3 hh3 up3 => ?_)
  refine wpAny_throw (tk _ _ ?_)
  -- in the air of the def
  have hokB : HOk X.prog X.w H' B := I.inGround nb
  have nC : H' C = none := by
    have z : H' ce.locals = none := I.free
    rwa [cL] at z
  have hok2 : HOk X.prog X.w H' B2 := fun b o q => (hokB b o q).stay (fun c v hc z => hB3 c v (fun e => by
    subst e
    rcases hc with rfl | hc
    · rw [nC] at q; cases q
    · rw [nC] at hc; cases hc) z) (fun _ z => z) fun _ _ z => z
  have nCs : ∀ b o, s.heap.get? b = some o → b ≠ C := fun b o q e => by
    have := Heap.lt_size q
    rw [hC, e] at this
    exact Nat.lt_irrefl _ this
  have bs : Un (frs X.stack) fp H H' s.heap sI.heap := I.base
  refine XE.of_blk (B := B2) (H' := H') (fp := fp) (t := { t with heap := g3 }) I3 (fun b hb => ⟨(f3 b hb).1.2.2.2.1, (f3 b hb).1.2.1, (f3 b hb).1.2.2.2.2.1, (f3 b hb).1.2.2.2.2.2⟩) (by rw [hs]; exact hh3) hok2 (fun b o q n n1 n2 => hB3 b o (nCs b o q) (nb b o (bs.keep b o q n n1 n2) n1)) (fun b o q hb n2 => ?_) (fun b o q n n2 => bs.free b o q n n2) (fun b o q n1 n2 => ?_) bs.tups bs.frzs bs.tbls na (os.trans I.os) ag w
  · obtain ⟨sl, y⟩ := bs.slot b o q (I3.stkFree b hb) hb n2
    obtain ⟨_, o0, y0, nf⟩ := I3.stack.mem hb
    rw [q] at y0
    cases y0
    obtain ⟨sl2, y2⟩ := up b _ y nf
    obtain ⟨sl3, y3⟩ := upg b _ y2 nf
    obtain ⟨sl4, y4⟩ := up3 b _ (gk b _ (nCs b o q) y3) nf
    exact ⟨sl4, y4⟩
  · obtain ⟨o', y⟩ := bs.there b o q n2
    exact ⟨o', hB3 b o' (nCs b o q) (nb b o' y n1)⟩
end
section
variable {X : Cx}
/-- the context of a block whose elements may raise -/
abbrev _root_.L2.Cx.blkX (X : Cx) (s : Shared) (H : Hp) (scope : Scope) (cenv : Env) (fp : List Addr) (pn : List (Addr × Obj)) (xe : Value → Shared → Prop) : Cx := (X.blk s H scope cenv fp).tr pn xe
theorem lcX_core {pins : List (Addr × Obj)} {s : Shared} {σ : L2.St} {H : Hp} {Q : VK} {elt tg iter : Expr} {ifs : List Expr} {scope : Scope} {own : List (Str × Nat)} {pos pos' : Pos} {wi : TI} {g : TG} {tt : TT} {te : TE} {E1 : XK} {use : Option (Value → Sem Unit)} {Qf : Value → Shared → Prop}
    (hc : X.calm = true) (hN : X.N.Nodup) (hst : X.stack = X.env :: X.outer) (hfl : X.env.frame = some X.env.locals) (tk : Takes X fun cls d _ G => E1 cls d G) (I : Inv X pins σ H s) (hi : ∀ R, wi σ H R → wpAny (model X.prog X.w) X.A (eval iter X.env) (fun v s1 => wpAny (model X.prog X.w) X.A (pyIter v) (PIE X pins σ tg R) X.xe s1) X.xe s) (ok : BlkOk X.N X.env.scope scope own)
    (hg : ∀ (s : Shared) (H : Hp) (C : Addr) (cl : List (Str × Addr)) (fp : List Addr), PG (X.blk s H scope (compEnvC scope cl C X.env) fp) tg g)
    (ht : ∀ (s : Shared) (H : Hp) (C : Addr) (cl : List (Str × Addr)) (fp : List Addr), PTs (X.blk s H scope (compEnvC scope cl C X.env) fp) ifs tt)
    (he : ∀ (s : Shared) (H : Hp) (C : Addr) (cl : List (Str × Addr)) (fp : List Addr) (pn : List (Addr × Obj)) (xe : Value → Shared → Prop), Takes (X.blkX s H scope (compEnvC scope cl C X.env) fp pn xe) (fun cls d _ G => E1 cls d G) → PE (X.blkX s H scope (compEnvC scope cl C X.env) fp pn xe) elt te)
    (hs : ∀ x, foldedSetIterable iter X.env x = pure x) (h : tLc wi g tt te (own.map (·.2)) σ H Q)
    (hRR : ∀ D C t m H', Inv X pins σ H' t → Q (.ref D) H' → t.heap.Ns C m → FpOk X pins H' C → postX (model X.prog X.w) X.A X.xe X.env.frame use Qf (.ref D) C (.ok .next) t) :
    wpAny (model X.prog X.w) X.A (comprehension (.ListComp elt [⟨tg, iter, ifs, 0⟩] scope pos) scope X.env pos' (newList []) false (eval iter X.env) use) Qf X.xe s := by
  have hfree : ∀ y ∈ scope.names, y.2 = .free → ∃ c, X.env.cells.lookup y.1 = some c := fun y hy e => by
    rcases ok.free y hy e with k | k
    · exact I.ok.has _ (.inl k)
    · exact I.ok.has _ (.inr k)
  refine comp_freeX (use := use) rfl hs (closure_ok hfree) ok.kind (fun y hy e => by rw [ok.uniq y hy, e]) ?_
  refine thn (hi _ h) fun xv s1 hx => thn hx fun itv s2 h2 => ?_
  obtain ⟨it, fp, tn, J, H2, e, I2, T, st2, f2, q⟩ := h2
  subst e
  refine wpAny_newObj_type (newEnv_comp ⟨rfl, ?_⟩) (by show 0 ≤ sizeLine; decide)
  generalize hD : s2.heap.objs.size = D
  have hDn : H2 D = none := I2.hok.fresh (Nat.le_of_eq hD)
  obtain ⟨W, ⟨m0, w0⟩, turn⟩ := q D hDn
  generalize hs3 : ({ s2 with heap := s2.heap.push { cls := .type "list", data := .seq ([] : List Value).toArray } } : Shared) = s3
  have I3 : Inv X pins σ (upd H2 D (.lst [])) s3 := by
    rw [← hs3]
    refine I2.laid (t' := s2.toks) (fun _ _ q => Heap.get?_push_of_some _ q) (Nat.le_of_eq hD) ⟨Nat.zero_le _, [], 0, .nil, ?_⟩
    rw [← hD]
    exact Heap.get?_push_size _ rfl
  have h3 : s3.heap = s2.heap.push { cls := .type "list", data := .seq ([] : List Value).toArray } := by rw [← hs3]
  have below : ∀ b ∈ fp, b < s2.heap.objs.size := fun b hb => by
    obtain ⟨o, q, _⟩ := T.obj _ _ st2 b hb
    exact Heap.lt_size q
  have f3 : ∀ b ∈ fp, FpOk X pins (upd H2 D (.lst [])) b ∧ b < s3.heap.objs.size := fun b hb => by
    have hlt := below b hb
    have hne : b ≠ D := by rw [← hD]; exact Nat.ne_of_lt hlt
    exact ⟨⟨by rw [upd_ne hne]; exact (f2 b hb).1, (f2 b hb).2⟩, by rw [h3, Heap.size_push]; exact Nat.lt_succ_of_lt hlt⟩
  have st3 : tn 0 s3.heap := T.keep _ _ _ st2 fun _ _ _ q => by rw [h3]; exact Heap.get?_push_of_some _ q
  have I4 := block_start I3 ok hN f3
  generalize hcl : cellsFrom (s3.heap.objs.size + 1) scope.names (cloFrom X.env.cells scope.names []) = cl at I4
  have pg := hg s3 (upd H2 D (.lst [])) s3.heap.objs.size cl fp
  have pt := ht s3 (upd H2 D (.lst [])) s3.heap.objs.size cl fp
  have pe := he s3 (upd H2 D (.lst [])) s3.heap.objs.size cl fp
  show codeAny _ _ (.compStart (.ListComp elt [⟨tg, iter, ifs, 0⟩] scope pos) 0 (.ref it) (.ref D) (compEnvC scope cl s3.heap.objs.size X.env)) (postX (model X.prog X.w) X.A X.xe X.env.frame use Qf (.ref D) s3.heap.objs.size) { s3 with heap := pushCells (s3.heap.push { cls := .type "dict", data := .dict #[] }) scope.names }
  have nfp : ∀ b ∈ fp, (upd H2 D (.lst [])) b = none := fun b hb => (f3 b hb).1.1
  generalize hce : compEnvC scope cl s3.heap.objs.size X.env = ce at I4 pg pt pe ⊢
  have cL : ce.locals = s3.heap.objs.size := by subst hce; rfl
  have cF : ce.frame = X.env.frame := by subst hce; rfl
  generalize hH3 : upd H2 D (.lst []) = H3 at I3 I4 pg pt pe w0 nfp f3
  generalize hs4 : ({ s3 with heap := pushCells (s3.heap.push { cls := .type "dict", data := .dict #[] }) scope.names } : Shared) = s4 at I4 ⊢
  have st4 : tn 0 s4.heap := T.keep _ _ _ st3 fun _ _ _ q => by rw [← hs4]; exact pushCells_keeps _ _ _ _ (Heap.get?_push_of_some _ q)
  have stat : ∀ {τ : L2.St} {G : Hp} {t : Shared}, Inv (X.blk s3 H3 scope ce fp) [] τ G t → (∀ b ∈ fp, G b = none) → ∀ b ∈ fp, FpOk (X.blk s3 H3 scope ce fp) [] G b := fun {τ G t} J hn b hb =>
    ⟨hn b hb, (J.ok.exf b hb).1, J.ok.exfs b hb, .inl hb, fun x c e => (J.ok.exf b hb).2 x c e, fun p hp => nomatch (show p ∈ ([] : List (Addr × Obj)) from hp)⟩
  -- what an element lets out
  have out : ∀ {u : Value} {t : Shared}, XE (X.blk s3 H3 scope ce fp) (fun cls d _ G => E1 cls d G) u t → notedBy (model X.prog X.w) X.A ce (fun x t => postX (model X.prog X.w) X.A X.xe X.env.frame use Qf (.ref D) s3.heap.objs.size (.error x) t) u t := fun {u t} hx =>
    err_out hst hfl I3 f3 cL cF tk hx
  have none' : ∀ {u : Value} {t : Shared}, False → notedBy (model X.prog X.w) X.A ce (fun x t => postX (model X.prog X.w) X.A X.xe X.env.frame use Qf (.ref D) s3.heap.objs.size (.error x) t) u t := fun h => h.elim
  have loop : codeAny (model X.prog X.w) X.A (.compLoop (.ListComp elt [⟨tg, iter, ifs, 0⟩] scope pos) 0 (.ref it) (.ref D) ce) (postX (model X.prog X.w) X.A X.xe X.env.frame use Qf (.ref D) s3.heap.objs.size) s4 := by
    refine compLoop_any (fun n t => ∃ i G, Inv (X.blk s3 H3 scope ce fp) [] (wipe σ (own.map (·.2))) G t ∧ tn i t.heap ∧ (∀ b ∈ fp, G b = none) ∧ W i n G) ?_ m0 ⟨0, H3, I4, st4, nfp, w0⟩
    rintro n s5 ⟨i, H5, I5, st5, n5, w5⟩
    rcases turn i n H5 w5 with ⟨stop, qq⟩ | ⟨go, Nx, hNx, step⟩
    · refine thnF (T.done (X.blk s3 H3 scope ce fp) rfl rfl rfl hc i [] s5 _ H5 (fun _ _ => False) I5 (stat I5 n5) st5 stop) fun r s6 hr6 => ?_
      obtain ⟨hr, I6⟩ := hr6
      subst hr
      have I7 : Inv X pins σ H5 s6 := by
        refine I3.call' (ch := fp) I6.os I6.base I6.hok I6.bare fun b hb => ?_
        obtain ⟨_, y1, _, y2, y3, y4⟩ := (f3 b hb).1
        exact ⟨y2, y1, y3, y4⟩
      have nC : H5 s3.heap.objs.size = none := by
        have z : H5 ce.locals = none := I6.free
        rwa [cL] at z
      obtain ⟨m, hn, _⟩ := I6.loc
      have hn : s6.heap.Ns ce.locals m := hn
      rw [cL] at hn
      exact hRR D s3.heap.objs.size s6 m H5 I7 qq hn (I3.fpOk (Nat.le_refl _) nC)
    · refine thnF (T.item (X.blk s3 H3 scope ce fp) rfl rfl rfl hc i [] s5 _ H5 (fun _ _ => False) I5 (stat I5 n5) st5 go) fun r s6 hr6 => ?_
      obtain ⟨u, hr, h6⟩ := hr6
      subst hr
      refine thnF h6 fun _ s7 h7 => ?_
      obtain ⟨x, H7, I7, r7, y7, st7, n7⟩ := h7
      have I7' := I7.pinned (stat I7 n7) (T.obj _ _ st7)
      refine thnF (pg.run _ s7 _ H7 x u _ I7' r7 (step x H7 y7)) fun _ s8 h8 => ?_
      obtain ⟨τ, H8, I8, hw8, q8⟩ := h8
      refine thnF (pt.run _ s8 τ H8 _ I8 q8) fun b s9 h9 => ?_
      obtain ⟨H9, I9, q9⟩ := h9
      have fin : ∀ {t : Shared} {G : Hp}, Inv (X.blk s3 H3 scope ce fp) ([] ++ pinsAt fp s7.heap) τ G t → Nx G → ∃ m, m < n ∧ ∃ i G, Inv (X.blk s3 H3 scope ce fp) [] (wipe σ (own.map (·.2))) G t ∧ tn i t.heap ∧ (∀ b ∈ fp, G b = none) ∧ W i m G := fun {t G} J nx => by
        obtain ⟨m', hm, w'⟩ := hNx G nx
        have held : ∀ b ∈ fp, ∀ o, s7.heap.get? b = some o → t.heap.get? b = some o ∧ G b = none := fun b hb o q => by
          obtain ⟨y1, y2, _⟩ := J.pin (b, o) (List.mem_append_right _ (List.mem_append_right _ (mem_pinsAt hb q)))
          exact ⟨y1, y2⟩
        have hl : (wipe σ (own.map (·.2))).length = τ.length := by rw [← hw8, wipe_length]
        refine ⟨m', hm, i + 1, G, (J.unpinned (pins := [])).weak hl (fun j v q => by rw [← hw8] at q; exact (wipe_some q).1), T.keep _ _ _ st7 fun b hb o q => (held b hb o q).1, fun b hb => ?_, w'⟩
        obtain ⟨o, q, _⟩ := T.obj _ _ st7 b hb
        exact (held b hb o q).2
      cases b with
      | false =>
        simp only [Bool.false_eq_true, if_false] at q9 ⊢
        exact fin I9 q9
      | true =>
        simp only [if_true] at q9 ⊢
        have pe' := pe ((X.blk s3 H3 scope ce fp).pn ++ ([] ++ pinsAt fp s7.heap)) (fun u t => XE (X.blk s3 H3 scope ce fp) (fun cls d _ G => E1 cls d G) u t) fun u t hx => XE.ofTr hx
        refine wpAny_mono (pe'.run _ s9 τ H9 _ (I9.toTry _) q9) (fun z s10 h10 => ?_) fun u t hx => out hx
        obtain ⟨yv, H10, I10, r10, acc, hD10, hz10, nx⟩ := h10
        exact app_ok (X := X.blk s3 H3 scope ce fp) (I10.ofTry I9.ok) hD10 hz10 r10 fun s11 I11 => fin I11 nx
  exact codeAny_compStart_list loop (T.self X.A 0 _ _ _ st4 loop)
/-- as a value -/
theorem pe_lcX {elt tg iter : Expr} {ifs : List Expr} {scope : Scope} {own : List (Str × Nat)} {pos : Pos} {wi : TI} {g : TG} {tt : TT} {te : TE} {E1 : XK} (tk : Takes X fun cls d _ G => E1 cls d G) (hst : X.stack = X.env :: X.outer) (hfl : X.env.frame = some X.env.locals) (hc : X.calm = true) (hN : X.N.Nodup) (hi : PI X tg iter wi) (ok : BlkOk X.N X.env.scope scope own)
    (hg : ∀ (s : Shared) (H : Hp) (C : Addr) (cl : List (Str × Addr)) (fp : List Addr), PG (X.blk s H scope (compEnvC scope cl C X.env) fp) tg g)
    (ht : ∀ (s : Shared) (H : Hp) (C : Addr) (cl : List (Str × Addr)) (fp : List Addr), PTs (X.blk s H scope (compEnvC scope cl C X.env) fp) ifs tt)
    (he : ∀ (s : Shared) (H : Hp) (C : Addr) (cl : List (Str × Addr)) (fp : List Addr) (pn : List (Addr × Obj)) (xe : Value → Shared → Prop), Takes (X.blkX s H scope (compEnvC scope cl C X.env) fp pn xe) (fun cls d _ G => E1 cls d G) → PE (X.blkX s H scope (compEnvC scope cl C X.env) fp pn xe) elt te)
    (hs : ∀ x, foldedSetIterable iter X.env x = pure x := by intro _; rfl) :
    PE X (.ListComp elt [⟨tg, iter, ifs, 0⟩] scope pos) (tLc wi g tt te (own.map (·.2))) := by
  refine ⟨fun pins s σ H Q I h => ?_⟩
  rw [eval_ListComp]
  refine lcX_core hc hN hst hfl tk I (fun R q => hi.run pins s σ H R I q) ok hg ht he hs h fun D C t m G J q hn f => ⟨m, hn, fun g2 sb => ?_⟩
  obtain ⟨f0, f1, f2, f3, f4, f5⟩ := f
  exact ⟨.ref D, G, J.turned (t' := t.toks) (fun b o hb e => (sb.2 b hb).trans e) f0 f1 f3 f4 f5, rfl, q⟩
/-- name = [..] on one line, the name a local -/
theorem ps_setLcX {i : Nat} {y : Str} {py : Pos} {elt tg iter : Expr} {ifs : List Expr} {scope : Scope} {own : List (Str × Nat)} {pos spos : Pos} {wi : TI} {g : TG} {tt : TT} {te : TE} {E1 : XK} (tk : Takes X fun cls d _ G => E1 cls d G) (hst : X.stack = X.env :: X.outer) (hfl : X.env.frame = some X.env.locals) (hc : X.calm = true) (hN : X.N.Nodup) (hy : X.N[i]? = some y) (hyl : X.env.scope.names.lookup y = some .local)
    (hsw : swapsWith (.ListComp elt [⟨tg, iter, ifs, 0⟩] scope pos) (some (.Name y py)) spos.line X.env = pure true) (hi : PI X tg iter wi) (ok : BlkOk X.N X.env.scope scope own)
    (hg : ∀ (s : Shared) (H : Hp) (C : Addr) (cl : List (Str × Addr)) (fp : List Addr), PG (X.blk s H scope (compEnvC scope cl C X.env) fp) tg g)
    (ht : ∀ (s : Shared) (H : Hp) (C : Addr) (cl : List (Str × Addr)) (fp : List Addr), PTs (X.blk s H scope (compEnvC scope cl C X.env) fp) ifs tt)
    (he : ∀ (s : Shared) (H : Hp) (C : Addr) (cl : List (Str × Addr)) (fp : List Addr) (pn : List (Addr × Obj)) (xe : Value → Shared → Prop), Takes (X.blkX s H scope (compEnvC scope cl C X.env) fp pn xe) (fun cls d _ G => E1 cls d G) → PE (X.blkX s H scope (compEnvC scope cl C X.env) fp pn xe) elt te)
    (hs : ∀ x, foldedSetIterable iter X.env x = pure x := by intro _; rfl) :
    L2.PS X (.Assign [.Name y py] (.ListComp elt [⟨tg, iter, ifs, 0⟩] scope pos) spos) (tAsg (tLc wi g tt te (own.map (·.2))) (gName i)) := by
  refine ⟨fun pins s σ H D I h => ?_⟩
  rw [exec_Assign_Name_used _ _ _ _ hsw]
  refine wpAny_bind (wpAny_standAt (wpAny_bind ?_))
  have h : tLc wi g tt te (own.map (·.2)) σ H (fun x H1 => gName i x σ H1 D.nx) := h
  have core := lcX_core (pos := pos) (pos' := firstIterPos [⟨tg, iter, ifs, 0⟩] pos) (use := some (assign (.Name y py) X.env)) (Qf := fun _ t => SP X pins D .next t) hc hN hst hfl tk I (fun R q => hi.run pins s σ H R I q) ok hg ht he hs h fun L C t m G J q hn f => by
    show wpAny _ _ (assign (.Name y py) X.env (.ref L)) _ _ _
    refine wpAny_assign_Name (store_ok2 (v := V.ref L) J hN hy (.inl hyl) rfl (fun t2 J2 hx => ?_) (.inr hyl))
    obtain ⟨a, sb, ha⟩ := hx
    obtain ⟨f0, f1, f2, f3, f4, f5⟩ := f
    have haC : C ≠ a := by
      rcases ha with z | z
      · rw [z]; exact f1
      · exact fun e => f4 y a z e.symm
    refine ⟨m, hn.sameBut sb haC, fun g3 sb3 => ?_⟩
    exact ⟨_, G, J2.turned (t' := t2.toks) (fun b o hb e => (sb3.2 b hb).trans e) f0 f1 f3 f4 f5, q⟩
  exact wpAny_bind (thn core fun _ _ hq => wpAny_pure (wpAny_pure hq))
end
section
variable {K : PySem.W.Frag} {σ : L2.St} {H H1 : Hp} {tl te : TE} {tt : TT} {vs : List Nat} {j : Nat}
/-- some elements are left out -/
theorem lc_filt {J : It} {G : Hp → Prop} {Y : Nat → Hp → V → Hp → Prop} {xs : List V} {D : Addr} {Qd : Hp → Prop} (w : Walk J xs.length G Y) (hY : ∀ i H x H', i < xs.length → Y i H x H' → H' = H ∧ xs[i]? = some x)
    (hz : xs.length ≤ 90000) (hw : ∀ x, wipe ((wipe σ vs).set j (some x)) vs = wipe σ vs) (p : V → Bool) (f : V → V) (hG : ∀ H', Ex H1 H' → G H') (ht : ∀ x ∈ xs, ∀ H', Ex H1 H' → EvT tt ((wipe σ vs).set j (some x)) H' (p x))
    (he : ∀ x ∈ xs, p x = true → ∀ H', Ex H1 H' → Ev te ((wipe σ vs).set j (some x)) H' (f x)) (hD : H1 D = none) (k : ∀ H', Ex H1 H' → H' D = some (.lst ((xs.filter p).map f)) → Qd H') :
    ∃ W : Nat → Nat → Hp → Prop, (∃ m, W 0 m (upd H1 D (.lst []))) ∧ ∀ i m H, W i m H →
      (J.stop i H ∧ Qd H) ∨ (J.go i H ∧ ∃ Nx : Hp → Prop, (∀ H', Nx H' → ∃ m', m' < m ∧ W (i + 1) m' H') ∧ ∀ x H', J.yld i H x H' → gName j x (wipe σ vs) H' fun σ2 H2 => wipe σ2 vs = wipe σ vs ∧ tt σ2 H2 fun b H3 =>
        if b = true then te σ2 H3 fun y H4 => ∃ acc, H4 D = some (.lst acc) ∧ acc.length < sizeLine ∧ Nx (upd H4 D (.lst (acc ++ [y]))) else Nx H3) := by
  refine lc_it w (fun i H' => Ex H1 H' ∧ H' D = some (.lst (((xs.take i).filter p).map f))) ⟨Ex.new hD, upd_same⟩ (fun i H' _ q => hG H' q.1) ?_ (fun H' q => k H' q.1 (by rw [q.2, List.take_length]))
  intro i x H2 H3 hi q y
  obtain ⟨e, hx⟩ := hY i H2 x H3 hi y
  subst e
  obtain ⟨q1, q2⟩ := q
  have m := List.mem_of_getElem? hx
  refine ⟨hw x, ht x m H3 q1 H3 (Ex.refl H3) _ fun H5 e5 => ?_⟩
  have hfl : ((xs.take i).filter p).length ≤ 90000 := Nat.le_trans (List.length_filter_le _ _) (by rw [List.length_take]; omega)
  cases c : p x with
  | true =>
    rw [if_pos rfl]
    refine he x m c H5 (q1.trans e5) H5 (Ex.refl H5) _ fun H4 e4 => ⟨((xs.take i).filter p).map f, e4 D _ (e5 D _ q2), sz_lt (by rw [List.length_map]; omega), Ex.mut (q1.trans (e5.trans e4)) hD, ?_⟩
    rw [upd_same, take_snoc hx, List.filter_append, List.map_append, List.filter_cons, if_pos c]
    rfl
  | false =>
    rw [if_neg Bool.false_ne_true]
    refine ⟨q1.trans e5, ?_⟩
    rw [e5 D _ q2, take_snoc hx, List.filter_append, List.filter_cons, if_neg (by rw [c]; exact Bool.false_ne_true)]
    show _ = some (HO.lst (((xs.take i).filter p ++ []).map f))
    rw [List.append_nil]
theorem el_filtS {z : Str} (p : V → Bool) (f : V → V) (h : Ev tl σ H (.str z)) (hz : z.cps.size ≤ 90000) (hw : ∀ x, wipe ((wipe σ vs).set j (some x)) vs = wipe σ vs)
    (ht : ∀ c ∈ z.cps.toList, ∀ H1, Ex H H1 → EvT tt ((wipe σ vs).set j (some (.str ⟨#[c]⟩))) H1 (p (.str ⟨#[c]⟩)))
    (he : ∀ c ∈ z.cps.toList, p (.str ⟨#[c]⟩) = true → ∀ H1, Ex H H1 → Ev te ((wipe σ vs).set j (some (.str ⟨#[c]⟩))) H1 (f (.str ⟨#[c]⟩))) : EvL (tLc (iStr tl) (gName j) tt te vs) σ H (((sgns z).filter p).map f) := fun H0 e Q q =>
  h H0 e _ fun H1 e1 => ⟨z, rfl, fun D hD => lc_filt (walk_signs z) (fun _ _ _ _ _ y => y) (by rw [sgns_len]; exact hz) hw p f (fun _ _ => trivial) (fun x m H' e' => by
    obtain ⟨c, hc, rfl⟩ := List.mem_map.mp m
    exact ht c hc H' ((e.trans e1).trans e')) (fun x m hp H' e' => by
    obtain ⟨c, hc, rfl⟩ := List.mem_map.mp m
    exact he c hc hp H' ((e.trans e1).trans e')) hD (fun H' e' hd => q D H' (fresh_back e1 hD) (e1.trans e') hd)⟩
/-- over a list, the element at n lets an exception out -/
theorem lc_leaves {J : It} {G : Hp → Prop} {Y : Nat → Hp → V → Hp → Prop} {xs : List V} {D : Addr} {Qd : Hp → Prop} {n : Nat} {x : V} (w : Walk J xs.length G Y) (hY : ∀ i H x H', i < xs.length → Y i H x H' → H' = H ∧ xs[i]? = some x)
    (hz : xs.length ≤ 90000) (hw : ∀ x, wipe ((wipe σ vs).set j (some x)) vs = wipe σ vs) (f : V → V) (hG : ∀ H', Ex H1 H' → G H') (hn : xs[n]? = some x) (he : ∀ i y, i < n → xs[i]? = some y → ∀ H', Ex H1 H' → Ev te ((wipe σ vs).set j (some y)) H' (f y))
    (hx : ∀ H', Ex H1 H' → ∀ Q : VK, te ((wipe σ vs).set j (some x)) H' Q) (hD : H1 D = none) :
    ∃ W : Nat → Nat → Hp → Prop, (∃ m, W 0 m (upd H1 D (.lst []))) ∧ ∀ i m H, W i m H →
      (J.stop i H ∧ Qd H) ∨ (J.go i H ∧ ∃ Nx : Hp → Prop, (∀ H', Nx H' → ∃ m', m' < m ∧ W (i + 1) m' H') ∧ ∀ x H', J.yld i H x H' → gName j x (wipe σ vs) H' fun σ2 H2 => wipe σ2 vs = wipe σ vs ∧ tYes σ2 H2 fun b H3 =>
        if b = true then te σ2 H3 fun y H4 => ∃ acc, H4 D = some (.lst acc) ∧ acc.length < sizeLine ∧ Nx (upd H4 D (.lst (acc ++ [y]))) else Nx H3) := by
  have hnl := (List.getElem?_eq_some_iff.mp hn).1
  refine lc_it w (fun i H' => i ≤ n ∧ Ex H1 H' ∧ H' D = some (.lst ((xs.take i).map f))) ⟨Nat.zero_le _, Ex.new hD, upd_same⟩ (fun i H' _ q => hG H' q.2.1) ?_ (fun H' q => by
    have := q.1
    omega)
  intro i y H2 H3 hi q yy
  obtain ⟨e, hy⟩ := hY i H2 y H3 hi yy
  subst e
  obtain ⟨q0, q1, q2⟩ := q
  refine ⟨hw y, ?_⟩
  dsimp only [tYes]
  rw [if_pos rfl]
  by_cases c : i = n
  · subst c
    rw [hn] at hy
    cases hy
    exact hx H3 q1 _
  · refine he i y (by omega) hy H3 q1 H3 (Ex.refl H3) _ fun H4 e4 => ⟨(xs.take i).map f, e4 D _ q2, sz_lt (by rw [List.length_map, List.length_take]; omega), by omega, Ex.mut (q1.trans e4) hD, ?_⟩
    rw [upd_same, take_snoc hy, List.map_append]
    rfl
theorem ex_lcL {a : Addr} {xs : List V} {n : Nat} {x : V} (f : V → V) (h : Ev tl σ H (.ref a)) (hS : SqL K H a xs) (hz : xs.length ≤ 90000) (hw : ∀ x, wipe ((wipe σ vs).set j (some x)) vs = wipe σ vs) (hn : xs[n]? = some x)
    (he : ∀ i y, i < n → xs[i]? = some y → ∀ H', Ex H H' → Ev te ((wipe σ vs).set j (some y)) H' (f y)) (hx : ∀ H', Ex H H' → ∀ Q : VK, te ((wipe σ vs).set j (some x)) H' Q) (Q : VK) : tLc (iList K tl) (gName j) tYes te vs σ H Q :=
  h H (Ex.refl H) _ fun H1 e1 => ⟨a, rfl, ⟨xs, ex_l e1 hS⟩, fun D hD => lc_leaves walk_list (fun _ _ _ _ _ y => y) hz hw f (fun H' e' => ex_l (e1.trans e') hS) hn (fun i y hi hy H' e' => he i y hi hy H' (e1.trans e')) (fun H' e' => hx H' (e1.trans e')) hD⟩
end
end Gd

set_option Elab.async false
set_option linter.all false
set_option maxRecDepth 100000
set_option maxHeartbeats 4000000
/-! Of our own: several except clauses, each with a name or without. -/
namespace Gd
open PySem PySem.Spec PyProof.Rows L2 Evl
/-- a clause's ends: its name (at slot i) goes -/
def dropN (o : Option Nat) (D : Ends) : Ends := match o with
  | none => D
  | some i => { nx := fun τ G => D.nx (τ.set i none) G, rt := D.rt, bk := fun τ G => D.bk (τ.set i none) G, ct := fun τ G => D.ct (τ.set i none) G }
def putN (o : Option Nat) (a : Addr) (σ : L2.St) : L2.St := match o with
  | none => σ
  | some i => σ.set i (some (.ref a))
abbrev Cl := Value × Option Nat × (Addr → Value → Option Addr → TS)
/-- what the clauses want of an exception of the body, one after the other -/
def wMix (K : PySem.W.Frag) (Wo : WX) (D : Ends) : List Cl → WX
  | [] => Wo
  | (c, o, ts) :: r => fun cls d σ H => ∃ b, PySem.W.exmOne K cls c = some b ∧ (b = true → ∀ a, H a = none → ts a cls d (dropN o D) (putN o a σ) H) ∧ (b = false → wMix K Wo D r cls d σ H)
/-- a clause's name, of the form that handlers have -/
inductive NameOk (X : Cx) : Option Str → Option Nat → Prop
  | no : NameOk X none none
  | as {n : Str} {i : Nat} (hi : X.N[i]? = some n) (hl : X.env.kindOf n = some .local) : NameOk X (some n) (some i)
inductive ClsOk (X : Cx) : List ExceptHandler → List Cl → Prop
  | nil : ClsOk X [] []
  | cons {x : Str} {c : Value} {n : Option Str} {o : Option Nat} {ts : Addr → Value → Option Addr → TS} {b0 : Stmt} {suite : List Stmt} {np p2 : Pos} {hds : List ExceptHandler} {l : List Cl} (hc : Names X x c) (hn : NameOk X n o)
      (hsu : ∀ (a : Addr) (oe : Obj) (cls : Value) (d : Option Addr) (pn : List (Addr × Obj)), Zc cls d oe → (∃ vs, oe.data = .fields vs) → PSs (X.suite a ((a, oe) :: pn)) (b0 :: suite) (ts a cls d)) (r : ClsOk X hds l) :
      ClsOk X (.ExceptHandler (some (.Name x np)) n (b0 :: suite) p2 :: hds) ((c, o, ts) :: l)
section
variable {X : Cx} {body : List Stmt} {h0 : ExceptHandler} {hds : List ExceptHandler} {l : List Cl} {pos : Pos} {tb : WX → TS} {Wo : WX}
theorem ps_try_mix (hs : X.stack = X.env :: X.outer) (hf : X.env.frame = some X.env.locals) (hN : X.N.Nodup) (tk : Takes X Wo)
    (hb : ∀ (W : WX) (pn : List (Addr × Obj)) (xe : Value → Shared → Prop), Takes (X.tr pn xe) W → PassesOwn (model X.prog X.w) X.A X.env xe → PSs (X.tr pn xe) body (tb W))
    (hh : ClsOk X (h0 :: hds) l) : L2.PS X (.Try body (h0 :: hds) [] [] pos) (fun D σ H => tb (wMix X.K Wo D l) D σ H) := by
  refine ⟨fun pins s σ H D I h => ?_⟩
  have ok := I.ok
  have hfr : X.A.frames = some (X.env :: X.outer) := by rw [ok.frames, hs]
  refine wpAny_Try_except ?_
  have bodyOk := hb (wMix X.K Wo D l) (X.pn ++ pins) (fun e t1 => wpAny (model X.prog X.w) X.A (noteFrame e X.env) (fun _ t2 => wpAny (model X.prog X.w) X.A (setFlight e none) (fun _ t3 =>
    wpAny (model X.prog X.w) X.A (handleBy e X.env (h0 :: hds)) (SP X pins D) X.xe t3) X.xe t2) X.xe t1) (fun u t xx => ?caught) PassesOwn.looking
  case caught =>
    obtain ⟨a, B, sI, ps, τ, G, cls, d, rfl, J', nb, up, sky, na, os, ag, w⟩ := xx
    have J : Inv X pins τ G sI := J'.ofTry ok
    have sky2 : Sky B (X.env :: X.outer) a (Zc cls d) X.env.locals t.heap := by rw [← hs]; exact sky
    show wpAny (model X.prog X.w) X.A (noteFrame (.ref a) X.env) _ _ _
    refine Sky.land Zc.steady hfr hf sky2 fun g3 fl3 up3 => ?_
    have J3 : Inv X pins τ G { t with heap := g3 } := J.landed nb fl3.1 (up.trans up3) os ag
    obtain ⟨oe3, us3, he3, hz3, hd3⟩ := fl3.there
    have nfr : a ∉ frs (X.env :: X.outer) := fun m => by
      obtain ⟨_, o', q, nf⟩ := fl3.2.2.1.mem m
      rw [he3] at q
      cases q
      exact nf _ hd3
    have nL : a ≠ X.env.locals := fun z => nfr (List.mem_filterMap.mpr ⟨X.env, List.mem_cons_self, by rw [hf, z]⟩)
    have nF : a ∉ X.fs := fun m => by
      obtain ⟨e, q1, q2⟩ := List.mem_filterMap.mp m
      exact nfr (List.mem_filterMap.mpr ⟨e, List.mem_cons_of_mem _ q1, q2⟩)
    have S3 := J3.suite he3 hd3 na nL nF
    have go : ∀ {hds' : List ExceptHandler} {l' : List Cl}, ClsOk X hds' l' → wMix X.K Wo D l' cls d τ G → wpAny (model X.prog X.w) X.A (handleBy (.ref a) X.env hds') (SP X pins D) X.xe { t with heap := g3 } := by
      intro hds' l' hk
      induction hk with
      | nil =>
        intro w
        refine wpAny_handleBy_nil ?_
        obtain ⟨k1, k2, k3, oe, us, T, oT, ts, he, hz, hd, h1, hr⟩ := id fl3
        unfold PySem.passOn
        refine wpAny_bind (wpAny_field he hd h1 ?_)
        rw [if_neg (show ¬ ((Value.ref T == Value.none) = true) from by simp)]
        have last : wpAny (model X.prog X.w) X.A (setFlight (.ref a) X.env.frame) (fun _ t4 => wpAny (model X.prog X.w) X.A (throw (.ref a) : Sem Flow) (SP X pins D) X.xe t4) X.xe { t with heap := g3 } := by
          rw [hf]
          exact HandSPX.setFlight_upZ fl3 fun g4 hh4 up4 => wpAny_throw (tk _ _ ⟨a, B, sI, pins, τ, G, cls, d, rfl, J, nb, (up.trans up3).trans up4, .inr (.inr (by rw [hs]; exact hh4)), na, os, ag, w⟩)
        first
          | exact wpAny_bind (wpAny_pure (wpAny_bind last))
          | exact wpAny_bind last
      | @cons x c n o ts b0 suite np p2 hds2 l2 hc hn hsu r ih =>
        intro w
        obtain ⟨b, hb1, hyes, hno⟩ := w
        refine wpAny_handleBy_cons (codeAny_handlers_test ?_) (by intro q; cases q)
        have LM := PySem.W.exm_one (M := model X.prog X.w) (J3.kIn) (fun A Q E s k q => wpAny_typeOf_ref (k _ _ he3) (by rw [hz3.1]; exact q)) hb1
        have test : ∀ {Q E : Value → Shared → Prop}, Q c { t with heap := g3 } → wpAny (model X.prog X.w) (X.A.mark (some (.ref a))) (eval (.Name x np) X.env) Q E { t with heap := g3 } := fun {Q E} q => by
          obtain ⟨hg, hdbg, hm | ⟨hm, hv, hnn⟩⟩ := hc
          · exact ld_glob (X := X.suite a ((a, oe3) :: (X.pn ++ pins))) S3 hg hm q hdbg
          · exact ld_blt (X := X.suite a ((a, oe3) :: (X.pn ++ pins))) S3 hg hm hv q hnn hdbg
        refine test (LM.here ?_)
        cases b with
        | false =>
          show wpAny _ X.A (handleBy (.ref a) X.env hds2) _ _ _
          exact ih (hno rfl)
        | true =>
          have air : ∀ {Q : Unit → Shared → Prop}, (∀ g4 oe4, Inv (X.suite a ((a, oe4) :: (X.pn ++ pins))) [] τ G { t with heap := g4 } → Zc cls d oe4 → (∃ vs, oe4.data = .fields vs) → Q () { t with heap := g4 }) →
              wpAny (model X.prog X.w) (X.A.mark (some (.ref a))) (setFlight (.ref a) none) Q X.xe { t with heap := g3 } := fun {Q} k =>
            HandSPX.lands_againZ fl3 fun g4 fl4 up4 => by
              have J4 : Inv X pins τ G { t with heap := g4 } := J.landed nb fl4.1 ((up.trans up3).trans up4) os ag
              obtain ⟨oe4, us4, he4, hz4, hd4⟩ := fl4.there
              exact k g4 oe4 (J4.suite he4 hd4 na nL nF) hz4 ⟨_, hd4⟩
          cases hn with
          | no =>
            refine codeAny_handlers_suite ?_
            refine HandSPX.lands_againZ fl3 fun g4 fl4 up4 => ?_
            have J4 : Inv X pins τ G { t with heap := g4 } := J.landed nb fl4.1 ((up.trans up3).trans up4) os ag
            obtain ⟨oe4, us4, he4, hz4, hd4⟩ := fl4.there
            have S4 := J4.suite he4 hd4 na nL nF
            refine wpAny_mono ((hsu a oe4 cls d (X.pn ++ pins) hz4 ⟨_, hd4⟩).run [] _ _ G _ S4 (hyes rfl a na)) (fun f t6 hsp => ?_) (fun _ _ z => z.elim)
            cases f with
            | next => obtain ⟨τ6, G6, S6, q6⟩ := hsp; exact ⟨_, _, S6.unsuite ok, q6⟩
            | brk => obtain ⟨τ6, G6, S6, q6⟩ := hsp; exact ⟨_, _, S6.unsuite ok, q6⟩
            | cont => obtain ⟨τ6, G6, S6, q6⟩ := hsp; exact ⟨_, _, S6.unsuite ok, q6⟩
            | ret u => obtain ⟨v6, τ6, G6, S6, r6, q6⟩ := hsp; exact ⟨_, _, _, S6.unsuite ok, r6, q6⟩
          | @as n i hi hl =>
            refine codeAny_handlers_suite_as ?_
            refine HandSPX.lands_againZ fl3 fun g4 fl4 up4 => ?_
            have J4 : Inv X pins τ G { t with heap := g4 } := J.landed nb fl4.1 ((up.trans up3).trans up4) os ag
            obtain ⟨oe4, us4, he4, hz4, hd4⟩ := fl4.there
            have S4 := J4.suite he4 hd4 na nL nF
            refine store_ok (X := X.suite a ((a, oe4) :: (X.pn ++ pins))) (v := .ref a) S4 hN hi (.inl hl) rfl (fun t5 S5 => ?_) (.inr hl)
            refine wpAny_mono ((hsu a oe4 cls d (X.pn ++ pins) hz4 ⟨_, hd4⟩).run [] t5 _ G _ S5 (hyes rfl a na)) (fun f t6 hsp => ?_) (fun _ _ z => z.elim)
            have away : ∀ {τ6 : L2.St} {G6 : Hp} {Q : Shared → Prop}, Inv (X.suite a ((a, oe4) :: (X.pn ++ pins))) [] τ6 G6 t6 → (∀ t7, Inv X pins (τ6.set i none) G6 t7 → Q t7) →
                wpAny (model X.prog X.w) X.A (do bindName X.env n .none; unbindBehindTheSuite X.env n p2) (fun _ t7 => Q t7) X.xe t6 := fun {τ6 G6 Q} S6 hq => gone_ok (S6.unsuite ok) hN hi hl hq
            cases f with
            | next => obtain ⟨τ6, G6, S6, q6⟩ := hsp; exact away S6 fun t7 J7 => ⟨_, _, J7, q6⟩
            | brk => obtain ⟨τ6, G6, S6, q6⟩ := hsp; exact away S6 fun t7 J7 => ⟨_, _, J7, q6⟩
            | cont => obtain ⟨τ6, G6, S6, q6⟩ := hsp; exact away S6 fun t7 J7 => ⟨_, _, J7, q6⟩
            | ret u => obtain ⟨v6, τ6, G6, S6, r6, q6⟩ := hsp; exact away S6 fun t7 J7 => ⟨_, _, _, J7, r6, q6⟩
    exact go hh w
  refine wpAny_mono (bodyOk.run [] s σ H D (I.toTry _) h) (fun f t1 hsp => ?_) fun _ _ he => he
  cases f with
  | next => obtain ⟨τ, G, J', q⟩ := hsp; exact wpAny_execs_nil ⟨τ, G, J'.ofTry ok, q⟩
  | brk => obtain ⟨τ, G, J', q⟩ := hsp; exact ⟨τ, G, J'.ofTry ok, q⟩
  | cont => obtain ⟨τ, G, J', q⟩ := hsp; exact ⟨τ, G, J'.ofTry ok, q⟩
  | ret u => obtain ⟨v, τ, G, J', r, q⟩ := hsp; exact ⟨v, τ, G, J'.ofTry ok, r, q⟩
end
end Gd

set_option Elab.async false
set_option linter.all false
set_option maxRecDepth 100000
set_option maxHeartbeats 4000000
/-! Of our own: lists of data that grow by data, comprehensions over data, one of some new lists, lists times a number. -/
namespace Gd
open PySem PySem.Spec PyProof.Rows L2 Evl
section
variable {K : PySem.W.Frag} {σ : L2.St} {H : Hp} {te ta tb tl : TE} {D : Ends} {tz : TS} {vs : List Nat} {j : Nat}
/-- xs.extend(e), both data of tuples -/
theorem s_extLD {l : Addr} {xs : List V} {ds es : List PyData} (ha : Ev ta σ H (.ref l)) (hl : H l = some (.lst xs)) (hd : DpAll K H xs ds) (t1 : tupOs ds = true) (t2 : tupOs es = true) (h : EvLD K te σ H es) (hz : ds.length + es.length ≤ 100000)
    (k : ∀ ys H1, Ex H H1 → H1 l = some (.lst xs) → DpAll K (upd H1 l (.lst (xs ++ ys))) (xs ++ ys) (ds ++ es) → D.nx σ (upd H1 l (.lst (xs ++ ys)))) : tDrop (tBM K "list" rExtend ta (tCons te tNil)) D σ H :=
  ha H (Ex.refl H) _ fun H1 e1 => ⟨Or.inl ⟨rfl, xs, sq_of (e1 l _ hl)⟩, h H1 e1 _ fun p ys H2 np e2 hp hdp => by
    have hl2 := e2 _ _ (e1 _ _ hl)
    have hd2 := hd.ex (e1.trans e2)
    exact ⟨l, p, xs, ys, rfl, rfl, hl2, hp, sz_of (by rw [dpAll_len hd2, dpAll_len hdp]; exact hz), k ys H2 (e1.trans e2) hl2 ((hd2.app hdp).upd (by
      have : ∀ (a b : List PyData), tupOs (a ++ b) = (tupOs a && tupOs b) := fun a b => by
        induction a with
        | nil => rw [tupOs]; rfl
        | cons x r ih => rw [List.cons_append, tupOs, ih, tupOs, Bool.and_assoc]
      rw [this, t1, t2]; rfl) hl2 nt_lst)⟩⟩
theorem q_extLD {l : Addr} {xs : List V} {ds es : List PyData} (ha : Ev ta σ H (.ref l)) (hl : H l = some (.lst xs)) (hd : DpAll K H xs ds) (t1 : tupOs ds = true) (t2 : tupOs es = true) (h : EvLD K te σ H es) (hz : ds.length + es.length ≤ 100000)
    (k : ∀ ys H1, Ex H H1 → H1 l = some (.lst xs) → DpAll K (upd H1 l (.lst (xs ++ ys))) (xs ++ ys) (ds ++ es) → tz D σ (upd H1 l (.lst (xs ++ ys)))) : tSeq (tDrop (tBM K "list" rExtend ta (tCons te tNil))) tz D σ H := s_extLD (D := { D with nx := tz D }) ha hl hd t1 t2 h hz k
theorem tupOs_rows (rows : List (List Int)) : tupOs (rows.map rowT) = true := tupOs_at fun d m => by
  obtain ⟨r, _, rfl⟩ := List.mem_map.mp m
  unfold rowT
  rw [tupO]
  exact tupOs_at fun e m => by
    obtain ⟨i, _, rfl⟩ := List.mem_map.mp m
    rw [tupO]
/-- [(..), (..), ..] of tuples of ints, as data -/
theorem eld_Ts {t : TA} {rows : List (List Int)} (h : EvTs t σ H rows) (hz : rows.length ≤ 100000) : EvLD K (tLst t) σ H (rows.map rowT) := fun H1 e Q q =>
  h H1 e _ fun ps H2 e2 hT => ⟨sz_of (by rw [List.length_map, hT.len]; exact hz), fun p hp => q p _ _ (fresh_back e2 hp) (e2.trans (Ex.new hp)) upd_same ((hT.dp).ex (Ex.new hp))⟩
/-- [f(x) for x in data] -/
theorem el_mapLD {ds : List PyData} (f : PyData → V) (h : EvLD K tl σ H ds) (hz : ds.length ≤ 90000) (hw : ∀ x, wipe ((wipe σ vs).set j (some x)) vs = wipe σ vs)
    (he : ∀ v d, d ∈ ds → ∀ H1, Ex H H1 → Dp K H1 v d → Ev te ((wipe σ vs).set j (some v)) H1 (f d)) : EvL (tLc (iList K tl) (gName j) tYes te vs) σ H (ds.map f) := fun H0 e Q q =>
  h H0 e _ fun a xs H1 na e1 ha hd => ⟨a, rfl, ⟨xs, sq_of ha⟩, fun Dl hD => by
    have hlen := dpAll_len hd
    refine lc_list (xs := xs) (fun i H' => Ex H1 H' ∧ H' Dl = some (.lst ((ds.take i).map f))) ⟨Ex.new hD, upd_same⟩ (fun i H' _ p => sq_of (p.1 _ _ ha)) (fun i x H' hx p => ?_) (fun H' p => q Dl H' (fresh_back e1 hD) (e1.trans p.1) (by rw [p.2, hlen, List.take_length]))
    have hi := (List.getElem?_eq_some_iff.mp hx).1
    obtain ⟨v, hv, hdv⟩ := dpAll_at (i := i) (d := ds[i]'(by omega)) (hd.ex p.1) (List.getElem?_eq_getElem _)
    rw [hx] at hv
    cases hv
    refine ⟨hw x, ?_⟩
    dsimp only [tYes]
    rw [if_pos rfl]
    refine he x _ (List.getElem_mem _) H' ((e.trans e1).trans p.1) hdv H' (Ex.refl H') _ fun H4 e4 => ⟨(ds.take i).map f, e4 _ _ p.2, sz_lt (by rw [List.length_map, List.length_take]; omega), Ex.mut (p.1.trans e4) hD, ?_⟩
    rw [upd_same, take_snoc (List.getElem?_eq_getElem (show i < ds.length by omega)), List.map_append]
    rfl⟩
theorem eld_sl {ds : List PyData} {lo hi : Option Int} {t1 t2 : TO} (h : EvLD K te σ H ds) (h1 : ∀ H1, Ex H H1 → EvO t1 σ H1 lo) (h2 : ∀ H1, Ex H H1 → EvO t2 σ H1 hi) : EvLD K (tSl (rSlL K) te t1 t2) σ H (cutD ds lo hi) := fun H0 e Q q =>
  h H0 e _ fun a xs H1 na e1 ha hd => h1 H1 (e.trans e1) H1 (Ex.refl H1) _ fun H2 e2 => h2 H2 ((e.trans e1).trans e2) H2 (Ex.refl H2) _ fun H3 e3 =>
    ⟨a, xs, rfl, sq_of (e3 _ _ (e2 _ _ ha)), fun p hp => q p _ _ (fresh_back ((e1.trans e2).trans e3) hp) (((e1.trans e2).trans e3).trans (Ex.new hp)) upd_same ((hd.cut lo hi).ex ((e2.trans e3).trans (Ex.new hp)))⟩
theorem eld_var {a : Addr} {xs : List V} {ds : List PyData} {lo hi : Option Int} {t1 t2 : TO} (h : Ev te σ H (.ref a)) (ha : SqL K H a xs) (hd : DpAll K H xs ds) (h1 : EvO t1 σ H lo) (h2 : EvO t2 σ H hi) : EvLD K (tSl (rSlL K) te t1 t2) σ H (cutD ds lo hi) := fun H0 e Q q =>
  el_sl h h1 h2 ha H0 e Q fun p H2 np e2 hp => q p _ H2 np e2 hp ((hd.cut lo hi).ex (e.trans e2))
/-- over data at hand -/
theorem el_mapLDv {a : Addr} {xs : List V} {ds : List PyData} (f : PyData → V) (h : Ev tl σ H (.ref a)) (ha : SqL K H a xs) (hd : DpAll K H xs ds) (hz : ds.length ≤ 90000) (hw : ∀ x, wipe ((wipe σ vs).set j (some x)) vs = wipe σ vs)
    (he : ∀ v d, d ∈ ds → ∀ H1, Ex H H1 → Dp K H1 v d → Ev te ((wipe σ vs).set j (some v)) H1 (f d)) : EvL (tLc (iList K tl) (gName j) tYes te vs) σ H (ds.map f) := fun H0 e Q q =>
  h H0 e _ fun H1 e1 => ⟨a, rfl, ⟨xs, ex_l (e.trans e1) ha⟩, fun Dl hD => by
    have hd1 := hd.ex (e.trans e1)
    have hlen := dpAll_len hd1
    refine lc_list (xs := xs) (fun i H' => Ex H1 H' ∧ H' Dl = some (.lst ((ds.take i).map f))) ⟨Ex.new hD, upd_same⟩ (fun i H' _ p => ex_l ((e.trans e1).trans p.1) ha) (fun i x H' hx p => ?_) (fun H' p => q Dl H' (fresh_back e1 hD) (e1.trans p.1) (by rw [p.2, hlen, List.take_length]))
    have hi := (List.getElem?_eq_some_iff.mp hx).1
    obtain ⟨v, hv, hdv⟩ := dpAll_at (i := i) (d := ds[i]'(by omega)) (hd1.ex p.1) (List.getElem?_eq_getElem _)
    rw [hx] at hv
    cases hv
    refine ⟨hw x, ?_⟩
    dsimp only [tYes]
    rw [if_pos rfl]
    refine he x _ (List.getElem_mem _) H' ((e.trans e1).trans p.1) hdv H' (Ex.refl H') _ fun H4 e4 => ⟨(ds.take i).map f, e4 _ _ p.2, sz_lt (by rw [List.length_map, List.length_take]; omega), Ex.mut (p.1.trans e4) hD, ?_⟩
    rw [upd_same, take_snoc (List.getElem?_eq_getElem (show i < ds.length by omega)), List.map_append]
    rfl⟩
/-! ### some new lists -/
def Ls (H : Hp) : List Addr → List (List V) → Prop
  | [], [] => True
  | p :: ps, l :: ls => H p = some (.lst l) ∧ Ls H ps ls
  | _, _ => False
theorem Ls.ex {H H' : Hp} (e : Ex H H') : ∀ {ps : List Addr} {ls : List (List V)}, Ls H ps ls → Ls H' ps ls
  | [], [], _ => trivial
  | _ :: _, _ :: _, h => ⟨e _ _ h.1, h.2.ex e⟩
theorem Ls.len {H : Hp} : ∀ {ps : List Addr} {ls : List (List V)}, Ls H ps ls → ps.length = ls.length
  | [], [], _ => rfl
  | _ :: _, _ :: _, h => by rw [List.length_cons, List.length_cons, h.2.len]
theorem Ls.at {H : Hp} : ∀ {ps : List Addr} {ls : List (List V)} {i : Nat} {l : List V}, Ls H ps ls → ls[i]? = some l → ∃ p, ps[i]? = some p ∧ p ∈ ps ∧ H p = some (.lst l)
  | [], [], _, _, _, e => by simp at e
  | p :: ps, l :: ls, 0, _, h, e => by cases e; exact ⟨p, rfl, List.mem_cons_self .., h.1⟩
  | p :: ps, l :: ls, i + 1, _, h, e => by
    obtain ⟨q, h1, h2, h3⟩ := h.2.at (i := i) e
    exact ⟨q, h1, List.mem_cons_of_mem _ h2, h3⟩
theorem Ls.dp {H : Hp} : ∀ {ps : List Addr} {ls : List (List Int)}, Ls H ps (ls.map fun l => l.map V.int) → DpAll K H (ps.map V.ref) (ls.map fun l => .list (l.map PyData.int))
  | [], [], _ => .nil
  | _ :: _, _ :: _, h => .cons (dp_ints (sq_of h.1)) h.2.dp
def EvLs (t : TA) (σ : L2.St) (H : Hp) (ls : List (List V)) : Prop := ∀ H1, Ex H H1 → ∀ Q : List V → Hp → Prop, (∀ ps H2, Ex H1 H2 → (∀ p ∈ ps, H1 p = none) → Ls H2 ps ls → Q (ps.map V.ref) H2) → t σ H1 Q
theorem els_nil : EvLs tNil σ H [] := fun H1 _ Q q => q [] H1 (Ex.refl H1) (fun _ h => by cases h) trivial
theorem els_cons {t : TA} {l : List V} {ls : List (List V)} (h : EvL te σ H l) (hr : EvLs t σ H ls) : EvLs (tCons te t) σ H (l :: ls) := fun H1 e Q q =>
  h H1 e _ fun p H2 np e2 hp => hr H2 (e.trans e2) _ fun ps H3 e3 nps hps => q (p :: ps) H3 (e2.trans e3) (fun x hx => by
    rcases List.mem_cons.mp hx with rfl | m
    · exact np
    · exact fresh_back e2 (nps x m)) ⟨e3 _ _ hp, hps⟩
/-- [.., .., ..][i] -/
theorem el_pick {t : TA} {ls : List (List V)} {l : List V} {i : Nat} (h : EvLs t σ H ls) (hz : ls.length ≤ 1000) (hi : ∀ H1, Ex H H1 → Ev tb σ H1 (.int (i : Int))) (hl : ls[i]? = some l) : EvL (tOp (rIxL K) (tLst t) tb) σ H l := fun H1 e Q q =>
  h H1 e _ fun ps H2 e2 nps hps => ⟨sz_of (by rw [List.length_map, hps.len]; omega), fun A hA => hi _ ((e.trans e2).trans (Ex.new hA)) _ (Ex.refl _) _ fun H3 e3 => by
    obtain ⟨p, hp1, hp2, hp3⟩ := hps.at hl
    have e23 := (Ex.new (o := .lst (ps.map V.ref)) hA).trans e3
    exact ⟨A, ps.map V.ref, (i : Int), .ref p, rfl, rfl, sq_of (e3 _ _ upd_same), atI_nat (by rw [List.getElem?_map, hp1]; rfl), q p H3 (nps p hp2) (e2.trans e23) (e23 _ _ hp3)⟩⟩
/-- a new list of new lists, to a name -/
theorem q_asgLs {t : TA} {ls : List (List V)} {i : Nat} (h : EvLs t σ H ls) (hz : ls.length ≤ 1000) (k : ∀ A ps H1, Ex H H1 → H A = none → (∀ p ∈ ps, H p = none) → H1 A = some (.lst (ps.map V.ref)) → Ls H1 ps ls → tz D (σ.set i (some (.ref A))) H1) : tSeq (tAsg (tLst t) (gName i)) tz D σ H :=
  h H (Ex.refl H) _ fun ps H2 e2 nps hps => ⟨sz_of (by rw [List.length_map, hps.len]; omega), fun A hA => k A ps _ (e2.trans (Ex.new hA)) (fresh_back e2 hA) nps upd_same (hps.ex (Ex.new hA))⟩
/-- xs * n -/
theorem el_rep {xs : List V} {n : Nat} (h : EvL ta σ H xs) (hn : ∀ H1, Ex H H1 → Ev tb σ H1 (.int (n : Int))) (hz : xs.length * n ≤ 100000) (h1 : n ≤ 1000000) : EvL (tOp rRep ta tb) σ H (List.replicate n xs).flatten := fun H1 e Q q =>
  h H1 e _ fun p H2 np e2 hp => hn H2 (e.trans e2) H2 (Ex.refl H2) _ fun H3 e3 => ⟨p, (n : Int), xs, rfl, rfl, e3 _ _ hp, by omega, by omega, sz_of (by rw [Int.toNat_natCast]; exact hz), fun r hr => by
    rw [Int.toNat_natCast]
    exact q r _ (fresh_back (e2.trans e3) hr) ((e2.trans e3).trans (Ex.new hr)) upd_same⟩
theorem el_catN {xs ys : List V} (ha : EvL ta σ H xs) (hb : EvL tb σ H ys) (hz : xs.length + ys.length ≤ 100000) : EvL (tOp rCat ta tb) σ H (xs ++ ys) := fun H1 e Q q =>
  ha H1 e _ fun a H2 na e2 h2 => hb H2 (e.trans e2) _ fun b H3 nb e3 h3 => ⟨a, b, xs, ys, rfl, rfl, e3 _ _ h2, h3, sz_of hz, fun p hp => q p _ (fresh_back (e2.trans e3) hp) ((e2.trans e3).trans (Ex.new hp)) upd_same⟩
/-- what is drawn is fresh before, too -/
theorem fresh_bt {p q : Addr} {H G : Hp} (b : But p H G) (hG : Drw p G) (nq : G q = none) : H q = none := by
  cases h0 : H q with
  | none => rfl
  | some o =>
    have := b _ _ (drw_ne hG nq) h0
    rw [nq] at this
    cases this
/-- a drawn comprehension over a drawn range -/
theorem ep_lcDrM {p : Addr} {C : Int → Prop} {td : TE} {m : Nat} (h : EvP td σ H (DP p H fun d => 0 ≤ d ∧ d < (m : Int))) (hz : m ≤ 90000) (hw : ∀ x, wipe ((wipe σ vs).set j (some x)) vs = wipe σ vs)
    (he : ∀ (i : Nat) H', Drw p H' → EvP te ((wipe σ vs).set j (some (.int (i : Int)))) H' (DP p H' C)) : EvP (tLc (iRng1 (tCons td tNil)) (gName j) tYes te vs) σ H (fun v H' => ∃ n, n < m ∧ DrL p H n C v H') := fun Q q =>
  h _ fun v H1 hv => by
    obtain ⟨d, rfl, hd, hD1, b1⟩ := hv
    have := ep_lcDr (p := p) (C := C) (ta := tCons (tC (.int (d.toNat : Int))) tNil) (n := d.toNat) (σ := σ) (H := H1) (ea_cons ev_c ea_nil) (by omega) hD1 hw (fun i _ H' _ hD' => he i H' hD') Q (fun v H' hv => by
      obtain ⟨q0, cs, h1, h2, h3, h4, h5, h6⟩ := hv
      exact q v H' ⟨d.toNat, by omega, q0, cs, h1, fresh_bt b1 hD1 h2, b1.trans h3, h4, h5, h6⟩)
    rw [Int.toNat_of_nonneg hd.1] at this
    exact this
theorem el_catLR {a : Addr} {xs ys : List V} (ha : EvL ta σ H xs) (hb : ∀ H1, Ex H H1 → Ev tb σ H1 (.ref a)) (hx : H a = some (.lst ys)) (hz : xs.length + ys.length ≤ 100000) : EvL (tOp rCat ta tb) σ H (xs ++ ys) := fun H1 e Q q =>
  ha H1 e _ fun r H2 na e2 h2 => hb H2 (e.trans e2) H2 (Ex.refl H2) _ fun H3 e3 => ⟨r, a, xs, ys, rfl, rfl, e3 _ _ h2, (e2.trans e3) _ _ (e _ _ hx), sz_of hz, fun p hp => q p _ (fresh_back (e2.trans e3) hp) ((e2.trans e3).trans (Ex.new hp)) upd_same⟩
/-! ### arguments that are drawn -/
theorem eap_cons {t : TA} {P : V → Hp → Prop} {PA : List V → Hp → Prop} (h : EvP te σ H P) (k : ∀ v H1, P v H1 → EvAP t σ H1 (fun vs H' => PA (v :: vs) H')) : EvAP (tCons te t) σ H PA := fun Q q => h _ fun v H1 hv => k v H1 hv _ fun vs H2 h2 => q (v :: vs) H2 h2
theorem eap_nil {PA : List V → Hp → Prop} (h : PA [] H) : EvAP tNil σ H PA := fun Q q => q [] H h
theorem ep_callP {sp : Sp} {E : XK} {t : TA} {dvs : List V} {PA : List V → Hp → Prop} {P : V → Hp → Prop} (h : EvAP t σ H PA) (hs : ∀ vs H1, PA vs H1 → ∀ Q : VK, (∀ v H', P v H' → Q v H') → sp (vs ++ dvs) H1 Q E) : EvP (tCall sp dvs E t) σ H P := fun Q q => h _ fun vs H1 h1 => hs vs H1 h1 Q q
theorem ep_lstP {t : TA} {PA : List V → Hp → Prop} (h : EvAP t σ H PA) (hz : ∀ vs H1, PA vs H1 → vs.length ≤ 100000) : EvP (tLst t) σ H (fun v H' => ∃ vs H1 q, PA vs H1 ∧ H1 q = none ∧ v = .ref q ∧ H' = upd H1 q (.lst vs)) := fun Q q => h _ fun vs H1 h1 => ⟨sz_of (hz vs H1 h1), fun r hr => q _ _ ⟨vs, H1, r, h1, hr, rfl, rfl⟩⟩
theorem s_extAP {l : Addr} {t : TA} {xs : List V} {P : List V → Hp → Prop} (ha : Ev ta σ H (.ref l)) (hl : H l = some (.lst xs)) (h : ∀ H1, Ex H H1 → EvAP t σ H1 P) (k : ∀ vs H2, P vs H2 → vs.length ≤ 100000 ∧ xs.length + vs.length ≤ 100000 ∧ H2 l = some (.lst xs) ∧ ∀ G, Ex H2 G → D.nx σ (upd G l (.lst (xs ++ vs)))) : tDrop (tBM K "list" rExtend ta (tCons (tLst t) tNil)) D σ H :=
  ha H (Ex.refl H) _ fun H1 e1 => ⟨Or.inl ⟨rfl, xs, sq_of (e1 l _ hl)⟩, h H1 e1 _ fun vs H2 hp => by
    obtain ⟨z1, z2, hl2, q⟩ := k vs H2 hp
    exact ⟨sz_of z1, fun r hr => ⟨l, r, xs, vs, rfl, rfl, (Ex.new hr) _ _ hl2, upd_same, sz_of z2, q _ (Ex.new hr)⟩⟩⟩
end
end Gd

set_option Elab.async false
set_option linter.all false
set_option maxRecDepth 100000
set_option maxHeartbeats 4000000
/-! Of our own: new values of any shape, told by a relation to the heap before (its addresses were free there); lists of such values: comprehensions, drawn ones, too. -/
namespace Gd
open PySem PySem.Spec PyProof.Rows L2 Evl
/-- v in the heap G, all its own objects free in B -/
abbrev NR := V → Hp → Hp → Prop
structure Rel (R : NR) : Prop where
  mv : ∀ {v B G G'}, R v B G → (∀ a o, B a = none → G a = some o → G' a = some o) → R v B G'
  bk : ∀ {v B B' G}, R v B G → (∀ a, B a = none → B' a = none) → R v B' G
section
variable {R : NR} {Rs : List NR} {v : V} {B B' G G' H H' : Hp}
theorem Rel.ex (r : Rel R) (h : R v B G) (e : Ex G G') : R v B G' := r.mv h fun a o _ q => e a o q
theorem Rel.up (r : Rel R) {p : Addr} {o : HO} (h : R v B G) (hp : ¬ B p = none) : R v B (upd G p o) := r.mv h fun a o' n q => by rw [upd_ne (fun e : a = p => hp (e ▸ n))]; exact q
theorem Rel.be (r : Rel R) (h : R v B G) (e : Ex B' B) : R v B' G := r.bk h fun a n => fresh_back e n
/-- a value that is no object -/
def RV0 (w : V) : NR := fun v _ _ => v = w
theorem rel_v0 (w : V) : Rel (RV0 w) := ⟨fun h _ => h, fun h _ => h⟩
/-- a new list of ints -/
def RInts (P : List Int → Prop) : NR := fun v B G => ∃ a l, v = .ref a ∧ B a = none ∧ G a = some (.lst (l.map V.int)) ∧ P l
theorem rel_ints (P : List Int → Prop) : Rel (RInts P) := ⟨fun ⟨a, l, h1, h2, h3, h4⟩ k => ⟨a, l, h1, h2, k _ _ h2 h3, h4⟩, fun ⟨a, l, h1, h2, h3, h4⟩ k => ⟨a, l, h1, k _ h2, h3, h4⟩⟩
/-- None, or a new list of ints -/
def ROp (o : Option (List Int)) : NR := match o with
  | none => RV0 .non
  | some l => RInts fun m => m = l
theorem rel_op : ∀ o, Rel (ROp o)
  | none => rel_v0 _
  | some _ => rel_ints _
/-- a new list, its elements by relations -/
def RLst (Rs : List NR) : NR := fun v B G => ∃ q xs, v = .ref q ∧ B q = none ∧ G q = some (.lst xs) ∧ xs.length = Rs.length ∧ ∀ (k : Nat) (x : V) (R : NR), xs[k]? = some x → Rs[k]? = some R → R x (upd B q (.lst [])) G
theorem upd_none {B : Hp} {q a : Addr} {o : HO} (h : (upd B q o) a = none) : a ≠ q ∧ B a = none := by
  by_cases e : a = q
  · rw [e, upd_same] at h; cases h
  · rw [upd_ne e] at h; exact ⟨e, h⟩
theorem none_upd {B : Hp} {q a : Addr} {o : HO} (e : a ≠ q) (h : B a = none) : (upd B q o) a = none := by rw [upd_ne e]; exact h
theorem rel_lst (h : ∀ R ∈ Rs, Rel R) : Rel (RLst Rs) := ⟨fun ⟨q, xs, h1, h2, h3, h4, h5⟩ k => ⟨q, xs, h1, h2, k _ _ h2 h3, h4, fun i x R hx hR => (h R (List.mem_of_getElem? hR)).mv (h5 i x R hx hR) fun a o n => k a o (upd_none n).2⟩,
  fun ⟨q, xs, h1, h2, h3, h4, h5⟩ k => ⟨q, xs, h1, k _ h2, h3, h4, fun i x R hx hR => (h R (List.mem_of_getElem? hR)).bk (h5 i x R hx hR) fun a n => none_upd (upd_none n).1 (k a (upd_none n).2)⟩⟩
end
section
variable {K : PySem.W.Frag} {σ : L2.St} {H : Hp} {tl ta tb te : TE} {vs : List Nat} {j : Nat}
/-- the list that grows takes one more -/
theorem rlst_app {Rs : List NR} {xs : List V} {y : V} {B G G2 : Hp} {D : Addr} {R : NR} (hRs : ∀ R ∈ Rs, Rel R) (hR : Rel R) (hD : B D = none) (hGD : G D = some (.lst xs)) (hl : xs.length = Rs.length) (h : ∀ (k : Nat) (x : V) (R : NR), xs[k]? = some x → Rs[k]? = some R → R x (upd B D (.lst [])) G)
    (mv : ∀ a o, G a = some o → B a = none → G2 a = some o) (hB : ∀ a o, B a = some o → ∃ o', G a = some o') (hy : R y G G2) : (∀ (k : Nat) (x : V) (R' : NR), (xs ++ [y])[k]? = some x → (Rs ++ [R])[k]? = some R' → R' x (upd B D (.lst [])) (upd G2 D (.lst (xs ++ [y])))) := by
  have hBD : ¬ (upd B D (.lst [])) D = none := by rw [upd_same]; exact fun h => nomatch h
  intro k x R' hx hR'
  by_cases z : k < xs.length
  · rw [List.getElem?_append_left z] at hx
    rw [List.getElem?_append_left (hl ▸ z)] at hR'
    have r := hRs R' (List.mem_of_getElem? hR')
    refine r.up (r.mv (h k x R' hx hR') fun a o n q => mv a o q ?_) hBD
    by_cases e : a = D
    · rw [e]; exact hD
    · rw [upd_ne e] at n; exact n
  · have hk1 := (List.getElem?_eq_some_iff.mp hx).1
    rw [List.length_append] at hk1
    have hk1 : k < xs.length + 1 := hk1
    have e : k = xs.length := by omega
    rw [List.getElem?_append_right (by omega), e, Nat.sub_self] at hx
    rw [List.getElem?_append_right (by omega), e, hl, Nat.sub_self] at hR'
    cases hx
    cases hR'
    refine hR.up (hR.bk hy fun a n => ?_) hBD
    by_cases e : a = D
    · rw [e, hGD] at n; cases n
    · rw [upd_ne e]
      cases hb : B a with
      | none => rfl
      | some o =>
        obtain ⟨o', q⟩ := hB a o hb
        rw [q] at n
        cases n
/-- [e for y in l] -/
theorem ep_mapN {a : Addr} {xs : List V} {Rs : List NR} (hRs : ∀ R ∈ Rs, Rel R) (hn : Rs.length = xs.length) (h : Ev tl σ H (.ref a)) (hS : SqL K H a xs) (hz : xs.length ≤ 90000) (hw : ∀ x, wipe ((wipe σ vs).set j (some x)) vs = wipe σ vs)
    (he : ∀ (i : Nat) (x : V) (R : NR), xs[i]? = some x → Rs[i]? = some R → ∀ H', Ex H H' → EvP te ((wipe σ vs).set j (some x)) H' (fun v H2 => Ex H' H2 ∧ R v H' H2)) :
    EvP (tLc (iList K tl) (gName j) tYes te vs) σ H (fun v H' => Ex H H' ∧ RLst Rs v H H') := fun Q q =>
  h H (Ex.refl H) _ fun H1 e1 => ⟨a, rfl, ⟨_, ex_l e1 hS⟩, fun D hD => by
    refine lc_list (xs := xs) (fun i G => Ex H1 G ∧ ∃ ys, G D = some (.lst ys) ∧ ys.length = i ∧ ∀ (k : Nat) (x : V) (R : NR), ys[k]? = some x → (Rs.take i)[k]? = some R → R x (upd H1 D (.lst [])) G) ⟨Ex.new hD, [], upd_same, rfl, fun k x R h => by simp at h⟩ (fun i G _ p => ex_l (e1.trans p.1) hS) (fun i x G hx p => ?_) (fun G p => ?_)
    · obtain ⟨p1, ys, p2, p3, p4⟩ := p
      have hi := (List.getElem?_eq_some_iff.mp hx).1
      have hRi : Rs[i]? = some Rs[i] := List.getElem?_eq_getElem (by omega)
      refine ⟨hw _, ?_⟩
      dsimp only [tYes]
      rw [if_pos rfl]
      refine he i x _ hx hRi G (e1.trans p1) _ fun y G2 hy => ⟨ys, hy.1 _ _ p2, sz_lt (by omega), Ex.mut (p1.trans hy.1) hD, ys ++ [y], upd_same, by rw [List.length_append, p3]; rfl, ?_⟩
      rw [take_snoc hRi]
      exact rlst_app (fun R m => hRs R (List.mem_of_mem_take m)) (hRs _ (List.getElem_mem _)) hD p2 (by rw [List.length_take]; omega) p4 (fun a o q _ => hy.1 a o q) (fun a o q => ⟨o, p1 a o q⟩) hy.2
    · obtain ⟨p1, ys, p2, p3, p4⟩ := p
      rw [List.take_of_length_le (Nat.le_of_eq hn)] at p4
      refine q _ G ⟨e1.trans p1, D, ys, rfl, fresh_back e1 hD, p2, by rw [p3, hn], fun k x R hx hR => (hRs R (List.mem_of_getElem? hR)).bk (p4 k x R hx hR) fun a n => none_upd (upd_none n).1 (fresh_back e1 (upd_none n).2)⟩⟩
/-- [e for k in range(n)] -/
theorem ep_rngN {t : TA} {n : Nat} {Rs : List NR} (hRs : ∀ R ∈ Rs, Rel R) (hn : Rs.length = n) (h : EvA t σ H [.int (n : Int)]) (hz : n ≤ 90000) (hw : ∀ x, wipe ((wipe σ vs).set j (some x)) vs = wipe σ vs)
    (he : ∀ (i : Nat) (R : NR), i < n → Rs[i]? = some R → ∀ H', Ex H H' → EvP te ((wipe σ vs).set j (some (.int (i : Int)))) H' (fun v H2 => Ex H' H2 ∧ R v H' H2)) :
    EvP (tLc (iRng1 t) (gName j) tYes te vs) σ H (fun v H' => Ex H H' ∧ RLst Rs v H H') := fun Q q =>
  h H (Ex.refl H) _ fun H1 e1 => ⟨(n : Int), rfl, by omega, by omega, fun D hD => by
    have z : ∀ i : Nat, (0 : Int) + (i : Int) = (i : Int) := fun i => Int.zero_add _
    refine lc_range (lo := 0) (n := n) (fun i G => Ex H1 G ∧ ∃ ys, G D = some (.lst ys) ∧ ys.length = i ∧ ∀ (k : Nat) (x : V) (R : NR), ys[k]? = some x → (Rs.take i)[k]? = some R → R x (upd H1 D (.lst [])) G) ⟨Ex.new hD, [], upd_same, rfl, fun k x R h => by simp at h⟩ (fun i G hi p => ?_) (fun G p => ?_)
    · obtain ⟨p1, ys, p2, p3, p4⟩ := p
      have hRi : Rs[i]? = some Rs[i] := List.getElem?_eq_getElem (by omega)
      refine ⟨hw _, ?_⟩
      dsimp only [tYes]
      rw [if_pos rfl, z]
      refine he i _ hi hRi G (e1.trans p1) _ fun y G2 hy => ⟨ys, hy.1 _ _ p2, sz_lt (by omega), Ex.mut (p1.trans hy.1) hD, ys ++ [y], upd_same, by rw [List.length_append, p3]; rfl, ?_⟩
      rw [take_snoc hRi]
      exact rlst_app (fun R m => hRs R (List.mem_of_mem_take m)) (hRs _ (List.getElem_mem _)) hD p2 (by rw [List.length_take]; omega) p4 (fun a o q _ => hy.1 a o q) (fun a o q => ⟨o, p1 a o q⟩) hy.2
    · obtain ⟨p1, ys, p2, p3, p4⟩ := p
      rw [List.take_of_length_le (Nat.le_of_eq hn)] at p4
      refine q _ G ⟨e1.trans p1, D, ys, rfl, fresh_back e1 hD, p2, by rw [p3, hn], fun k x R hx hR => (hRs R (List.mem_of_getElem? hR)).bk (p4 k x R hx hR) fun a n => none_upd (upd_none n).1 (fresh_back e1 (upd_none n).2)⟩⟩
/-- a new list of n drawn values -/
def DrN (p : Addr) (H : Hp) (n : Nat) (R : NR) : V → Hp → Prop := fun v H' => But p H H' ∧ Drw p H' ∧ RLst (List.replicate n R) v H H'
theorem ep_lcDrG {p : Addr} {R : NR} (hR : Rel R) {td : TE} {m : Nat} (h : EvP td σ H (DP p H fun d => 0 ≤ d ∧ d < (m : Int))) (hz : m ≤ 90000) (hw : ∀ x, wipe ((wipe σ vs).set j (some x)) vs = wipe σ vs)
    (he : ∀ (i : Nat) H', Drw p H' → EvP te ((wipe σ vs).set j (some (.int (i : Int)))) H' (fun v H2 => But p H' H2 ∧ Drw p H2 ∧ R v H' H2)) : EvP (tLc (iRng1 (tCons td tNil)) (gName j) tYes te vs) σ H (fun v H' => ∃ n, n < m ∧ DrN p H n R v H') := fun Q q =>
  h _ fun v H1 hv => by
    obtain ⟨d, rfl, hd, hD1, b1⟩ := hv
    obtain ⟨n, rfl⟩ : ∃ n : Nat, d = (n : Int) := ⟨d.toNat, (Int.toNat_of_nonneg hd.1).symm⟩
    have hnm : n < m := by omega
    refine ⟨(n : Int), rfl, by omega, by omega, fun D hD => ?_⟩
    have z : ∀ i : Nat, (0 : Int) + (i : Int) = (i : Int) := fun i => Int.zero_add _
    have np : D ≠ p := drw_ne hD1 hD
    have pn : ¬ (H1 p = none) := by obtain ⟨ds, q, _⟩ := hD1; rw [q]; exact fun h => nomatch h
    refine lc_range (lo := 0) (n := n) (fun i G => But p H1 G ∧ Drw p G ∧ ∃ ys, G D = some (.lst ys) ∧ ys.length = i ∧ ∀ (k : Nat) (x : V) (R' : NR), ys[k]? = some x → (List.replicate i R)[k]? = some R' → R' x (upd H1 D (.lst [])) G) ⟨but_new (fun _ _ _ e => e) hD, drw_upd hD1 np, [], upd_same, rfl, fun k x R h => by simp at h⟩ (fun i G hi hP => ?_) (fun G hP => ?_)
    · obtain ⟨p1, hDG, ys, p2, p3, p4⟩ := hP
      refine ⟨hw _, ?_⟩
      dsimp only [tYes]
      rw [if_pos rfl, z]
      refine he i G hDG _ fun y G2 hy => ?_
      obtain ⟨b, hD2, hy⟩ := hy
      refine ⟨ys, b _ _ np p2, sz_lt (by omega), but_new (p1.trans b) hD, drw_upd hD2 np, ys ++ [y], upd_same, by rw [List.length_append, p3]; rfl, ?_⟩
      rw [List.replicate_succ']
      have pG : ∀ a o, H1 a = some o → ∃ o', G a = some o' := fun a o q => by
        by_cases e : a = p
        · obtain ⟨ds, z, _⟩ := hDG
          exact ⟨_, e ▸ z⟩
        · exact ⟨o, p1 _ _ e q⟩
      exact rlst_app (fun R' m => by rw [List.eq_of_mem_replicate m]; exact hR) hR hD p2 (by rw [List.length_replicate]; exact p3) p4 (fun a o q n => b a o (fun e => pn (e ▸ n)) q) pG hy
    · obtain ⟨p1, hDG, ys, p2, p3, p4⟩ := hP
      have bk : ∀ a, H1 a = none → H a = none := fun a n => fresh_bt b1 hD1 n
      refine q _ G ⟨n, hnm, b1.trans p1, hDG, D, ys, rfl, bk _ hD, p2, by rw [p3, List.length_replicate], fun k x R' hx hR' => ?_⟩
      have : R' = R := List.eq_of_mem_replicate (List.mem_of_getElem? hR')
      subst this
      exact hR.bk (p4 k x _ hx hR') fun a nn => none_upd (upd_none nn).1 (bk _ (upd_none nn).2)
end
/-! ### what such values show -/
section
variable {K : PySem.W.Frag} {R : NR} {v : V} {B G : Hp}
def oD (o : Option (List Int)) : PyData := match o with
  | none => .none
  | some l => .list (l.map PyData.int)
theorem dp_op {o : Option (List Int)} (h : ROp o v B G) : Dp K G v (oD o) := by
  cases o with
  | none => cases (show v = .non from h); exact .non
  | some l =>
    obtain ⟨a, m, rfl, _, h3, rfl⟩ := h
    exact dp_ints (sq_of h3)
theorem dp_all : ∀ {xs : List V} {Rs : List NR} {ds : List PyData}, xs.length = Rs.length → Rs.length = ds.length → (∀ (k : Nat) (x : V) (R : NR), xs[k]? = some x → Rs[k]? = some R → R x B G) → (∀ (k : Nat) (R : NR) (d : PyData) (x : V), Rs[k]? = some R → ds[k]? = some d → R x B G → Dp K G x d) → DpAll K G xs ds
  | [], [], [], _, _, _, _ => .nil
  | x :: xs, R :: Rs, d :: ds, h1, h2, h3, h4 => .cons (h4 0 R d x rfl rfl (h3 0 x R rfl rfl)) (dp_all (by simpa using h1) (by simpa using h2) (fun k y R' hy hR => h3 (k + 1) y R' hy hR) (fun k R' d' y hR hd r => h4 (k + 1) R' d' y hR hd r))
  | [], _ :: _, _, h, _, _, _ => nomatch h
  | _ :: _, [], _, h, _, _, _ => nomatch h
  | _, [], _ :: _, _, h, _, _ => nomatch h
  | _, _ :: _, [], _, h, _, _ => nomatch h
theorem dp_lst {Rs : List NR} {ds : List PyData} (h : RLst Rs v B G) (hl : Rs.length = ds.length) (hd : ∀ (k : Nat) (R : NR) (d : PyData) (x : V) (B : Hp), Rs[k]? = some R → ds[k]? = some d → R x B G → Dp K G x d) : Dp K G v (.list ds) := by
  obtain ⟨q, xs, rfl, _, h3, h4, h5⟩ := h
  exact .lst (sq_of h3) (dp_all h4 hl h5 fun k R d x => hd k R d x _)
/-- new lists of ints by their addresses -/
theorem pcs_of {P : List Int → Prop} : ∀ {xs : List V}, (∀ x ∈ xs, RInts P x B G) → ∃ qs ls, xs = qs.map V.ref ∧ Pcs G qs ls ∧ (∀ l ∈ ls, P l) ∧ ∀ q ∈ qs, B q = none
  | [], _ => ⟨[], [], rfl, trivial, fun _ h => (nomatch h), fun _ h => (nomatch h)⟩
  | x :: xs, h => by
    obtain ⟨a, l, rfl, h2, h3, h4⟩ := h x List.mem_cons_self
    obtain ⟨qs, ls, rfl, k1, k2, k3⟩ := pcs_of fun y hy => h y (List.mem_cons_of_mem _ hy)
    refine ⟨a :: qs, l :: ls, rfl, ⟨h3, k1⟩, fun m hm => ?_, fun q hq => ?_⟩
    · rcases List.mem_cons.mp hm with rfl | hm
      · exact h4
      · exact k2 m hm
    · rcases List.mem_cons.mp hq with rfl | hq
      · exact h2
      · exact k3 q hq
end
/-! ### data that == takes -/
structure NiceD (n : Nat) (d : PyData) : Prop where
  can : d.canLay0 = true
  dep : d.depth ≤ n
  rfl' : PyData.eqv d d = true
theorem NiceD.shaped {n : Nat} {d : PyData} (h : NiceD n d) (hn : n ≤ 64 := by decide) : SeqAt.shaped d = true := by
  unfold SeqAt.shaped
  rw [h.can, Bool.true_and]
  exact decide_eq_true (Nat.le_trans h.dep hn)
theorem nd_int {n : Nat} (i : Int) : NiceD n (.int i) := ⟨by rw [PyData.canLay0], by rw [PyData.depth]; exact Nat.zero_le _, by rw [PyData.eqv]; exact beq_self_eq_true _⟩
theorem nd_bool {n : Nat} (b : Bool) : NiceD n (.bool b) := ⟨by rw [PyData.canLay0], by rw [PyData.depth]; exact Nat.zero_le _, by rw [PyData.eqv]; exact beq_self_eq_true _⟩
theorem nd_none {n : Nat} : NiceD n .none := ⟨by rw [PyData.canLay0], by rw [PyData.depth]; exact Nat.zero_le _, by rw [PyData.eqv]⟩
theorem nd_str {n : Nat} {z : Str} (h : PyData.strOk z = true) : NiceD n (.str z) := ⟨by rw [PyData.canLay0]; exact h, by rw [PyData.depth]; exact Nat.zero_le _, by rw [PyData.eqv]; exact beq_self_eq_true _⟩
theorem nd_all {n : Nat} : ∀ {ds : List PyData}, (∀ d ∈ ds, NiceD n d) → PyData.canLayAll0 ds = true ∧ PyData.depthAll ds ≤ n ∧ PyData.eqvAll ds ds = true
  | [], _ => ⟨by rw [PyData.canLayAll0], by rw [PyData.depthAll]; exact Nat.zero_le _, by rw [PyData.eqvAll]⟩
  | d :: ds, h => by
    obtain ⟨h1, h2, h3⟩ := nd_all fun x hx => h x (List.mem_cons_of_mem _ hx)
    have h0 := h d List.mem_cons_self
    refine ⟨by rw [PyData.canLayAll0, h0.can, h1]; rfl, by rw [PyData.depthAll]; exact Nat.max_le.mpr ⟨h0.dep, h2⟩, by rw [PyData.eqvAll, h0.rfl', h3]; rfl⟩
theorem nd_list {n : Nat} {ds : List PyData} (h : ∀ d ∈ ds, NiceD n d) : NiceD (n + 1) (.list ds) := by
  obtain ⟨h1, h2, h3⟩ := nd_all h
  exact ⟨by rw [PyData.canLay0, h1], by rw [PyData.depth]; omega, by rw [PyData.eqv, h3]⟩
theorem nd_tuple {n : Nat} {ds : List PyData} (h : ∀ d ∈ ds, NiceD n d) : NiceD (n + 1) (.tuple ds) := by
  obtain ⟨h1, h2, h3⟩ := nd_all h
  exact ⟨by rw [PyData.canLay0, h1], by rw [PyData.depth]; omega, by rw [PyData.eqv, h3]⟩
theorem NiceD.mono {n m : Nat} {d : PyData} (h : NiceD n d) (k : n ≤ m) : NiceD m d := ⟨h.can, Nat.le_trans h.dep k, h.rfl'⟩
theorem nd_ints {n : Nat} (l : List Int) : NiceD (n + 1) (.list (l.map PyData.int)) := nd_list fun d hd => by
  obtain ⟨i, _, rfl⟩ := List.mem_map.mp hd
  exact nd_int i
theorem nd_oD {n : Nat} : ∀ o, NiceD (n + 1) (oD o)
  | none => nd_none
  | some l => nd_ints l
section
variable {K : PySem.W.Frag} {σ : L2.St} {H : Hp} {tl te : TE} {vs : List Nat} {j : Nat}
/-- an element of the comprehension leaves -/
theorem ex_mapN {a : Addr} {xs : List V} {n : Nat} {x : V} (h : Ev tl σ H (.ref a)) (hS : SqL K H a xs) (hz : xs.length ≤ 90000) (hw : ∀ x, wipe ((wipe σ vs).set j (some x)) vs = wipe σ vs) (hn : xs[n]? = some x)
    (he : ∀ (i : Nat) (y : V), i < n → xs[i]? = some y → ∀ H', Ex H H' → EvP te ((wipe σ vs).set j (some y)) H' (fun _ H2 => Ex H' H2)) (hx : ∀ H', Ex H H' → ∀ Q : VK, te ((wipe σ vs).set j (some x)) H' Q) (Q : VK) : tLc (iList K tl) (gName j) tYes te vs σ H Q :=
  h H (Ex.refl H) _ fun H1 e1 => ⟨a, rfl, ⟨_, ex_l e1 hS⟩, fun D hD => by
    have hlt := (List.getElem?_eq_some_iff.mp hn).1
    refine lc_list (xs := xs) (fun i G => i ≤ n ∧ Ex H1 G ∧ ∃ ys, G D = some (.lst ys) ∧ ys.length = i) ⟨Nat.zero_le _, Ex.new hD, [], upd_same, rfl⟩ (fun i G _ p => ex_l (e1.trans p.2.1) hS) (fun i y G hy p => ?_) (fun G p => absurd p.1 (by omega))
    obtain ⟨p0, p1, ys, p2, p3⟩ := p
    have hi := (List.getElem?_eq_some_iff.mp hy).1
    refine ⟨hw _, ?_⟩
    dsimp only [tYes]
    rw [if_pos rfl]
    by_cases e : i = n
    · subst e
      rw [hn] at hy
      cases hy
      exact hx G (e1.trans p1) _
    · exact he i y (by omega) hy G (e1.trans p1) _ fun y G2 hy => ⟨ys, hy _ _ p2, sz_lt (by omega), by omega, Ex.mut (p1.trans hy) hD, ys ++ [y], upd_same, by rw [List.length_append, p3]; rfl⟩⟩
end
/-- some first elements by relations -/
def Els (Rs : List NR) (xs : List V) (B G : Hp) : Prop := ∀ (k : Nat) (x : V) (R : NR), xs[k]? = some x → Rs[k]? = some R → R x B G
theorem Els.nil {Rs : List NR} {B G : Hp} : Els Rs [] B G := fun k x R h => by simp at h
theorem Els.app {Rs : List NR} {xs : List V} {y : V} {R : NR} {B G : Hp} (h : Els Rs xs B G) (hR : Rs[xs.length]? = some R) (hy : R y B G) : Els Rs (xs ++ [y]) B G := fun k x R' hx hR' => by
  by_cases z : k < xs.length
  · rw [List.getElem?_append_left z] at hx
    exact h k x R' hx hR'
  · have hk1 := (List.getElem?_eq_some_iff.mp hx).1
    rw [List.length_append] at hk1
    have hk1 : k < xs.length + 1 := hk1
    have e : k = xs.length := by omega
    subst e
    rw [List.getElem?_append_right (Nat.le_refl _), Nat.sub_self] at hx
    rw [hR] at hR'
    cases hx
    cases hR'
    exact hy
theorem Els.mv {Rs : List NR} {xs : List V} {B G G' : Hp} (h : Els Rs xs B G) (r : ∀ R ∈ Rs, Rel R) (k : ∀ a o, B a = none → G a = some o → G' a = some o) : Els Rs xs B G' := fun i x R hx hR => (r R (List.mem_of_getElem? hR)).mv (h i x R hx hR) k
theorem Els.bk {Rs : List NR} {xs : List V} {B B' G : Hp} (h : Els Rs xs B G) (r : ∀ R ∈ Rs, Rel R) (k : ∀ a, B a = none → B' a = none) : Els Rs xs B' G := fun i x R hx hR => (r R (List.mem_of_getElem? hR)).bk (h i x R hx hR) k
section
variable {K : PySem.W.Frag} {σ : L2.St} {H : Hp} {ta te : TE} {D : L2.Ends} {tz : TS}
/-- l.append(e), more behind it -/
theorem q_appE {l : Addr} {xs : List V} {v : V} (ha : Ev ta σ H (.ref l)) (hl : H l = some (.lst xs)) (h : Ev te σ H v) (hz : xs.length < 100000) (k : ∀ H1, Ex H H1 → tz D σ (upd H1 l (.lst (xs ++ [v])))) : tSeq (tDrop (tBM K "list" rAppend ta (tCons te tNil))) tz D σ H := q_appR (P := fun w H' => w = v ∧ Ex H H') ha hl (fun H1 e1 => fun Q q => h H1 e1 _ fun H2 e2 => q _ _ ⟨rfl, e1.trans e2⟩) (fun w H1 hw => ⟨xs, hw.2 _ _ hl, hz, by rw [hw.1]; exact k H1 hw.2⟩)
end
theorem RLst.els {Rs : List NR} {v : V} {B G : Hp} (h : RLst Rs v B G) (r : ∀ R ∈ Rs, Rel R) : ∃ q xs, v = .ref q ∧ B q = none ∧ G q = some (.lst xs) ∧ xs.length = Rs.length ∧ Els Rs xs B G := by
  obtain ⟨q, xs, h1, h2, h3, h4, h5⟩ := h
  exact ⟨q, xs, h1, h2, h3, h4, Els.bk h5 r fun a n => (upd_none n).2⟩
theorem dp_pcsR {K : PySem.W.Frag} {H : Hp} : ∀ {qs : List Addr} {ls : List (List Int)}, Pcs H qs ls → DpAll K H (qs.map V.ref) (ls.map fun l => .list (l.map PyData.int))
  | [], [], _ => .nil
  | _ :: _, _ :: _, h => .cons (dp_ints (sq_of h.1)) (dp_pcsR h.2)
theorem dp_strs {K : PySem.W.Frag} {H : Hp} : ∀ zs : List Str, DpAll K H (zs.map V.str) (zs.map PyData.str)
  | [] => .nil
  | z :: t => .cons (.str z) (dp_strs t)
theorem pcs_set {H : Hp} {a : Addr} {l : List Int} (ha : H a = some (.lst (l.map V.int))) : ∀ {qs : List Addr} {ls : List (List Int)} (k : Nat), Pcs H qs ls → Pcs H (qs.set k a) (ls.set k l)
  | [], [], _, _ => trivial
  | _ :: _, _ :: _, 0, h => ⟨ha, h.2⟩
  | _ :: _, _ :: _, k + 1, h => ⟨h.1, pcs_set ha k h.2⟩
/-- l[n] = e -/
theorem s_setE {σ : L2.St} {H : Hp} {l : Addr} {to ti te : TE} {D : L2.Ends} {P1 : V → Hp → Prop} {n : Int} (h : EvP te σ H P1) (ho : ∀ H1, Ev to σ H1 (.ref l)) (hi : ∀ H1, Ev ti σ H1 (.int n)) (k : ∀ v H1 H2, P1 v H1 → Ex H1 H2 → ∃ xs j, H2 l = some (.lst xs) ∧ ixN xs.length n = some j ∧ D.nx σ (upd H2 l (.lst (xs.set j v)))) : tAsg te (gSub to ti rSetL) D σ H := h _ fun v H1 hv =>
  ho H1 H1 (Ex.refl H1) _ fun H2 e2 => hi H2 H2 (Ex.refl H2) _ fun H3 e3 => by
    obtain ⟨xs, j, hl, hj, q⟩ := k v H1 H3 hv (e2.trans e3)
    exact ⟨l, xs, n, j, rfl, rfl, hl, hj, q⟩
theorem q_setE {σ : L2.St} {H : Hp} {l : Addr} {to ti te : TE} {D : L2.Ends} {tz : TS} {P1 : V → Hp → Prop} {n : Int} (h : EvP te σ H P1) (ho : ∀ H1, Ev to σ H1 (.ref l)) (hi : ∀ H1, Ev ti σ H1 (.int n)) (k : ∀ v H1 H2, P1 v H1 → Ex H1 H2 → ∃ xs j, H2 l = some (.lst xs) ∧ ixN xs.length n = some j ∧ tz D σ (upd H2 l (.lst (xs.set j v)))) : tSeq (tAsg te (gSub to ti rSetL)) tz D σ H := s_setE (D := { D with nx := tz D }) h ho hi k
/-- two keywords whose defaults are None -/
theorem hqN2 {K : PySem.W.Frag} {D : Addr} {x y : Str} (h1 : PySem.W.nsIn K D x = some (some .none)) (h2 : PySem.W.nsIn K D y = some (some .none)) : ∀ q ∈ [(x, V.non), (y, V.non)], ∃ u, PySem.W.nsIn K D q.1 = some (some u) ∧ RelV q.2 u := by
  intro q m
  rcases List.mem_cons.mp m with rfl | m
  · exact ⟨_, h1, rfl⟩
  · rw [List.mem_singleton.mp m]; exact ⟨_, h2, rfl⟩
theorem q_asgX {te : TE} {g : TG} {tz : TS} {D : Ends} {σ : L2.St} {H : Hp} (h : ∀ Q : VK, te σ H Q) : tSeq (tAsg te g) tz D σ H := h _
theorem look_map (c : Str → NameKind → Bool) (x : Str) (k0 : NameKind) : ∀ names : List (Str × NameKind), names.lookup x = some k0 → (names.map fun (n, k) => if c n k = true then (n, NameKind.cell) else (n, k)).lookup x = some (if c x k0 = true then NameKind.cell else k0)
  | [], h => by cases h
  | (n, k) :: t, h => by
    have e : ((n, k) :: t).map (fun (n, k) => if c n k = true then (n, NameKind.cell) else (n, k)) = (n, if c n k = true then NameKind.cell else k) :: t.map (fun (n, k) => if c n k = true then (n, NameKind.cell) else (n, k)) := by
      rw [List.map_cons]
      by_cases z : c n k = true
      · simp [z]
      · simp [z]
    rw [e, List.lookup_cons]
    rw [List.lookup_cons] at h
    by_cases z : x = n
    · subst z
      rw [beq_self_eq_true] at h ⊢
      cases h
      rfl
    · have z' : (x == n) = false := by simpa using z
      rw [z'] at h ⊢
      exact look_map c x k0 t h
/-- a comprehension within another's element -/
theorem blkOk_in {N : List Str} {sc scope : Scope} {own : List (Str × Nat)} {env : Env} (h : blkC N sc scope own = true) : BlkOk N (relabel sc env) scope own := by
  have b := blkOk_by h
  refine ⟨b.kind, b.uniq, b.ix, fun y hy e => ?_, b.own⟩
  rcases b.free y hy e with k | k
  · left
    have := look_map (fun n k => (k == .free && env.scope.kind == .function && env.kindOf n == some .cell)) y.1 .cell sc.names k
    rw [if_neg (by show ¬ ((NameKind.cell == NameKind.free && _) && _) = true; simp)] at this
    exact this
  · have := look_map (fun n k => (k == .free && env.scope.kind == .function && env.kindOf n == some .cell)) y.1 .free sc.names k
    by_cases z : ((NameKind.free == NameKind.free && env.scope.kind == .function && env.kindOf y.1 == some .cell)) = true
    · rw [if_pos z] at this; exact .inl this
    · rw [if_neg z] at this; exact .inr this
end Gd

set_option Elab.async false
set_option linter.all false
set_option maxRecDepth 100000
set_option maxHeartbeats 4000000
/-! Of our own: filtered comprehensions over enumerate, operations with a new list on the left. -/
namespace Gd
open PySem PySem.Spec PyProof.Rows L2 Evl
section
variable {K : PySem.W.Frag} {σ : L2.St} {H : Hp} {te ta tb : TE} {tt : TT} {D : Ends} {vs : List Nat} {j1 j2 : Nat}
/-- [e(i) for i, x in enumerate(xs) if p(i)] -/
theorem el_enumF {a : Addr} {xs : List V} (p : Nat → Bool) (f : Nat → V) (h : Ev ta σ H (.ref a)) (hx : SqL K H a xs) (hz : xs.length ≤ 90000) (hw : ∀ (x y : V), wipe (((wipe σ vs).set j1 (some x)).set j2 (some y)) vs = wipe σ vs)
    (ht : ∀ (i : Nat) x, xs[i]? = some x → ∀ H', Ex H H' → EvT tt (((wipe σ vs).set j1 (some (.int (i : Int)))).set j2 (some x)) H' (p i))
    (he : ∀ (i : Nat) x, xs[i]? = some x → p i = true → ∀ H', Ex H H' → Ev te (((wipe σ vs).set j1 (some (.int (i : Int)))).set j2 (some x)) H' (f i)) :
    EvL (tLc (iEnum K (tCons ta tNil)) (gTup K 2 (gCons (gName j1) (gCons (gName j2) gNil))) tt te vs) σ H (((List.range xs.length).filter p).map f) := fun H0 e Q q =>
  h H0 e _ fun H1 e1 => ⟨a, xs, rfl, ex_l (e.trans e1) hx, fun D hD => by
    refine lc_it walk_enum (fun i H' => Ex H1 H' ∧ H' D = some (.lst (((List.range i).filter p).map f))) ⟨Ex.new hD, upd_same⟩ (fun i H' _ r => ex_l ((e.trans e1).trans r.1) hx) ?_ (fun H' r => q D H' (fresh_back e1 hD) (e1.trans r.1) r.2)
    intro i x H2 H3 hi r y
    obtain ⟨T, u, v, rfl, hT, rfl, h1, h2⟩ := y
    have h1 : u = .int (i : Int) := (Option.some.inj h1).symm
    subst h1
    refine g_tup2 (st_of upd_same) ⟨hw _ _, ?_⟩
    have q1 := r.1.trans (Ex.new (o := .tup [.int (i : Int), v]) hT)
    have q2 := (Ex.new (o := .tup [.int (i : Int), v]) hT) _ _ r.2
    have hfl : ((List.range i).filter p).length ≤ 90000 := Nat.le_trans (List.length_filter_le _ _) (by rw [List.length_range]; omega)
    refine ht i v h2 _ ((e.trans e1).trans q1) _ (Ex.refl _) _ fun H5 e5 => ?_
    cases c : p i with
    | true =>
      rw [if_pos rfl]
      refine he i v h2 c H5 ((e.trans e1).trans (q1.trans e5)) H5 (Ex.refl H5) _ fun H4 e4 => ⟨((List.range i).filter p).map f, e4 D _ (e5 D _ q2), sz_lt (by rw [List.length_map]; omega), Ex.mut (q1.trans (e5.trans e4)) hD, ?_⟩
      rw [upd_same, List.range_succ, List.filter_append, List.map_append, List.filter_cons, if_pos c]
      rfl
    | false =>
      rw [if_neg Bool.false_ne_true]
      refine ⟨q1.trans e5, ?_⟩
      rw [e5 D _ q2, List.range_succ, List.filter_append, List.filter_cons, if_neg (by rw [c]; exact Bool.false_ne_true)]
      show _ = some (HO.lst (((List.range i).filter p ++ []).map f))
      rw [List.append_nil]⟩
/-- a new list on the left -/
theorem ev_opV {r : R2} {xs : List V} {y z : V} (ha : EvL ta σ H xs) (hb : ∀ H1, Ex H H1 → Ev tb σ H1 y) (h : ∀ p H1, H1 p = some (.lst xs) → Ex H H1 → RV r (.ref p) y H1 z) : Ev (tOp r ta tb) σ H z := fun H1 e Q q =>
  ha H1 e _ fun p H2 np e2 hp => hb H2 (e.trans e2) H2 (Ex.refl H2) _ fun H3 e3 => h p H3 (e3 _ _ hp) ((e.trans e2).trans e3) H3 (Ex.refl H3) Q fun H4 e4 => q H4 ((e2.trans e3).trans e4)
/-- [e(i) for i in range(n)] -/
theorem el_rng1 {tr : TA} {j n : Nat} (g : Nat → V) (h : EvA tr σ H [.int (n : Int)]) (hz : n ≤ 90000) (hw : ∀ x, wipe ((wipe σ vs).set j (some x)) vs = wipe σ vs) (he : ∀ i, i < n → ∀ H', Ex H H' → Ev te ((wipe σ vs).set j (some (.int (i : Int)))) H' (g i)) :
    EvL (tLc (iRng1 tr) (gName j) tYes te vs) σ H ((List.range n).map g) := fun H0 e Q q => h H0 e _ fun H1 e1 => ⟨(n : Int), rfl, by omega, by omega, fun D hD => by
  refine lc_it (walk_range (lo := 0) (n := n)) (fun i H' => Ex H1 H' ∧ H' D = some (.lst ((List.range i).map g))) ⟨Ex.new hD, upd_same⟩ (fun _ _ _ _ => trivial) ?_ (fun H' r => q D H' (fresh_back e1 hD) (e1.trans r.1) r.2)
  intro i x H2 H3 hi r y
  obtain ⟨y1, y2⟩ := y
  subst y1
  have y2 : x = .int (i : Int) := by rw [y2]; exact congrArg V.int (Int.zero_add _)
  subst y2
  refine ⟨hw _, ?_⟩
  dsimp only [tYes]
  rw [if_pos rfl]
  refine he i hi H3 ((e.trans e1).trans r.1) H3 (Ex.refl H3) _ fun H4 e4 => ⟨(List.range i).map g, e4 D _ r.2, sz_lt (by rw [List.length_map, List.length_range]; omega), Ex.mut (r.1.trans e4) hD, ?_⟩
  rw [upd_same, List.range_succ, List.map_append]
  rfl⟩
/-- [e(x) for x in xs if p(x)] -/
theorem el_filtL {tl : TE} {j : Nat} {a : Addr} {xs : List V} (p : V → Bool) (f : V → V) (h : Ev tl σ H (.ref a)) (hS : SqL K H a xs) (hz : xs.length ≤ 90000) (hw : ∀ x, wipe ((wipe σ vs).set j (some x)) vs = wipe σ vs)
    (ht : ∀ x ∈ xs, ∀ H1, Ex H H1 → EvT tt ((wipe σ vs).set j (some x)) H1 (p x)) (he : ∀ x ∈ xs, p x = true → ∀ H1, Ex H H1 → Ev te ((wipe σ vs).set j (some x)) H1 (f x)) : EvL (tLc (iList K tl) (gName j) tt te vs) σ H ((xs.filter p).map f) := fun H0 e Q q =>
  h H0 e _ fun H1 e1 => ⟨a, rfl, ⟨xs, ex_l (e.trans e1) hS⟩, fun D hD => lc_filt walk_list (fun _ _ _ _ _ y => y) hz hw p f (fun H' e' => ex_l ((e.trans e1).trans e') hS) (fun x m H' e' => ht x m H' ((e.trans e1).trans e')) (fun x m hp H' e' => he x m hp H' ((e.trans e1).trans e')) hD (fun H' e' hd => q D H' (fresh_back e1 hD) (e1.trans e') hd)⟩
theorem op_eqDK {X : Cx} {K : PySem.W.Frag} (h : X.K = K) (hu : X.A.units + 64 < cLine) : OpR X (compareOp .Eq) (rEqD K) := by
  rw [← h]
  exact op_eqD hu
theorem op_neDK {X : Cx} {K : PySem.W.Frag} (h : X.K = K) (hu : X.A.units + 64 < cLine) : OpR X (compareOp .NotEq) (rNeD K) := by
  rw [← h]
  exact op_neD hu
theorem op_in_seqK {X : Cx} {K : PySem.W.Frag} (h : X.K = K) : OpR X (compareOp .In) (rIn K false) := by
  rw [← h]
  exact op_in_seq
end
end Gd

set_option Elab.async false
set_option linter.all false
set_option maxRecDepth 100000
set_option maxHeartbeats 4000000
namespace K66
open PySem PySem.Spec PyProof.Rows L2 Evl Gd
/-! ### the text -/
def topS (i : Nat) : Stmt := PySem.Challenge.pw_plinth_k66_what_is_due.main.body.getD i (.Pass ⟨0, 0, 0, 0⟩)
abbrev s_is_character : Stmt := topS 9
abbrev N_is_character : List Str := ["code"]
theorem sc_is_character : FnScope N_is_character ["code"] (defScope s_is_character) := ⟨rfl, rfl, rfl, by decide +kernel, rfl, by decide +kernel, by decide +kernel⟩
abbrev s_is_digit : Stmt := topS 10
abbrev N_is_digit : List Str := ["code"]
theorem sc_is_digit : FnScope N_is_digit ["code"] (defScope s_is_digit) := ⟨rfl, rfl, rfl, by decide +kernel, rfl, by decide +kernel, by decide +kernel⟩
abbrev s_with_digit : Stmt := topS 11
abbrev N_with_digit : List Str := ["number", "code"]
theorem sc_with_digit : FnScope N_with_digit ["number", "code"] (defScope s_with_digit) := ⟨rfl, rfl, rfl, by decide +kernel, rfl, by decide +kernel, by decide +kernel⟩
abbrev s_codes_of : Stmt := topS 12
abbrev N_codes_of : List Str := ["text", "codes", "character", "code"]
theorem sc_codes_of : FnScope N_codes_of ["text"] (defScope s_codes_of) := ⟨rfl, rfl, rfl, by decide +kernel, rfl, by decide +kernel, by decide +kernel⟩
abbrev s_readable : Stmt := topS 13
abbrev N_readable : List Str := ["codes", "part", "code"]
theorem sc_readable : FnScope N_readable ["codes"] (defScope s_readable) := ⟨rfl, rfl, rfl, by decide +kernel, rfl, by decide +kernel, by decide +kernel⟩
abbrev s_read_digits : Stmt := topS 15
abbrev N_read_digits : List Str := ["codes", "numbers", "value", "code"]
theorem sc_read_digits : FnScope N_read_digits ["codes"] (defScope s_read_digits) := ⟨rfl, rfl, rfl, by decide +kernel, rfl, by decide +kernel, by decide +kernel⟩
abbrev s_ShortReader_init : Stmt := inClass (topS 23) 0
abbrev N_ShortReader_init : List Str := ["self"]
theorem sc_ShortReader_init : FnScope N_ShortReader_init ["self"] (defScope s_ShortReader_init) := ⟨rfl, rfl, rfl, by decide +kernel, rfl, by decide +kernel, by decide +kernel⟩
abbrev s_ShortReader_feed : Stmt := inClass (topS 23) 1
abbrev N_ShortReader_feed : List Str := ["self", "codes", "code"]
theorem sc_ShortReader_feed : FnScope N_ShortReader_feed ["self", "codes"] (defScope s_ShortReader_feed) := ⟨rfl, rfl, rfl, by decide +kernel, rfl, by decide +kernel, by decide +kernel⟩
abbrev s_ShortReader_image : Stmt := inClass (topS 23) 2
abbrev N_ShortReader_image : List Str := ["self"]
theorem sc_ShortReader_image : FnScope N_ShortReader_image ["self"] (defScope s_ShortReader_image) := ⟨rfl, rfl, rfl, by decide +kernel, rfl, by decide +kernel, by decide +kernel⟩
abbrev s_ShortReader_take : Stmt := inClass (topS 23) 3
abbrev N_ShortReader_take : List Str := ["self", "code"]
theorem sc_ShortReader_take : FnScope N_ShortReader_take ["self", "code"] (defScope s_ShortReader_take) := ⟨rfl, rfl, rfl, by decide +kernel, rfl, by decide +kernel, by decide +kernel⟩
abbrev s_ShortReader_take_sign : Stmt := inClass (topS 23) 4
abbrev N_ShortReader_take_sign : List Str := ["self", "code"]
theorem sc_ShortReader_take_sign : FnScope N_ShortReader_take_sign ["self", "code"] (defScope s_ShortReader_take_sign) := ⟨rfl, rfl, rfl, by decide +kernel, rfl, by decide +kernel, by decide +kernel⟩
abbrev s_ShortReader_emit : Stmt := inClass (topS 23) 5
abbrev N_ShortReader_emit : List Str := ["self", "operation", "argument", "successor"]
theorem sc_ShortReader_emit : FnScope N_ShortReader_emit ["self", "operation", "argument", "successor"] (defScope s_ShortReader_emit) := ⟨rfl, rfl, rfl, by decide +kernel, rfl, by decide +kernel, by decide +kernel⟩
abbrev s_translate_short : Stmt := topS 24
abbrev N_translate_short : List Str := ["codes", "reader"]
theorem sc_translate_short : FnScope N_translate_short ["codes"] (defScope s_translate_short) := ⟨rfl, rfl, rfl, by decide +kernel, rfl, by decide +kernel, by decide +kernel⟩
abbrev s_begin_choice : Stmt := topS 26
abbrev N_begin_choice : List Str := ["translator", "number"]
theorem sc_begin_choice : FnScope N_begin_choice ["translator"] (defScope s_begin_choice) := ⟨rfl, rfl, rfl, by decide +kernel, rfl, by decide +kernel, by decide +kernel⟩
abbrev s_turn_choice : Stmt := topS 27
abbrev N_turn_choice : List Str := ["translator", "number"]
theorem sc_turn_choice : FnScope N_turn_choice ["translator"] (defScope s_turn_choice) := ⟨rfl, rfl, rfl, by decide +kernel, rfl, by decide +kernel, by decide +kernel⟩
abbrev s_end_choice : Stmt := topS 28
abbrev N_end_choice : List Str := ["translator", "number"]
theorem sc_end_choice : FnScope N_end_choice ["translator"] (defScope s_end_choice) := ⟨rfl, rfl, rfl, by decide +kernel, rfl, by decide +kernel, by decide +kernel⟩
abbrev s_begin_loop : Stmt := topS 29
abbrev N_begin_loop : List Str := ["translator", "number"]
theorem sc_begin_loop : FnScope N_begin_loop ["translator"] (defScope s_begin_loop) := ⟨rfl, rfl, rfl, by decide +kernel, rfl, by decide +kernel, by decide +kernel⟩
abbrev s_end_loop : Stmt := topS 30
abbrev N_end_loop : List Str := ["translator", "start", "number"]
theorem sc_end_loop : FnScope N_end_loop ["translator"] (defScope s_end_loop) := ⟨rfl, rfl, rfl, by decide +kernel, rfl, by decide +kernel, by decide +kernel⟩
abbrev s_end_definition : Stmt := topS 31
abbrev N_end_definition : List Str := ["translator"]
theorem sc_end_definition : FnScope N_end_definition ["translator"] (defScope s_end_definition) := ⟨rfl, rfl, rfl, by decide +kernel, rfl, by decide +kernel, by decide +kernel⟩
abbrev s_Translator_init : Stmt := inClass (topS 33) 0
abbrev N_Translator_init : List Str := ["self", "first", "by"]
theorem sc_Translator_init : FnScope N_Translator_init ["self", "first", "by"] (defScope s_Translator_init) := ⟨rfl, rfl, rfl, by decide +kernel, rfl, by decide +kernel, by decide +kernel⟩
abbrev s_Translator_popped : Stmt := inClass (topS 33) 1
abbrev N_Translator_popped : List Str := ["self"]
theorem sc_Translator_popped : FnScope N_Translator_popped ["self"] (defScope s_Translator_popped) := ⟨rfl, rfl, rfl, by decide +kernel, rfl, by decide +kernel, by decide +kernel⟩
abbrev s_Translator_taken_number : Stmt := inClass (topS 33) 2
abbrev N_Translator_taken_number : List Str := ["self", "number"]
theorem sc_Translator_taken_number : FnScope N_Translator_taken_number ["self"] (defScope s_Translator_taken_number) := ⟨rfl, rfl, rfl, by decide +kernel, rfl, by decide +kernel, by decide +kernel⟩
abbrev s_Translator_append_node : Stmt := inClass (topS 33) 3
abbrev N_Translator_append_node : List Str := ["self", "operation", "argument", "successor"]
theorem sc_Translator_append_node : FnScope N_Translator_append_node ["self", "operation", "argument", "successor"] (defScope s_Translator_append_node) := ⟨rfl, rfl, rfl, by decide +kernel, rfl, by decide +kernel, by decide +kernel⟩
abbrev s_Translator_emit : Stmt := inClass (topS 33) 4
abbrev N_Translator_emit : List Str := ["self", "operation", "argument", "successor"]
theorem sc_Translator_emit : FnScope N_Translator_emit ["self", "operation", "argument"] (defScope s_Translator_emit) := ⟨rfl, rfl, rfl, by decide +kernel, rfl, by decide +kernel, by decide +kernel⟩
abbrev s_Translator_take : Stmt := inClass (topS 33) 5
abbrev N_Translator_take : List Str := ["self", "code"]
theorem sc_Translator_take : FnScope N_Translator_take ["self", "code"] (defScope s_Translator_take) := ⟨rfl, rfl, rfl, by decide +kernel, rfl, by decide +kernel, by decide +kernel⟩
abbrev s_Translator_finish : Stmt := inClass (topS 33) 6
abbrev N_Translator_finish : List Str := ["self"]
theorem sc_Translator_finish : FnScope N_Translator_finish ["self"] (defScope s_Translator_finish) := ⟨rfl, rfl, rfl, by decide +kernel, rfl, by decide +kernel, by decide +kernel⟩
abbrev s_Translator_end_numeral : Stmt := inClass (topS 33) 7
abbrev N_Translator_end_numeral : List Str := ["self"]
theorem sc_Translator_end_numeral : FnScope N_Translator_end_numeral ["self"] (defScope s_Translator_end_numeral) := ⟨rfl, rfl, rfl, by decide +kernel, rfl, by decide +kernel, by decide +kernel⟩
abbrev s_Translator_take_skipped : Stmt := inClass (topS 33) 8
abbrev N_Translator_take_skipped : List Str := ["self", "code", "sign"]
theorem sc_Translator_take_skipped : FnScope N_Translator_take_skipped ["self", "code"] (defScope s_Translator_take_skipped) := ⟨rfl, rfl, rfl, by decide +kernel, rfl, by decide +kernel, by decide +kernel⟩
abbrev s_Translator_take_sign : Stmt := inClass (topS 33) 9
abbrev N_Translator_take_sign : List Str := ["self", "code", "action"]
theorem sc_Translator_take_sign : FnScope N_Translator_take_sign ["self", "code"] (defScope s_Translator_take_sign) := ⟨rfl, rfl, rfl, by decide +kernel, rfl, by decide +kernel, by decide +kernel⟩
abbrev s_translate : Stmt := topS 34
abbrev N_translate : List Str := ["codes", "first", "by", "translator", "code"]
theorem sc_translate : FnScope N_translate ["codes", "first", "by"] (defScope s_translate) := ⟨rfl, rfl, rfl, by decide +kernel, rfl, by decide +kernel, by decide +kernel⟩
abbrev s_check_kind : Stmt := topS 37
abbrev N_check_kind : List Str := ["kind"]
theorem sc_check_kind : FnScope N_check_kind ["kind"] (defScope s_check_kind) := ⟨rfl, rfl, rfl, by decide +kernel, rfl, by decide +kernel, by decide +kernel⟩
abbrev s_meant : Stmt := topS 38
abbrev N_meant : List Str := ["kind", "codes"]
theorem sc_meant : FnScope N_meant ["kind", "codes"] (defScope s_meant) := ⟨rfl, rfl, rfl, by decide +kernel, rfl, by decide +kernel, by decide +kernel⟩
abbrev s_due : Stmt := topS 40
abbrev N_due : List Str := ["kind", "text"]
theorem sc_due : FnScope N_due ["kind", "text"] (defScope s_due) := ⟨rfl, rfl, rfl, by decide +kernel, rfl, by decide +kernel, by decide +kernel⟩
abbrev s_first_difference : Stmt := topS 41
abbrev N_first_difference : List Str := ["one", "other", "at"]
theorem sc_first_difference : FnScope N_first_difference ["one", "other"] (defScope s_first_difference) := ⟨rfl, rfl, rfl, by decide +kernel, rfl, by decide +kernel, by decide +kernel⟩
abbrev s_law_number : Stmt := topS 43
abbrev N_law_number : List Str := ["cell"]
theorem sc_law_number : FnScope N_law_number ["cell"] (defScope s_law_number) := ⟨rfl, rfl, rfl, by decide +kernel, rfl, by decide +kernel, by decide +kernel⟩
abbrev s_law_draws : Stmt := topS 44
abbrev N_law_draws : List Str := ["script", "draws", "cell", "rest", "k", "once", "twice"]
theorem sc_law_draws : FnScope N_law_draws ["script"] (defScope s_law_draws) := ⟨rfl, rfl, rfl, by decide +kernel, rfl, by decide +kernel, by decide +kernel⟩
abbrev s_law_next : Stmt := topS 45
abbrev N_law_next : List Str := ["draws"]
theorem sc_law_next : FnScope N_law_next ["draws"] (defScope s_law_next) := ⟨rfl, rfl, rfl, by decide +kernel, rfl, by decide +kernel, by decide +kernel⟩
abbrev s_law_pull : Stmt := topS 48
abbrev N_law_pull : List Str := ["pile"]
theorem sc_law_pull : FnScope N_law_pull ["pile"] (defScope s_law_pull) := ⟨rfl, rfl, rfl, by decide +kernel, rfl, by decide +kernel, by decide +kernel⟩
abbrev s_law_emit : Stmt := topS 49
abbrev N_law_emit : List Str := ["state", "op", "arg"]
theorem sc_law_emit : FnScope N_law_emit ["state", "op", "arg"] (defScope s_law_emit) := ⟨rfl, rfl, rfl, by decide +kernel, rfl, by decide +kernel, by decide +kernel⟩
abbrev s_law_branch : Stmt := topS 50
abbrev N_law_branch : List Str := ["state", "code", "pile", "new", "after", "start"]
theorem sc_law_branch : FnScope N_law_branch ["state", "code"] (defScope s_law_branch) := ⟨rfl, rfl, rfl, by decide +kernel, rfl, by decide +kernel, by decide +kernel⟩
abbrev s_law_pair : Stmt := topS 51
abbrev N_law_pair : List Str := ["state", "sign", "code"]
theorem sc_law_pair : FnScope N_law_pair ["state", "sign", "code"] (defScope s_law_pair) := ⟨rfl, rfl, rfl, by decide +kernel, rfl, by decide +kernel, by decide +kernel⟩
abbrev s_law_code : Stmt := topS 52
abbrev N_law_code : List Str := ["state", "code"]
theorem sc_law_code : FnScope N_law_code ["state", "code"] (defScope s_law_code) := ⟨rfl, rfl, rfl, by decide +kernel, rfl, by decide +kernel, by decide +kernel⟩
abbrev s_law_translate : Stmt := topS 53
abbrev N_law_translate : List Str := ["codes", "first", "by", "state", "numeral", "sign", "code"]
theorem sc_law_translate : FnScope N_law_translate ["codes", "first", "by"] (defScope s_law_translate) := ⟨rfl, rfl, rfl, by decide +kernel, rfl, by decide +kernel, by decide +kernel⟩
abbrev s_law_is_integer : Stmt := topS 54
abbrev N_law_is_integer : List Str := ["actual"]
theorem sc_law_is_integer : FnScope N_law_is_integer ["actual"] (defScope s_law_is_integer) := ⟨rfl, rfl, rfl, by decide +kernel, rfl, by decide +kernel, by decide +kernel⟩
abbrev s_law_is_integers : Stmt := topS 55
abbrev N_law_is_integers : List Str := ["actual", "number"]
theorem sc_law_is_integers : FnScope N_law_is_integers ["actual"] (defScope s_law_is_integers) := ⟨rfl, rfl, rfl, by decide +kernel, rfl, by decide +kernel, by decide +kernel⟩
abbrev s_law_digits : Stmt := topS 56
abbrev N_law_digits : List Str := ["codes", "numbers", "inside", "code"]
theorem sc_law_digits : FnScope N_law_digits ["codes"] (defScope s_law_digits) := ⟨rfl, rfl, rfl, by decide +kernel, rfl, by decide +kernel, by decide +kernel⟩
abbrev s_law_short : Stmt := topS 57
abbrev N_law_short : List Str := ["codes", "image", "m", "r", "quote", "code"]
theorem sc_law_short : FnScope N_law_short ["codes"] (defScope s_law_short) := ⟨rfl, rfl, rfl, by decide +kernel, rfl, by decide +kernel, by decide +kernel⟩
abbrev s_law_char : Stmt := topS 58
abbrev N_law_char : List Str := ["code", "chars"]
theorem sc_law_char : FnScope N_law_char ["code"] (defScope s_law_char) := ⟨rfl, rfl, rfl, by decide +kernel, rfl, by decide +kernel, by decide +kernel⟩
abbrev s_law_text : Stmt := topS 59
abbrev N_law_text : List Str := ["draws", "often", "text", "k", "draw"]
theorem sc_law_text : FnScope N_law_text ["draws"] (defScope s_law_text) := ⟨rfl, rfl, rfl, by decide +kernel, rfl, by decide +kernel, by decide +kernel⟩
abbrev s_law_told : Stmt := topS 60
abbrev N_law_told : List Str := ["kind", "text", "e"]
theorem sc_law_told : FnScope N_law_told ["kind", "text"] (defScope s_law_told) := ⟨rfl, rfl, rfl, by decide +kernel, rfl, by decide +kernel, by decide +kernel⟩
abbrev s_law_lists : Stmt := topS 61
abbrev N_law_lists : List Str := ["draws", "one", "k", "kind", "at"]
theorem sc_law_lists : FnScope N_law_lists ["draws"] (defScope s_law_lists) := ⟨rfl, rfl, rfl, by decide +kernel, rfl, by decide +kernel, by decide +kernel⟩
abbrev s_law_difference : Stmt := topS 62
abbrev N_law_difference : List Str := ["one", "other", "at"]
theorem sc_law_difference : FnScope N_law_difference ["one", "other"] (defScope s_law_difference) := ⟨rfl, rfl, rfl, by decide +kernel, rfl, by decide +kernel, by decide +kernel⟩
abbrev s_law : Stmt := topS 63
abbrev N_law : List Str := ["script", "draws", "choice", "one", "other", "passed", "place", "wanted", "kind", "text", "bad", "word", "told", "codes", "char"]
theorem sc_law : FnScope N_law ["script"] (defScope s_law) := ⟨rfl, rfl, rfl, by decide +kernel, rfl, by decide +kernel, by decide +kernel⟩
/-! ### what the top has written -/
structure Txt (K : PySem.W.Frag) (mg : Str → Option Value) where
  C_Translator : Addr
  C_ShortReader : Addr
  f_is_character : Addr
  d_is_character : FuncData
  F_is_character : Fun K "is_character" "is_character" s_is_character f_is_character d_is_character
  b_is_character : Binds K d_is_character ["code"] []
  g_is_character : mg "is_character" = some (.ref f_is_character)
  f_is_digit : Addr
  d_is_digit : FuncData
  F_is_digit : Fun K "is_digit" "is_digit" s_is_digit f_is_digit d_is_digit
  b_is_digit : Binds K d_is_digit ["code"] []
  g_is_digit : mg "is_digit" = some (.ref f_is_digit)
  f_with_digit : Addr
  d_with_digit : FuncData
  F_with_digit : Fun K "with_digit" "with_digit" s_with_digit f_with_digit d_with_digit
  b_with_digit : Binds K d_with_digit ["number", "code"] []
  g_with_digit : mg "with_digit" = some (.ref f_with_digit)
  f_codes_of : Addr
  d_codes_of : FuncData
  F_codes_of : Fun K "codes_of" "codes_of" s_codes_of f_codes_of d_codes_of
  b_codes_of : Binds K d_codes_of ["text"] []
  g_codes_of : mg "codes_of" = some (.ref f_codes_of)
  f_readable : Addr
  d_readable : FuncData
  F_readable : Fun K "readable" "readable" s_readable f_readable d_readable
  b_readable : Binds K d_readable ["codes"] []
  g_readable : mg "readable" = some (.ref f_readable)
  f_read_digits : Addr
  d_read_digits : FuncData
  F_read_digits : Fun K "read_digits" "read_digits" s_read_digits f_read_digits d_read_digits
  b_read_digits : Binds K d_read_digits ["codes"] []
  g_read_digits : mg "read_digits" = some (.ref f_read_digits)
  f_ShortReader_init : Addr
  d_ShortReader_init : FuncData
  F_ShortReader_init : Fun K "__init__" "ShortReader.__init__" s_ShortReader_init f_ShortReader_init d_ShortReader_init
  b_ShortReader_init : Binds K d_ShortReader_init ["self"] []
  m_ShortReader_init : Mk K C_ShortReader f_ShortReader_init
  f_ShortReader_feed : Addr
  d_ShortReader_feed : FuncData
  F_ShortReader_feed : Fun K "feed" "ShortReader.feed" s_ShortReader_feed f_ShortReader_feed d_ShortReader_feed
  b_ShortReader_feed : Binds K d_ShortReader_feed ["self", "codes"] []
  m_ShortReader_feed : Meth K C_ShortReader "feed" f_ShortReader_feed
  f_ShortReader_image : Addr
  d_ShortReader_image : FuncData
  F_ShortReader_image : Fun K "image" "ShortReader.image" s_ShortReader_image f_ShortReader_image d_ShortReader_image
  b_ShortReader_image : Binds K d_ShortReader_image ["self"] []
  m_ShortReader_image : Meth K C_ShortReader "image" f_ShortReader_image
  f_ShortReader_take : Addr
  d_ShortReader_take : FuncData
  F_ShortReader_take : Fun K "_take" "ShortReader._take" s_ShortReader_take f_ShortReader_take d_ShortReader_take
  b_ShortReader_take : Binds K d_ShortReader_take ["self", "code"] []
  m_ShortReader_take : Meth K C_ShortReader "_take" f_ShortReader_take
  f_ShortReader_take_sign : Addr
  d_ShortReader_take_sign : FuncData
  F_ShortReader_take_sign : Fun K "_take_sign" "ShortReader._take_sign" s_ShortReader_take_sign f_ShortReader_take_sign d_ShortReader_take_sign
  b_ShortReader_take_sign : Binds K d_ShortReader_take_sign ["self", "code"] []
  m_ShortReader_take_sign : Meth K C_ShortReader "_take_sign" f_ShortReader_take_sign
  f_ShortReader_emit : Addr
  d_ShortReader_emit : FuncData
  F_ShortReader_emit : Fun K "_emit" "ShortReader._emit" s_ShortReader_emit f_ShortReader_emit d_ShortReader_emit
  b_ShortReader_emit : Binds K d_ShortReader_emit ["self", "operation", "argument", "successor"] []
  m_ShortReader_emit : Meth K C_ShortReader "_emit" f_ShortReader_emit
  f_translate_short : Addr
  d_translate_short : FuncData
  F_translate_short : Fun K "translate_short" "translate_short" s_translate_short f_translate_short d_translate_short
  b_translate_short : Binds K d_translate_short ["codes"] []
  g_translate_short : mg "translate_short" = some (.ref f_translate_short)
  f_begin_choice : Addr
  d_begin_choice : FuncData
  F_begin_choice : Fun K "_begin_choice" "_begin_choice" s_begin_choice f_begin_choice d_begin_choice
  b_begin_choice : Binds K d_begin_choice ["translator"] []
  g_begin_choice : mg "_begin_choice" = some (.ref f_begin_choice)
  f_turn_choice : Addr
  d_turn_choice : FuncData
  F_turn_choice : Fun K "_turn_choice" "_turn_choice" s_turn_choice f_turn_choice d_turn_choice
  b_turn_choice : Binds K d_turn_choice ["translator"] []
  g_turn_choice : mg "_turn_choice" = some (.ref f_turn_choice)
  f_end_choice : Addr
  d_end_choice : FuncData
  F_end_choice : Fun K "_end_choice" "_end_choice" s_end_choice f_end_choice d_end_choice
  b_end_choice : Binds K d_end_choice ["translator"] []
  g_end_choice : mg "_end_choice" = some (.ref f_end_choice)
  f_begin_loop : Addr
  d_begin_loop : FuncData
  F_begin_loop : Fun K "_begin_loop" "_begin_loop" s_begin_loop f_begin_loop d_begin_loop
  b_begin_loop : Binds K d_begin_loop ["translator"] []
  g_begin_loop : mg "_begin_loop" = some (.ref f_begin_loop)
  f_end_loop : Addr
  d_end_loop : FuncData
  F_end_loop : Fun K "_end_loop" "_end_loop" s_end_loop f_end_loop d_end_loop
  b_end_loop : Binds K d_end_loop ["translator"] []
  g_end_loop : mg "_end_loop" = some (.ref f_end_loop)
  f_end_definition : Addr
  d_end_definition : FuncData
  F_end_definition : Fun K "_end_definition" "_end_definition" s_end_definition f_end_definition d_end_definition
  b_end_definition : Binds K d_end_definition ["translator"] []
  g_end_definition : mg "_end_definition" = some (.ref f_end_definition)
  f_Translator_init : Addr
  d_Translator_init : FuncData
  F_Translator_init : Fun K "__init__" "Translator.__init__" s_Translator_init f_Translator_init d_Translator_init
  K_Translator_init : FunD K "__init__" "Translator.__init__" (defArgs s_Translator_init) (defBody s_Translator_init) (defScope s_Translator_init) [] [("first", V.int 200), ("by", V.int 1)] f_Translator_init d_Translator_init
  m_Translator_init : Mk K C_Translator f_Translator_init
  f_Translator_popped : Addr
  d_Translator_popped : FuncData
  F_Translator_popped : Fun K "popped" "Translator.popped" s_Translator_popped f_Translator_popped d_Translator_popped
  b_Translator_popped : Binds K d_Translator_popped ["self"] []
  m_Translator_popped : Meth K C_Translator "popped" f_Translator_popped
  f_Translator_taken_number : Addr
  d_Translator_taken_number : FuncData
  F_Translator_taken_number : Fun K "taken_number" "Translator.taken_number" s_Translator_taken_number f_Translator_taken_number d_Translator_taken_number
  b_Translator_taken_number : Binds K d_Translator_taken_number ["self"] []
  m_Translator_taken_number : Meth K C_Translator "taken_number" f_Translator_taken_number
  f_Translator_append_node : Addr
  d_Translator_append_node : FuncData
  F_Translator_append_node : Fun K "append_node" "Translator.append_node" s_Translator_append_node f_Translator_append_node d_Translator_append_node
  b_Translator_append_node : Binds K d_Translator_append_node ["self", "operation", "argument", "successor"] []
  m_Translator_append_node : Meth K C_Translator "append_node" f_Translator_append_node
  f_Translator_emit : Addr
  d_Translator_emit : FuncData
  F_Translator_emit : Fun K "emit" "Translator.emit" s_Translator_emit f_Translator_emit d_Translator_emit
  b_Translator_emit : Binds K d_Translator_emit ["self", "operation", "argument"] []
  m_Translator_emit : Meth K C_Translator "emit" f_Translator_emit
  f_Translator_take : Addr
  d_Translator_take : FuncData
  F_Translator_take : Fun K "take" "Translator.take" s_Translator_take f_Translator_take d_Translator_take
  b_Translator_take : Binds K d_Translator_take ["self", "code"] []
  m_Translator_take : Meth K C_Translator "take" f_Translator_take
  f_Translator_finish : Addr
  d_Translator_finish : FuncData
  F_Translator_finish : Fun K "finish" "Translator.finish" s_Translator_finish f_Translator_finish d_Translator_finish
  b_Translator_finish : Binds K d_Translator_finish ["self"] []
  m_Translator_finish : Meth K C_Translator "finish" f_Translator_finish
  f_Translator_end_numeral : Addr
  d_Translator_end_numeral : FuncData
  F_Translator_end_numeral : Fun K "_end_numeral" "Translator._end_numeral" s_Translator_end_numeral f_Translator_end_numeral d_Translator_end_numeral
  b_Translator_end_numeral : Binds K d_Translator_end_numeral ["self"] []
  m_Translator_end_numeral : Meth K C_Translator "_end_numeral" f_Translator_end_numeral
  f_Translator_take_skipped : Addr
  d_Translator_take_skipped : FuncData
  F_Translator_take_skipped : Fun K "_take_skipped" "Translator._take_skipped" s_Translator_take_skipped f_Translator_take_skipped d_Translator_take_skipped
  b_Translator_take_skipped : Binds K d_Translator_take_skipped ["self", "code"] []
  m_Translator_take_skipped : Meth K C_Translator "_take_skipped" f_Translator_take_skipped
  f_Translator_take_sign : Addr
  d_Translator_take_sign : FuncData
  F_Translator_take_sign : Fun K "_take_sign" "Translator._take_sign" s_Translator_take_sign f_Translator_take_sign d_Translator_take_sign
  b_Translator_take_sign : Binds K d_Translator_take_sign ["self", "code"] []
  m_Translator_take_sign : Meth K C_Translator "_take_sign" f_Translator_take_sign
  f_translate : Addr
  d_translate : FuncData
  F_translate : Fun K "translate" "translate" s_translate f_translate d_translate
  K_translate : FunD K "translate" "translate" (defArgs s_translate) (defBody s_translate) (defScope s_translate) [] [("first", V.int 200), ("by", V.int 1)] f_translate d_translate
  g_translate : mg "translate" = some (.ref f_translate)
  f_check_kind : Addr
  d_check_kind : FuncData
  F_check_kind : Fun K "check_kind" "check_kind" s_check_kind f_check_kind d_check_kind
  b_check_kind : Binds K d_check_kind ["kind"] []
  g_check_kind : mg "check_kind" = some (.ref f_check_kind)
  f_meant : Addr
  d_meant : FuncData
  F_meant : Fun K "meant" "meant" s_meant f_meant d_meant
  b_meant : Binds K d_meant ["kind", "codes"] []
  g_meant : mg "meant" = some (.ref f_meant)
  f_due : Addr
  d_due : FuncData
  F_due : Fun K "due" "due" s_due f_due d_due
  b_due : Binds K d_due ["kind", "text"] []
  g_due : mg "due" = some (.ref f_due)
  f_first_difference : Addr
  d_first_difference : FuncData
  F_first_difference : Fun K "first_difference" "first_difference" s_first_difference f_first_difference d_first_difference
  b_first_difference : Binds K d_first_difference ["one", "other"] []
  g_first_difference : mg "first_difference" = some (.ref f_first_difference)
  f_law_number : Addr
  d_law_number : FuncData
  F_law_number : Fun K "_law_number" "_law_number" s_law_number f_law_number d_law_number
  b_law_number : Binds K d_law_number ["cell"] []
  g_law_number : mg "_law_number" = some (.ref f_law_number)
  f_law_draws : Addr
  d_law_draws : FuncData
  F_law_draws : Fun K "_law_draws" "_law_draws" s_law_draws f_law_draws d_law_draws
  b_law_draws : Binds K d_law_draws ["script"] []
  g_law_draws : mg "_law_draws" = some (.ref f_law_draws)
  f_law_next : Addr
  d_law_next : FuncData
  F_law_next : Fun K "_law_next" "_law_next" s_law_next f_law_next d_law_next
  b_law_next : Binds K d_law_next ["draws"] []
  g_law_next : mg "_law_next" = some (.ref f_law_next)
  f_law_pull : Addr
  d_law_pull : FuncData
  F_law_pull : Fun K "_law_pull" "_law_pull" s_law_pull f_law_pull d_law_pull
  b_law_pull : Binds K d_law_pull ["pile"] []
  g_law_pull : mg "_law_pull" = some (.ref f_law_pull)
  f_law_emit : Addr
  d_law_emit : FuncData
  F_law_emit : Fun K "_law_emit" "_law_emit" s_law_emit f_law_emit d_law_emit
  b_law_emit : Binds K d_law_emit ["state", "op", "arg"] []
  g_law_emit : mg "_law_emit" = some (.ref f_law_emit)
  f_law_branch : Addr
  d_law_branch : FuncData
  F_law_branch : Fun K "_law_branch" "_law_branch" s_law_branch f_law_branch d_law_branch
  b_law_branch : Binds K d_law_branch ["state", "code"] []
  g_law_branch : mg "_law_branch" = some (.ref f_law_branch)
  f_law_pair : Addr
  d_law_pair : FuncData
  F_law_pair : Fun K "_law_pair" "_law_pair" s_law_pair f_law_pair d_law_pair
  b_law_pair : Binds K d_law_pair ["state", "sign", "code"] []
  g_law_pair : mg "_law_pair" = some (.ref f_law_pair)
  f_law_code : Addr
  d_law_code : FuncData
  F_law_code : Fun K "_law_code" "_law_code" s_law_code f_law_code d_law_code
  b_law_code : Binds K d_law_code ["state", "code"] []
  g_law_code : mg "_law_code" = some (.ref f_law_code)
  f_law_translate : Addr
  d_law_translate : FuncData
  F_law_translate : Fun K "_law_translate" "_law_translate" s_law_translate f_law_translate d_law_translate
  b_law_translate : Binds K d_law_translate ["codes", "first", "by"] []
  g_law_translate : mg "_law_translate" = some (.ref f_law_translate)
  f_law_is_integer : Addr
  d_law_is_integer : FuncData
  F_law_is_integer : Fun K "_law_is_integer" "_law_is_integer" s_law_is_integer f_law_is_integer d_law_is_integer
  b_law_is_integer : Binds K d_law_is_integer ["actual"] []
  g_law_is_integer : mg "_law_is_integer" = some (.ref f_law_is_integer)
  f_law_is_integers : Addr
  d_law_is_integers : FuncData
  F_law_is_integers : Fun K "_law_is_integers" "_law_is_integers" s_law_is_integers f_law_is_integers d_law_is_integers
  b_law_is_integers : Binds K d_law_is_integers ["actual"] []
  g_law_is_integers : mg "_law_is_integers" = some (.ref f_law_is_integers)
  f_law_digits : Addr
  d_law_digits : FuncData
  F_law_digits : Fun K "_law_digits" "_law_digits" s_law_digits f_law_digits d_law_digits
  b_law_digits : Binds K d_law_digits ["codes"] []
  g_law_digits : mg "_law_digits" = some (.ref f_law_digits)
  f_law_short : Addr
  d_law_short : FuncData
  F_law_short : Fun K "_law_short" "_law_short" s_law_short f_law_short d_law_short
  b_law_short : Binds K d_law_short ["codes"] []
  g_law_short : mg "_law_short" = some (.ref f_law_short)
  f_law_char : Addr
  d_law_char : FuncData
  F_law_char : Fun K "_law_char" "_law_char" s_law_char f_law_char d_law_char
  b_law_char : Binds K d_law_char ["code"] []
  g_law_char : mg "_law_char" = some (.ref f_law_char)
  f_law_text : Addr
  d_law_text : FuncData
  F_law_text : Fun K "_law_text" "_law_text" s_law_text f_law_text d_law_text
  b_law_text : Binds K d_law_text ["draws"] []
  g_law_text : mg "_law_text" = some (.ref f_law_text)
  f_law_told : Addr
  d_law_told : FuncData
  F_law_told : Fun K "_law_told" "_law_told" s_law_told f_law_told d_law_told
  b_law_told : Binds K d_law_told ["kind", "text"] []
  g_law_told : mg "_law_told" = some (.ref f_law_told)
  f_law_lists : Addr
  d_law_lists : FuncData
  F_law_lists : Fun K "_law_lists" "_law_lists" s_law_lists f_law_lists d_law_lists
  b_law_lists : Binds K d_law_lists ["draws"] []
  g_law_lists : mg "_law_lists" = some (.ref f_law_lists)
  f_law_difference : Addr
  d_law_difference : FuncData
  F_law_difference : Fun K "_law_difference" "_law_difference" s_law_difference f_law_difference d_law_difference
  b_law_difference : Binds K d_law_difference ["one", "other"] []
  g_law_difference : mg "_law_difference" = some (.ref f_law_difference)
  f_law : Addr
  d_law : FuncData
  F_law : Fun K "law" "law" s_law f_law d_law
  b_law : Binds K d_law ["script"] []
  g_law : mg "law" = some (.ref f_law)
  h_law : ∀ (s : Shared) (v : Value), BindsTo s d_law ⟨[v], []⟩ [("script", v)]
  C_PlinthError : Addr
  g_PlinthError : mg "PlinthError" = some (.ref C_PlinthError)
  k_PlinthError : PySem.W.keepIn K (.ref C_PlinthError) = true
  x_PlinthError : PySem.W.excIn K C_PlinthError [.type "ValueError", .type "Exception", .type "BaseException", .type "object"] "ValueError.__new__" = true
  b_PlinthError : PySem.W.subIn K (.ref C_PlinthError) (.type "BaseException") = some true
  t_PlinthError : PySem.W.typeIn K (.ref C_PlinthError) = some (.type "type")
  hd_PlinthError : PySem.W.hasDictIn K C_PlinthError = true
  s_PlinthError : PySem.W.subIn K (.ref C_PlinthError) (.ref C_PlinthError) = some true
  i_PlinthError : PySem.W.isClsIn K C_PlinthError = true
  C_NotText : Addr
  g_NotText : mg "NotText" = some (.ref C_NotText)
  k_NotText : PySem.W.keepIn K (.ref C_NotText) = true
  x_NotText : PySem.W.excIn K C_NotText [.type "ValueError", .type "Exception", .type "BaseException", .type "object"] "ValueError.__new__" = true
  b_NotText : PySem.W.subIn K (.ref C_NotText) (.type "BaseException") = some true
  t_NotText : PySem.W.typeIn K (.ref C_NotText) = some (.type "type")
  hd_NotText : PySem.W.hasDictIn K C_NotText = true
  s_NotText : PySem.W.subIn K (.ref C_NotText) (.ref C_NotText) = some true
  i_NotText : PySem.W.isClsIn K C_NotText = true
  ga_NotText : PySem.W.findIn K (.ref C_NotText) "__getattribute__" = some (some (.builtin "BaseException.__getattribute__"))
  gg_NotText : PySem.W.findIn K (.ref C_NotText) "__getattr__" = some none
  gc_NotText : PySem.W.findIn K (.ref C_NotText) "__class__" = some (some (.builtin "object.__class__"))
  gs_NotText : PySem.W.specialIn K (.builtin "object.__class__") "__get__" = some (some (.builtin "getset_descriptor.__get__"))
  gt_NotText : PySem.W.takesIn K (.builtin "object.__class__") = some true
  gm_NotText : PySem.W.mroIn K C_NotText (.type "object") = some true
  C_BadKind : Addr
  g_BadKind : mg "BadKind" = some (.ref C_BadKind)
  k_BadKind : PySem.W.keepIn K (.ref C_BadKind) = true
  x_BadKind : PySem.W.excIn K C_BadKind [.type "ValueError", .type "Exception", .type "BaseException", .type "object"] "ValueError.__new__" = true
  b_BadKind : PySem.W.subIn K (.ref C_BadKind) (.type "BaseException") = some true
  t_BadKind : PySem.W.typeIn K (.ref C_BadKind) = some (.type "type")
  hd_BadKind : PySem.W.hasDictIn K C_BadKind = true
  s_BadKind : PySem.W.subIn K (.ref C_BadKind) (.ref C_BadKind) = some true
  i_BadKind : PySem.W.isClsIn K C_BadKind = true
  ga_BadKind : PySem.W.findIn K (.ref C_BadKind) "__getattribute__" = some (some (.builtin "BaseException.__getattribute__"))
  gg_BadKind : PySem.W.findIn K (.ref C_BadKind) "__getattr__" = some none
  gc_BadKind : PySem.W.findIn K (.ref C_BadKind) "__class__" = some (some (.builtin "object.__class__"))
  gs_BadKind : PySem.W.specialIn K (.builtin "object.__class__") "__get__" = some (some (.builtin "getset_descriptor.__get__"))
  gt_BadKind : PySem.W.takesIn K (.builtin "object.__class__") = some true
  gm_BadKind : PySem.W.mroIn K C_BadKind (.type "object") = some true
  sub_NotText_BadKind : PySem.W.subIn K (.ref C_NotText) (.ref C_BadKind) = some false
  kit_NotText_PlinthError : PySem.W.kitOne K (.ref C_NotText) (.ref C_PlinthError) = some true
  kit_BadKind_NotText : PySem.W.kitOne K (.ref C_BadKind) (.ref C_NotText) = some false
  kit_BadKind_PlinthError : PySem.W.kitOne K (.ref C_BadKind) (.ref C_PlinthError) = some true
  gc_Translator : mg "Translator" = some (.ref C_Translator)
  cl_Translator : Cls K C_Translator
  na_Translator_image : NoAttr K C_Translator "image"
  na_Translator_m : NoAttr K C_Translator "m"
  na_Translator_k : NoAttr K C_Translator "k"
  na_Translator_pile : NoAttr K C_Translator "pile"
  na_Translator_numeral : NoAttr K C_Translator "numeral"
  na_Translator_waiting : NoAttr K C_Translator "waiting"
  na_Translator_by : NoAttr K C_Translator "_by"
  na_Translator_stopped : NoAttr K C_Translator "_stopped"
  na_Translator_finished : NoAttr K C_Translator "_finished"
  gc_ShortReader : mg "ShortReader" = some (.ref C_ShortReader)
  cl_ShortReader : Cls K C_ShortReader
  na_ShortReader_m : NoAttr K C_ShortReader "m"
  na_ShortReader_r : NoAttr K C_ShortReader "r"
  na_ShortReader_waiting : NoAttr K C_ShortReader "waiting"
  na_ShortReader_finished : NoAttr K C_ShortReader "finished"
  na_ShortReader_cells : NoAttr K C_ShortReader "_cells"
  D_BRACKETS : Addr
  g_BRACKETS : mg "_BRACKETS" = some (.ref D_BRACKETS)
  tab_BRACKETS : ITab K D_BRACKETS [(91, .ref f_begin_choice), (124, .ref f_turn_choice), (93, .ref f_end_choice), (123, .ref f_begin_loop), (125, .ref f_end_loop), (59, .ref f_end_definition)]
  nd_BRACKETS : [f_begin_choice, f_turn_choice, f_end_choice, f_begin_loop, f_end_loop, f_end_definition].Nodup
  D_KINDS : Addr
  g_KINDS : mg "_KINDS" = some (.ref D_KINDS)
  tup_KINDS : TupK K D_KINDS ([("digits" : Str), ("short" : Str), ("plain" : Str), ("turned" : Str)].map V.str)
  t_BRANCH : Tok
  c_BRANCH : mg "BRANCH" = some (.int 63 t_BRANCH)
  t_COLON : Tok
  c_COLON : mg "COLON" = some (.int 58 t_COLON)
  t_NEWLINE : Tok
  c_NEWLINE : mg "NEWLINE" = some (.int 10 t_NEWLINE)
  t_NOP : Tok
  c_NOP : mg "NOP" = some (.int 32 t_NOP)
  t_PUSH : Tok
  c_PUSH : mg "PUSH" = some (.int 35 t_PUSH)
  t_QUOTE : Tok
  c_QUOTE : mg "QUOTE" = some (.int 39 t_QUOTE)
  t_RETURN : Tok
  c_RETURN : mg "RETURN" = some (.int 41 t_RETURN)
  t_SET : Tok
  c_SET : mg "SET" = some (.int 61 t_SET)
  t_SPACE : Tok
  c_SPACE : mg "SPACE" = some (.int 32 t_SPACE)
  t_GREATER : Tok
  c_GREATER : mg "_GREATER" = some (.int 62 t_GREATER)
  n_bool : mg "bool" = none
  n_int : mg "int" = none
  n_isinstance : mg "isinstance" = none
  n_len : mg "len" = none
  n_list : mg "list" = none
  n_min : mg "min" = none
  n_ord : mg "ord" = none
  n_range : mg "range" = none

end K66

set_option Elab.async false
set_option linter.all false
set_option maxRecDepth 100000
set_option maxHeartbeats 4000000
namespace K66
open PySem PySem.Spec PyProof.Rows L2 Evl Gd
/-! ### how expressions are evaluated, without a word of ours -/
local macro_rules | `(tactic| walk_at "ev") => `(tactic| exact ev_c)
local macro_rules | `(tactic| walk_at "ev") => `(tactic| exact ev_var rfl)
local macro_rules | `(tactic| walk_at "ev") => `(tactic| (refine' ev_op ?k1 ?k2 ?k3; (case k1 => walk_at "ev"); (case k2 => walk_at "ev"); (case k3 => walk_at "rv")))
local macro_rules | `(tactic| walk_at "ev") => `(tactic| (refine' ev_cb ?k1 ?k2; (case k1 => walk_at "ea"); (case k2 => walk_at "rc")))
local macro_rules | `(tactic| walk_at "ev") => `(tactic| (refine' ev_call ?k1 ?k2; (case k1 => walk_at "ea"); (case k2 => walk_at "sp")))
local macro_rules | `(tactic| walk_at "ev") => `(tactic| (refine' ev_chain ?k1 ?k2 ?k3 (fun _ => ?k4) (fun _ => ?k5); (case k1 => walk_at "ev"); (case k2 => walk_at "ev"); (case k3 => walk_at "rv"); (case k4 => walk_at "ev"); (case k5 => walk_at "rv")))
local macro_rules | `(tactic| walk_at "ev") => `(tactic| (refine' ev_orV ?k1 (fun _ => ?k2); (case k1 => walk_at "ev"); (case k2 => walk_at "ev")))
local macro_rules | `(tactic| walk_at "ev") => `(tactic| (refine' ev_andV ?k1 (fun _ => ?k2); (case k1 => walk_at "ev"); (case k2 => walk_at "ev")))
local macro_rules | `(tactic| walk_at "ev") => `(tactic| (refine' ev_notV ?k1; (case k1 => walk_at "ev")))
local macro_rules | `(tactic| walk_at "ea") => `(tactic| exact ea_nil)
local macro_rules | `(tactic| walk_at "ea") => `(tactic| (refine' ea_cons ?k1 ?k2; (case k1 => walk_at "ev"); (case k2 => walk_at "ea")))
local macro_rules | `(tactic| walk_at "rv") => `(tactic| exact rv_I0)
local macro_rules | `(tactic| walk_at "rv") => `(tactic| exact rv_eqI)
local macro_rules | `(tactic| walk_at "rv") => `(tactic| exact rv_neI)
local macro_rules | `(tactic| walk_at "rv") => `(tactic| exact rv_eqS)
local macro_rules | `(tactic| walk_at "rv") => `(tactic| exact rv_neS)
local macro_rules | `(tactic| walk_at "rv") => `(tactic| exact rv_mod (by decide))
local macro_rules | `(tactic| walk_at "rv") => `(tactic| exact rv_fdiv (by decide) (by decide))
local macro_rules | `(tactic| walk_at "rv") => `(tactic| exact rv_mulR (by decide))
local macro_rules | `(tactic| walk_at "rv") => `(tactic| exact rv_pow (by decide))
local macro_rules | `(tactic| walk_at "rc") => `(tactic| exact rc_int)
local macro_rules | `(tactic| walk_at "rc") => `(tactic| exact rc_ord)
local macro_rules | `(tactic| walk_at "et") => `(tactic| (refine' et_test ?k1; (case k1 => walk_at "ev")))
local macro_rules | `(tactic| walk_at "et") => `(tactic| (refine' et_B ?k1; (case k1 => walk_at "ev")))
local macro_rules | `(tactic| walk_at "et") => `(tactic| (refine' et_not ?k1; (case k1 => walk_at "et")))
local macro_rules | `(tactic| walk_at "et") => `(tactic| (refine' et_or ?k1 (fun _ => ?k2); (case k1 => walk_at "et"); (case k2 => walk_at "et")))
local macro_rules | `(tactic| walk_at "et") => `(tactic| (refine' et_and ?k1 (fun _ => ?k2); (case k1 => walk_at "et"); (case k2 => walk_at "et")))
section
variable {P : Program} {w : World} {K : PySem.W.Frag} {mg : Str → Option Value} {base : Heap}
/-! ### digits read -/
def sp_is_digit (K : PySem.W.Frag) : Sp := fun vs H Q _ => ∃ c : Int, vs = [.int c] ∧ RetV (.bl (isDg c)) H Q
theorem v_is_digit {c : Int} {H : Hp} : SpV (sp_is_digit K) [.int c] H (.bl (isDg c)) := fun _ _ _ q _ => ⟨c, rfl, q⟩
theorem ok_is_digit (T : Txt K mg) : FnOk P w K mg base CX0 1 T.f_is_digit T.d_is_digit ["code"] (sp_is_digit K) := by
  refine T.F_is_digit.ok sc_is_digit (fun vs H Q E h => ?_) (fun cdv A outer s H vs Q E hr h => ?_)
  · obtain ⟨c, rfl, _⟩ := h
    rfl
  · obtain ⟨c, rfl, k⟩ := h
    refine ⟨_, (pss_one (ps_ret (pe_chain op_le op_le pe_int (pv 0) pe_int))), ?_⟩
    exact s_ret (by walk_at "ev") k
def sp_with_digit (K : PySem.W.Frag) : Sp := fun vs H Q _ => ∃ n c : Int, vs = [.int n, .int c] ∧ RetV (.int (10 * n + c - 48)) H Q
theorem v_with_digit {n c : Int} {H : Hp} : SpV (sp_with_digit K) [.int n, .int c] H (.int (10 * n + c - 48)) := fun _ _ _ q _ => ⟨n, c, rfl, q⟩
theorem ok_with_digit (T : Txt K mg) : FnOk P w K mg base CX0 1 T.f_with_digit T.d_with_digit ["number", "code"] (sp_with_digit K) := by
  refine T.F_with_digit.ok sc_with_digit (fun vs H Q E h => ?_) (fun cdv A outer s H vs Q E hr h => ?_)
  · obtain ⟨n, c, rfl, _⟩ := h
    rfl
  · obtain ⟨n, c, rfl, k⟩ := h
    refine ⟨_, (pss_one (ps_ret (pe_op op_sub (pe_op op_add (pe_op op_mul pe_int (pv 0)) (pv 1)) pe_int))), ?_⟩
    exact s_ret (ev_op (ev_op (ev_op ev_c (ev_var rfl) (rv_mulL (by decide))) (ev_var rfl) rv_I0) ev_c rv_I0) k

theorem foldl_snoc {α β : Type} {f : β → α → β} {l : List α} {s : β} {i : Nat} {c : α} (h : l[i]? = some c) : (l.take (i + 1)).foldl f s = f ((l.take i).foldl f s) c := by
  rw [List.take_succ, h, List.foldl_append]
  rfl
def sp_readable (K : PySem.W.Frag) : Sp := fun vs H Q _ => ∃ (a : Addr) (ns : List Int), vs = [.ref a] ∧ SqL K H a (ns.map V.int) ∧ ns.length ≤ 5000 ∧ RetL ((ns.takeWhile nn).map V.int) H Q
theorem l_readable {a : Addr} {ns : List Int} {H : Hp} (h : SqL K H a (ns.map V.int)) (hl : ns.length ≤ 5000) : SpL (sp_readable K) [.ref a] H ((ns.takeWhile nn).map V.int) := fun _ e _ q _ => ⟨a, ns, rfl, ex_l e h, hl, q⟩
theorem ok_readable (T : Txt K mg) : FnOk P w K mg base CX0 1 T.f_readable T.d_readable ["codes"] (sp_readable K) := by
  refine T.F_readable.ok sc_readable (fun vs H Q E h => ?_) (fun cdv A outer s H vs Q E hr h => ?_)
  · obtain ⟨a, ns, rfl, _⟩ := h
    rfl
  · obtain ⟨a, ns, rfl, hS, hl, k⟩ := h
    refine ⟨_, (pss_cons (ps_set (i := 1) sc_readable.nd rfl (Or.inl rfl) (pe_lst pa_nil))
        (pss_cons (ps_for PassesOwn.never rfl (pi_list (pv 0)) (pg_name (i := 2) sc_readable.nd rfl (Or.inl rfl)) (pss_cons (ps_if (pt_cmpR op_lt (pv 2) pe_int (nomark _)) (pss_one ps_break) pss_nil)
        (pss_one (ps_expr (pe_bm PySem.F.plainAttrs_list PySem.F.slot_list_append PySem.F.type_list_append mt_append (pv 1) (pa_cons (pv 2) pa_nil))))))
        (pss_one (ps_ret (pv 1))))), ?_⟩
    refine q_asgL (el_lst ea_nil (by decide)) (fun p H1 hp e1 d1 => ?_)
    refine q_forLn (ev_var rfl) (ex_l e1 hS) (fun i σ' H' => Ex H H' ∧ (ns.take i).takeWhile nn = ns.take i ∧ H' p = some (.lst ((ns.take i).map V.int)) ∧ ∃ y, σ' = [some (.ref a), some (.ref p), y]) ?_ ?_ ?_ ?_
    · intro H2 e2
      exact ⟨e1.trans e2, rfl, e2 _ _ d1, none, rfl⟩
    · rintro i σ' H' _ ⟨e2, _⟩
      exact ex_l e2 hS
    · rintro i x σ' H' hx ⟨e2, ht, hd, y, rfl⟩
      obtain ⟨c, hc, rfl⟩ := map_at hx
      have hi := (List.getElem?_eq_some_iff.mp hc).1
      refine q_when (b := decide (c < 0)) (by walk_at "et") (fun hb H3 e3 => ?_) (fun hb H3 e3 => ?_)
      · have e : ns.takeWhile nn = ns.take i := tw_stop hc (by unfold nn; have := of_decide_eq_true hb; exact decide_eq_false (by omega)) ht
        rw [e] at k
        exact s_ret (ev_var rfl) fun H4 e4 => k p H4 hp (e2.trans (e3.trans e4)) (e4 _ _ (e3 _ _ hd))
      · have h0 : nn c = true := by unfold nn; have := of_decide_eq_false hb; exact decide_eq_true (by omega)
        refine s_app (e3 _ _ hd) (ev_var rfl) (ev_var rfl) (by rw [List.length_map, List.length_take]; omega) (fun H4 e4 => ?_)
        refine ⟨Ex.mut ((e2.trans e3).trans e4) hp, ?_, ?_, _, rfl⟩
        · rw [take_snoc hc, List.takeWhile_append_of_pos (fun z hz => takeWhile_pos ht z hz), List.takeWhile_cons, h0]
          rfl
        · rw [take_snoc hc, List.map_append]
          exact upd_same
    · rintro σ' H' ⟨e2, ht, hd, y, rfl⟩
      rw [List.length_map, List.take_length] at ht hd
      rw [ht] at k
      exact s_ret (ev_var rfl) fun H4 e4 => k p H4 hp (e2.trans e4) (e4 _ _ hd)

def sp_read_digits (K : PySem.W.Frag) : Sp := fun vs H Q _ => ∃ (a : Addr) (ns : List Int), vs = [.ref a] ∧ SqL K H a (ns.map V.int) ∧ ns.length ≤ 5000 ∧ RetL ((rd ns).map V.int) H Q
theorem l_read_digits {a : Addr} {ns : List Int} {H : Hp} (h : SqL K H a (ns.map V.int)) (hl : ns.length ≤ 5000) : SpL (sp_read_digits K) [.ref a] H ((rd ns).map V.int) := fun _ e _ q _ => ⟨a, ns, rfl, ex_l e h, hl, q⟩
theorem ok_read_digits (T : Txt K mg) : FnOk P w K mg base CX0 2 T.f_read_digits T.d_read_digits ["codes"] (sp_read_digits K) := by
  refine T.F_read_digits.ok sc_read_digits (fun vs H Q E h => ?_) (fun cdv A outer s H vs Q E hr h => ?_)
  · obtain ⟨a, ns, rfl, _⟩ := h
    rfl
  · obtain ⟨a, ns, rfl, hS, hl, k⟩ := h
    refine ⟨_, (pss_cons (ps_set (i := 1) sc_read_digits.nd rfl (Or.inl rfl) (pe_lst pa_nil))
        (pss_cons (ps_set (i := 2) sc_read_digits.nd rfl (Or.inl rfl) pe_non)
        (pss_cons (ps_for PassesOwn.never rfl (pi_list (pe_call (ok_readable T) (hr.mono (by decide)) (by rfl) T.g_readable T.F_readable.kp T.b_readable .nil pass0 (pa_cons (pv 0) pa_nil))) (pg_name (i := 3) sc_read_digits.nd rfl (Or.inl rfl)) (pss_one (ps_if (pt_val (pe_call (ok_is_digit T) (hr.mono (by decide)) (by rfl) T.g_is_digit T.F_is_digit.kp T.b_is_digit .nil pass0 (pa_cons (pv 3) pa_nil))) (pss_one (ps_set (i := 2) sc_read_digits.nd rfl (Or.inl rfl) (pe_call (ok_with_digit T) (hr.mono (by decide)) (by rfl) T.g_with_digit T.F_with_digit.kp T.b_with_digit .nil pass0 (pa_cons (pe_orT (pv 2) (pe_one pe_int)) (pa_cons (pv 3) pa_nil))))) (pss_one (ps_if (pt_cmpR op_notN (pv 2) pe_non (nomark _)) (pss_cons (ps_expr (pe_bm PySem.F.plainAttrs_list PySem.F.slot_list_append PySem.F.type_list_append mt_append (pv 1) (pa_cons (pv 2) pa_nil)))
        (pss_one (ps_set (i := 2) sc_read_digits.nd rfl (Or.inl rfl) pe_non))) pss_nil)))))
        (pss_cons (ps_if (pt_cmpR op_notN (pv 2) pe_non (nomark _)) (pss_one (ps_expr (pe_bm PySem.F.plainAttrs_list PySem.F.slot_list_append PySem.F.type_list_append mt_append (pv 1) (pa_cons (pv 2) pa_nil)))) pss_nil)
        (pss_one (ps_ret (pv 1))))))), ?_⟩
    refine q_asgL (el_lst ea_nil (by decide)) (fun p H1 hp e1 d1 => ?_)
    refine q_asg ev_c (fun H2 e2 => ?_)
    have hS2 := ex_l (e1.trans e2) hS
    have hw : (ns.takeWhile nn).length ≤ 5000 := Nat.le_trans (tw_len ns) hl
    unfold rd at k
    have hR : SpL (sp_readable K) [.ref a] H2 ((ns.takeWhile nn).map V.int) := l_readable hS2 hl
    generalize ns.takeWhile nn = rs at hw k hR
    refine q_forNLn (xs := rs.map V.int) (el_call (ea_cons (ev_var rfl) ea_nil) hR) (fun q i σ' H' => Ex H H' ∧ H' q = some (.lst (rs.map V.int)) ∧ q ≠ p ∧ H' p = some (.lst ((rdGo (rs.take i)).1.map V.int)) ∧
      ∃ y, σ' = [some (.ref a), some (.ref p), some (optV (rdGo (rs.take i)).2), y]) ?_ ?_ ?_ ?_
    · intro q H3 hq e3 h3
      exact ⟨e1.trans (e2.trans e3), h3, (fun e => by rw [e, e2 _ _ d1] at hq; cases hq), e3 _ _ (e2 _ _ d1), none, rfl⟩
    · rintro q i σ' H' _ ⟨_, h3, _⟩
      exact sq_of h3
    · rintro q i x σ' H' hx ⟨e3, h3, hqp, hd, y, rfl⟩
      obtain ⟨c, hc, rfl⟩ := map_at hx
      have hi := (List.getElem?_eq_some_iff.mp hc).1
      have hlen := rdGo_len (rs.take i)
      rw [List.length_take] at hlen
      rw [rdGo_snoc hc]
      generalize rdGo (rs.take i) = st at hd hlen
      obtain ⟨xs, o⟩ := st
      refine s_if (b := isDg c) (et_B (ev_call (ea_cons (ev_var rfl) ea_nil) v_is_digit)) (fun hb H4 e4 => ?_) (fun hb H4 e4 => ?_)
      · refine s_asg (ev_call (ea_cons (ev_or0 (ev_var rfl)) (ea_cons (ev_var rfl) ea_nil)) v_with_digit) (fun H5 e5 => ?_)
        unfold rdStep
        rw [if_pos hb]
        exact ⟨e3.trans (e4.trans e5), e5 _ _ (e4 _ _ h3), hqp, e5 _ _ (e4 _ _ hd), _, rfl⟩
      · refine s_when (b := o.isSome) (et_test (ev_op (ev_var rfl) ev_c rv_notN)) (fun ho H5 e5 => ?_) (fun ho H5 e5 => ?_)
        · cases o with
          | none => cases ho
          | some v =>
            refine q_app (e5 _ _ (e4 _ _ hd)) (ev_var rfl) (ev_var rfl) (by rw [List.length_map]; show xs.length < 100000; have h2 : xs.length ≤ min i rs.length := hlen; omega) (fun H6 e6 => ?_)
            refine s_asg ev_c (fun H7 e7 => ?_)
            unfold rdStep
            rw [hb, if_neg Bool.false_ne_true]
            refine ⟨(Ex.mut (e3.trans (e4.trans (e5.trans e6))) hp).trans e7, e7 _ _ ?_, hqp, ?_, _, rfl⟩
            · rw [upd_ne hqp]
              exact e6 _ _ (e5 _ _ (e4 _ _ h3))
            · show H7 p = some (.lst ((xs ++ [v]).map V.int))
              rw [List.map_append]
              exact e7 _ _ upd_same
        · cases o with
          | some v => cases ho
          | none =>
            unfold rdStep
            rw [hb, if_neg Bool.false_ne_true]
            exact ⟨e3.trans (e4.trans e5), e5 _ _ (e4 _ _ h3), hqp, e5 _ _ (e4 _ _ hd), _, rfl⟩
    · rintro q σ' H' ⟨e3, h3, hqp, hd, y, rfl⟩
      rw [List.length_map, List.take_length] at hd ⊢
      have hlen := rdGo_len rs
      generalize rdGo rs = st at hd hlen k
      obtain ⟨xs, o⟩ := st
      refine q_when (b := o.isSome) (et_test (ev_op (ev_var rfl) ev_c rv_notN)) (fun ho H4 e4 => ?_) (fun ho H4 e4 => ?_)
      · cases o with
        | none => cases ho
        | some v =>
          refine s_app (e4 _ _ hd) (ev_var rfl) (ev_var rfl) (by rw [List.length_map]; show xs.length < 100000; have h2 : xs.length ≤ rs.length := hlen; omega) (fun H5 e5 => ?_)
          refine s_ret (ev_var rfl) (fun H6 e6 => k p H6 hp ((Ex.mut (e3.trans (e4.trans e5)) hp).trans e6) (e6 _ _ ?_))
          show _ = some (HO.lst ((xs ++ [v]).map V.int))
          rw [List.map_append]
          exact upd_same
      · cases o with
        | some v => cases ho
        | none => exact s_ret (ev_var rfl) fun H6 e6 => k p H6 hp (e3.trans (e4.trans e6)) (e6 _ _ (e4 _ _ hd))


end
end K66

set_option Elab.async false
set_option linter.all false
set_option maxRecDepth 100000
set_option maxHeartbeats 4000000
namespace K66
open PySem PySem.Spec PyProof.Rows L2 Evl Gd
/-! ### how expressions are evaluated, without a word of ours -/
local macro_rules | `(tactic| walk_at "ev") => `(tactic| exact ev_c)
local macro_rules | `(tactic| walk_at "ev") => `(tactic| exact ev_var rfl)
local macro_rules | `(tactic| walk_at "ev") => `(tactic| (refine' ev_op ?k1 ?k2 ?k3; (case k1 => walk_at "ev"); (case k2 => walk_at "ev"); (case k3 => walk_at "rv")))
local macro_rules | `(tactic| walk_at "ev") => `(tactic| (refine' ev_cb ?k1 ?k2; (case k1 => walk_at "ea"); (case k2 => walk_at "rc")))
local macro_rules | `(tactic| walk_at "ev") => `(tactic| (refine' ev_call ?k1 ?k2; (case k1 => walk_at "ea"); (case k2 => walk_at "sp")))
local macro_rules | `(tactic| walk_at "ev") => `(tactic| (refine' ev_chain ?k1 ?k2 ?k3 (fun _ => ?k4) (fun _ => ?k5); (case k1 => walk_at "ev"); (case k2 => walk_at "ev"); (case k3 => walk_at "rv"); (case k4 => walk_at "ev"); (case k5 => walk_at "rv")))
local macro_rules | `(tactic| walk_at "ev") => `(tactic| (refine' ev_orV ?k1 (fun _ => ?k2); (case k1 => walk_at "ev"); (case k2 => walk_at "ev")))
local macro_rules | `(tactic| walk_at "ev") => `(tactic| (refine' ev_andV ?k1 (fun _ => ?k2); (case k1 => walk_at "ev"); (case k2 => walk_at "ev")))
local macro_rules | `(tactic| walk_at "ev") => `(tactic| (refine' ev_notV ?k1; (case k1 => walk_at "ev")))
local macro_rules | `(tactic| walk_at "ea") => `(tactic| exact ea_nil)
local macro_rules | `(tactic| walk_at "ea") => `(tactic| (refine' ea_cons ?k1 ?k2; (case k1 => walk_at "ev"); (case k2 => walk_at "ea")))
local macro_rules | `(tactic| walk_at "rv") => `(tactic| exact rv_I0)
local macro_rules | `(tactic| walk_at "rv") => `(tactic| exact rv_eqI)
local macro_rules | `(tactic| walk_at "rv") => `(tactic| exact rv_neI)
local macro_rules | `(tactic| walk_at "rv") => `(tactic| exact rv_eqS)
local macro_rules | `(tactic| walk_at "rv") => `(tactic| exact rv_neS)
local macro_rules | `(tactic| walk_at "rv") => `(tactic| exact rv_mod (by decide))
local macro_rules | `(tactic| walk_at "rv") => `(tactic| exact rv_fdiv (by decide) (by decide))
local macro_rules | `(tactic| walk_at "rv") => `(tactic| exact rv_mulR (by decide))
local macro_rules | `(tactic| walk_at "rv") => `(tactic| exact rv_pow (by decide))
local macro_rules | `(tactic| walk_at "rc") => `(tactic| exact rc_int)
local macro_rules | `(tactic| walk_at "rc") => `(tactic| exact rc_ord)
local macro_rules | `(tactic| walk_at "et") => `(tactic| (refine' et_test ?k1; (case k1 => walk_at "ev")))
local macro_rules | `(tactic| walk_at "et") => `(tactic| (refine' et_B ?k1; (case k1 => walk_at "ev")))
local macro_rules | `(tactic| walk_at "et") => `(tactic| (refine' et_not ?k1; (case k1 => walk_at "et")))
local macro_rules | `(tactic| walk_at "et") => `(tactic| (refine' et_or ?k1 (fun _ => ?k2); (case k1 => walk_at "et"); (case k2 => walk_at "et")))
local macro_rules | `(tactic| walk_at "et") => `(tactic| (refine' et_and ?k1 (fun _ => ?k2); (case k1 => walk_at "et"); (case k2 => walk_at "et")))
section
variable {P : Program} {w : World} {K : PySem.W.Frag} {mg : Str → Option Value} {base : Heap}
/-! ### the reader's state -/
structure SS where
  m : Int
  r : Int
  w : Bool
  f : Bool
  cs : List Int
def FFs (s : SS) (q : Addr) : List (Str × V) := [("m", .int s.m), ("r", .int s.r), ("waiting", .bl s.w), ("finished", .bl s.f), ("_cells", .ref q)]
def emitS (s : SS) (op arg su : Int) : SS := ⟨s.m + 1, 0, s.w, s.f, s.cs ++ [s.m, op, arg, su]⟩
def signS (s : SS) (c : Int) : SS := if c = 39 then ⟨s.m, s.r, true, s.f, s.cs⟩ else if c = 58 then ⟨s.r, 0, s.w, s.f, s.cs⟩ else if c = 62 then emitS s 32 0 s.r else emitS s c s.r (s.m + 1)
def stepS (s : SS) (c : Int) : SS := if c < 0 then ⟨s.m, s.r, false, true, s.cs⟩ else if s.w = true then emitS ⟨s.m, s.r, false, s.f, s.cs⟩ 35 c (s.m + 1) else if isDg c = true then ⟨s.m, 10 * s.r + c - 48, s.w, s.f, s.cs⟩ else if 32 < c then signS s c else s
def feedS (s : SS) (c : Int) : SS := if s.f = true then s else stepS s c
def s0 : SS := ⟨0, 0, false, false, []⟩
def runS (l : List Int) : SS := l.foldl feedS s0
theorem feedS_len (s : SS) (c : Int) : (feedS s c).cs.length ≤ s.cs.length + 4 := by
  unfold feedS stepS signS emitS
  repeat' split
  all_goals simp
theorem run_lenS (l : List Int) (s : SS) : (l.foldl feedS s).cs.length ≤ s.cs.length + 4 * l.length := by
  induction l generalizing s with
  | nil => simp
  | cons c r ih =>
    have h1 := ih (feedS s c)
    have h2 := feedS_len s c
    rw [List.foldl_cons, List.length_cons]
    omega
/-- a reader of state s stands at x, its cells at q -/
def RAs (C : Addr) (H : Hp) (x q : Addr) (s : SS) : Prop := (∃ dx, H x = some (.ins C dx (FFs s q))) ∧ H q = some (.lst (s.cs.map V.int))
theorem RAs.ne {C x q : Addr} {H : Hp} {s : SS} (h : RAs C H x q s) : q ≠ x := by
  obtain ⟨⟨dx, h1⟩, h2⟩ := h
  exact ne_of h2 h1 (by intro z; cases z)
theorem RAs.ex {C x q : Addr} {H H' : Hp} {s : SS} (h : RAs C H x q s) (e : Ex H H') : RAs C H' x q s := let ⟨⟨dx, h1⟩, h2⟩ := h; ⟨⟨dx, e _ _ h1⟩, e _ _ h2⟩
def But2 (x q : Addr) (H H' : Hp) : Prop := ∀ b o, b ≠ x → b ≠ q → H b = some o → H' b = some o
theorem But2.refl {x q : Addr} {H : Hp} : But2 x q H H := fun _ _ _ _ h => h
theorem But2.trans {x q : Addr} {H H1 H2 : Hp} (a : But2 x q H H1) (b : But2 x q H1 H2) : But2 x q H H2 := fun c o n1 n2 h => b c o n1 n2 (a c o n1 n2 h)
theorem ex_b2 {x q : Addr} {H H' : Hp} (e : Ex H H') : But2 x q H H' := fun b o _ _ h => e b o h
theorem but2_x {x q : Addr} {H : Hp} {o : HO} : But2 x q H (upd H x o) := fun b u n _ h => by rw [upd_ne n]; exact h
theorem but2_q {x q : Addr} {H : Hp} {o : HO} : But2 x q H (upd H q o) := fun b u _ n h => by rw [upd_ne n]; exact h
theorem ra_x {C dx x q : Addr} {H : Hp} {s : SS} (h : H q = some (.lst (s.cs.map V.int))) (n : q ≠ x) : RAs C (upd H x (.ins C dx (FFs s q))) x q s := ⟨⟨dx, upd_same⟩, by rw [upd_ne n]; exact h⟩
theorem put_m {s : SS} {q : Addr} {z : Int} : putF "m" (.int z) (FFs s q) = FFs ⟨z, s.r, s.w, s.f, s.cs⟩ q := rfl
theorem put_r {s : SS} {q : Addr} {z : Int} : putF "r" (.int z) (FFs s q) = FFs ⟨s.m, z, s.w, s.f, s.cs⟩ q := rfl
theorem put_w {s : SS} {q : Addr} {b : Bool} : putF "waiting" (.bl b) (FFs s q) = FFs ⟨s.m, s.r, b, s.f, s.cs⟩ q := rfl
theorem put_f {s : SS} {q : Addr} {b : Bool} : putF "finished" (.bl b) (FFs s q) = FFs ⟨s.m, s.r, s.w, b, s.cs⟩ q := rfl
theorem lks_m {s : SS} {q : Addr} : (FFs s q).lookup ("m" : Str) = some (.int s.m) := rfl
theorem lk_r {s : SS} {q : Addr} : (FFs s q).lookup ("r" : Str) = some (.int s.r) := rfl
theorem lks_w {s : SS} {q : Addr} : (FFs s q).lookup ("waiting" : Str) = some (.bl s.w) := rfl
theorem lks_f {s : SS} {q : Addr} : (FFs s q).lookup ("finished" : Str) = some (.bl s.f) := rfl
theorem lk_c {s : SS} {q : Addr} : (FFs s q).lookup ("_cells" : Str) = some (.ref q) := rfl
theorem ffs_len {s : SS} {q : Addr} : (FFs s q).length < 1000 := by show 5 < 1000; decide
/-! ### its methods -/
def sp_ShortReader_init (K : PySem.W.Frag) (C : Addr) : Sp := fun vs H Q _ => ∃ x dx : Addr, vs = [.ref x] ∧ H x = some (.ins C dx []) ∧ ∀ q H', H q = none → RAs C H' x q s0 → (∀ b o, b ≠ x → H b = some o → H' b = some o) → Q .non H'
theorem ok_ShortReader_init (T : Txt K mg) : FnOk P w K mg base CX0 1 T.f_ShortReader_init T.d_ShortReader_init ["self"] (sp_ShortReader_init K T.C_ShortReader) := by
  refine T.F_ShortReader_init.ok sc_ShortReader_init (fun vs H Q E h => ?_) (fun cdv A outer s H vs Q E hr h => ?_)
  · obtain ⟨x, dx, rfl, _⟩ := h
    rfl
  · obtain ⟨x, dx, rfl, hx, k⟩ := h
    refine ⟨_, (pss_cons (ps_fld (pv 0) pe_int rfl)
        (pss_cons (ps_fld (pv 0) pe_int rfl)
        (pss_cons (ps_fld (pv 0) pe_bl rfl)
        (pss_cons (ps_fld (pv 0) pe_bl rfl)
        (pss_one (ps_fld (pv 0) (pe_lst pa_nil) rfl)))))), ?_⟩
    refine q_fld ev_c (ev_var rfl) hx T.cl_ShortReader T.na_ShortReader_m (by decide) (fun H1 e1 => ?_)
    refine q_fld ev_c (ev_var rfl) upd_same T.cl_ShortReader T.na_ShortReader_r (by show 1 < 1000; decide) (fun H2 e2 => ?_)
    refine q_fld ev_c (ev_var rfl) upd_same T.cl_ShortReader T.na_ShortReader_waiting (by show 2 < 1000; decide) (fun H3 e3 => ?_)
    refine q_fld ev_c (ev_var rfl) upd_same T.cl_ShortReader T.na_ShortReader_finished (by show 3 < 1000; decide) (fun H4 e4 => ?_)
    refine s_fldL (el_lst ea_nil (by decide)) (ev_var rfl) upd_same T.cl_ShortReader T.na_ShortReader_cells (by show 4 < 1000; decide) (fun q H5 hq e5 h5 => ?_)
    have hb : ∀ b o, b ≠ x → H b = some o → H5 b = some o := fun b o n h => e5 _ _ (by rw [upd_ne n]; exact e4 _ _ (by rw [upd_ne n]; exact e3 _ _ (by rw [upd_ne n]; exact e2 _ _ (by rw [upd_ne n]; exact e1 _ _ h))))
    have hqx : q ≠ x := fun e => by rw [e, upd_same] at hq; cases hq
    refine k q _ ?_ (ra_x (s := s0) h5 hqx) (fun b o n h => by rw [upd_ne n]; exact hb b o n h)
    cases e : H q with
    | none => rfl
    | some o =>
      rw [upd_ne hqx] at hq
      have z : H4 q = some o := e4 _ _ (by rw [upd_ne hqx]; exact e3 _ _ (by rw [upd_ne hqx]; exact e2 _ _ (by rw [upd_ne hqx]; exact e1 _ _ e)))
      rw [hq] at z
      cases z
def Goes (C : Addr) (x q : Addr) (H : Hp) (s' : SS) : V → Hp → Prop := fun v H' => v = .non ∧ RAs C H' x q s' ∧ But2 x q H H'
theorem goes_bk {C x q : Addr} {H H1 : Hp} {s' : SS} {v : V} {H' : Hp} (h : Goes C x q H1 s' v H') (b : But2 x q H H1) : Goes C x q H s' v H' := ⟨h.1, h.2.1, b.trans h.2.2⟩
def sp_ShortReader_emit (K : PySem.W.Frag) (C : Addr) : Sp := fun vs H Q _ => ∃ (x q : Addr) (s : SS) (op arg su : Int), vs = [.ref x, .int op, .int arg, .int su] ∧ RAs C H x q s ∧ s.cs.length ≤ 50000 ∧ ∀ v H', Goes C x q H (emitS s op arg su) v H' → Q v H'
theorem ok_ShortReader_emit (T : Txt K mg) : FnOk P w K mg base CX0 1 T.f_ShortReader_emit T.d_ShortReader_emit ["self", "operation", "argument", "successor"] (sp_ShortReader_emit K T.C_ShortReader) := by
  refine T.F_ShortReader_emit.ok sc_ShortReader_emit (fun vs H Q E h => ?_) (fun cdv A outer s H vs Q E hr h => ?_)
  · obtain ⟨x, q, s, op, arg, su, rfl, _⟩ := h
    rfl
  · obtain ⟨x, q, s, op, arg, su, rfl, hR, hz, k⟩ := h
    refine ⟨_, (pss_cons (ps_expr (pe_bm PySem.F.plainAttrs_list PySem.F.slot_list_extend PySem.F.type_list_extend mt_extend (pe_fld (pv 0) rfl) (pa_cons (pe_lst (pa_cons (pe_fld (pv 0) rfl) (pa_cons (pv 1) (pa_cons (pv 2) (pa_cons (pv 3) pa_nil))))) pa_nil)))
        (pss_cons (ps_fldaug (pv 0) pe_int in_add)
        (pss_one (ps_fld (pv 0) pe_int rfl)))), ?_⟩
    have hn := hR.ne
    obtain ⟨⟨dx, hx⟩, hq⟩ := hR
    have fld : ∀ {H1 : Hp}, Ex H H1 → Ev (tFld K (tVar 0) "m") (L2.start N_ShortReader_emit [.ref x, .int op, .int arg, .int su]) H1 (.int s.m) := fun e => ev_fld (ev_var rfl) (e _ _ hx) T.cl_ShortReader T.na_ShortReader_m lks_m
    refine q_ext hq (ev_fld (ev_var rfl) hx T.cl_ShortReader T.na_ShortReader_cells lk_c) (el_lst (vs := [.int s.m, .int op, .int arg, .int su]) (ea_cons (fld (Ex.refl H)) (ea_cons (ev_var rfl) (ea_cons (ev_var rfl) (ea_cons (ev_var rfl) ea_nil)))) (by show 4 ≤ 100000; decide)) (by rw [List.length_map]; show s.cs.length + 4 ≤ 100000; omega) (fun H1 e1 => ?_)
    refine q_fldaug (ev_var rfl) (by rw [upd_ne (Ne.symm hn)]; exact e1 _ _ hx) T.cl_ShortReader T.na_ShortReader_m lks_m (fun _ _ => ev_c) ffs_len (fun H2 e2 => ?_)
    rw [put_m]
    refine s_fld ev_c (ev_var rfl) upd_same T.cl_ShortReader T.na_ShortReader_r ffs_len (fun H3 e3 => ?_)
    rw [put_r]
    have hq3 : H3 q = some (.lst ((emitS s op arg su).cs.map V.int)) := by
      refine e3 _ _ ?_
      rw [upd_ne hn]
      refine e2 _ _ ?_
      rw [upd_same]
      unfold emitS
      rw [List.map_append]
      rfl
    refine k _ _ ⟨rfl, ra_x (s := emitS s op arg su) hq3 hn, ?_⟩
    exact (((ex_b2 e1).trans but2_q).trans ((ex_b2 e2).trans but2_x)).trans ((ex_b2 e3).trans but2_x)
theorem ep_emit {C x q : Addr} {s : SS} {op arg su : Int} {σ : L2.St} {H : Hp} {to : TE} {t : TA} (ho : Ev to σ H (.ref x)) (hR : RAs C H x q s) (hz : s.cs.length ≤ 50000) (ht : EvA t σ H [.int op, .int arg, .int su]) : EvP (tMeth C "_emit" (sp_ShortReader_emit K C) [] E0 to t) σ H (Goes C x q H (emitS s op arg su)) := by
  obtain ⟨⟨dx, hx⟩, hq⟩ := id hR
  exact ep_meth ho hx (by rfl) ht fun H1 e1 Q k => ⟨x, q, s, op, arg, su, rfl, hR.ex e1, hz, fun v H' h => k v H' (goes_bk h (ex_b2 e1))⟩
def sp_ShortReader_take_sign (K : PySem.W.Frag) (C : Addr) : Sp := fun vs H Q _ => ∃ (x q : Addr) (s : SS) (c : Int), vs = [.ref x, .int c] ∧ RAs C H x q s ∧ s.cs.length ≤ 50000 ∧ ∀ v H', Goes C x q H (signS s c) v H' → Q v H'
theorem ok_ShortReader_take_sign (T : Txt K mg) : FnOk P w K mg base CX0 2 T.f_ShortReader_take_sign T.d_ShortReader_take_sign ["self", "code"] (sp_ShortReader_take_sign K T.C_ShortReader) := by
  refine T.F_ShortReader_take_sign.ok sc_ShortReader_take_sign (fun vs H Q E h => ?_) (fun cdv A outer s H vs Q E hr h => ?_)
  · obtain ⟨x, q, s, c, rfl, _⟩ := h
    rfl
  · obtain ⟨x, q, s, c, rfl, hR, hz, k⟩ := h
    refine ⟨_, (pss_one (ps_if (pt_cmpR op_eq (pv 1) (pe_glob (v := .int 39) (by rfl) T.c_QUOTE ⟨_, rfl⟩) (nomark _)) (pss_one (ps_fld (pv 0) pe_bl rfl)) (pss_one (ps_if (pt_cmpR op_eq (pv 1) (pe_glob (v := .int 58) (by rfl) T.c_COLON ⟨_, rfl⟩) (nomark _)) (pss_cons (ps_fld (pv 0) (pe_fld (pv 0) rfl) rfl)
        (pss_one (ps_fld (pv 0) pe_int rfl))) (pss_one (ps_if (pt_cmpR op_eq (pv 1) (pe_glob (v := .int 62) (by rfl) T.c_GREATER ⟨_, rfl⟩) (nomark _)) (pss_one (ps_expr (pe_meth (pv 0) T.cl_ShortReader T.m_ShortReader_emit (ok_ShortReader_emit T) (hr.mono (by decide)) T.b_ShortReader_emit .nil pass0 (pa_cons (pe_glob (v := .int 32) (by rfl) T.c_NOP ⟨_, rfl⟩) (pa_cons pe_int (pa_cons (pe_fld (pv 0) rfl) pa_nil)))))) (pss_one (ps_expr (pe_meth (pv 0) T.cl_ShortReader T.m_ShortReader_emit (ok_ShortReader_emit T) (hr.mono (by decide)) T.b_ShortReader_emit .nil pass0 (pa_cons (pv 1) (pa_cons (pe_fld (pv 0) rfl) (pa_cons (pe_op op_add (pe_fld (pv 0) rfl) pe_int) pa_nil)))))))))))), ?_⟩
    have hn := hR.ne
    refine s_if (b := decide (c = 39)) (by walk_at "et") (fun hb H1 e1 => ?_) (fun hb H1 e1 => ?_)
    · have hs : signS s c = ⟨s.m, s.r, true, s.f, s.cs⟩ := by unfold signS; rw [if_pos (of_decide_eq_true hb)]
      rw [hs] at k
      obtain ⟨⟨dx, hx⟩, hq⟩ := hR.ex e1
      refine s_fld ev_c (ev_var rfl) hx T.cl_ShortReader T.na_ShortReader_waiting ffs_len (fun H2 e2 => ?_)
      rw [put_w]
      exact k _ _ ⟨rfl, ra_x (s := ⟨s.m, s.r, true, s.f, s.cs⟩) (e2 _ _ hq) hn, (ex_b2 (e1.trans e2)).trans but2_x⟩
    have n39 : ¬ c = 39 := of_decide_eq_false hb
    refine s_if (b := decide (c = 58)) (by walk_at "et") (fun hb H2 e2 => ?_) (fun hb H2 e2 => ?_)
    · have hs : signS s c = ⟨s.r, 0, s.w, s.f, s.cs⟩ := by unfold signS; rw [if_neg n39, if_pos (of_decide_eq_true hb)]
      rw [hs] at k
      obtain ⟨⟨dx, hx⟩, hq⟩ := hR.ex (e1.trans e2)
      refine q_fld (ev_fld (ev_var rfl) hx T.cl_ShortReader T.na_ShortReader_r lk_r) (ev_var rfl) hx T.cl_ShortReader T.na_ShortReader_m ffs_len (fun H3 e3 => ?_)
      rw [put_m]
      refine s_fld ev_c (ev_var rfl) upd_same T.cl_ShortReader T.na_ShortReader_r ffs_len (fun H4 e4 => ?_)
      rw [put_r]
      refine k _ _ ⟨rfl, ra_x (s := ⟨s.r, 0, s.w, s.f, s.cs⟩) (e4 _ _ (by rw [upd_ne hn]; exact e3 _ _ hq)) hn, ((ex_b2 (e1.trans (e2.trans e3))).trans but2_x).trans ((ex_b2 e4).trans but2_x)⟩
    have n58 : ¬ c = 58 := of_decide_eq_false hb
    refine s_if (b := decide (c = 62)) (by walk_at "et") (fun hb H3 e3 => ?_) (fun hb H3 e3 => ?_)
    · have hs : signS s c = emitS s 32 0 s.r := by unfold signS; rw [if_neg n39, if_neg n58, if_pos (of_decide_eq_true hb)]
      rw [hs] at k
      have hR3 := hR.ex (e1.trans (e2.trans e3))
      obtain ⟨⟨dx, hx⟩, hq⟩ := id hR3
      exact s_dropP (ep_emit (ev_var rfl) hR3 hz (ea_cons ev_c (ea_cons ev_c (ea_cons (ev_fld (ev_var rfl) hx T.cl_ShortReader T.na_ShortReader_r lk_r) ea_nil)))) fun v H4 h => by
        rw [← h.1]
        exact k v H4 (goes_bk h (ex_b2 (e1.trans (e2.trans e3))))
    · have hs : signS s c = emitS s c s.r (s.m + 1) := by unfold signS; rw [if_neg n39, if_neg n58, if_neg (of_decide_eq_false hb)]
      rw [hs] at k
      have hR3 := hR.ex (e1.trans (e2.trans e3))
      obtain ⟨⟨dx, hx⟩, hq⟩ := id hR3
      exact s_dropP (ep_emit (ev_var rfl) hR3 hz (ea_cons (ev_var rfl) (ea_cons (ev_fld (ev_var rfl) hx T.cl_ShortReader T.na_ShortReader_r lk_r) (ea_cons (ev_op (ev_fld (ev_var rfl) hx T.cl_ShortReader T.na_ShortReader_m lks_m) ev_c rv_I0) ea_nil)))) fun v H4 h => by
        rw [← h.1]
        exact k v H4 (goes_bk h (ex_b2 (e1.trans (e2.trans e3))))
theorem ep_sign {C x q : Addr} {s : SS} {c : Int} {σ : L2.St} {H : Hp} {to : TE} {t : TA} (ho : Ev to σ H (.ref x)) (hR : RAs C H x q s) (hz : s.cs.length ≤ 50000) (ht : EvA t σ H [.int c]) : EvP (tMeth C "_take_sign" (sp_ShortReader_take_sign K C) [] E0 to t) σ H (Goes C x q H (signS s c)) := by
  obtain ⟨⟨dx, hx⟩, hq⟩ := id hR
  exact ep_meth ho hx (by rfl) ht fun H1 e1 Q k => ⟨x, q, s, c, rfl, hR.ex e1, hz, fun v H' h => k v H' (goes_bk h (ex_b2 e1))⟩
def sp_ShortReader_take (K : PySem.W.Frag) (C : Addr) : Sp := fun vs H Q _ => ∃ (x q : Addr) (s : SS) (c : Int), vs = [.ref x, .int c] ∧ RAs C H x q s ∧ s.cs.length ≤ 50000 ∧ ∀ v H', Goes C x q H (stepS s c) v H' → Q v H'
theorem ok_ShortReader_take (T : Txt K mg) : FnOk P w K mg base CX0 3 T.f_ShortReader_take T.d_ShortReader_take ["self", "code"] (sp_ShortReader_take K T.C_ShortReader) := by
  refine T.F_ShortReader_take.ok sc_ShortReader_take (fun vs H Q E h => ?_) (fun cdv A outer s H vs Q E hr h => ?_)
  · obtain ⟨x, q, s, c, rfl, _⟩ := h
    rfl
  · obtain ⟨x, q, s, c, rfl, hR, hz, k⟩ := h
    refine ⟨_, (pss_one (ps_if (pt_cmpR op_lt (pv 1) pe_int (nomark _)) (pss_cons (ps_fld (pv 0) pe_bl rfl)
        (pss_one (ps_fld (pv 0) pe_bl rfl))) (pss_one (ps_if (pt_val (pe_fld (pv 0) rfl)) (pss_cons (ps_fld (pv 0) pe_bl rfl)
        (pss_one (ps_expr (pe_meth (pv 0) T.cl_ShortReader T.m_ShortReader_emit (ok_ShortReader_emit T) (hr.mono (by decide)) T.b_ShortReader_emit .nil pass0 (pa_cons (pe_glob (v := .int 35) (by rfl) T.c_PUSH ⟨_, rfl⟩) (pa_cons (pv 1) (pa_cons (pe_op op_add (pe_fld (pv 0) rfl) pe_int) pa_nil))))))) (pss_one (ps_if (pt_val (pe_call (ok_is_digit T) (hr.mono (by decide)) (by rfl) T.g_is_digit T.F_is_digit.kp T.b_is_digit .nil pass0 (pa_cons (pv 1) pa_nil))) (pss_one (ps_fld (pv 0) (pe_call (ok_with_digit T) (hr.mono (by decide)) (by rfl) T.g_with_digit T.F_with_digit.kp T.b_with_digit .nil pass0 (pa_cons (pe_fld (pv 0) rfl) (pa_cons (pv 1) pa_nil))) rfl)) (pss_one (ps_if (pt_cmpR op_gt (pv 1) (pe_glob (v := .int 32) (by rfl) T.c_SPACE ⟨_, rfl⟩) (nomark _)) (pss_one (ps_expr (pe_meth (pv 0) T.cl_ShortReader T.m_ShortReader_take_sign (ok_ShortReader_take_sign T) (hr.mono (by decide)) T.b_ShortReader_take_sign .nil pass0 (pa_cons (pv 1) pa_nil)))) pss_nil)))))))), ?_⟩
    have hn := hR.ne
    refine s_if (b := decide (c < 0)) (by walk_at "et") (fun hb H1 e1 => ?_) (fun hb H1 e1 => ?_)
    · have hs : stepS s c = ⟨s.m, s.r, false, true, s.cs⟩ := by unfold stepS; rw [if_pos (of_decide_eq_true hb)]
      rw [hs] at k
      obtain ⟨⟨dx, hx⟩, hq⟩ := hR.ex e1
      refine q_fld ev_c (ev_var rfl) hx T.cl_ShortReader T.na_ShortReader_finished ffs_len (fun H2 e2 => ?_)
      rw [put_f]
      refine s_fld ev_c (ev_var rfl) upd_same T.cl_ShortReader T.na_ShortReader_waiting ffs_len (fun H3 e3 => ?_)
      rw [put_w]
      exact k _ _ ⟨rfl, ra_x (s := ⟨s.m, s.r, false, true, s.cs⟩) (e3 _ _ (by rw [upd_ne hn]; exact e2 _ _ hq)) hn, ((ex_b2 (e1.trans e2)).trans but2_x).trans ((ex_b2 e3).trans but2_x)⟩
    have n0 : ¬ c < 0 := of_decide_eq_false hb
    obtain ⟨⟨dx, hx⟩, hq⟩ := hR.ex e1
    refine s_if (b := s.w) (et_B (ev_fld (ev_var rfl) hx T.cl_ShortReader T.na_ShortReader_waiting lks_w)) (fun hw H2 e2 => ?_) (fun hw H2 e2 => ?_)
    · have hs : stepS s c = emitS ⟨s.m, s.r, false, s.f, s.cs⟩ 35 c (s.m + 1) := by unfold stepS; rw [if_neg n0, if_pos hw]
      rw [hs] at k
      refine q_fld ev_c (ev_var rfl) (e2 _ _ hx) T.cl_ShortReader T.na_ShortReader_waiting ffs_len (fun H3 e3 => ?_)
      rw [put_w]
      have hR3 : RAs T.C_ShortReader (upd H3 x (.ins T.C_ShortReader dx (FFs ⟨s.m, s.r, false, s.f, s.cs⟩ q))) x q ⟨s.m, s.r, false, s.f, s.cs⟩ := ra_x (e3 _ _ (e2 _ _ hq)) hn
      obtain ⟨⟨dy, hy⟩, hq3⟩ := id hR3
      exact s_dropP (ep_emit (ev_var rfl) hR3 hz (ea_cons ev_c (ea_cons (ev_var rfl) (ea_cons (ev_op (ev_fld (ev_var rfl) hy T.cl_ShortReader T.na_ShortReader_m lks_m) ev_c rv_I0) ea_nil)))) fun v H4 h => by
        rw [← h.1]
        exact k v H4 (goes_bk h ((ex_b2 (e1.trans (e2.trans e3))).trans but2_x))
    have hw' : ¬ s.w = true := by rw [hw]; exact Bool.false_ne_true
    refine s_if (b := isDg c) (et_B (ev_call (ea_cons (ev_var rfl) ea_nil) v_is_digit)) (fun hd H3 e3 => ?_) (fun hd H3 e3 => ?_)
    · have hs : stepS s c = ⟨s.m, 10 * s.r + c - 48, s.w, s.f, s.cs⟩ := by unfold stepS; rw [if_neg n0, if_neg hw', if_pos hd]
      rw [hs] at k
      have hx3 := e3 _ _ (e2 _ _ hx)
      refine s_fld (ev_call (ea_cons (ev_fld (ev_var rfl) hx3 T.cl_ShortReader T.na_ShortReader_r lk_r) (ea_cons (ev_var rfl) ea_nil)) v_with_digit) (ev_var rfl) hx3 T.cl_ShortReader T.na_ShortReader_r ffs_len (fun H4 e4 => ?_)
      rw [put_r]
      exact k _ _ ⟨rfl, ra_x (s := ⟨s.m, 10 * s.r + c - 48, s.w, s.f, s.cs⟩) (e4 _ _ (e3 _ _ (e2 _ _ hq))) hn, (ex_b2 (e1.trans (e2.trans (e3.trans e4)))).trans but2_x⟩
    have hd' : ¬ isDg c = true := by rw [hd]; exact Bool.false_ne_true
    refine s_when (b := decide (32 < c)) (by walk_at "et") (fun hb H4 e4 => ?_) (fun hb H4 e4 => ?_)
    · have hs : stepS s c = signS s c := by unfold stepS; rw [if_neg n0, if_neg hw', if_neg hd', if_pos (of_decide_eq_true hb)]
      rw [hs] at k
      exact s_dropP (ep_sign (ev_var rfl) (hR.ex (e1.trans (e2.trans (e3.trans e4)))) hz (ea_cons (ev_var rfl) ea_nil)) fun v H5 h => by
        rw [← h.1]
        exact k v H5 (goes_bk h (ex_b2 (e1.trans (e2.trans (e3.trans e4)))))
    · have hs : stepS s c = s := by unfold stepS; rw [if_neg n0, if_neg hw', if_neg hd', if_neg (of_decide_eq_false hb)]
      rw [hs] at k
      exact k _ _ ⟨rfl, hR.ex (e1.trans (e2.trans (e3.trans e4))), ex_b2 (e1.trans (e2.trans (e3.trans e4)))⟩
theorem ep_take {C x q : Addr} {s : SS} {c : Int} {σ : L2.St} {H : Hp} {to : TE} {t : TA} (ho : Ev to σ H (.ref x)) (hR : RAs C H x q s) (hz : s.cs.length ≤ 50000) (ht : EvA t σ H [.int c]) : EvP (tMeth C "_take" (sp_ShortReader_take K C) [] E0 to t) σ H (Goes C x q H (stepS s c)) := by
  obtain ⟨⟨dx, hx⟩, hq⟩ := id hR
  exact ep_meth ho hx (by rfl) ht fun H1 e1 Q k => ⟨x, q, s, c, rfl, hR.ex e1, hz, fun v H' h => k v H' (goes_bk h (ex_b2 e1))⟩
def sp_ShortReader_feed (K : PySem.W.Frag) (C : Addr) : Sp := fun vs H Q _ => ∃ (x q a : Addr) (s : SS) (ns : List Int), vs = [.ref x, .ref a] ∧ RAs C H x q s ∧ a ≠ x ∧ a ≠ q ∧ H a = some (.lst (ns.map V.int)) ∧ s.cs.length + 4 * ns.length ≤ 50000 ∧ ∀ v H', Goes C x q H (ns.foldl feedS s) v H' → Q v H'
theorem ok_ShortReader_feed (T : Txt K mg) : FnOk P w K mg base CX0 4 T.f_ShortReader_feed T.d_ShortReader_feed ["self", "codes"] (sp_ShortReader_feed K T.C_ShortReader) := by
  refine T.F_ShortReader_feed.ok sc_ShortReader_feed (fun vs H Q E h => ?_) (fun cdv A outer s H vs Q E hr h => ?_)
  · obtain ⟨x, q, a, s, ns, rfl, _⟩ := h
    rfl
  · obtain ⟨x, q, a, s, ns, rfl, hR, nax, naq, hA, hz, k⟩ := h
    refine ⟨_, (pss_one (ps_for PassesOwn.never rfl (pi_list (pv 1)) (pg_name (i := 2) sc_ShortReader_feed.nd rfl (Or.inl rfl)) (pss_one (ps_if (pt_not (pt_val (pe_fld (pv 0) rfl))) (pss_one (ps_expr (pe_meth (pv 0) T.cl_ShortReader T.m_ShortReader_take (ok_ShortReader_take T) (hr.mono (by decide)) T.b_ShortReader_take .nil pass0 (pa_cons (pv 2) pa_nil)))) pss_nil)))), ?_⟩
    refine s_forLn (ev_var rfl) (sq_of hA) (fun i σ' H' => RAs T.C_ShortReader H' x q ((ns.take i).foldl feedS s) ∧ But2 x q H H' ∧ ∃ y, σ' = [some (.ref x), some (.ref a), y]) ?_ ?_ ?_ ?_
    · intro H1 e1
      exact ⟨hR.ex e1, ex_b2 e1, none, rfl⟩
    · rintro i σ' H' _ ⟨_, b, _⟩
      exact sq_of (b _ _ nax naq hA)
    · rintro i c' σ' H' hx ⟨hR1, b1, y, rfl⟩
      obtain ⟨c, hc, rfl⟩ := map_at hx
      have hlen := run_lenS (ns.take i) s
      rw [List.length_take] at hlen
      have hi := (List.getElem?_eq_some_iff.mp hc).1
      rw [foldl_snoc hc]
      generalize (ns.take i).foldl feedS s = s1 at hR1 hlen
      obtain ⟨⟨dx, hx1⟩, hq1⟩ := id hR1
      refine s_when (b := !s1.f) (et_not (et_B (ev_fld (ev_var rfl) hx1 T.cl_ShortReader T.na_ShortReader_finished lks_f))) (fun hb H2 e2 => ?_) (fun hb H2 e2 => ?_)
      · have hs : feedS s1 c = stepS s1 c := by unfold feedS; rw [if_neg (by simpa using hb)]
        rw [hs]
        exact s_dropP (ep_take (ev_var rfl) (hR1.ex e2) (by omega) (ea_cons (ev_var rfl) ea_nil)) fun v H3 h => ⟨h.2.1, b1.trans ((ex_b2 e2).trans h.2.2), _, rfl⟩
      · have hs : feedS s1 c = s1 := by unfold feedS; rw [if_pos (by simpa using hb)]
        rw [hs]
        exact ⟨hR1.ex e2, b1.trans (ex_b2 e2), _, rfl⟩
    · rintro σ' H' ⟨hR1, b1, y, rfl⟩
      rw [List.length_map, List.take_length] at hR1
      exact k _ _ ⟨rfl, hR1, b1⟩
theorem ep_feed {C x q a : Addr} {s : SS} {ns : List Int} {σ : L2.St} {H : Hp} {to : TE} {t : TA} (ho : Ev to σ H (.ref x)) (hR : RAs C H x q s) (nx : a ≠ x) (nq : a ≠ q) (hA : H a = some (.lst (ns.map V.int))) (hz : s.cs.length + 4 * ns.length ≤ 50000) (ht : EvA t σ H [.ref a]) : EvP (tMeth C "feed" (sp_ShortReader_feed K C) [] E0 to t) σ H (Goes C x q H (ns.foldl feedS s)) := by
  obtain ⟨⟨dx, hx⟩, hq⟩ := id hR
  exact ep_meth ho hx (by rfl) ht fun H1 e1 Q k => ⟨x, q, a, s, ns, rfl, hR.ex e1, nx, nq, e1 _ _ hA, hz, fun v H' h => k v H' (goes_bk h (ex_b2 e1))⟩
def sp_ShortReader_image (K : PySem.W.Frag) (C : Addr) : Sp := fun vs H Q _ => ∃ (x q : Addr) (s : SS), vs = [.ref x] ∧ RAs C H x q s ∧ RetL (s.cs.map V.int) H Q
theorem ok_ShortReader_image (T : Txt K mg) : FnOk P w K mg base CX0 1 T.f_ShortReader_image T.d_ShortReader_image ["self"] (sp_ShortReader_image K T.C_ShortReader) := by
  refine T.F_ShortReader_image.ok sc_ShortReader_image (fun vs H Q E h => ?_) (fun cdv A outer s H vs Q E hr h => ?_)
  · obtain ⟨x, q, s, rfl, _⟩ := h
    rfl
  · obtain ⟨x, q, s, rfl, hR, k⟩ := h
    refine ⟨_, (pss_one (ps_ret (pe_callTy call_list_of (by rfl) T.n_list (by decide +kernel) (pa_cons (pe_fld (pv 0) rfl) pa_nil)))), ?_⟩
    obtain ⟨⟨dx, hx⟩, hq⟩ := id hR
    exact s_retL (el_list (ev_fld (ev_var rfl) hx T.cl_ShortReader T.na_ShortReader_cells lk_c) (sq_of hq)) k
theorem el_image {C x q : Addr} {s : SS} {σ : L2.St} {H : Hp} {to : TE} (ho : Ev to σ H (.ref x)) (hR : RAs C H x q s) : EvL (tMeth C "image" (sp_ShortReader_image K C) [] E0 to tNil) σ H (s.cs.map V.int) := fun H1 e Q k => by
  obtain ⟨⟨dx, hx⟩, hq⟩ := id hR
  exact ho H1 e _ fun H2 e2 => ⟨x, dx, _, rfl, e2 _ _ (e _ _ hx), by rfl, x, q, s, rfl, hR.ex (e.trans e2), fun p H3 hp e3 h3 => k p H3 (fresh_back e2 hp) (e2.trans e3) h3⟩
def sp_translate_short (K : PySem.W.Frag) : Sp := fun vs H Q _ => ∃ (a : Addr) (ns : List Int), vs = [.ref a] ∧ H a = some (.lst (ns.map V.int)) ∧ ns.length ≤ 12000 ∧ RetL ((runS ns).cs.map V.int) H Q
theorem l_translate_short {a : Addr} {ns : List Int} {H : Hp} (h : H a = some (.lst (ns.map V.int))) (hl : ns.length ≤ 12000) : SpL (sp_translate_short K) [.ref a] H ((runS ns).cs.map V.int) := fun _ e _ q _ => ⟨a, ns, rfl, e _ _ h, hl, q⟩
theorem ok_translate_short (T : Txt K mg) : FnOk P w K mg base CX0 5 T.f_translate_short T.d_translate_short ["codes"] (sp_translate_short K) := by
  refine T.F_translate_short.ok sc_translate_short (fun vs H Q E h => ?_) (fun cdv A outer s H vs Q E hr h => ?_)
  · obtain ⟨a, ns, rfl, _⟩ := h
    rfl
  · obtain ⟨a, ns, rfl, hA, hl, k⟩ := h
    refine ⟨_, (pss_cons (ps_set (i := 1) sc_translate_short.nd rfl (Or.inl rfl) (pe_make0 T.m_ShortReader_init (ok_ShortReader_init T) (hr.mono (by decide)) (by rfl) T.gc_ShortReader T.b_ShortReader_init .nil pass0))
        (pss_cons (ps_expr (pe_meth (pv 1) T.cl_ShortReader T.m_ShortReader_feed (ok_ShortReader_feed T) (hr.mono (by decide)) T.b_ShortReader_feed .nil pass0 (pa_cons (pv 0) pa_nil)))
        (pss_one (ps_ret (pe_meth0 (pv 1) T.cl_ShortReader T.m_ShortReader_image (ok_ShortReader_image T) (hr.mono (by decide)) T.b_ShortReader_image .nil pass0))))), ?_⟩
    -- reader = ShortReader()
    refine q_asgP (P := fun v H' => ∃ x q, v = .ref x ∧ H x = none ∧ H q = none ∧ RAs T.C_ShortReader H' x q s0 ∧ Ex H H') (fun Q k1 => fun x dx nx ndx nex => ⟨x, dx, rfl, upd_same, fun q H1 hq hR kp => ⟨rfl, k1 _ H1 ⟨x, q, rfl, nx, ?_, hR, ?_⟩⟩⟩) (fun v H1 hv => ?_)
    · have n1 : q ≠ x := fun e => by rw [e, upd_same] at hq; cases hq
      have n2 : q ≠ dx := fun e => by rw [e, upd_ne nex, upd_same] at hq; cases hq
      rw [upd_ne n1, upd_ne n2] at hq
      exact hq
    · intro b o e
      exact kp b o (ne_of_none e nx) (by rw [upd_ne (ne_of_none e nx), upd_ne (ne_of_none e ndx)]; exact e)
    obtain ⟨x, q, rfl, nx, nq, hR, e1⟩ := hv
    refine q_dropP (ep_feed (ev_var rfl) hR (ne_of_none hA nx) (ne_of_none hA nq) (e1 _ _ hA) (by show 0 + 4 * ns.length ≤ 50000; omega) (ea_cons (ev_var rfl) ea_nil)) (fun v H2 h2 => ?_)
    refine s_retL (el_image (ev_var rfl) h2.2.1) (fun p H3 hp e3 h3 => ?_)
    have b2 : Ex H H2 := fun b o e => h2.2.2 b o (ne_of_none e nx) (ne_of_none e nq) (e1 _ _ e)
    exact k p H3 (fresh_back b2 hp) (b2.trans e3) h3


end
end K66

set_option Elab.async false
set_option linter.all false
set_option maxRecDepth 100000
set_option maxHeartbeats 4000000
namespace K66
open PySem PySem.Spec PyProof.Rows L2 Evl Gd
/-! ### how expressions are evaluated, without a word of ours -/
local macro_rules | `(tactic| walk_at "ev") => `(tactic| exact ev_c)
local macro_rules | `(tactic| walk_at "ev") => `(tactic| exact ev_var rfl)
local macro_rules | `(tactic| walk_at "ev") => `(tactic| (refine' ev_op ?k1 ?k2 ?k3; (case k1 => walk_at "ev"); (case k2 => walk_at "ev"); (case k3 => walk_at "rv")))
local macro_rules | `(tactic| walk_at "ev") => `(tactic| (refine' ev_cb ?k1 ?k2; (case k1 => walk_at "ea"); (case k2 => walk_at "rc")))
local macro_rules | `(tactic| walk_at "ev") => `(tactic| (refine' ev_call ?k1 ?k2; (case k1 => walk_at "ea"); (case k2 => walk_at "sp")))
local macro_rules | `(tactic| walk_at "ev") => `(tactic| (refine' ev_chain ?k1 ?k2 ?k3 (fun _ => ?k4) (fun _ => ?k5); (case k1 => walk_at "ev"); (case k2 => walk_at "ev"); (case k3 => walk_at "rv"); (case k4 => walk_at "ev"); (case k5 => walk_at "rv")))
local macro_rules | `(tactic| walk_at "ev") => `(tactic| (refine' ev_orV ?k1 (fun _ => ?k2); (case k1 => walk_at "ev"); (case k2 => walk_at "ev")))
local macro_rules | `(tactic| walk_at "ev") => `(tactic| (refine' ev_andV ?k1 (fun _ => ?k2); (case k1 => walk_at "ev"); (case k2 => walk_at "ev")))
local macro_rules | `(tactic| walk_at "ev") => `(tactic| (refine' ev_notV ?k1; (case k1 => walk_at "ev")))
local macro_rules | `(tactic| walk_at "ea") => `(tactic| exact ea_nil)
local macro_rules | `(tactic| walk_at "ea") => `(tactic| (refine' ea_cons ?k1 ?k2; (case k1 => walk_at "ev"); (case k2 => walk_at "ea")))
local macro_rules | `(tactic| walk_at "rv") => `(tactic| exact rv_I0)
local macro_rules | `(tactic| walk_at "rv") => `(tactic| exact rv_eqI)
local macro_rules | `(tactic| walk_at "rv") => `(tactic| exact rv_neI)
local macro_rules | `(tactic| walk_at "rv") => `(tactic| exact rv_eqS)
local macro_rules | `(tactic| walk_at "rv") => `(tactic| exact rv_neS)
local macro_rules | `(tactic| walk_at "rv") => `(tactic| exact rv_mod (by decide))
local macro_rules | `(tactic| walk_at "rv") => `(tactic| exact rv_fdiv (by decide) (by decide))
local macro_rules | `(tactic| walk_at "rv") => `(tactic| exact rv_mulR (by decide))
local macro_rules | `(tactic| walk_at "rv") => `(tactic| exact rv_pow (by decide))
local macro_rules | `(tactic| walk_at "rc") => `(tactic| exact rc_int)
local macro_rules | `(tactic| walk_at "rc") => `(tactic| exact rc_ord)
local macro_rules | `(tactic| walk_at "et") => `(tactic| (refine' et_test ?k1; (case k1 => walk_at "ev")))
local macro_rules | `(tactic| walk_at "et") => `(tactic| (refine' et_B ?k1; (case k1 => walk_at "ev")))
local macro_rules | `(tactic| walk_at "et") => `(tactic| (refine' et_not ?k1; (case k1 => walk_at "et")))
local macro_rules | `(tactic| walk_at "et") => `(tactic| (refine' et_or ?k1 (fun _ => ?k2); (case k1 => walk_at "et"); (case k2 => walk_at "et")))
local macro_rules | `(tactic| walk_at "et") => `(tactic| (refine' et_and ?k1 (fun _ => ?k2); (case k1 => walk_at "et"); (case k2 => walk_at "et")))
section
variable {P : Program} {w : World} {K : PySem.W.Frag} {mg : Str → Option Value} {base : Heap}
/-! ### keyword-only parameters -/
theorem kb_Translator_init_first_by (T : Txt K mg) : ∃ mv : List Value, KBn K T.d_Translator_init ["self", "first", "by"] 1 ["first", "by"] (fun us ws => (us ++ mv) ++ ws) (fun vs zs => (vs ++ ([] : List (Str × V)).map (·.2)) ++ zs) :=
  T.K_Translator_init.kbinds0 (ps := ["self", "first", "by"]) 1 ["first", "by"] [] (fun us mv ws => (us ++ mv) ++ ws) (by simp) (fun q m => nomatch m) (fun r1 r2 r3 => (r1.append r2).append r3) fun D doc pm an cdv ct us mv ws l1 l2 l3 => match us, mv, ws, l1, l2, l3 with
    | [_], [], [_, _], _, _, _ => rfl
/-! ### the translator's state -/
structure TS where
  im : List Int
  m : Int
  k : Int
  pl : List Int
  nu : Option Int
  wa : Option Int
  b : Int
  st : Bool
  fi : Bool
  ex : Option (V × V × V)
def FF (s : TS) (qi qp : Addr) : List (Str × V) := [("image", .ref qi), ("m", .int s.m), ("k", .int s.k), ("pile", .ref qp), ("numeral", optV s.nu), ("waiting", optV s.wa), ("_by", .int s.b), ("_stopped", .bl s.st), ("_finished", .bl s.fi)]
def topT (s : TS) : Int := s.pl.getLast?.getD 0
def popT (s : TS) : TS := { s with pl := s.pl.dropLast }
def takT (s : TS) : TS := { s with k := s.k + s.b }
def appT (s : TS) (op a su : Int) : TS := { s with im := s.im ++ [s.m, op, a, su] }
def emT (s : TS) (op a : Int) : TS := { appT s op a s.k with k := s.k + s.b, m := s.k }
def b91 (s : TS) : TS := emT { s with k := s.k + s.b, pl := s.pl ++ [s.k] } 63 s.k
def b124 (s : TS) : TS := { appT s 32 0 s.k with k := s.k + s.b, m := topT s, pl := s.pl.dropLast ++ [s.k] }
def b93 (s : TS) : TS := { appT s 32 0 (topT s) with m := topT s, pl := s.pl.dropLast }
def b123 (s : TS) : TS := { appT s 32 0 s.k with k := s.k + s.b, m := s.k, pl := s.pl ++ [s.k] }
def b125 (s : TS) : TS := { appT s 63 s.k (topT s) with k := s.k + s.b, m := s.k, pl := s.pl.dropLast }
def b59 (s : TS) : TS := { appT s 41 0 1 with m := topT s, pl := s.pl.dropLast }
def endN (s : TS) : TS := match s.nu with
  | none => s
  | some v => { emT s 35 v with nu := none }
def skT (s : TS) (w c : Int) : TS := if w = 58 then { s with wa := none, pl := s.pl ++ [s.m], m := c } else if w = 39 then emT { s with wa := none } 35 c else emT { s with wa := none } 61 c
def brT (c : Int) : Option (TS → TS) := if c = 91 then some b91 else if c = 124 then some b124 else if c = 93 then some b93 else if c = 123 then some b123 else if c = 125 then some b125 else if c = 59 then some b59 else none
def sgT (s : TS) (c : Int) : TS := if c = 39 ∨ c = 61 ∨ c = 58 then { s with wa := some c } else match brT c with
  | some f => f s
  | none => if 32 < c then emT s c 0 else s
def takeT (s : TS) (c : Int) : TS := if s.st = true then s else if c < 0 then { s with st := true } else match s.wa with
  | some w => skT s w c
  | none => if isDg c = true then { s with nu := some (10 * s.nu.getD 0 + c - 48) } else sgT (endN s) c
def finT (s : TS) : TS := if s.fi = true then s else { emT (endN s) 41 0 with wa := none, st := true, fi := true }
def t0 (first b : Int) : TS := ⟨[0, 32, 0, first], first, first + b, [], none, none, b, false, false, none⟩
/-- a translator of state s stands at x, its image at qi, its pile at qp -/
def RA (C : Addr) (H : Hp) (x dx qi qp : Addr) (s : TS) : Prop := H x = some (.ins C dx (FF s qi qp)) ∧ H qi = some (.lst (s.im.map V.int)) ∧ H qp = some (.lst (s.pl.map V.int)) ∧ qi ≠ qp
section
variable {C x dx qi qp : Addr} {H H' H1 : Hp} {s s' : TS}
theorem RA.nx (h : RA C H x dx qi qp s) : qi ≠ x := ne_of h.2.1 h.1 (by intro z; cases z)
theorem RA.px (h : RA C H x dx qi qp s) : qp ≠ x := ne_of h.2.2.1 h.1 (by intro z; cases z)
theorem RA.ex (h : RA C H x dx qi qp s) (e : Ex H H') : RA C H' x dx qi qp s := ⟨e _ _ h.1, e _ _ h.2.1, e _ _ h.2.2.1, h.2.2.2⟩
theorem RA.bu {L : List Addr} (h : RA C H x dx qi qp s) (e : Bu L H H') (h1 : x ∉ L) (h2 : qi ∉ L) (h3 : qp ∉ L) : RA C H' x dx qi qp s := ⟨e _ _ h1 h.1, e _ _ h2 h.2.1, e _ _ h3 h.2.2.1, h.2.2.2⟩
theorem RA.set (h : RA C H x dx qi qp s) (s' : TS) (e1 : s'.im = s.im) (e2 : s'.pl = s.pl) : RA C (upd H x (.ins C dx (FF s' qi qp))) x dx qi qp s' := ⟨upd_same, by rw [upd_ne h.nx, e1]; exact h.2.1, by rw [upd_ne h.px, e2]; exact h.2.2.1, h.2.2.2⟩
theorem RA.img (h : RA C H x dx qi qp s) (l : List Int) : RA C (upd H qi (.lst (l.map V.int))) x dx qi qp { s with im := l } := ⟨by rw [upd_ne (Ne.symm h.nx)]; exact h.1, upd_same, by rw [upd_ne (Ne.symm h.2.2.2)]; exact h.2.2.1, h.2.2.2⟩
theorem RA.pil (h : RA C H x dx qi qp s) (l : List Int) : RA C (upd H qp (.lst (l.map V.int))) x dx qi qp { s with pl := l } := ⟨by rw [upd_ne (Ne.symm h.px)]; exact h.1, by rw [upd_ne h.2.2.2]; exact h.2.1, upd_same, h.2.2.2⟩
theorem bu_x {o : HO} (b : Bu [x, qi, qp] H H') : Bu [x, qi, qp] H (upd H' x o) := b.upd (.inl (by simp))
theorem bu_i {o : HO} (b : Bu [x, qi, qp] H H') : Bu [x, qi, qp] H (upd H' qi o) := b.upd (.inl (by simp))
theorem bu_p {o : HO} (b : Bu [x, qi, qp] H H') : Bu [x, qi, qp] H (upd H' qp o) := b.upd (.inl (by simp))
end
theorem ff_len {s : TS} {qi qp : Addr} : (FF s qi qp).length < 1000 := by show 9 < 1000; decide
theorem lk_i {s : TS} {qi qp : Addr} : (FF s qi qp).lookup ("image" : Str) = some (.ref qi) := rfl
theorem lk_m {s : TS} {qi qp : Addr} : (FF s qi qp).lookup ("m" : Str) = some (.int s.m) := rfl
theorem lk_k {s : TS} {qi qp : Addr} : (FF s qi qp).lookup ("k" : Str) = some (.int s.k) := rfl
theorem lk_p {s : TS} {qi qp : Addr} : (FF s qi qp).lookup ("pile" : Str) = some (.ref qp) := rfl
theorem lk_n {s : TS} {qi qp : Addr} : (FF s qi qp).lookup ("numeral" : Str) = some (optV s.nu) := rfl
theorem lk_w {s : TS} {qi qp : Addr} : (FF s qi qp).lookup ("waiting" : Str) = some (optV s.wa) := rfl
theorem lk_b {s : TS} {qi qp : Addr} : (FF s qi qp).lookup ("_by" : Str) = some (.int s.b) := rfl
theorem lk_s {s : TS} {qi qp : Addr} : (FF s qi qp).lookup ("_stopped" : Str) = some (.bl s.st) := rfl
theorem lk_f {s : TS} {qi qp : Addr} : (FF s qi qp).lookup ("_finished" : Str) = some (.bl s.fi) := rfl
theorem pt_m {s : TS} {qi qp : Addr} {z : Int} : putF "m" (.int z) (FF s qi qp) = FF { s with m := z } qi qp := rfl
theorem pt_k {s : TS} {qi qp : Addr} {z : Int} : putF "k" (.int z) (FF s qi qp) = FF { s with k := z } qi qp := rfl
theorem pt_n {s : TS} {qi qp : Addr} {z : Option Int} : putF "numeral" (optV z) (FF s qi qp) = FF { s with nu := z } qi qp := rfl
theorem pt_w {s : TS} {qi qp : Addr} {z : Option Int} : putF "waiting" (optV z) (FF s qi qp) = FF { s with wa := z } qi qp := rfl
theorem pt_s {s : TS} {qi qp : Addr} {z : Bool} : putF "_stopped" (.bl z) (FF s qi qp) = FF { s with st := z } qi qp := rfl
theorem pt_f {s : TS} {qi qp : Addr} {z : Bool} : putF "_finished" (.bl z) (FF s qi qp) = FF { s with fi := z } qi qp := rfl
def Tr (C x dx qi qp : Addr) (H : Hp) (s' : TS) (r : V) : V → Hp → Prop := fun v H' => v = r ∧ RA C H' x dx qi qp s' ∧ Bu [x, qi, qp] H H'
theorem tr_bk {C x dx qi qp : Addr} {H H1 H' : Hp} {s' : TS} {r v : V} (h : Tr C x dx qi qp H1 s' r v H') (b : Bu [x, qi, qp] H H1) : Tr C x dx qi qp H s' r v H' := ⟨h.1, h.2.1, b.trans h.2.2⟩
/-- a method that turns the state -/
def spT {α : Type} (C : Addr) (n : Nat) (arg : α → List V) (f : TS → α → TS) (r : TS → α → V) : Sp := fun vs H Q _ => ∃ (x dx qi qp : Addr) (s : TS) (a : α), vs = .ref x :: arg a ∧ RA C H x dx qi qp s ∧ s.im.length ≤ n ∧ s.pl.length ≤ n ∧ ∀ v H', Tr C x dx qi qp H (f s a) (r s a) v H' → Q v H'
theorem ep_T {α : Type} {C x dx qi qp : Addr} {n : Nat} {arg : α → List V} {f : TS → α → TS} {r : TS → α → V} {m : Str} {s : TS} {σ : L2.St} {H : Hp} {to : TE} {t : TA} (a : α) (ho : Ev to σ H (.ref x)) (hR : RA C H x dx qi qp s) (hz : s.im.length ≤ n) (hp : s.pl.length ≤ n) (ht : EvA t σ H (arg a))
    (hl : (FF s qi qp).lookup m = none := by rfl) : EvP (tMeth C m (spT C n arg f r) [] E0 to t) σ H (Tr C x dx qi qp H (f s a) (r s a)) :=
  ep_meth ho hR.1 hl ht fun H1 e1 Q k => ⟨x, dx, qi, qp, s, a, by rw [List.append_nil], hR.ex e1, hz, hp, fun v H' h => k v H' (tr_bk h (ex_bu e1))⟩
def sp_Translator_init (K : PySem.W.Frag) (C : Addr) : Sp := fun vs H Q _ => ∃ (x dx : Addr) (first b : Int), vs = [.ref x, .int first, .int b] ∧ H x = some (.ins C dx []) ∧ ∀ qi qp H', H qi = none → H qp = none → RA C H' x dx qi qp (t0 first b) → (∀ c o, c ≠ x → H c = some o → H' c = some o) → Q .non H'
theorem ok_Translator_init (T : Txt K mg) : FnOk P w K mg base CX0 1 T.f_Translator_init T.d_Translator_init ["self", "first", "by"] (sp_Translator_init K T.C_Translator) := by
  refine T.F_Translator_init.ok sc_Translator_init (fun vs H Q E h => ?_) (fun cdv A outer s H vs Q E hr h => ?_)
  · obtain ⟨x, dx, first, b, rfl, _⟩ := h
    rfl
  · obtain ⟨x, dx, first, b, rfl, hx, k⟩ := h
    refine ⟨_, (pss_cons (ps_fld (pv 0) (pe_lst (pa_cons pe_int (pa_cons (pe_glob (v := .int 32) (by rfl) T.c_NOP ⟨_, rfl⟩) (pa_cons pe_int (pa_cons (pv 1) pa_nil))))) rfl)
        (pss_cons (ps_fld (pv 0) (pv 1) rfl)
        (pss_cons (ps_fld (pv 0) (pe_op op_add (pv 1) (pv 2)) rfl)
        (pss_cons (ps_fld (pv 0) (pe_lst pa_nil) rfl)
        (pss_cons (ps_fld (pv 0) pe_non rfl)
        (pss_cons (ps_fld (pv 0) pe_non rfl)
        (pss_cons (ps_fld (pv 0) (pv 2) rfl)
        (pss_cons (ps_fld (pv 0) pe_bl rfl)
        (pss_one (ps_fld (pv 0) pe_bl rfl)))))))))), ?_⟩
    refine q_fldL (el_lst (vs := [.int 0, .int 32, .int 0, .int first]) (ea_cons ev_c (ea_cons ev_c (ea_cons ev_c (ea_cons (ev_var rfl) ea_nil)))) (by show 4 ≤ 100000; decide)) (ev_var rfl) hx T.cl_Translator T.na_Translator_image (by decide) (fun qi H1 hq1 e1 d1 => ?_)
    have n1 : qi ≠ x := Ne.symm (ne_of_none hx hq1)
    have d1' : (upd H1 x (.ins T.C_Translator dx (putF "image" (.ref qi) []))) qi = some (.lst [.int 0, .int 32, .int 0, .int first]) := by rw [upd_ne n1]; exact d1
    have b1 : ∀ c o, c ≠ x → H c = some o → (upd H1 x (.ins T.C_Translator dx (putF "image" (.ref qi) []))) c = some o := fun c o n h => by rw [upd_ne n]; exact e1 _ _ h
    have x1 : (upd H1 x (.ins T.C_Translator dx (putF "image" (.ref qi) []))) x = some (.ins T.C_Translator dx [("image", .ref qi)]) := upd_same
    generalize upd H1 x (.ins T.C_Translator dx (putF "image" (.ref qi) [])) = H1 at *
    refine q_fld (ev_var rfl) (ev_var rfl) x1 T.cl_Translator T.na_Translator_m (by show 1 < 1000; decide) (fun H2 e2 => ?_)
    refine q_fld (ev_op (ev_var rfl) (ev_var rfl) rv_I0) (ev_var rfl) upd_same T.cl_Translator T.na_Translator_k (by show 2 < 1000; decide) (fun H3 e3 => ?_)
    refine q_fldL (el_lst ea_nil (by decide)) (ev_var rfl) upd_same T.cl_Translator T.na_Translator_pile (by show 3 < 1000; decide) (fun qp H4 hq4 e4 d4 => ?_)
    have n4 : qp ≠ x := fun e => by rw [e, upd_same] at hq4; cases hq4
    have b4 : ∀ c o, c ≠ x → H1 c = some o → H4 c = some o := fun c o n h => e4 _ _ (by rw [upd_ne n]; exact e3 _ _ (by rw [upd_ne n]; exact e2 _ _ h))
    have b3 : ∀ c o, c ≠ x → H1 c = some o → (upd H3 x (.ins T.C_Translator dx (putF "k" (.int (first + b)) (putF "m" (.int first) [("image", .ref qi)])))) c = some o := fun c o n h => by rw [upd_ne n]; exact e3 _ _ (by rw [upd_ne n]; exact e2 _ _ h)
    have hqp0 : H qp = none := by
      cases e : H qp with
      | none => rfl
      | some o =>
        rw [b3 _ _ n4 (b1 _ _ n4 e)] at hq4
        cases hq4
    have nip : qi ≠ qp := fun e => by
      rw [← e, b3 _ _ n1 d1'] at hq4
      cases hq4
    have i4 := b4 _ _ n1 d1'
    have c4 : ∀ c o, c ≠ x → H c = some o → H4 c = some o := fun c o n h => b4 _ _ n (b1 _ _ n h)
    clear b3 b4
    refine q_fld ev_c (ev_var rfl) upd_same T.cl_Translator T.na_Translator_numeral (by show 4 < 1000; decide) (fun H5 e5 => ?_)
    refine q_fld ev_c (ev_var rfl) upd_same T.cl_Translator T.na_Translator_waiting (by show 5 < 1000; decide) (fun H6 e6 => ?_)
    refine q_fld (ev_var rfl) (ev_var rfl) upd_same T.cl_Translator T.na_Translator_by (by show 6 < 1000; decide) (fun H7 e7 => ?_)
    refine q_fld ev_c (ev_var rfl) upd_same T.cl_Translator T.na_Translator_stopped (by show 7 < 1000; decide) (fun H8 e8 => ?_)
    refine s_fld ev_c (ev_var rfl) upd_same T.cl_Translator T.na_Translator_finished (by show 8 < 1000; decide) (fun H9 e9 => ?_)
    have b9 : ∀ c o, c ≠ x → H4 c = some o → H9 c = some o := fun c o n h => e9 _ _ (by rw [upd_ne n]; exact e8 _ _ (by rw [upd_ne n]; exact e7 _ _ (by rw [upd_ne n]; exact e6 _ _ (by rw [upd_ne n]; exact e5 _ _ (by rw [upd_ne n]; exact h)))))
    refine k qi qp _ hq1 hqp0 ⟨upd_same, ?_, ?_, nip⟩ (fun c o n h => by rw [upd_ne n]; exact b9 _ _ n (c4 _ _ n h))
    · rw [upd_ne n1]
      exact b9 _ _ n1 i4
    · rw [upd_ne n4]
      exact b9 _ _ n4 d4
def sp_Translator_popped (K : PySem.W.Frag) (C : Addr) : Sp := spT C 90000 (fun _ : Unit => []) (fun s _ => popT s) (fun s _ => .int (topT s))
theorem ok_Translator_popped (T : Txt K mg) : FnOk P w K mg base CX0 1 T.f_Translator_popped T.d_Translator_popped ["self"] (sp_Translator_popped K T.C_Translator) := by
  refine T.F_Translator_popped.ok sc_Translator_popped (fun vs H Q E h => ?_) (fun cdv A outer s H vs Q E hr h => ?_)
  · obtain ⟨x, dx, qi, qp, s, a, rfl, _⟩ := h
    rfl
  · obtain ⟨x, dx, qi, qp, s, a, rfl, hR, hz, hp, k⟩ := h
    refine ⟨_, (pss_one (ps_ret (pe_ifExp (pt_truth (pe_fld (pv 0) rfl) (by intro _; rfl)) (pe_bm0 PySem.F.plainAttrs_list PySem.F.slot_list_pop PySem.F.type_list_pop mt_pop (pe_fld (pv 0) rfl)) pe_int))), ?_⟩
    have fp : Ev (tFld K (tVar 0) "pile") (L2.start N_Translator_popped [.ref x]) H (.ref qp) := ev_fld (ev_var rfl) hR.1 T.cl_Translator T.na_Translator_pile lk_p
    refine s_retP (P := Tr T.C_Translator x dx qi qp H (popT s) (.int (topT s))) (fun Q q => et_truL (K := K) fp (sq_of hR.2.2.1) H (Ex.refl H) _ fun H1 e1 => ?_) k
    have hR1 := hR.ex e1
    cases hl : s.pl with
    | nil =>
      rw [if_neg (by decide)]
      refine q _ H1 ⟨?_, ?_, ex_bu e1⟩
      · unfold topT; rw [hl]; rfl
      · have : popT s = s := by unfold popT; rw [hl]; cases s; simp at hl; subst hl; rfl
        rw [this]
        exact hR1
    | cons c r =>
      rw [if_pos (show (!(List.map V.int (c :: r)).isEmpty) = true from rfl)]
      have hne : s.pl ≠ [] := by rw [hl]; exact List.cons_ne_nil _ _
      have hd : s.pl = s.pl.dropLast ++ [topT s] := by
        unfold topT
        rw [List.getLast?_eq_some_getLast hne]
        exact (List.dropLast_concat_getLast hne).symm
      have hq := hR1.2.2.1
      rw [hd, List.map_append] at hq
      have hm := congrArg (List.map V.int) hd
      rw [List.map_append] at hm
      refine fp H1 e1 _ fun H2 e2 => ⟨.inl ⟨rfl, _, sq_of (e2 _ _ hq)⟩, qp, s.pl.dropLast.map V.int ++ [.int (topT s)], .int (topT s), rfl, rfl, e2 _ _ hq, ?_, ?_⟩
      · rw [List.length_append]
        simp
      · refine q _ _ ⟨rfl, ?_, bu_p (ex_bu (e1.trans e2))⟩
        rw [List.dropLast_concat]
        exact (hR1.ex e2).pil s.pl.dropLast
def sp_Translator_taken_number (K : PySem.W.Frag) (C : Addr) : Sp := spT C 90000 (fun _ : Unit => []) (fun s _ => takT s) (fun s _ => .int s.k)
theorem ok_Translator_taken_number (T : Txt K mg) : FnOk P w K mg base CX0 1 T.f_Translator_taken_number T.d_Translator_taken_number ["self"] (sp_Translator_taken_number K T.C_Translator) := by
  refine T.F_Translator_taken_number.ok sc_Translator_taken_number (fun vs H Q E h => ?_) (fun cdv A outer s H vs Q E hr h => ?_)
  · obtain ⟨x, dx, qi, qp, s, a, rfl, _⟩ := h
    rfl
  · obtain ⟨x, dx, qi, qp, s, a, rfl, hR, hz, hp, k⟩ := h
    refine ⟨_, (pss_cons (ps_set (i := 1) sc_Translator_taken_number.nd rfl (Or.inl rfl) (pe_fld (pv 0) rfl))
        (pss_cons (ps_fld (pv 0) (pe_op op_add (pv 1) (pe_fld (pv 0) rfl)) rfl)
        (pss_one (ps_ret (pv 1))))), ?_⟩
    refine q_asg (ev_fld (ev_var rfl) hR.1 T.cl_Translator T.na_Translator_k lk_k) (fun H1 e1 => ?_)
    have hR1 := hR.ex e1
    refine q_fld (ev_op (ev_var rfl) (ev_fld (ev_var rfl) hR1.1 T.cl_Translator T.na_Translator_by lk_b) rv_I0) (ev_var rfl) hR1.1 T.cl_Translator T.na_Translator_k ff_len (fun H2 e2 => ?_)
    rw [pt_k]
    exact s_ret (ev_var rfl) fun H3 e3 => k _ H3 ⟨rfl, ((hR1.ex e2).set (takT s) rfl rfl).ex e3, (bu_x (ex_bu (e1.trans e2))).trans (ex_bu e3)⟩
def sp_Translator_append_node (K : PySem.W.Frag) (C : Addr) : Sp := spT C 80000 (fun a : Int × Int × Int => [.int a.1, .int a.2.1, .int a.2.2]) (fun s a => appT s a.1 a.2.1 a.2.2) (fun _ _ => .non)
theorem ok_Translator_append_node (T : Txt K mg) : FnOk P w K mg base CX0 1 T.f_Translator_append_node T.d_Translator_append_node ["self", "operation", "argument", "successor"] (sp_Translator_append_node K T.C_Translator) := by
  refine T.F_Translator_append_node.ok sc_Translator_append_node (fun vs H Q E h => ?_) (fun cdv A outer s H vs Q E hr h => ?_)
  · obtain ⟨x, dx, qi, qp, s, a, rfl, _⟩ := h
    rfl
  · obtain ⟨x, dx, qi, qp, s, ⟨op, arg, su⟩, rfl, hR, hz, hp, k⟩ := h
    refine ⟨_, (pss_one (ps_expr (pe_bm PySem.F.plainAttrs_list PySem.F.slot_list_extend PySem.F.type_list_extend mt_extend (pe_fld (pv 0) rfl) (pa_cons (pe_lst (pa_cons (pe_fld (pv 0) rfl) (pa_cons (pv 1) (pa_cons (pv 2) (pa_cons (pv 3) pa_nil))))) pa_nil)))), ?_⟩
    refine s_ext hR.2.1 (ev_fld (ev_var rfl) hR.1 T.cl_Translator T.na_Translator_image lk_i) (el_lst (vs := [.int s.m, .int op, .int arg, .int su]) (ea_cons (ev_fld (ev_var rfl) hR.1 T.cl_Translator T.na_Translator_m lk_m) (ea_cons (ev_var rfl) (ea_cons (ev_var rfl) (ea_cons (ev_var rfl) ea_nil)))) (by show 4 ≤ 100000; decide)) (by rw [List.length_map]; show s.im.length + 4 ≤ 100000; omega) (fun H1 e1 => ?_)
    have e : s.im.map V.int ++ [.int s.m, .int op, .int arg, .int su] = (s.im ++ [s.m, op, arg, su]).map V.int := by rw [List.map_append]; rfl
    rw [e]
    exact k _ _ ⟨rfl, (hR.ex e1).img _, bu_i (ex_bu e1)⟩
def sp_Translator_emit (K : PySem.W.Frag) (C : Addr) : Sp := spT C 70000 (fun a : Int × Int => [.int a.1, .int a.2]) (fun s a => emT s a.1 a.2) (fun _ _ => .non)
theorem ok_Translator_emit (T : Txt K mg) : FnOk P w K mg base CX0 2 T.f_Translator_emit T.d_Translator_emit ["self", "operation", "argument"] (sp_Translator_emit K T.C_Translator) := by
  refine T.F_Translator_emit.ok sc_Translator_emit (fun vs H Q E h => ?_) (fun cdv A outer s H vs Q E hr h => ?_)
  · obtain ⟨x, dx, qi, qp, s, a, rfl, _⟩ := h
    rfl
  · obtain ⟨x, dx, qi, qp, s, ⟨op, arg⟩, rfl, hR, hz, hp, k⟩ := h
    refine ⟨_, (pss_cons (ps_set (i := 3) sc_Translator_emit.nd rfl (Or.inl rfl) (pe_meth0 (pv 0) T.cl_Translator T.m_Translator_taken_number (ok_Translator_taken_number T) (hr.mono (by decide)) T.b_Translator_taken_number .nil pass0))
        (pss_cons (ps_expr (pe_meth (pv 0) T.cl_Translator T.m_Translator_append_node (ok_Translator_append_node T) (hr.mono (by decide)) T.b_Translator_append_node .nil pass0 (pa_cons (pv 1) (pa_cons (pv 2) (pa_cons (pv 3) pa_nil)))))
        (pss_one (ps_fld (pv 0) (pv 3) rfl)))), ?_⟩
    refine q_asgP (ep_T () (ev_var rfl) hR (by omega) (by omega) ea_nil) (fun v H1 h1 => ?_)
    obtain ⟨rfl, hR1, b1⟩ := h1
    refine q_dropP (ep_T (op, arg, s.k) (ev_var rfl) hR1 (by show s.im.length ≤ 80000; omega) (by show s.pl.length ≤ 80000; omega) (ea_cons (ev_var rfl) (ea_cons (ev_var rfl) (ea_cons (ev_var rfl) ea_nil)))) (fun v H2 h2 => ?_)
    obtain ⟨_, hR2, b2⟩ := h2
    refine s_fld (ev_var rfl) (ev_var rfl) hR2.1 T.cl_Translator T.na_Translator_m ff_len (fun H3 e3 => ?_)
    rw [pt_m]
    exact k _ _ ⟨rfl, (hR2.ex e3).set (emT s op arg) rfl rfl, bu_x ((b1.trans b2).trans (ex_bu e3))⟩
/-! ### brackets -/
def spB (C : Addr) (f : TS → TS) : Sp := spT C 60000 (fun _ : Unit => []) (fun s _ => f s) (fun _ _ => .non)
def sp_begin_choice (K : PySem.W.Frag) (C : Addr) : Sp := spB C b91
theorem ok_begin_choice (T : Txt K mg) : FnOk P w K mg base CX0 3 T.f_begin_choice T.d_begin_choice ["translator"] (sp_begin_choice K T.C_Translator) := by
  refine T.F_begin_choice.ok sc_begin_choice (fun vs H Q E h => ?_) (fun cdv A outer s H vs Q E hr h => ?_)
  · obtain ⟨x, dx, qi, qp, s, a, rfl, _⟩ := h
    rfl
  · obtain ⟨x, dx, qi, qp, s, a, rfl, hR, hz, hp, k⟩ := h
    refine ⟨_, (pss_cons (ps_set (i := 1) sc_begin_choice.nd rfl (Or.inl rfl) (pe_meth0 (pv 0) T.cl_Translator T.m_Translator_taken_number (ok_Translator_taken_number T) (hr.mono (by decide)) T.b_Translator_taken_number .nil pass0))
        (pss_cons (ps_expr (pe_bm PySem.F.plainAttrs_list PySem.F.slot_list_append PySem.F.type_list_append mt_append (pe_fld (pv 0) rfl) (pa_cons (pv 1) pa_nil)))
        (pss_one (ps_expr (pe_meth (pv 0) T.cl_Translator T.m_Translator_emit (ok_Translator_emit T) (hr.mono (by decide)) T.b_Translator_emit .nil pass0 (pa_cons (pe_glob (v := .int 63) (by rfl) T.c_BRANCH ⟨_, rfl⟩) (pa_cons (pv 1) pa_nil))))))), ?_⟩
    refine q_asgP (ep_T () (ev_var rfl) hR (by omega) (by omega) ea_nil) (fun v H1 h1 => ?_)
    obtain ⟨rfl, hR1, b1⟩ := h1
    refine q_app hR1.2.2.1 (ev_fld (ev_var rfl) hR1.1 T.cl_Translator T.na_Translator_pile lk_p) (ev_var rfl) (by rw [List.length_map]; show s.pl.length < 100000; omega) (fun H2 e2 => ?_)
    have e : (takT s).pl.map V.int ++ [.int s.k] = (s.pl ++ [s.k]).map V.int := by rw [List.map_append]; rfl
    rw [e]
    have hR2 := (hR1.ex e2).pil (s.pl ++ [s.k])
    refine s_dropP (ep_T (63, s.k) (ev_var rfl) hR2 (by show s.im.length ≤ 70000; omega) (by show (s.pl ++ [s.k]).length ≤ 70000; rw [List.length_append]; simp; omega) (ea_cons ev_c (ea_cons (ev_var rfl) ea_nil))) (fun v H3 h3 => ?_)
    exact k _ _ ⟨rfl, h3.2.1, (bu_p (b1.trans (ex_bu e2))).trans h3.2.2⟩
def sp_turn_choice (K : PySem.W.Frag) (C : Addr) : Sp := spB C b124
theorem ok_turn_choice (T : Txt K mg) : FnOk P w K mg base CX0 2 T.f_turn_choice T.d_turn_choice ["translator"] (sp_turn_choice K T.C_Translator) := by
  refine T.F_turn_choice.ok sc_turn_choice (fun vs H Q E h => ?_) (fun cdv A outer s H vs Q E hr h => ?_)
  · obtain ⟨x, dx, qi, qp, s, a, rfl, _⟩ := h
    rfl
  · obtain ⟨x, dx, qi, qp, s, a, rfl, hR, hz, hp, k⟩ := h
    refine ⟨_, (pss_cons (ps_set (i := 1) sc_turn_choice.nd rfl (Or.inl rfl) (pe_meth0 (pv 0) T.cl_Translator T.m_Translator_taken_number (ok_Translator_taken_number T) (hr.mono (by decide)) T.b_Translator_taken_number .nil pass0))
        (pss_cons (ps_expr (pe_meth (pv 0) T.cl_Translator T.m_Translator_append_node (ok_Translator_append_node T) (hr.mono (by decide)) T.b_Translator_append_node .nil pass0 (pa_cons (pe_glob (v := .int 32) (by rfl) T.c_NOP ⟨_, rfl⟩) (pa_cons pe_int (pa_cons (pv 1) pa_nil)))))
        (pss_cons (ps_fld (pv 0) (pe_meth0 (pv 0) T.cl_Translator T.m_Translator_popped (ok_Translator_popped T) (hr.mono (by decide)) T.b_Translator_popped .nil pass0) rfl)
        (pss_one (ps_expr (pe_bm PySem.F.plainAttrs_list PySem.F.slot_list_append PySem.F.type_list_append mt_append (pe_fld (pv 0) rfl) (pa_cons (pv 1) pa_nil))))))), ?_⟩
    refine q_asgP (ep_T () (ev_var rfl) hR (by omega) (by omega) ea_nil) (fun v H1 h1 => ?_)
    obtain ⟨rfl, hR1, b1⟩ := h1
    refine q_dropP (ep_T (32, 0, s.k) (ev_var rfl) hR1 (by show s.im.length ≤ 80000; omega) (by show s.pl.length ≤ 80000; omega) (ea_cons ev_c (ea_cons ev_c (ea_cons (ev_var rfl) ea_nil)))) (fun v H2 h2 => ?_)
    obtain ⟨_, hR2, b2⟩ := h2
    refine q_fldP (ep_T () (ev_var rfl) hR2 (by show (s.im ++ [s.m, 32, 0, s.k]).length ≤ 90000; rw [List.length_append]; simp; omega) (by show s.pl.length ≤ 90000; omega) ea_nil) (fun v H3 h3 => ⟨_, _, _, h3.2.1.1, fun _ _ => ev_var rfl, T.cl_Translator, T.na_Translator_m, ff_len, fun H4 e4 => ?_⟩)
    obtain ⟨rfl, hR3, b3⟩ := h3
    rw [pt_m]
    have hR4 := (hR3.ex e4).set { (popT (appT (takT s) 32 0 s.k)) with m := topT s } rfl rfl
    refine s_app hR4.2.2.1 (ev_fld (ev_var rfl) hR4.1 T.cl_Translator T.na_Translator_pile lk_p) (ev_var rfl) (by rw [List.length_map]; show s.pl.dropLast.length < 100000; rw [List.length_dropLast]; omega) (fun H5 e5 => ?_)
    have e : ({ (popT (appT (takT s) 32 0 s.k)) with m := topT s } : TS).pl.map V.int ++ [.int s.k] = (s.pl.dropLast ++ [s.k]).map V.int := by rw [List.map_append]; rfl
    rw [e]
    exact k _ _ ⟨rfl, (hR4.ex e5).pil (s.pl.dropLast ++ [s.k]), bu_p ((bu_x (((b1.trans b2).trans b3).trans (ex_bu e4))).trans (ex_bu e5))⟩
def sp_end_choice (K : PySem.W.Frag) (C : Addr) : Sp := spB C b93
theorem ok_end_choice (T : Txt K mg) : FnOk P w K mg base CX0 2 T.f_end_choice T.d_end_choice ["translator"] (sp_end_choice K T.C_Translator) := by
  refine T.F_end_choice.ok sc_end_choice (fun vs H Q E h => ?_) (fun cdv A outer s H vs Q E hr h => ?_)
  · obtain ⟨x, dx, qi, qp, s, a, rfl, _⟩ := h
    rfl
  · obtain ⟨x, dx, qi, qp, s, a, rfl, hR, hz, hp, k⟩ := h
    refine ⟨_, (pss_cons (ps_set (i := 1) sc_end_choice.nd rfl (Or.inl rfl) (pe_meth0 (pv 0) T.cl_Translator T.m_Translator_popped (ok_Translator_popped T) (hr.mono (by decide)) T.b_Translator_popped .nil pass0))
        (pss_cons (ps_expr (pe_meth (pv 0) T.cl_Translator T.m_Translator_append_node (ok_Translator_append_node T) (hr.mono (by decide)) T.b_Translator_append_node .nil pass0 (pa_cons (pe_glob (v := .int 32) (by rfl) T.c_NOP ⟨_, rfl⟩) (pa_cons pe_int (pa_cons (pv 1) pa_nil)))))
        (pss_one (ps_fld (pv 0) (pv 1) rfl)))), ?_⟩
    refine q_asgP (ep_T () (ev_var rfl) hR (by omega) (by omega) ea_nil) (fun v H1 h1 => ?_)
    obtain ⟨rfl, hR1, b1⟩ := h1
    refine q_dropP (ep_T (32, 0, topT s) (ev_var rfl) hR1 (by show s.im.length ≤ 80000; omega) (by show s.pl.dropLast.length ≤ 80000; rw [List.length_dropLast]; omega) (ea_cons ev_c (ea_cons ev_c (ea_cons (ev_var rfl) ea_nil)))) (fun v H2 h2 => ?_)
    obtain ⟨_, hR2, b2⟩ := h2
    refine s_fld (ev_var rfl) (ev_var rfl) hR2.1 T.cl_Translator T.na_Translator_m ff_len (fun H3 e3 => ?_)
    rw [pt_m]
    exact k _ _ ⟨rfl, (hR2.ex e3).set (b93 s) rfl rfl, bu_x ((b1.trans b2).trans (ex_bu e3))⟩
def sp_begin_loop (K : PySem.W.Frag) (C : Addr) : Sp := spB C b123
theorem ok_begin_loop (T : Txt K mg) : FnOk P w K mg base CX0 2 T.f_begin_loop T.d_begin_loop ["translator"] (sp_begin_loop K T.C_Translator) := by
  refine T.F_begin_loop.ok sc_begin_loop (fun vs H Q E h => ?_) (fun cdv A outer s H vs Q E hr h => ?_)
  · obtain ⟨x, dx, qi, qp, s, a, rfl, _⟩ := h
    rfl
  · obtain ⟨x, dx, qi, qp, s, a, rfl, hR, hz, hp, k⟩ := h
    refine ⟨_, (pss_cons (ps_set (i := 1) sc_begin_loop.nd rfl (Or.inl rfl) (pe_meth0 (pv 0) T.cl_Translator T.m_Translator_taken_number (ok_Translator_taken_number T) (hr.mono (by decide)) T.b_Translator_taken_number .nil pass0))
        (pss_cons (ps_expr (pe_meth (pv 0) T.cl_Translator T.m_Translator_append_node (ok_Translator_append_node T) (hr.mono (by decide)) T.b_Translator_append_node .nil pass0 (pa_cons (pe_glob (v := .int 32) (by rfl) T.c_NOP ⟨_, rfl⟩) (pa_cons pe_int (pa_cons (pv 1) pa_nil)))))
        (pss_cons (ps_fld (pv 0) (pv 1) rfl)
        (pss_one (ps_expr (pe_bm PySem.F.plainAttrs_list PySem.F.slot_list_append PySem.F.type_list_append mt_append (pe_fld (pv 0) rfl) (pa_cons (pv 1) pa_nil))))))), ?_⟩
    refine q_asgP (ep_T () (ev_var rfl) hR (by omega) (by omega) ea_nil) (fun v H1 h1 => ?_)
    obtain ⟨rfl, hR1, b1⟩ := h1
    refine q_dropP (ep_T (32, 0, s.k) (ev_var rfl) hR1 (by show s.im.length ≤ 80000; omega) (by show s.pl.length ≤ 80000; omega) (ea_cons ev_c (ea_cons ev_c (ea_cons (ev_var rfl) ea_nil)))) (fun v H2 h2 => ?_)
    obtain ⟨_, hR2, b2⟩ := h2
    refine q_fld (ev_var rfl) (ev_var rfl) hR2.1 T.cl_Translator T.na_Translator_m ff_len (fun H3 e3 => ?_)
    rw [pt_m]
    have hR3 := (hR2.ex e3).set { (appT (takT s) 32 0 s.k) with m := s.k } rfl rfl
    refine s_app hR3.2.2.1 (ev_fld (ev_var rfl) hR3.1 T.cl_Translator T.na_Translator_pile lk_p) (ev_var rfl) (by rw [List.length_map]; show s.pl.length < 100000; omega) (fun H5 e5 => ?_)
    have e : ({ (appT (takT s) 32 0 s.k) with m := s.k } : TS).pl.map V.int ++ [.int s.k] = (s.pl ++ [s.k]).map V.int := by rw [List.map_append]; rfl
    rw [e]
    exact k _ _ ⟨rfl, (hR3.ex e5).pil (s.pl ++ [s.k]), bu_p ((bu_x ((b1.trans b2).trans (ex_bu e3))).trans (ex_bu e5))⟩
def sp_end_loop (K : PySem.W.Frag) (C : Addr) : Sp := spB C b125
theorem ok_end_loop (T : Txt K mg) : FnOk P w K mg base CX0 2 T.f_end_loop T.d_end_loop ["translator"] (sp_end_loop K T.C_Translator) := by
  refine T.F_end_loop.ok sc_end_loop (fun vs H Q E h => ?_) (fun cdv A outer s H vs Q E hr h => ?_)
  · obtain ⟨x, dx, qi, qp, s, a, rfl, _⟩ := h
    rfl
  · obtain ⟨x, dx, qi, qp, s, a, rfl, hR, hz, hp, k⟩ := h
    refine ⟨_, (pss_cons (ps_set (i := 1) sc_end_loop.nd rfl (Or.inl rfl) (pe_meth0 (pv 0) T.cl_Translator T.m_Translator_popped (ok_Translator_popped T) (hr.mono (by decide)) T.b_Translator_popped .nil pass0))
        (pss_cons (ps_set (i := 2) sc_end_loop.nd rfl (Or.inl rfl) (pe_meth0 (pv 0) T.cl_Translator T.m_Translator_taken_number (ok_Translator_taken_number T) (hr.mono (by decide)) T.b_Translator_taken_number .nil pass0))
        (pss_cons (ps_expr (pe_meth (pv 0) T.cl_Translator T.m_Translator_append_node (ok_Translator_append_node T) (hr.mono (by decide)) T.b_Translator_append_node .nil pass0 (pa_cons (pe_glob (v := .int 63) (by rfl) T.c_BRANCH ⟨_, rfl⟩) (pa_cons (pv 2) (pa_cons (pv 1) pa_nil)))))
        (pss_one (ps_fld (pv 0) (pv 2) rfl))))), ?_⟩
    refine q_asgP (ep_T () (ev_var rfl) hR (by omega) (by omega) ea_nil) (fun v H1 h1 => ?_)
    obtain ⟨rfl, hR1, b1⟩ := h1
    refine q_asgP (ep_T () (ev_var rfl) hR1 (by show s.im.length ≤ 90000; omega) (by show s.pl.dropLast.length ≤ 90000; rw [List.length_dropLast]; omega) ea_nil) (fun v H2 h2 => ?_)
    obtain ⟨rfl, hR2, b2⟩ := h2
    refine q_dropP (ep_T (63, s.k, topT s) (ev_var rfl) hR2 (by show s.im.length ≤ 80000; omega) (by show s.pl.dropLast.length ≤ 80000; rw [List.length_dropLast]; omega) (ea_cons ev_c (ea_cons (ev_var rfl) (ea_cons (ev_var rfl) ea_nil)))) (fun v H3 h3 => ?_)
    obtain ⟨_, hR3, b3⟩ := h3
    refine s_fld (ev_var rfl) (ev_var rfl) hR3.1 T.cl_Translator T.na_Translator_m ff_len (fun H4 e4 => ?_)
    rw [pt_m]
    exact k _ _ ⟨rfl, (hR3.ex e4).set (b125 s) rfl rfl, bu_x (((b1.trans b2).trans b3).trans (ex_bu e4))⟩
def sp_end_definition (K : PySem.W.Frag) (C : Addr) : Sp := spB C b59
theorem ok_end_definition (T : Txt K mg) : FnOk P w K mg base CX0 2 T.f_end_definition T.d_end_definition ["translator"] (sp_end_definition K T.C_Translator) := by
  refine T.F_end_definition.ok sc_end_definition (fun vs H Q E h => ?_) (fun cdv A outer s H vs Q E hr h => ?_)
  · obtain ⟨x, dx, qi, qp, s, a, rfl, _⟩ := h
    rfl
  · obtain ⟨x, dx, qi, qp, s, a, rfl, hR, hz, hp, k⟩ := h
    refine ⟨_, (pss_cons (ps_expr (pe_meth (pv 0) T.cl_Translator T.m_Translator_append_node (ok_Translator_append_node T) (hr.mono (by decide)) T.b_Translator_append_node .nil pass0 (pa_cons (pe_glob (v := .int 41) (by rfl) T.c_RETURN ⟨_, rfl⟩) (pa_cons pe_int (pa_cons pe_int pa_nil)))))
        (pss_one (ps_fld (pv 0) (pe_meth0 (pv 0) T.cl_Translator T.m_Translator_popped (ok_Translator_popped T) (hr.mono (by decide)) T.b_Translator_popped .nil pass0) rfl))), ?_⟩
    refine q_dropP (ep_T (41, 0, 1) (ev_var rfl) hR (by omega) (by omega) (ea_cons ev_c (ea_cons ev_c (ea_cons ev_c ea_nil)))) (fun v H2 h2 => ?_)
    obtain ⟨_, hR2, b2⟩ := h2
    refine s_fldP (ep_T () (ev_var rfl) hR2 (by show (s.im ++ [s.m, 41, 0, 1]).length ≤ 90000; rw [List.length_append]; simp; omega) (by show s.pl.length ≤ 90000; omega) ea_nil) (fun v H3 h3 => ⟨_, _, _, h3.2.1.1, fun _ _ => ev_var rfl, T.cl_Translator, T.na_Translator_m, ff_len, fun H4 e4 => ?_⟩)
    obtain ⟨rfl, hR3, b3⟩ := h3
    rw [pt_m]
    exact k _ _ ⟨rfl, (hR3.ex e4).set (b59 s) rfl rfl, bu_x ((b2.trans b3).trans (ex_bu e4))⟩
def S_BRACKETS (T : Txt K mg) : Addr → Option Sp := fun f =>
  if f = T.f_begin_choice then some (sp_begin_choice K T.C_Translator) else if f = T.f_turn_choice then some (sp_turn_choice K T.C_Translator) else if f = T.f_end_choice then some (sp_end_choice K T.C_Translator)
  else if f = T.f_begin_loop then some (sp_begin_loop K T.C_Translator) else if f = T.f_end_loop then some (sp_end_loop K T.C_Translator) else if f = T.f_end_definition then some (sp_end_definition K T.C_Translator) else none
theorem held_BRACKETS (T : Txt K mg) : ∀ f sp, S_BRACKETS T f = some sp → Held P w K mg base 3 f sp := by
  intro f sp h
  unfold S_BRACKETS at h
  split at h
  · rename_i e; subst e; cases h; exact ⟨_, _, (ok_begin_choice T).mono (by decide), T.F_begin_choice.kp, T.b_begin_choice⟩
  split at h
  · rename_i e; subst e; cases h; exact ⟨_, _, (ok_turn_choice T).mono (by decide), T.F_turn_choice.kp, T.b_turn_choice⟩
  split at h
  · rename_i e; subst e; cases h; exact ⟨_, _, (ok_end_choice T).mono (by decide), T.F_end_choice.kp, T.b_end_choice⟩
  split at h
  · rename_i e; subst e; cases h; exact ⟨_, _, (ok_begin_loop T).mono (by decide), T.F_begin_loop.kp, T.b_begin_loop⟩
  split at h
  · rename_i e; subst e; cases h; exact ⟨_, _, (ok_end_loop T).mono (by decide), T.F_end_loop.kp, T.b_end_loop⟩
  split at h
  · rename_i e; subst e; cases h; exact ⟨_, _, (ok_end_definition T).mono (by decide), T.F_end_definition.kp, T.b_end_definition⟩
  · cases h
theorem br_some (T : Txt K mg) {c : Int} {f : TS → TS} (h : brT c = some f) : ∃ a : Addr, ([(91, .ref T.f_begin_choice), (124, .ref T.f_turn_choice), (93, .ref T.f_end_choice), (123, .ref T.f_begin_loop), (125, .ref T.f_end_loop), (59, .ref T.f_end_definition)] : List (Int × Value)).lookup c = some (.ref a) ∧ S_BRACKETS T a = some (spB T.C_Translator f) := by
  have nd := T.nd_BRACKETS
  simp only [List.nodup_cons, List.mem_cons, List.not_mem_nil, or_false, not_or, not_false_eq_true, List.nodup_nil, and_true] at nd
  obtain ⟨⟨n12, n13, n14, n15, n16⟩, ⟨n23, n24, n25, n26⟩, ⟨n34, n35, n36⟩, ⟨n45, n46⟩, n56⟩ := nd
  unfold brT at h
  split at h
  · rename_i e; subst e; cases h; exact ⟨_, rfl, if_pos rfl⟩
  split at h
  · rename_i e; subst e; cases h; exact ⟨_, rfl, by unfold S_BRACKETS; rw [if_neg (Ne.symm n12), if_pos rfl]; rfl⟩
  split at h
  · rename_i e; subst e; cases h; exact ⟨_, rfl, by unfold S_BRACKETS; rw [if_neg (Ne.symm n13), if_neg (Ne.symm n23), if_pos rfl]; rfl⟩
  split at h
  · rename_i e; subst e; cases h; exact ⟨_, rfl, by unfold S_BRACKETS; rw [if_neg (Ne.symm n14), if_neg (Ne.symm n24), if_neg (Ne.symm n34), if_pos rfl]; rfl⟩
  split at h
  · rename_i e; subst e; cases h; exact ⟨_, rfl, by unfold S_BRACKETS; rw [if_neg (Ne.symm n15), if_neg (Ne.symm n25), if_neg (Ne.symm n35), if_neg (Ne.symm n45), if_pos rfl]; rfl⟩
  split at h
  · rename_i e; subst e; cases h; exact ⟨_, rfl, by unfold S_BRACKETS; rw [if_neg (Ne.symm n16), if_neg (Ne.symm n26), if_neg (Ne.symm n36), if_neg (Ne.symm n46), if_neg (Ne.symm n56), if_pos rfl]; rfl⟩
  · cases h
theorem br_none (T : Txt K mg) {c : Int} (h : brT c = none) : ([(91, .ref T.f_begin_choice), (124, .ref T.f_turn_choice), (93, .ref T.f_end_choice), (123, .ref T.f_begin_loop), (125, .ref T.f_end_loop), (59, .ref T.f_end_definition)] : List (Int × Value)).lookup c = none := by
  unfold brT at h
  repeat' split at h
  all_goals first | cases h | skip
  rename_i n1 n2 n3 n4 n5 n6
  have b : ∀ {i j : Int}, ¬ i = j → (i == j) = false := fun h => by simpa using h
  simp only [List.lookup_cons, b n1, b n2, b n3, b n4, b n5, b n6, List.lookup_nil]
def sp_Translator_end_numeral (K : PySem.W.Frag) (C : Addr) : Sp := spT C 60000 (fun _ : Unit => []) (fun s _ => endN s) (fun _ _ => .non)
theorem ok_Translator_end_numeral (T : Txt K mg) : FnOk P w K mg base CX0 3 T.f_Translator_end_numeral T.d_Translator_end_numeral ["self"] (sp_Translator_end_numeral K T.C_Translator) := by
  refine T.F_Translator_end_numeral.ok sc_Translator_end_numeral (fun vs H Q E h => ?_) (fun cdv A outer s H vs Q E hr h => ?_)
  · obtain ⟨x, dx, qi, qp, s, a, rfl, _⟩ := h
    rfl
  · obtain ⟨x, dx, qi, qp, s, a, rfl, hR, hz, hp, k⟩ := h
    refine ⟨_, (pss_one (ps_if (pt_cmpR op_notN (pe_fld (pv 0) rfl) pe_non (nomark _)) (pss_cons (ps_expr (pe_meth (pv 0) T.cl_Translator T.m_Translator_emit (ok_Translator_emit T) (hr.mono (by decide)) T.b_Translator_emit .nil pass0 (pa_cons (pe_glob (v := .int 35) (by rfl) T.c_PUSH ⟨_, rfl⟩) (pa_cons (pe_fld (pv 0) rfl) pa_nil))))
        (pss_one (ps_fld (pv 0) pe_non rfl))) pss_nil)), ?_⟩
    refine s_when (b := s.nu.isSome) (et_test (ev_op (ev_fld (ev_var rfl) hR.1 T.cl_Translator T.na_Translator_numeral lk_n) ev_c rv_notN)) (fun hb H1 e1 => ?_) (fun hb H1 e1 => ?_)
    · obtain ⟨v, hv⟩ := Option.isSome_iff_exists.mp hb
      have hR1 := hR.ex e1
      have fn : Ev (tFld K (tVar 0) "numeral") (L2.start N_Translator_end_numeral [.ref x]) H1 (.int v) := by
        have := ev_fld (K := K) (ta := tVar 0) (σ := L2.start N_Translator_end_numeral [.ref x]) (ev_var rfl) hR1.1 T.cl_Translator T.na_Translator_numeral lk_n
        rw [hv] at this
        exact this
      refine q_dropP (ep_T (35, v) (ev_var rfl) hR1 (by omega) (by omega) (ea_cons ev_c (ea_cons fn ea_nil))) (fun u H2 h2 => ?_)
      obtain ⟨_, hR2, b2⟩ := h2
      refine s_fld ev_c (ev_var rfl) hR2.1 T.cl_Translator T.na_Translator_numeral ff_len (fun H3 e3 => ?_)
      have e : endN s = { emT s 35 v with nu := none } := by unfold endN; rw [hv]
      rw [show putF "numeral" V.non (FF (emT s 35 v) qi qp) = FF { (emT s 35 v) with nu := none } qi qp from pt_n (z := none)]
      dsimp only at k
      rw [e] at k
      exact k _ _ ⟨rfl, (hR2.ex e3).set _ rfl rfl, bu_x (((ex_bu e1).trans b2).trans (ex_bu e3))⟩
    · have e : endN s = s := by
        unfold endN
        cases h : s.nu with
        | none => rfl
        | some v => rw [h] at hb; cases hb
      dsimp only at k
      rw [e] at k
      exact k _ _ ⟨rfl, hR.ex e1, ex_bu e1⟩
def sp_Translator_take_skipped (K : PySem.W.Frag) (C : Addr) : Sp := fun vs H Q _ => ∃ (x dx qi qp : Addr) (s : TS) (w c : Int), vs = [.ref x, .int c] ∧ s.wa = some w ∧ RA C H x dx qi qp s ∧ s.im.length ≤ 60000 ∧ s.pl.length ≤ 60000 ∧ ∀ v H', Tr C x dx qi qp H (skT s w c) .non v H' → Q v H'
theorem ep_skipped {C x dx qi qp : Addr} {s : TS} {w c : Int} {σ : L2.St} {H : Hp} {to : TE} {t : TA} (ho : Ev to σ H (.ref x)) (hw : s.wa = some w) (hR : RA C H x dx qi qp s) (hz : s.im.length ≤ 60000) (hp : s.pl.length ≤ 60000) (ht : EvA t σ H [.int c]) : EvP (tMeth C "_take_skipped" (sp_Translator_take_skipped K C) [] E0 to t) σ H (Tr C x dx qi qp H (skT s w c) .non) :=
  ep_meth ho hR.1 (by rfl) ht fun H1 e1 Q k => ⟨x, dx, qi, qp, s, w, c, rfl, hw, hR.ex e1, hz, hp, fun v H' h => k v H' (tr_bk h (ex_bu e1))⟩
theorem ok_Translator_take_skipped (T : Txt K mg) : FnOk P w K mg base CX0 3 T.f_Translator_take_skipped T.d_Translator_take_skipped ["self", "code"] (sp_Translator_take_skipped K T.C_Translator) := by
  refine T.F_Translator_take_skipped.ok sc_Translator_take_skipped (fun vs H Q E h => ?_) (fun cdv A outer s H vs Q E hr h => ?_)
  · obtain ⟨x, dx, qi, qp, s, w, c, rfl, _⟩ := h
    rfl
  · obtain ⟨x, dx, qi, qp, s, w, c, rfl, hw, hR, hz, hp, k⟩ := h
    refine ⟨_, (pss_cons (ps_set (i := 2) sc_Translator_take_skipped.nd rfl (Or.inl rfl) (pe_fld (pv 0) rfl))
        (pss_cons (ps_fld (pv 0) pe_non rfl)
        (pss_one (ps_if (pt_cmpR op_eq (pv 2) (pe_glob (v := .int 58) (by rfl) T.c_COLON ⟨_, rfl⟩) (nomark _)) (pss_cons (ps_expr (pe_bm PySem.F.plainAttrs_list PySem.F.slot_list_append PySem.F.type_list_append mt_append (pe_fld (pv 0) rfl) (pa_cons (pe_fld (pv 0) rfl) pa_nil)))
        (pss_one (ps_fld (pv 0) (pv 1) rfl))) (pss_one (ps_if (pt_cmpR op_eq (pv 2) (pe_glob (v := .int 39) (by rfl) T.c_QUOTE ⟨_, rfl⟩) (nomark _)) (pss_one (ps_expr (pe_meth (pv 0) T.cl_Translator T.m_Translator_emit (ok_Translator_emit T) (hr.mono (by decide)) T.b_Translator_emit .nil pass0 (pa_cons (pe_glob (v := .int 35) (by rfl) T.c_PUSH ⟨_, rfl⟩) (pa_cons (pv 1) pa_nil))))) (pss_one (ps_expr (pe_meth (pv 0) T.cl_Translator T.m_Translator_emit (ok_Translator_emit T) (hr.mono (by decide)) T.b_Translator_emit .nil pass0 (pa_cons (pe_glob (v := .int 61) (by rfl) T.c_SET ⟨_, rfl⟩) (pa_cons (pv 1) pa_nil))))))))))), ?_⟩
    refine q_asg (v := .int w) (by
      have := ev_fld (K := K) (ta := tVar 0) (σ := L2.start N_Translator_take_skipped [.ref x, .int c]) (ev_var rfl) hR.1 T.cl_Translator T.na_Translator_waiting lk_w
      rw [hw] at this
      exact this) (fun H1 e1 => ?_)
    have hR1 := hR.ex e1
    refine q_fld ev_c (ev_var rfl) hR1.1 T.cl_Translator T.na_Translator_waiting ff_len (fun H2 e2 => ?_)
    rw [show putF "waiting" V.non (FF s qi qp) = FF { s with wa := none } qi qp from pt_w (z := none)]
    have hR2 := (hR1.ex e2).set { s with wa := none } rfl rfl
    have b2 : Bu [x, qi, qp] H (upd H2 x (.ins T.C_Translator dx (FF { s with wa := none } qi qp))) := bu_x (ex_bu (e1.trans e2))
    refine s_if (b := decide (w = 58)) (by walk_at "et") (fun hb H3 e3 => ?_) (fun hb H3 e3 => ?_)
    · have hR3 := hR2.ex e3
      refine q_app hR3.2.2.1 (ev_fld (ev_var rfl) hR3.1 T.cl_Translator T.na_Translator_pile lk_p) (ev_fld (ev_var rfl) hR3.1 T.cl_Translator T.na_Translator_m lk_m) (by rw [List.length_map]; show s.pl.length < 100000; omega) (fun H4 e4 => ?_)
      have e : ({ s with wa := none } : TS).pl.map V.int ++ [.int s.m] = (s.pl ++ [s.m]).map V.int := by rw [List.map_append]; rfl
      rw [e]
      have hR4 := (hR3.ex e4).pil (s.pl ++ [s.m])
      refine s_fld (ev_var rfl) (ev_var rfl) hR4.1 T.cl_Translator T.na_Translator_m ff_len (fun H5 e5 => ?_)
      rw [pt_m]
      have e : skT s w c = { s with wa := none, pl := s.pl ++ [s.m], m := c } := by unfold skT; rw [if_pos (of_decide_eq_true hb)]
      rw [e] at k
      exact k _ _ ⟨rfl, (hR4.ex e5).set _ rfl rfl, bu_x ((bu_p ((b2.trans (ex_bu e3)).trans (ex_bu e4))).trans (ex_bu e5))⟩
    have n58 := of_decide_eq_false hb
    refine s_if (b := decide (w = 39)) (by walk_at "et") (fun hb H4 e4 => ?_) (fun hb H4 e4 => ?_)
    · have e : skT s w c = emT { s with wa := none } 35 c := by unfold skT; rw [if_neg n58, if_pos (of_decide_eq_true hb)]
      rw [e] at k
      exact s_dropP (ep_T (35, c) (ev_var rfl) (hR2.ex (e3.trans e4)) (by show s.im.length ≤ 70000; omega) (by show s.pl.length ≤ 70000; omega) (ea_cons ev_c (ea_cons (ev_var rfl) ea_nil))) fun v H5 h => k _ _ ⟨rfl, h.2.1, (b2.trans (ex_bu (e3.trans e4))).trans h.2.2⟩
    · have e : skT s w c = emT { s with wa := none } 61 c := by unfold skT; rw [if_neg n58, if_neg (of_decide_eq_false hb)]
      rw [e] at k
      exact s_dropP (ep_T (61, c) (ev_var rfl) (hR2.ex (e3.trans e4)) (by show s.im.length ≤ 70000; omega) (by show s.pl.length ≤ 70000; omega) (ea_cons ev_c (ea_cons (ev_var rfl) ea_nil))) fun v H5 h => k _ _ ⟨rfl, h.2.1, (b2.trans (ex_bu (e3.trans e4))).trans h.2.2⟩
theorem in3 {c : Int} : inV (.int c) [.int 39, .int 61, .int 58] = decide (c = 39 ∨ c = 61 ∨ c = 58) := by
  show ((39 == c) || ((61 == c) || ((58 == c) || false))) = _
  by_cases h1 : c = 39
  · subst h1; rfl
  by_cases h2 : c = 61
  · subst h2; rfl
  by_cases h3 : c = 58
  · subst h3; rfl
  have b : ∀ {i j : Int}, ¬ j = i → (i == j) = false := fun h => by simpa using fun e => h (Eq.symm e)
  rw [b h1, b h2, b h3, decide_eq_false (by simp [h1, h2, h3])]
  rfl
def sp_Translator_take_sign (K : PySem.W.Frag) (C : Addr) : Sp := spT C 60000 (fun c : Int => [.int c]) (fun s c => sgT s c) (fun _ _ => .non)
theorem ok_Translator_take_sign (T : Txt K mg) : FnOk P w K mg base CX0 4 T.f_Translator_take_sign T.d_Translator_take_sign ["self", "code"] (sp_Translator_take_sign K T.C_Translator) := by
  refine T.F_Translator_take_sign.ok sc_Translator_take_sign (fun vs H Q E h => ?_) (fun cdv A outer s H vs Q E hr h => ?_)
  · obtain ⟨x, dx, qi, qp, s, a, rfl, _⟩ := h
    rfl
  · obtain ⟨x, dx, qi, qp, s, c, rfl, hR, hz, hp, k⟩ := h
    refine ⟨_, (pss_one (ps_if (pt_cmpR op_in_seq (pv 1) (pe_tup (pa_cons (pe_glob (v := .int 39) (by rfl) T.c_QUOTE ⟨_, rfl⟩) (pa_cons (pe_glob (v := .int 61) (by rfl) T.c_SET ⟨_, rfl⟩) (pa_cons (pe_glob (v := .int 58) (by rfl) T.c_COLON ⟨_, rfl⟩) pa_nil)))) (by rfl)) (pss_one (ps_fld (pv 0) (pv 1) rfl)) (pss_one (ps_if (pt_cmpR (op_in_it T.tab_BRACKETS) (pv 1) (pe_glob (v := .ref T.D_BRACKETS) (by rfl) T.g_BRACKETS rfl) (by rfl)) (pss_cons (ps_set (i := 2) sc_Translator_take_sign.nd rfl (Or.inl rfl) (pe_ix (ix_it T.tab_BRACKETS) (pe_glob (v := .ref T.D_BRACKETS) (by rfl) T.g_BRACKETS rfl) (pv 1) (fun _ _ => rfl)))
        (pss_one (ps_expr (pe_callA (i := 2) (held_BRACKETS T) (hr.mono (by decide)) rfl (by first | exact Or.inl rfl | exact Or.inr (Or.inl rfl)) (pa_cons (pv 0) pa_nil))))) (pss_one (ps_if (pt_cmpR op_gt (pv 1) (pe_glob (v := .int 32) (by rfl) T.c_SPACE ⟨_, rfl⟩) (nomark _)) (pss_one (ps_expr (pe_meth (pv 0) T.cl_Translator T.m_Translator_emit (ok_Translator_emit T) (hr.mono (by decide)) T.b_Translator_emit .nil pass0 (pa_cons (pv 1) (pa_cons pe_int pa_nil))))) pss_nil)))))), ?_⟩
    refine s_if (b := decide (c = 39 ∨ c = 61 ∨ c = 58)) (by rw [← in3]; exact et_test (ev_opU (ev_var rfl) (eu_tup (ea_cons ev_c (ea_cons ev_c (ea_cons ev_c ea_nil))) (by decide)) (fun p H1 h1 _ => rv_isT (st_of h1) rfl rfl))) (fun hb H1 e1 => ?_) (fun hb H1 e1 => ?_)
    · have hR1 := hR.ex e1
      refine s_fld (ev_var rfl) (ev_var rfl) hR1.1 T.cl_Translator T.na_Translator_waiting ff_len (fun H2 e2 => ?_)
      have e : sgT s c = { s with wa := some c } := by unfold sgT; rw [if_pos (of_decide_eq_true hb)]
      simp only [e] at k
      rw [show putF "waiting" (V.int c) (FF s qi qp) = FF { s with wa := some c } qi qp from pt_w (z := some c)]
      exact k _ _ ⟨rfl, (hR1.ex e2).set _ rfl rfl, bu_x (ex_bu (e1.trans e2))⟩
    have n3 := of_decide_eq_false hb
    cases hbr : brT c with
    | some f =>
      obtain ⟨a, ha, hs⟩ := br_some T hbr
      have e : sgT s c = f s := by unfold sgT; rw [if_neg n3, hbr]
      simp only [e] at k
      refine s_if (b := true) (et_is (et_test (ev_op (ev_var rfl) ev_c (rv_it ha))) rfl) (fun _ H2 e2 => ?_) (fun hb => nomatch hb)
      refine q_asg (v := .ref a) (ev_op ev_c (ev_var rfl) (rv_ix_it ha)) (fun H3 e3 => ?_)
      refine s_dropP (P := Tr T.C_Translator x dx qi qp H3 (f s) .non) (fun Q q => ⟨a, _, rfl, hs, (ea_cons (ev_var rfl) ea_nil) H3 (Ex.refl H3) _ fun H4 e4 => ⟨x, dx, qi, qp, s, (), rfl, hR.ex (e1.trans (e2.trans (e3.trans e4))), hz, hp, fun v H' h => q v H' (tr_bk h (ex_bu e4))⟩⟩) fun v H4 h => ?_
      exact k _ _ ⟨rfl, h.2.1, (ex_bu (e1.trans (e2.trans e3))).trans h.2.2⟩
    | none =>
      have ha := br_none T hbr
      refine s_if (b := false) (et_is (et_test (ev_op (ev_var rfl) ev_c (rv_it0 ha))) rfl) (fun hb => nomatch hb) (fun _ H2 e2 => ?_)
      refine s_when (b := decide (32 < c)) (et_test (ev_op (ev_var rfl) ev_c rv_I0)) (fun hb H3 e3 => ?_) (fun hb H3 e3 => ?_)
      · have e : sgT s c = emT s c 0 := by unfold sgT; rw [if_neg n3, hbr]; exact if_pos (of_decide_eq_true hb)
        simp only [e] at k
        exact s_dropP (ep_T (c, 0) (ev_var rfl) (hR.ex (e1.trans (e2.trans e3))) (by omega) (by omega) (ea_cons (ev_var rfl) (ea_cons ev_c ea_nil))) fun v H5 h => k _ _ ⟨rfl, h.2.1, (ex_bu (e1.trans (e2.trans e3))).trans h.2.2⟩
      · have e : sgT s c = s := by unfold sgT; rw [if_neg n3, hbr]; exact if_neg (of_decide_eq_false hb)
        simp only [e] at k
        exact k _ _ ⟨rfl, hR.ex (e1.trans (e2.trans e3)), ex_bu (e1.trans (e2.trans e3))⟩
theorem em_len (s : TS) (a b : Int) : (emT s a b).im.length = s.im.length + 4 ∧ (emT s a b).pl.length = s.pl.length := ⟨by show (s.im ++ [s.m, a, b, s.k]).length = _; rw [List.length_append]; rfl, rfl⟩
theorem endN_len (s : TS) : (endN s).im.length ≤ s.im.length + 4 ∧ (endN s).pl.length = s.pl.length ∧ (endN s).wa = s.wa ∧ (endN s).st = s.st ∧ (endN s).fi = s.fi := by
  unfold endN
  split
  · exact ⟨by omega, rfl, rfl, rfl, rfl⟩
  · rename_i v _
    have h := em_len s 35 v
    exact ⟨by show (emT s 35 v).im.length ≤ _; omega, rfl, rfl, rfl, rfl⟩
theorem sk_len (s : TS) (w c : Int) : (skT s w c).im.length ≤ s.im.length + 4 ∧ (skT s w c).pl.length ≤ s.pl.length + 1 ∧ (skT s w c).st = s.st ∧ (skT s w c).fi = s.fi ∧ (skT s w c).wa = none := by
  unfold skT
  split
  · exact ⟨by show s.im.length ≤ _; omega, by show (s.pl ++ [s.m]).length ≤ _; rw [List.length_append]; exact Nat.le_refl _, rfl, rfl, rfl⟩
  split
  · have h := em_len { s with wa := none } 35 c
    exact ⟨Nat.le_of_eq h.1, by rw [h.2]; exact Nat.le_succ _, rfl, rfl, rfl⟩
  · have h := em_len { s with wa := none } 61 c
    exact ⟨Nat.le_of_eq h.1, by rw [h.2]; exact Nat.le_succ _, rfl, rfl, rfl⟩
theorem br_len {c : Int} {f : TS → TS} (h : brT c = some f) (s : TS) : (f s).im.length = s.im.length + 4 ∧ (f s).pl.length ≤ s.pl.length + 1 ∧ (f s).st = s.st ∧ (f s).fi = s.fi ∧ (f s).wa = s.wa := by
  have hi : ∀ a b d : Int, (s.im ++ [s.m, a, b, d]).length = s.im.length + 4 := fun a b d => by rw [List.length_append]; rfl
  have h1 : ∀ z : Int, (s.pl ++ [z]).length ≤ s.pl.length + 1 := fun z => by rw [List.length_append]; exact Nat.le_refl _
  have h2 : s.pl.dropLast.length ≤ s.pl.length := by rw [List.length_dropLast]; omega
  have h3 : ∀ z : Int, (s.pl.dropLast ++ [z]).length ≤ s.pl.length + 1 := fun z => by rw [List.length_append]; show s.pl.dropLast.length + 1 ≤ _; omega
  unfold brT at h
  split at h
  · cases h; exact ⟨hi _ _ _, h1 _, rfl, rfl, rfl⟩
  split at h
  · cases h; exact ⟨hi _ _ _, h3 _, rfl, rfl, rfl⟩
  split at h
  · cases h; exact ⟨hi _ _ _, Nat.le_trans h2 (Nat.le_succ _), rfl, rfl, rfl⟩
  split at h
  · cases h; exact ⟨hi _ _ _, h1 _, rfl, rfl, rfl⟩
  split at h
  · cases h; exact ⟨hi _ _ _, Nat.le_trans h2 (Nat.le_succ _), rfl, rfl, rfl⟩
  split at h
  · cases h; exact ⟨hi _ _ _, Nat.le_trans h2 (Nat.le_succ _), rfl, rfl, rfl⟩
  · cases h
theorem sg_len (s : TS) (c : Int) : (sgT s c).im.length ≤ s.im.length + 4 ∧ (sgT s c).pl.length ≤ s.pl.length + 1 ∧ (sgT s c).st = s.st ∧ (sgT s c).fi = s.fi := by
  unfold sgT
  split
  · exact ⟨Nat.le_add_right _ _, Nat.le_succ _, rfl, rfl⟩
  split
  · rename_i f hf
    have h := br_len hf s
    exact ⟨by omega, h.2.1, h.2.2.1, h.2.2.2.1⟩
  split
  · have h := em_len s c 0
    exact ⟨by omega, by omega, rfl, rfl⟩
  · exact ⟨Nat.le_add_right _ _, Nat.le_succ _, rfl, rfl⟩
theorem take_len (s : TS) (c : Int) : (takeT s c).im.length ≤ s.im.length + 8 ∧ (takeT s c).pl.length ≤ s.pl.length + 1 ∧ (takeT s c).fi = s.fi := by
  unfold takeT
  split
  · exact ⟨by omega, by omega, rfl⟩
  split
  · exact ⟨Nat.le_add_right _ _, Nat.le_succ _, rfl⟩
  split
  · rename_i w _
    have h := sk_len s w c
    exact ⟨by omega, h.2.1, h.2.2.2.1⟩
  split
  · exact ⟨Nat.le_add_right _ _, Nat.le_succ _, rfl⟩
  · have h := endN_len s
    have g := sg_len (endN s) c
    exact ⟨by omega, by omega, g.2.2.2.trans h.2.2.2.2⟩
theorem run_len (l : List Int) (s : TS) : (l.foldl takeT s).im.length ≤ s.im.length + 8 * l.length ∧ (l.foldl takeT s).pl.length ≤ s.pl.length + l.length ∧ (l.foldl takeT s).fi = s.fi := by
  induction l generalizing s with
  | nil => exact ⟨Nat.le_refl _, Nat.le_refl _, rfl⟩
  | cons c r ih =>
    have h1 := ih (takeT s c)
    have h2 := take_len s c
    rw [List.foldl_cons, List.length_cons]
    exact ⟨by omega, by omega, h1.2.2.trans h2.2.2⟩
def sp_Translator_take (K : PySem.W.Frag) (C : Addr) : Sp := spT C 50000 (fun c : Int => [.int c]) (fun s c => takeT s c) (fun _ _ => .non)
theorem ok_Translator_take (T : Txt K mg) : FnOk P w K mg base CX0 5 T.f_Translator_take T.d_Translator_take ["self", "code"] (sp_Translator_take K T.C_Translator) := by
  refine T.F_Translator_take.ok sc_Translator_take (fun vs H Q E h => ?_) (fun cdv A outer s H vs Q E hr h => ?_)
  · obtain ⟨x, dx, qi, qp, s, a, rfl, _⟩ := h
    rfl
  · obtain ⟨x, dx, qi, qp, s, c, rfl, hR, hz, hp, k⟩ := h
    refine ⟨_, (pss_cons (ps_if (pt_val (pe_fld (pv 0) rfl)) (pss_one ps_retN) pss_nil)
        (pss_one (ps_if (pt_cmpR op_lt (pv 1) pe_int (nomark _)) (pss_one (ps_fld (pv 0) pe_bl rfl)) (pss_one (ps_if (pt_cmpR op_notN (pe_fld (pv 0) rfl) pe_non (nomark _)) (pss_one (ps_expr (pe_meth (pv 0) T.cl_Translator T.m_Translator_take_skipped (ok_Translator_take_skipped T) (hr.mono (by decide)) T.b_Translator_take_skipped .nil pass0 (pa_cons (pv 1) pa_nil)))) (pss_one (ps_if (pt_val (pe_call (ok_is_digit T) (hr.mono (by decide)) (by rfl) T.g_is_digit T.F_is_digit.kp T.b_is_digit .nil pass0 (pa_cons (pv 1) pa_nil))) (pss_one (ps_fld (pv 0) (pe_call (ok_with_digit T) (hr.mono (by decide)) (by rfl) T.g_with_digit T.F_with_digit.kp T.b_with_digit .nil pass0 (pa_cons (pe_orT (pe_fld (pv 0) rfl) (pe_one pe_int)) (pa_cons (pv 1) pa_nil))) rfl)) (pss_cons (ps_expr (pe_meth0 (pv 0) T.cl_Translator T.m_Translator_end_numeral (ok_Translator_end_numeral T) (hr.mono (by decide)) T.b_Translator_end_numeral .nil pass0))
        (pss_one (ps_expr (pe_meth (pv 0) T.cl_Translator T.m_Translator_take_sign (ok_Translator_take_sign T) (hr.mono (by decide)) T.b_Translator_take_sign .nil pass0 (pa_cons (pv 1) pa_nil)))))))))))), ?_⟩
    dsimp only at k
    refine q_when (b := s.st) (et_B (ev_fld (ev_var rfl) hR.1 T.cl_Translator T.na_Translator_stopped lk_s)) (fun hb H1 e1 => ?_) (fun hst H1 e1 => ?_)
    · have e : takeT s c = s := by unfold takeT; rw [if_pos hb]
      rw [e] at k
      exact k _ _ ⟨rfl, hR.ex e1, ex_bu e1⟩
    have nst : ¬ s.st = true := by rw [hst]; exact Bool.false_ne_true
    have hR1 := hR.ex e1
    refine s_if (b := decide (c < 0)) (by walk_at "et") (fun hb H2 e2 => ?_) (fun hb H2 e2 => ?_)
    · have e : takeT s c = { s with st := true } := by unfold takeT; rw [if_neg nst, if_pos (of_decide_eq_true hb)]
      rw [e] at k
      refine s_fld ev_c (ev_var rfl) (hR1.ex e2).1 T.cl_Translator T.na_Translator_stopped ff_len (fun H3 e3 => ?_)
      rw [pt_s]
      exact k _ _ ⟨rfl, ((hR1.ex e2).ex e3).set _ rfl rfl, bu_x (ex_bu (e1.trans (e2.trans e3)))⟩
    have n0 := of_decide_eq_false hb
    have hR2 := hR1.ex e2
    have e12 := e1.trans e2
    refine s_if (b := s.wa.isSome) (et_test (ev_op (ev_fld (ev_var rfl) hR2.1 T.cl_Translator T.na_Translator_waiting lk_w) ev_c rv_notN)) (fun hb H3 e3 => ?_) (fun hb H3 e3 => ?_)
    · obtain ⟨w, hw⟩ := Option.isSome_iff_exists.mp hb
      have e : takeT s c = skT s w c := by unfold takeT; rw [if_neg nst, if_neg n0, hw]
      rw [e] at k
      exact s_dropP (ep_skipped (ev_var rfl) hw (hR2.ex e3) (by omega) (by omega) (ea_cons (ev_var rfl) ea_nil)) fun v H4 h => k _ _ ⟨rfl, h.2.1, (ex_bu (e12.trans e3)).trans h.2.2⟩
    have hw : s.wa = none := by
      cases h : s.wa with
      | none => rfl
      | some w => rw [h] at hb; cases hb
    have hR3 := hR2.ex e3
    refine s_if (b := isDg c) (et_B (ev_call (ea_cons (ev_var rfl) ea_nil) v_is_digit)) (fun hd H4 e4 => ?_) (fun hd H4 e4 => ?_)
    · have e : takeT s c = { s with nu := some (10 * s.nu.getD 0 + c - 48) } := by unfold takeT; rw [if_neg nst, if_neg n0, hw]; exact if_pos hd
      rw [e] at k
      have hR4 := hR3.ex e4
      refine s_fld (ev_call (ea_cons (ev_or0 (ev_fld (ev_var rfl) hR4.1 T.cl_Translator T.na_Translator_numeral lk_n)) (ea_cons (ev_var rfl) ea_nil)) v_with_digit) (ev_var rfl) hR4.1 T.cl_Translator T.na_Translator_numeral ff_len (fun H5 e5 => ?_)
      rw [show putF "numeral" (V.int (10 * s.nu.getD 0 + c - 48)) (FF s qi qp) = FF { s with nu := some (10 * s.nu.getD 0 + c - 48) } qi qp from pt_n (z := some _)]
      exact k _ _ ⟨rfl, (hR4.ex e5).set _ rfl rfl, bu_x (ex_bu (e12.trans (e3.trans (e4.trans e5))))⟩
    · have e : takeT s c = sgT (endN s) c := by unfold takeT; rw [if_neg nst, if_neg n0, hw]; exact if_neg (by rw [hd]; exact Bool.false_ne_true)
      rw [e] at k
      have hl := endN_len s
      refine q_dropP (ep_T () (ev_var rfl) (hR3.ex e4) (by omega) (by omega) ea_nil) (fun v H5 h5 => ?_)
      exact s_dropP (ep_T c (ev_var rfl) h5.2.1 (by omega) (by omega) (ea_cons (ev_var rfl) ea_nil)) fun v H6 h => k _ _ ⟨rfl, h.2.1, ((ex_bu (e12.trans (e3.trans e4))).trans h5.2.2).trans h.2.2⟩
def sp_Translator_finish (K : PySem.W.Frag) (C : Addr) : Sp := fun vs H Q _ => ∃ (x dx qi qp : Addr) (s : TS), vs = [.ref x] ∧ RA C H x dx qi qp s ∧ s.im.length ≤ 50000 ∧ s.pl.length ≤ 50000 ∧ ∀ p H', H p = none → H' p = some (.lst ((finT s).im.map V.int)) → RA C H' x dx qi qp (finT s) → Bu [x, qi, qp] H H' → Q (.ref p) H'
theorem ep_finish {C x dx qi qp : Addr} {s : TS} {σ : L2.St} {H : Hp} {to : TE} (ho : Ev to σ H (.ref x)) (hR : RA C H x dx qi qp s) (hz : s.im.length ≤ 50000) (hp : s.pl.length ≤ 50000) : EvP (tMeth C "finish" (sp_Translator_finish K C) [] E0 to tNil) σ H (fun v H' => ∃ p, v = .ref p ∧ H p = none ∧ H' p = some (.lst ((finT s).im.map V.int)) ∧ RA C H' x dx qi qp (finT s) ∧ Bu [x, qi, qp] H H') :=
  ep_meth ho hR.1 (by rfl) ea_nil fun H1 e1 Q k => ⟨x, dx, qi, qp, s, rfl, hR.ex e1, hz, hp, fun p H' h1 h2 h3 h4 => k _ H' ⟨p, rfl, fresh_back e1 h1, h2, h3, (ex_bu e1).trans h4⟩⟩
theorem ok_Translator_finish (T : Txt K mg) : FnOk P w K mg base CX0 4 T.f_Translator_finish T.d_Translator_finish ["self"] (sp_Translator_finish K T.C_Translator) := by
  refine T.F_Translator_finish.ok sc_Translator_finish (fun vs H Q E h => ?_) (fun cdv A outer s H vs Q E hr h => ?_)
  · obtain ⟨x, dx, qi, qp, s, rfl, _⟩ := h
    rfl
  · obtain ⟨x, dx, qi, qp, s, rfl, hR, hz, hp, k⟩ := h
    refine ⟨_, (pss_cut (ps_if (pt_not (pt_val (pe_fld (pv 0) rfl))) (pss_cons (ps_expr (pe_meth0 (pv 0) T.cl_Translator T.m_Translator_end_numeral (ok_Translator_end_numeral T) (hr.mono (by decide)) T.b_Translator_end_numeral .nil pass0))
        (pss_cons (ps_expr (pe_meth (pv 0) T.cl_Translator T.m_Translator_emit (ok_Translator_emit T) (hr.mono (by decide)) T.b_Translator_emit .nil pass0 (pa_cons (pe_glob (v := .int 41) (by rfl) T.c_RETURN ⟨_, rfl⟩) (pa_cons pe_int pa_nil))))
        (pss_cons (ps_fld (pv 0) pe_non rfl)
        (pss_cons (ps_fld (pv 0) pe_bl rfl)
        (pss_one (ps_fld (pv 0) pe_bl rfl)))))) pss_nil)
        (pss_one (ps_ret (pe_callTy call_list_of (by rfl) T.n_list (by decide +kernel) (pa_cons (pe_fld (pv 0) rfl) pa_nil))))), ?_⟩
    refine q_cut (M := fun σ' H' => σ' = [some (.ref x)] ∧ RA T.C_Translator H' x dx qi qp (finT s) ∧ Bu [x, qi, qp] H H') ?_ ?_
    · refine s_when (b := !s.fi) (et_not (et_B (ev_fld (ev_var rfl) hR.1 T.cl_Translator T.na_Translator_finished lk_f))) (fun hb H1 e1 => ?_) (fun hb H1 e1 => ?_)
      · have hf : ¬ s.fi = true := by simpa using hb
        have e : finT s = { emT (endN s) 41 0 with wa := none, st := true, fi := true } := by unfold finT; rw [if_neg hf]
        have hl := endN_len s
        have hl2 := em_len (endN s) 41 0
        refine q_dropP (ep_T () (ev_var rfl) (hR.ex e1) (by omega) (by omega) ea_nil) (fun v H2 h2 => ?_)
        refine q_dropP (ep_T (41, 0) (ev_var rfl) h2.2.1 (by omega) (by omega) (ea_cons ev_c (ea_cons ev_c ea_nil))) (fun v H3 h3 => ?_)
        have hR3 := h3.2.1
        refine q_fld ev_c (ev_var rfl) hR3.1 T.cl_Translator T.na_Translator_waiting ff_len (fun H4 e4 => ?_)
        have hR4 := (hR3.ex e4).set { emT (endN s) 41 0 with wa := none } rfl rfl
        refine q_fld ev_c (ev_var rfl) hR4.1 T.cl_Translator T.na_Translator_stopped ff_len (fun H5 e5 => ?_)
        have hR5 := (hR4.ex e5).set { emT (endN s) 41 0 with wa := none, st := true } rfl rfl
        refine s_fld ev_c (ev_var rfl) hR5.1 T.cl_Translator T.na_Translator_finished ff_len (fun H6 e6 => ?_)
        refine ⟨rfl, ?_, ?_⟩
        · rw [e]
          exact (hR5.ex e6).set { emT (endN s) 41 0 with wa := none, st := true, fi := true } rfl rfl
        · exact bu_x ((bu_x ((bu_x ((((ex_bu e1).trans h2.2.2).trans h3.2.2).trans (ex_bu e4))).trans (ex_bu e5))).trans (ex_bu e6))
      · have hf : s.fi = true := by simpa using hb
        have e : finT s = s := by unfold finT; rw [if_pos hf]
        rw [e]
        exact ⟨rfl, hR.ex e1, ex_bu e1⟩
    · rintro σ' H1 ⟨rfl, hR1, b1⟩
      refine s_retL (el_list (ev_fld (ev_var rfl) hR1.1 T.cl_Translator T.na_Translator_image lk_i) (sq_of hR1.2.1)) (fun p H2 hp2 e2 h2 => k p H2 ?_ h2 (hR1.ex e2) (b1.trans (ex_bu e2)))
      cases h : H p with
      | none => rfl
      | some o =>
        by_cases m : p ∈ [x, qi, qp]
        · simp only [List.mem_cons, List.not_mem_nil, or_false] at m
          rcases m with rfl | rfl | rfl
          · rw [hR1.1] at hp2; cases hp2
          · rw [hR1.2.1] at hp2; cases hp2
          · rw [hR1.2.2.1] at hp2; cases hp2
        · rw [b1 _ _ m h] at hp2
          cases hp2
/-- a new translator -/
def NewT (C : Addr) (H : Hp) (f b : Int) : V → Hp → Prop := fun v H' => ∃ x dx qi qp, v = .ref x ∧ H x = none ∧ H qi = none ∧ H qp = none ∧ RA C H' x dx qi qp (t0 f b) ∧ Ex H H'
theorem ep_newT {C : Addr} {f b : Int} {gV : List V → List V → List V} {σ : L2.St} {H : Hp} {tk : TA} (hg : ∀ v : V, gV [v] [.int f, .int b] = [v, .int f, .int b]) (ht : EvA tk σ H [.int f, .int b]) : EvP (tMakeK C 0 2 (sp_Translator_init K C) gV E0 tNil tk) σ H (NewT C H f b) := fun Q q =>
  ht H (Ex.refl H) _ fun H2 e2 => ⟨rfl, rfl, fun x dx nx ndx ne => by
    rw [hg]
    refine ⟨x, dx, f, b, rfl, upd_same, fun qi qp H' h1 h2 hR kp => ⟨rfl, q _ H' ⟨x, dx, qi, qp, rfl, fresh_back e2 nx, fresh_back e2 ?_, fresh_back e2 ?_, hR, e2.trans ?_⟩⟩⟩
    · have n1 : qi ≠ x := fun e => by rw [e, upd_same] at h1; cases h1
      have n2 : qi ≠ dx := fun e => by rw [e, upd_ne ne, upd_same] at h1; cases h1
      rw [upd_ne n1, upd_ne n2] at h1
      exact h1
    · have n1 : qp ≠ x := fun e => by rw [e, upd_same] at h2; cases h2
      have n2 : qp ≠ dx := fun e => by rw [e, upd_ne ne, upd_same] at h2; cases h2
      rw [upd_ne n1, upd_ne n2] at h2
      exact h2
    · intro c o e
      exact kp c o (ne_of_none e nx) (by rw [upd_ne (ne_of_none e nx), upd_ne (ne_of_none e ndx)]; exact e)⟩
def imgT (ns : List Int) (first b : Int) : List Int := (finT (ns.foldl takeT (t0 first b))).im

theorem kb_translate_first_by (T : Txt K mg) : ∃ mv : List Value, KBn K T.d_translate ["codes", "first", "by"] 1 ["first", "by"] (fun us ws => (us ++ mv) ++ ws) (fun vs zs => (vs ++ ([] : List (Str × V)).map (·.2)) ++ zs) :=
  T.K_translate.kbinds0 (ps := ["codes", "first", "by"]) 1 ["first", "by"] [] (fun us mv ws => (us ++ mv) ++ ws) (by simp) (fun q m => nomatch m) (fun r1 r2 r3 => (r1.append r2).append r3) fun D doc pm an cdv ct us mv ws l1 l2 l3 => match us, mv, ws, l1, l2, l3 with
    | [_], [], [_, _], _, _, _ => rfl
theorem kb_translate_by_first (T : Txt K mg) : ∃ mv : List Value, KBn K T.d_translate ["codes", "first", "by"] 1 ["by", "first"] (fun us ws => (us ++ mv) ++ ws.reverse) (fun vs zs => (vs ++ ([] : List (Str × V)).map (·.2)) ++ zs.reverse) :=
  T.K_translate.kbinds0 (ps := ["codes", "first", "by"]) 1 ["by", "first"] [] (fun us mv ws => (us ++ mv) ++ ws.reverse) (by simp) (fun q m => nomatch m) (fun r1 r2 r3 => (r1.append r2).append r3.reverse) fun D doc pm an cdv ct us mv ws l1 l2 l3 => match us, mv, ws, l1, l2, l3 with
    | [_], [], [_, _], _, _, _ => rfl
theorem bs_translate (T : Txt K mg) : ∃ ds, Vals [V.int 200, V.int 1] ds ∧ Binds K T.d_translate ["codes", "first", "by"] ds :=
  T.K_translate.binds0 (ps := ["codes", "first", "by"]) 1 (by simp) rfl fun D doc pm an cdv ct us ks l1 l2 => match us, ks, l1, l2 with
    | [_], [_, _], _, _ => ⟨_, _, _, _, _, _, rfl, rfl, _, _, _, _, _, _, rfl, rfl, rfl⟩
def sp_translate (K : PySem.W.Frag) : Sp := fun vs H Q _ => ∃ (a : Addr) (ns : List Int) (first b : Int), vs = [.ref a, .int first, .int b] ∧ H a = some (.lst (ns.map V.int)) ∧ ns.length ≤ 1000 ∧ RetL ((imgT ns first b).map V.int) H Q
theorem l_translate {a : Addr} {ns : List Int} {f b : Int} {H : Hp} (h : H a = some (.lst (ns.map V.int))) (hl : ns.length ≤ 1000) : SpL (sp_translate K) [.ref a, .int f, .int b] H ((imgT ns f b).map V.int) := fun _ e _ q _ => ⟨a, ns, f, b, rfl, e _ _ h, hl, q⟩
theorem ok_translate (T : Txt K mg) : FnOk P w K mg base CX0 6 T.f_translate T.d_translate ["codes", "first", "by"] (sp_translate K) := by
  refine T.F_translate.ok sc_translate (fun vs H Q E h => ?_) (fun cdv A outer s H vs Q E hr h => ?_)
  · obtain ⟨a, ns, f, b, rfl, _⟩ := h
    rfl
  · obtain ⟨a, ns, f, b, rfl, hA, hl, k⟩ := h
    refine ⟨_, (pss_cons (ps_set (i := 3) sc_translate.nd rfl (Or.inl rfl) (pe_makeK0 T.m_Translator_init (ok_Translator_init T) (hr.mono (by decide)) (by rfl) T.gc_Translator (kb_Translator_init_first_by T).choose_spec pass0 (pk_cons (pv 1) (pk_cons (pv 2) pk_nil))))
        (pss_cons (ps_for PassesOwn.never rfl (pi_list (pv 0)) (pg_name (i := 4) sc_translate.nd rfl (Or.inl rfl)) (pss_one (ps_expr (pe_meth (pv 3) T.cl_Translator T.m_Translator_take (ok_Translator_take T) (hr.mono (by decide)) T.b_Translator_take .nil pass0 (pa_cons (pv 4) pa_nil)))))
        (pss_one (ps_ret (pe_meth0 (pv 3) T.cl_Translator T.m_Translator_finish (ok_Translator_finish T) (hr.mono (by decide)) T.b_Translator_finish .nil pass0))))), ?_⟩
    refine q_asgP (ep_newT (fun v => rfl) (ea_cons (ev_var rfl) (ea_cons (ev_var rfl) ea_nil))) (fun v H1 hv => ?_)
    obtain ⟨x, dx, qi, qp, rfl, nx, ni, np, hR, e1⟩ := hv
    have hA1 := e1 _ _ hA
    have na : a ∉ [x, qi, qp] := by
      simp [ne_of_none hA nx, ne_of_none hA ni, ne_of_none hA np]
    refine q_forLn (ev_var rfl) (sq_of hA1) (fun i σ' H' => RA T.C_Translator H' x dx qi qp ((ns.take i).foldl takeT (t0 f b)) ∧ Bu [x, qi, qp] H1 H' ∧ ∃ y, σ' = [some (.ref a), some (.int f), some (.int b), some (.ref x), y]) ?_ ?_ ?_ ?_
    · intro H2 e2
      exact ⟨hR.ex e2, ex_bu e2, none, rfl⟩
    · rintro i σ' H' _ ⟨_, bb, _⟩
      exact sq_of (bb _ _ na hA1)
    · rintro i c' σ' H' hx ⟨hR1, b1, y, rfl⟩
      obtain ⟨c, hc, rfl⟩ := map_at hx
      have hlen := run_len (ns.take i) (t0 f b)
      rw [List.length_take] at hlen
      have h4 : (t0 f b).im.length = 4 := rfl
      have h0 : (t0 f b).pl.length = 0 := rfl
      rw [foldl_snoc hc]
      exact s_dropP (ep_T c (ev_var rfl) hR1 (by omega) (by omega) (ea_cons (ev_var rfl) ea_nil)) fun v H3 h => ⟨h.2.1, b1.trans h.2.2, _, rfl⟩
    · rintro σ' H2 ⟨hR2, b2, y, rfl⟩
      rw [List.length_map, List.take_length] at hR2
      have hlen := run_len ns (t0 f b)
      have h4 : (t0 f b).im.length = 4 := rfl
      have h0 : (t0 f b).pl.length = 0 := rfl
      refine s_retP (ep_finish (ev_var rfl) hR2 (by omega) (by omega)) (fun v H3 hv => ?_)
      obtain ⟨p, rfl, hp, h3, hR3, b3⟩ := hv
      have bb : Ex H H3 := fun c o e => by
        have m : c ∉ [x, qi, qp] := by simp [ne_of_none e nx, ne_of_none e ni, ne_of_none e np]
        exact b3 _ _ m (b2 _ _ m (e1 _ _ e))
      refine k p H3 ?_ bb h3
      cases h : H p with
      | none => rfl
      | some o =>
        have m : p ∉ [x, qi, qp] := by simp [ne_of_none h nx, ne_of_none h ni, ne_of_none h np]
        rw [b2 _ _ m (e1 _ _ h)] at hp
        cases hp


end
end K66

set_option Elab.async false
set_option linter.all false
set_option maxRecDepth 100000
set_option maxHeartbeats 4000000
namespace K66
open PySem PySem.Spec PyProof.Rows L2 Evl Gd
/-! ### how expressions are evaluated, without a word of ours -/
local macro_rules | `(tactic| walk_at "ev") => `(tactic| exact ev_c)
local macro_rules | `(tactic| walk_at "ev") => `(tactic| exact ev_var rfl)
local macro_rules | `(tactic| walk_at "ev") => `(tactic| (refine' ev_op ?k1 ?k2 ?k3; (case k1 => walk_at "ev"); (case k2 => walk_at "ev"); (case k3 => walk_at "rv")))
local macro_rules | `(tactic| walk_at "ev") => `(tactic| (refine' ev_cb ?k1 ?k2; (case k1 => walk_at "ea"); (case k2 => walk_at "rc")))
local macro_rules | `(tactic| walk_at "ev") => `(tactic| (refine' ev_call ?k1 ?k2; (case k1 => walk_at "ea"); (case k2 => walk_at "sp")))
local macro_rules | `(tactic| walk_at "ev") => `(tactic| (refine' ev_chain ?k1 ?k2 ?k3 (fun _ => ?k4) (fun _ => ?k5); (case k1 => walk_at "ev"); (case k2 => walk_at "ev"); (case k3 => walk_at "rv"); (case k4 => walk_at "ev"); (case k5 => walk_at "rv")))
local macro_rules | `(tactic| walk_at "ev") => `(tactic| (refine' ev_orV ?k1 (fun _ => ?k2); (case k1 => walk_at "ev"); (case k2 => walk_at "ev")))
local macro_rules | `(tactic| walk_at "ev") => `(tactic| (refine' ev_andV ?k1 (fun _ => ?k2); (case k1 => walk_at "ev"); (case k2 => walk_at "ev")))
local macro_rules | `(tactic| walk_at "ev") => `(tactic| (refine' ev_notV ?k1; (case k1 => walk_at "ev")))
local macro_rules | `(tactic| walk_at "ea") => `(tactic| exact ea_nil)
local macro_rules | `(tactic| walk_at "ea") => `(tactic| (refine' ea_cons ?k1 ?k2; (case k1 => walk_at "ev"); (case k2 => walk_at "ea")))
local macro_rules | `(tactic| walk_at "rv") => `(tactic| exact rv_I0)
local macro_rules | `(tactic| walk_at "rv") => `(tactic| exact rv_eqI)
local macro_rules | `(tactic| walk_at "rv") => `(tactic| exact rv_neI)
local macro_rules | `(tactic| walk_at "rv") => `(tactic| exact rv_eqS)
local macro_rules | `(tactic| walk_at "rv") => `(tactic| exact rv_neS)
local macro_rules | `(tactic| walk_at "rv") => `(tactic| exact rv_mod (by decide))
local macro_rules | `(tactic| walk_at "rv") => `(tactic| exact rv_fdiv (by decide) (by decide))
local macro_rules | `(tactic| walk_at "rv") => `(tactic| exact rv_mulR (by decide))
local macro_rules | `(tactic| walk_at "rv") => `(tactic| exact rv_pow (by decide))
local macro_rules | `(tactic| walk_at "rc") => `(tactic| exact rc_int)
local macro_rules | `(tactic| walk_at "rc") => `(tactic| exact rc_ord)
local macro_rules | `(tactic| walk_at "et") => `(tactic| (refine' et_test ?k1; (case k1 => walk_at "ev")))
local macro_rules | `(tactic| walk_at "et") => `(tactic| (refine' et_B ?k1; (case k1 => walk_at "ev")))
local macro_rules | `(tactic| walk_at "et") => `(tactic| (refine' et_not ?k1; (case k1 => walk_at "et")))
local macro_rules | `(tactic| walk_at "et") => `(tactic| (refine' et_or ?k1 (fun _ => ?k2); (case k1 => walk_at "et"); (case k2 => walk_at "et")))
local macro_rules | `(tactic| walk_at "et") => `(tactic| (refine' et_and ?k1 (fun _ => ?k2); (case k1 => walk_at "et"); (case k2 => walk_at "et")))
section
variable {P : Program} {w : World} {K : PySem.W.Frag} {mg : Str → Option Value} {base : Heap}
/-! ### drawn programs -/
def sp_law_number (K : PySem.W.Frag) : Sp := fun vs H Q _ => ∃ c : Int, vs = [.int c] ∧ ∀ d : Int, RetV (.int (if c < 0 then 0 - c else c)) H Q
theorem v_law_number {c : Int} {H : Hp} : SpV (sp_law_number K) [.int c] H (.int (if c < 0 then 0 - c else c)) := fun _ _ _ q _ => ⟨c, rfl, fun _ => q⟩
theorem ok_law_number (T : Txt K mg) : FnOk P w K mg base CX0 1 T.f_law_number T.d_law_number ["cell"] (sp_law_number K) := by
  refine T.F_law_number.ok sc_law_number (fun vs H Q E h => ?_) (fun cdv A outer s H vs Q E hr h => ?_)
  · obtain ⟨c, rfl, _⟩ := h
    rfl
  · obtain ⟨c, rfl, k⟩ := h
    refine ⟨_, (pss_cons (ps_if (pt_cmpR op_lt (pv 0) pe_int (nomark _)) (pss_one (ps_ret (pe_op op_sub pe_int (pv 0)))) pss_nil)
        (pss_one (ps_ret (pv 0)))), ?_⟩
    have k := k 0
    refine q_when (b := decide (c < 0)) (by walk_at "et") (fun hb H1 e1 => ?_) (fun hb H1 e1 => ?_)
    · rw [if_pos (of_decide_eq_true hb)] at k
      exact s_ret (by walk_at "ev") fun H2 e2 => k H2 (e1.trans e2)
    · rw [if_neg (of_decide_eq_false hb)] at k
      exact s_ret (ev_var rfl) fun H2 e2 => k H2 (e1.trans e2)
def sp_law_draws (K : PySem.W.Frag) : Sp := fun vs H Q _ => ∃ (a : Addr) (ns : List Int), vs = [.ref a] ∧ SqL K H a (ns.map V.int) ∧ ns.length ≤ 63 ∧ ∀ p H2, H p = none → Ex H H2 → Drw p H2 → Q (.ref p) H2
theorem ok_law_draws (T : Txt K mg) : FnOk P w K mg base CX0 2 T.f_law_draws T.d_law_draws ["script"] (sp_law_draws K) := by
  refine T.F_law_draws.ok sc_law_draws (fun vs H Q E h => ?_) (fun cdv A outer s H vs Q E hr h => ?_)
  · obtain ⟨a, ns, rfl, _⟩ := h
    rfl
  · obtain ⟨a, ns, rfl, hS, hl, k⟩ := h
    refine ⟨_, (pss_cons (ps_set (i := 1) sc_law_draws.nd rfl (Or.inl rfl) (pe_lst pa_nil))
        (pss_cons (ps_for PassesOwn.never rfl (pi_list (pv 0)) (pg_name (i := 2) sc_law_draws.nd rfl (Or.inl rfl)) (pss_cons (ps_set (i := 3) sc_law_draws.nd rfl (Or.inl rfl) (pe_call (ok_law_number T) (hr.mono (by decide)) (by rfl) T.g_law_number T.F_law_number.kp T.b_law_number .nil pass0 (pa_cons (pv 2) pa_nil)))
        (pss_one (ps_if (pt_cmpR op_ge (pv 3) pe_int (nomark _)) (pss_one (ps_for PassesOwn.never rfl (pi_range1 (by rfl) T.n_range (pa_cons pe_int pa_nil)) (pg_name (i := 4) sc_law_draws.nd rfl (Or.inl rfl)) (pss_cons (ps_if (pt_cmpR op_eq (pv 3) pe_int (nomark _)) (pss_one ps_break) pss_nil)
        (pss_cons (ps_expr (pe_bm PySem.F.plainAttrs_list PySem.F.slot_list_append PySem.F.type_list_append mt_append (pv 1) (pa_cons (pe_op op_modN (pe_callTy call_int1 (by rfl) T.n_int (by decide +kernel) (pa_cons (pv 3) pa_nil)) pe_int) pa_nil)))
        (pss_one (ps_set (i := 3) sc_law_draws.nd rfl (Or.inl rfl) (pe_op op_fdivN (pv 3) pe_int))))))) (pss_cons (ps_set (i := 5) sc_law_draws.nd rfl (Or.inl rfl) (pe_op op_modN (pe_callTy call_int1 (by rfl) T.n_int (by decide +kernel) (pa_cons (pe_op op_add (pe_op op_mul (pv 3) pe_int) pe_int) pa_nil)) pe_int))
        (pss_cons (ps_set (i := 6) sc_law_draws.nd rfl (Or.inl rfl) (pe_op op_modN (pe_callTy call_int1 (by rfl) T.n_int (by decide +kernel) (pa_cons (pe_op op_add (pe_op op_mul (pv 5) pe_int) (pv 3)) pa_nil)) pe_int))
        (pss_one (ps_expr (pe_bm PySem.F.plainAttrs_list PySem.F.slot_list_extend PySem.F.type_list_extend mt_extend (pv 1) (pa_cons (pe_lst (pa_cons (pe_op op_modN (pe_callTy call_int1 (by rfl) T.n_int (by decide +kernel) (pa_cons (pv 3) pa_nil)) pe_int) (pa_cons (pe_op op_modN (pe_callTy call_int1 (by rfl) T.n_int (by decide +kernel) (pa_cons (pv 5) pa_nil)) pe_int) (pa_cons (pe_op op_modN (pe_callTy call_int1 (by rfl) T.n_int (by decide +kernel) (pa_cons (pv 6) pa_nil)) pe_int) pa_nil)))) pa_nil))))))))))
        (pss_one (ps_ret (pv 1))))), ?_⟩
    refine q_asgL (el_lst ea_nil (by decide)) (fun p H1 hp e1 d1 => ?_)
    have hS2 := ex_l e1 hS
    refine q_forLn (ev_var rfl) hS2 (fun i σ' H' => Ex H H' ∧ ∃ (ds : List Int) (y3 y4 y5 y6 y7 : Option V), H' p = some (.lst (ds.map V.int)) ∧ (∀ d ∈ ds, 0 ≤ d ∧ d < 1000) ∧ ds.length ≤ 60 * i ∧
      σ' = [some (.ref a), some (.ref p), y3, y4, y5, y6, y7]) ?_ ?_ ?_ ?_
    · intro H3 e3
      exact ⟨e1.trans e3, [], none, none, none, none, none, e3 _ _ d1, Small.nil.1, Nat.zero_le _, rfl⟩
    · rintro i σ' H' _ ⟨e3, _⟩
      exact ex_l e3 hS
    · rintro i x σ' H' hx ⟨e3, ds, y3, y4, y5, y6, y7, hd, hs, hlen, rfl⟩
      obtain ⟨c, hc, rfl⟩ := map_at hx
      have hi : i < 63 := by
        have := (List.getElem?_eq_some_iff.mp hc).1
        omega
      refine q_asg (ev_call (ea_cons (ev_var rfl) ea_nil) v_law_number) (fun H4 e4 => ?_)
      generalize (if c < 0 then 0 - c else c) = rest
      refine s_if (b := decide (1000000000000000000 ≤ rest)) (by walk_at "et") (fun hb H6 e6 => ?_) (fun hb H6 e6 => ?_)
      · refine s_forR1 (n := 60) (ea_cons ev_c ea_nil) (by decide) (fun j σ' H' => Ex H H' ∧ ∃ (es : List Int) (rs : Int) (y5 : Option V), H' p = some (.lst (es.map V.int)) ∧ (∀ d ∈ es, 0 ≤ d ∧ d < 1000) ∧ es.length ≤ 60 * i + j ∧
          σ' = [some (.ref a), some (.ref p), some (.int c), some (.int rs), y5, y6, y7]) ?_ ?_ ?_
        · intro H7 e7
          exact ⟨e3.trans (e4.trans (e6.trans e7)), ds, rest, y5, e7 _ _ (e6 _ _ (e4 _ _ hd)), hs, hlen, rfl⟩
        · rintro j σ' H' hj ⟨e7, es, rs, z5, he, hes, hel, rfl⟩
          refine q_when (b := decide (rs = 0)) (by walk_at "et") (fun hb H8 e8 => ?_) (fun hb H8 e8 => ?_)
          · exact ⟨e7.trans e8, es, _, _, _, _, _, e8 _ _ he, hes, by omega, rfl⟩
          · refine q_app (e8 _ _ he) (ev_var rfl) (ev_op (ev_cb (ea_cons (ev_var rfl) ea_nil) rc_int) ev_c (rv_mod (by decide))) (by rw [List.length_map]; omega) (fun H9 e9 => ?_)
            refine s_asg (ev_op (ev_var rfl) ev_c (rv_fdiv (by decide) (by decide))) (fun H10 e10 => ?_)
            refine ⟨((Ex.mut ((e7.trans e8).trans e9) hp).trans e10), es ++ [rs.fmod 1000], rs.fdiv 1000, some (.int (j : Int)), ?_, Small.one hes (fmod_in rs (by decide)), by rw [List.length_append]; simp; omega, rfl⟩
            rw [List.map_append]
            exact e10 _ _ upd_same
        · rintro σ' H' ⟨e7, es, rs, z5, he, hes, hel, rfl⟩
          exact ⟨e7, es, _, _, _, _, _, he, hes, by have : ((60 : Int).toNat) = 60 := rfl; omega, rfl⟩
      · refine q_asg (ev_op (ev_cb (ea_cons (ev_op (ev_op (ev_var rfl) ev_c (rv_mulR (by decide))) ev_c rv_I0) ea_nil) rc_int) ev_c (rv_mod (by decide))) (fun H7 e7 => ?_)
        refine q_asg (ev_op (ev_cb (ea_cons (ev_op (ev_op (ev_var rfl) ev_c (rv_mulR (by decide))) (ev_var rfl) rv_I0) ea_nil) rc_int) ev_c (rv_mod (by decide))) (fun H8 e8 => ?_)
        generalize (rest * 48271 + 11).fmod 2147483647 = once
        generalize (once * 69621 + rest).fmod 2147483629 = twice
        refine s_ext (xs := ds.map V.int) (e8 _ _ (e7 _ _ (e6 _ _ (e4 _ _ hd)))) (ev_var rfl) (el_lst (vs := [.int (rest.fmod 1000), .int (once.fmod 1000), .int (twice.fmod 1000)]) (ea_cons (ev_op (ev_cb (ea_cons (ev_var rfl) ea_nil) rc_int) ev_c (rv_mod (by decide))) (ea_cons (ev_op (ev_cb (ea_cons (ev_var rfl) ea_nil) rc_int) ev_c (rv_mod (by decide))) (ea_cons (ev_op (ev_cb (ea_cons (ev_var rfl) ea_nil) rc_int) ev_c (rv_mod (by decide))) ea_nil))) (by show 3 ≤ 100000; decide)) (by rw [List.length_map]; show ds.length + 3 ≤ 100000; omega) (fun H9 e9 => ?_)
        refine ⟨Ex.mut (e3.trans (e4.trans (e6.trans (e7.trans (e8.trans e9))))) hp, ds ++ [rest.fmod 1000, once.fmod 1000, twice.fmod 1000], _, _, _, _, _, ?_, Small.app hs ?_, ?_, rfl⟩
        · rw [List.map_append]
          exact upd_same
        · intro d hd'
          simp only [List.mem_cons, List.not_mem_nil, or_false] at hd'
          rcases hd' with rfl | rfl | rfl <;> exact fmod_in _ (by decide)
        · rw [List.length_append]
          show ds.length + 3 ≤ 60 * (i + 1)
          omega
    · rintro σ' H' ⟨e3, ds, y3, y4, y5, y6, y7, hd, hs, hlen, rfl⟩
      rw [List.length_map] at hlen
      exact s_ret (ev_var rfl) (fun H6 e6 => k p H6 hp (e3.trans e6) ⟨ds, e6 _ _ hd, hs, by omega⟩)
def sp_law_next (K : PySem.W.Frag) : Sp := fun vs H Q _ => ∃ p : Addr, vs = [.ref p] ∧ Drw p H ∧ ∀ v H', DP p H (fun d => 0 ≤ d ∧ d < 1000) v H' → Q v H'
theorem ok_law_next (T : Txt K mg) : FnOk P w K mg base CX0 1 T.f_law_next T.d_law_next ["draws"] (sp_law_next K) := by
  refine T.F_law_next.ok sc_law_next (fun vs H Q E h => ?_) (fun cdv A outer s H vs Q E hr h => ?_)
  · obtain ⟨p, rfl, _⟩ := h
    rfl
  · obtain ⟨p, rfl, hD, k⟩ := h
    refine ⟨_, (pss_cons (ps_if (pt_truth (pv 0) (by intro _; rfl)) (pss_one (ps_ret (pe_bm0 PySem.F.plainAttrs_list PySem.F.slot_list_pop PySem.F.type_list_pop mt_pop (pv 0)))) pss_nil)
        (pss_one (ps_ret pe_int))), ?_⟩
    obtain ⟨ds, hd, hs, hlen⟩ := hD
    refine q_when (et_truL (K := K) (ev_var rfl) (sq_of hd)) (fun hb H1 e1 => ?_) (fun hb H1 e1 => ?_)
    · have hne : ds ≠ [] := by intro z; subst z; cases hb
      obtain ⟨es, d, rfl⟩ : ∃ es d, ds = es ++ [d] := ⟨ds.dropLast, ds.getLast hne, (List.dropLast_concat_getLast hne).symm⟩
      have hm : (es ++ [d]).map V.int = es.map V.int ++ [.int d] := by rw [List.map_append]; rfl
      rw [hm] at hd
      refine ⟨_, rfl, .inl ⟨rfl, _, sq_of (e1 _ _ hd)⟩, p, es.map V.int ++ [.int d], .int d, rfl, rfl, e1 _ _ hd, ?_, ?_⟩
      · rw [List.length_append]
        simp
      · have hd2 := hs d (List.mem_append_right _ (List.mem_singleton.mpr rfl))
        refine k _ _ ⟨d, rfl, hd2, ⟨es, ?_, fun x hx => hs x (List.mem_append_left _ hx), ?_⟩, but_mut (ex_but e1) rfl⟩
        · rw [List.dropLast_concat]
          exact upd_same
        · rw [List.length_append] at hlen
          omega
    · exact s_ret ev_c fun H2 e2 => k _ H2 ⟨0, rfl, by decide, ⟨ds, e2 _ _ (e1 _ _ hd), hs, hlen⟩, ex_but (e1.trans e2)⟩
theorem ep_next {p : Addr} {i : Nat} {σ : L2.St} {H : Hp} (hi : σ[i]? = some (some (.ref p))) (hD : Drw p H) : EvP (tCall (sp_law_next K) [] E0 (tCons (tVar i) tNil)) σ H (DP p H fun d => 0 ≤ d ∧ d < 1000) := fun Q q => ⟨_, hi, p, rfl, hD, q⟩

/-! ### the law's own translator -/
def xL : Option (V × V × V) → List (Key × V)
  | none => []
  | some (a, b, c) => [(.inr "numeral", a), (.inr "waiting", b), (.inr "over", c)]
def KVs (s : TS) (zi zp : Addr) : List (Key × V) := [(.inr "image", .ref zi), (.inr "m", .int s.m), (.inr "k", .int s.k), (.inr "by", .int s.b), (.inr "pile", .ref zp)] ++ xL s.ex
def DA (H : Hp) (d zi zp : Addr) (s : TS) : Prop := H d = some (.dK (KVs s zi zp)) ∧ H zi = some (.lst (s.im.map V.int)) ∧ H zp = some (.lst (s.pl.map V.int)) ∧ zi ≠ zp
section
variable {d zi zp : Addr} {H H' H1 : Hp} {s s' : TS}
theorem DA.ni (h : DA H d zi zp s) : zi ≠ d := ne_of h.2.1 h.1 (by intro z; cases z)
theorem DA.np (h : DA H d zi zp s) : zp ≠ d := ne_of h.2.2.1 h.1 (by intro z; cases z)
theorem DA.ex (h : DA H d zi zp s) (e : Ex H H') : DA H' d zi zp s := ⟨e _ _ h.1, e _ _ h.2.1, e _ _ h.2.2.1, h.2.2.2⟩
theorem DA.set (h : DA H d zi zp s) (s' : TS) (e1 : s'.im = s.im) (e2 : s'.pl = s.pl) : DA (upd H d (.dK (KVs s' zi zp))) d zi zp s' := ⟨upd_same, by rw [upd_ne h.ni, e1]; exact h.2.1, by rw [upd_ne h.np, e2]; exact h.2.2.1, h.2.2.2⟩
theorem DA.img (h : DA H d zi zp s) (l : List Int) : DA (upd H zi (.lst (l.map V.int))) d zi zp { s with im := l } := ⟨by rw [upd_ne (Ne.symm h.ni)]; exact h.1, upd_same, by rw [upd_ne (Ne.symm h.2.2.2)]; exact h.2.2.1, h.2.2.2⟩
theorem DA.pil (h : DA H d zi zp s) (l : List Int) : DA (upd H zp (.lst (l.map V.int))) d zi zp { s with pl := l } := ⟨by rw [upd_ne (Ne.symm h.np)]; exact h.1, by rw [upd_ne h.2.2.2]; exact h.2.1, upd_same, h.2.2.2⟩
theorem DA.re (h : DA H d zi zp s) (s' : TS) (e : KVs s' zi zp = KVs s zi zp) (e1 : s'.im = s.im) (e2 : s'.pl = s.pl) : DA H d zi zp s' := ⟨by rw [e]; exact h.1, by rw [e1]; exact h.2.1, by rw [e2]; exact h.2.2.1, h.2.2.2⟩
theorem db_d {o : HO} (b : Bu [d, zi, zp] H H') : Bu [d, zi, zp] H (upd H' d o) := b.upd (.inl (by simp))
theorem db_i {o : HO} (b : Bu [d, zi, zp] H H') : Bu [d, zi, zp] H (upd H' zi o) := b.upd (.inl (by simp))
theorem db_p {o : HO} (b : Bu [d, zi, zp] H H') : Bu [d, zi, zp] H (upd H' zp o) := b.upd (.inl (by simp))
end
theorem kv_len {H : Hp} {d : Addr} {s : TS} {zi zp : Addr} (h : DA H d zi zp s) : (KVs s zi zp).length < 1000 := by
  unfold KVs
  cases s.ex <;> simp [xL]
theorem kl_i {s : TS} {zi zp : Addr} : valV (KVs s zi zp) (.inr "image") = some (.ref zi) := rfl
theorem kl_m {s : TS} {zi zp : Addr} : valV (KVs s zi zp) (.inr "m") = some (.int s.m) := rfl
theorem kl_k {s : TS} {zi zp : Addr} : valV (KVs s zi zp) (.inr "k") = some (.int s.k) := rfl
theorem kl_b {s : TS} {zi zp : Addr} : valV (KVs s zi zp) (.inr "by") = some (.int s.b) := rfl
theorem kl_p {s : TS} {zi zp : Addr} : valV (KVs s zi zp) (.inr "pile") = some (.ref zp) := rfl
theorem kp_m {s : TS} {zi zp : Addr} {z : Int} : putK (KVs s zi zp) (.inr "m") (.int z) = KVs { s with m := z } zi zp := by
  cases s with
  | mk im m k pl nu wa b st fi ex => cases ex <;> rfl
theorem kp_k {s : TS} {zi zp : Addr} {z : Int} : putK (KVs s zi zp) (.inr "k") (.int z) = KVs { s with k := z } zi zp := by
  cases s with
  | mk im m k pl nu wa b st fi ex => cases ex <;> rfl
def Dt (d zi zp : Addr) (H : Hp) (s' : TS) (r : V) : V → Hp → Prop := fun v H' => v = r ∧ DA H' d zi zp s' ∧ Bu [d, zi, zp] H H'
theorem dt_bk {d zi zp : Addr} {H H1 H' : Hp} {s' : TS} {r v : V} (h : Dt d zi zp H1 s' r v H') (b : Bu [d, zi, zp] H H1) : Dt d zi zp H s' r v H' := ⟨h.1, h.2.1, b.trans h.2.2⟩
def spD {α : Type} (n : Nat) (arg : α → List V) (f : TS → α → TS) (r : TS → α → V) : Sp := fun vs H Q _ => ∃ (d zi zp : Addr) (s : TS) (a : α), vs = .ref d :: arg a ∧ DA H d zi zp s ∧ s.im.length ≤ n ∧ s.pl.length ≤ n ∧ ∀ v H', Dt d zi zp H (f s a) (r s a) v H' → Q v H'
theorem ep_D {α : Type} {d zi zp : Addr} {n : Nat} {arg : α → List V} {f : TS → α → TS} {r : TS → α → V} {s : TS} {σ : L2.St} {H : Hp} {t : TA} (a : α) (hA : DA H d zi zp s) (hz : s.im.length ≤ n) (hp : s.pl.length ≤ n) (ht : EvA t σ H (.ref d :: arg a)) : EvP (tCall (spD n arg f r) [] E0 t) σ H (Dt d zi zp H (f s a) (r s a)) :=
  ep_call ht fun H1 e1 Q k => ⟨d, zi, zp, s, a, by rw [List.append_nil], hA.ex e1, hz, hp, fun v H' h => k v H' (dt_bk h (ex_bu e1))⟩
def sp_law_pull (K : PySem.W.Frag) : Sp := fun vs H Q _ => ∃ (d zi zp : Addr) (s : TS), vs = [.ref zp] ∧ DA H d zi zp s ∧ ∀ v H', Dt d zi zp H (popT s) (.int (topT s)) v H' → Q v H'
theorem ep_pull {d zi zp : Addr} {s : TS} {σ : L2.St} {H : Hp} {t : TA} (hA : DA H d zi zp s) (ht : EvA t σ H [.ref zp]) : EvP (tCall (sp_law_pull K) [] E0 t) σ H (Dt d zi zp H (popT s) (.int (topT s))) :=
  ep_call ht fun H1 e1 Q k => ⟨d, zi, zp, s, rfl, hA.ex e1, fun v H' h => k v H' (dt_bk h (ex_bu e1))⟩
theorem ok_law_pull (T : Txt K mg) : FnOk P w K mg base CX0 1 T.f_law_pull T.d_law_pull ["pile"] (sp_law_pull K) := by
  refine T.F_law_pull.ok sc_law_pull (fun vs H Q E h => ?_) (fun cdv A outer s H vs Q E hr h => ?_)
  · obtain ⟨d, zi, zp, s, rfl, _⟩ := h
    rfl
  · obtain ⟨d, zi, zp, s, rfl, hA, k⟩ := h
    refine ⟨_, (pss_cons (ps_if (pt_truth (pv 0) (by intro _; rfl)) (pss_one (ps_ret (pe_bm0 PySem.F.plainAttrs_list PySem.F.slot_list_pop PySem.F.type_list_pop mt_pop (pv 0)))) pss_nil)
        (pss_one (ps_ret pe_int))), ?_⟩
    refine q_when (et_truL (K := K) (ev_var rfl) (sq_of hA.2.2.1)) (fun hb H1 e1 => ?_) (fun hb H1 e1 => ?_)
    · have hne : s.pl ≠ [] := by intro z; rw [z] at hb; cases hb
      have hd : s.pl = s.pl.dropLast ++ [topT s] := by
        unfold topT
        rw [List.getLast?_eq_some_getLast hne]
        exact (List.dropLast_concat_getLast hne).symm
      have hA1 := hA.ex e1
      have hq := hA1.2.2.1
      rw [hd, List.map_append] at hq
      refine ⟨_, rfl, .inl ⟨rfl, _, sq_of hq⟩, zp, s.pl.dropLast.map V.int ++ [.int (topT s)], .int (topT s), rfl, rfl, hq, ?_, ?_⟩
      · rw [List.length_append]
        simp
      · refine k _ _ ⟨rfl, ?_, db_p (ex_bu e1)⟩
        rw [List.dropLast_concat]
        exact hA1.pil s.pl.dropLast
    · have he : s.pl = [] := by
        cases h : s.pl with
        | nil => rfl
        | cons c r => rw [h] at hb; cases hb
      have e0 : topT s = 0 := by unfold topT; rw [he]; rfl
      have e1' : popT s = s := by unfold popT; rw [he]; cases s; simp at he; subst he; rfl
      rw [e0, e1'] at k
      exact s_ret ev_c fun H2 e2 => k _ H2 ⟨rfl, hA.ex (e1.trans e2), ex_bu (e1.trans e2)⟩
def sp_law_emit (K : PySem.W.Frag) : Sp := spD 80000 (fun a : Int × Int => [.int a.1, .int a.2]) (fun s a => emT s a.1 a.2) (fun _ _ => .non)
theorem ok_law_emit (T : Txt K mg) : FnOk P w K mg base CX0 1 T.f_law_emit T.d_law_emit ["state", "op", "arg"] (sp_law_emit K) := by
  refine T.F_law_emit.ok sc_law_emit (fun vs H Q E h => ?_) (fun cdv A outer s H vs Q E hr h => ?_)
  · obtain ⟨d, zi, zp, s, a, rfl, _⟩ := h
    rfl
  · obtain ⟨d, zi, zp, s, ⟨op, arg⟩, rfl, hA, hz, hp, k⟩ := h
    refine ⟨_, (pss_cons (ps_expr (pe_bm PySem.F.plainAttrs_list PySem.F.slot_list_extend PySem.F.type_list_extend mt_extend (pe_dget (hu_of hr) (pv 0) pe_str (fun _ _ => rfl)) (pa_cons (pe_lst (pa_cons (pe_dget (hu_of hr) (pv 0) pe_str (fun _ _ => rfl)) (pa_cons (pv 1) (pa_cons (pv 2) (pa_cons (pe_dget (hu_of hr) (pv 0) pe_str (fun _ _ => rfl)) pa_nil))))) pa_nil)))
        (pss_cons (ps_dput (hu_of hr) (pv 0) pe_str (pe_dget (hu_of hr) (pv 0) pe_str (fun _ _ => rfl)) rfl)
        (pss_one (ps_dput (hu_of hr) (pv 0) pe_str (pe_op op_add (pe_dget (hu_of hr) (pv 0) pe_str (fun _ _ => rfl)) (pe_dget (hu_of hr) (pv 0) pe_str (fun _ _ => rfl))) rfl)))), ?_⟩
    dsimp only at k
    refine q_ext hA.2.1 (ev_dget (ev_var rfl) ev_c hA.1 kl_i) (el_lst (vs := [.int s.m, .int op, .int arg, .int s.k]) (ea_cons (ev_dget (ev_var rfl) ev_c hA.1 kl_m) (ea_cons (ev_var rfl) (ea_cons (ev_var rfl) (ea_cons (ev_dget (ev_var rfl) ev_c hA.1 kl_k) ea_nil)))) (by show 4 ≤ 100000; decide)) (by rw [List.length_map]; show s.im.length + 4 ≤ 100000; omega) (fun H1 e1 => ?_)
    have e : s.im.map V.int ++ [.int s.m, .int op, .int arg, .int s.k] = (s.im ++ [s.m, op, arg, s.k]).map V.int := by rw [List.map_append]; rfl
    rw [e]
    have hA1 := (hA.ex e1).img (s.im ++ [s.m, op, arg, s.k])
    refine q_dput (k := .inr "m") (ev_dget (ev_var rfl) ev_c hA1.1 kl_k) (ev_var rfl) ev_c hA1.1 (kv_len hA1) (fun H2 e2 => ?_)
    rw [kp_m]
    have hA2 := (hA1.ex e2).set { s with im := s.im ++ [s.m, op, arg, s.k], m := s.k } rfl rfl
    refine s_dput (k := .inr "k") (ev_op (ev_dget (ev_var rfl) ev_c hA2.1 kl_k) (ev_dget (ev_var rfl) ev_c hA2.1 kl_b) rv_I0) (ev_var rfl) ev_c hA2.1 (kv_len hA2) (fun H3 e3 => ?_)
    rw [kp_k]
    exact k _ _ ⟨rfl, (hA2.ex e3).set (emT s op arg) rfl rfl, db_d ((db_d ((db_i (ex_bu e1)).trans (ex_bu e2))).trans (ex_bu e3))⟩
def sp_law_branch (K : PySem.W.Frag) : Sp := fun vs H Q _ => ∃ (d zi zp : Addr) (s : TS) (c : Int) (f : TS → TS), vs = [.ref d, .int c] ∧ DA H d zi zp s ∧ s.im.length ≤ 70000 ∧ s.pl.length ≤ 70000 ∧ c ≠ 59 ∧ brT c = some f ∧ ∀ v H', Dt d zi zp H (f s) .non v H' → Q v H'
theorem ep_branch {d zi zp : Addr} {s : TS} {c : Int} {f : TS → TS} {σ : L2.St} {H : Hp} {t : TA} (hA : DA H d zi zp s) (hz : s.im.length ≤ 70000) (hp : s.pl.length ≤ 70000) (h59 : c ≠ 59) (hf : brT c = some f) (ht : EvA t σ H [.ref d, .int c]) : EvP (tCall (sp_law_branch K) [] E0 t) σ H (Dt d zi zp H (f s) .non) :=
  ep_call ht fun H1 e1 Q k => ⟨d, zi, zp, s, c, f, rfl, hA.ex e1, hz, hp, h59, hf, fun v H' h => k v H' (dt_bk h (ex_bu e1))⟩
theorem ok_law_branch (T : Txt K mg) : FnOk P w K mg base CX0 2 T.f_law_branch T.d_law_branch ["state", "code"] (sp_law_branch K) := by
  refine T.F_law_branch.ok sc_law_branch (fun vs H Q E h => ?_) (fun cdv A outer s H vs Q E hr h => ?_)
  · obtain ⟨d, zi, zp, s, c, f, rfl, _⟩ := h
    rfl
  · obtain ⟨d, zi, zp, s, c, f, rfl, hA, hz, hp, h59, hf, k⟩ := h
    refine ⟨_, (pss_cons (ps_set (i := 2) sc_law_branch.nd rfl (Or.inl rfl) (pe_dget (hu_of hr) (pv 0) pe_str (fun _ _ => rfl)))
        (pss_cons (ps_set (i := 3) sc_law_branch.nd rfl (Or.inl rfl) (pe_dget (hu_of hr) (pv 0) pe_str (fun _ _ => rfl)))
        (pss_one (ps_if (pt_cmpR op_eq (pv 1) pe_int (nomark _)) (pss_cons (ps_expr (pe_bm PySem.F.plainAttrs_list PySem.F.slot_list_append PySem.F.type_list_append mt_append (pv 2) (pa_cons (pv 3) pa_nil)))
        (pss_cons (ps_dput (hu_of hr) (pv 0) pe_str (pe_op op_add (pv 3) (pe_dget (hu_of hr) (pv 0) pe_str (fun _ _ => rfl))) rfl)
        (pss_one (ps_expr (pe_call (ok_law_emit T) (hr.mono (by decide)) (by rfl) T.g_law_emit T.F_law_emit.kp T.b_law_emit .nil pass0 (pa_cons (pv 0) (pa_cons pe_int (pa_cons (pv 3) pa_nil)))))))) (pss_one (ps_if (pt_cmpR op_eq (pv 1) pe_int (nomark _)) (pss_cons (ps_set (i := 4) sc_law_branch.nd rfl (Or.inl rfl) (pe_call (ok_law_pull T) (hr.mono (by decide)) (by rfl) T.g_law_pull T.F_law_pull.kp T.b_law_pull .nil pass0 (pa_cons (pv 2) pa_nil)))
        (pss_cons (ps_expr (pe_bm PySem.F.plainAttrs_list PySem.F.slot_list_extend PySem.F.type_list_extend mt_extend (pe_dget (hu_of hr) (pv 0) pe_str (fun _ _ => rfl)) (pa_cons (pe_lst (pa_cons (pe_dget (hu_of hr) (pv 0) pe_str (fun _ _ => rfl)) (pa_cons pe_int (pa_cons pe_int (pa_cons (pv 4) pa_nil))))) pa_nil)))
        (pss_one (ps_dput (hu_of hr) (pv 0) pe_str (pv 4) rfl)))) (pss_one (ps_if (pt_cmpR op_eq (pv 1) pe_int (nomark _)) (pss_cons (ps_set (i := 5) sc_law_branch.nd rfl (Or.inl rfl) (pe_call (ok_law_pull T) (hr.mono (by decide)) (by rfl) T.g_law_pull T.F_law_pull.kp T.b_law_pull .nil pass0 (pa_cons (pv 2) pa_nil)))
        (pss_cons (ps_dput (hu_of hr) (pv 0) pe_str (pe_op op_add (pv 3) (pe_dget (hu_of hr) (pv 0) pe_str (fun _ _ => rfl))) rfl)
        (pss_cons (ps_expr (pe_bm PySem.F.plainAttrs_list PySem.F.slot_list_extend PySem.F.type_list_extend mt_extend (pe_dget (hu_of hr) (pv 0) pe_str (fun _ _ => rfl)) (pa_cons (pe_lst (pa_cons (pe_dget (hu_of hr) (pv 0) pe_str (fun _ _ => rfl)) (pa_cons pe_int (pa_cons (pv 3) (pa_cons (pv 5) pa_nil))))) pa_nil)))
        (pss_one (ps_dput (hu_of hr) (pv 0) pe_str (pv 3) rfl))))) (pss_cons (ps_dput (hu_of hr) (pv 0) pe_str (pe_op op_add (pv 3) (pe_dget (hu_of hr) (pv 0) pe_str (fun _ _ => rfl))) rfl)
        (pss_cons (ps_expr (pe_bm PySem.F.plainAttrs_list PySem.F.slot_list_extend PySem.F.type_list_extend mt_extend (pe_dget (hu_of hr) (pv 0) pe_str (fun _ _ => rfl)) (pa_cons (pe_lst (pa_cons (pe_dget (hu_of hr) (pv 0) pe_str (fun _ _ => rfl)) (pa_cons pe_int (pa_cons pe_int (pa_cons (pv 3) pa_nil))))) pa_nil)))
        (pss_cons (ps_dput (hu_of hr) (pv 0) pe_str (pv 3) rfl)
        (pss_cons (ps_if (pt_cmpR op_eq (pv 1) pe_int (nomark _)) (pss_one (ps_dput (hu_of hr) (pv 0) pe_str (pe_call (ok_law_pull T) (hr.mono (by decide)) (by rfl) T.g_law_pull T.F_law_pull.kp T.b_law_pull .nil pass0 (pa_cons (pv 2) pa_nil)) rfl)) pss_nil)
        (pss_one (ps_expr (pe_bm PySem.F.plainAttrs_list PySem.F.slot_list_append PySem.F.type_list_append mt_append (pv 2) (pa_cons (pv 3) pa_nil)))))))))))))))), ?_⟩
    refine q_asg (ev_dget (ev_var rfl) ev_c hA.1 kl_p) (fun H1 e1 => ?_)
    refine q_asg (ev_dget (ev_var rfl) ev_c (hA.ex e1).1 kl_k) (fun H2 e2 => ?_)
    have hA2 := hA.ex (e1.trans e2)
    have e12 := e1.trans e2
    have hk2 : ∀ {σ : L2.St} {H' : Hp} {s' : TS}, σ[0]? = some (some (.ref d)) → DA H' d zi zp s' → ∀ op a su : Int, ∀ {t1 t2 t3 : TE}, Ev t1 σ H' (.int op) → Ev t2 σ H' (.int a) → Ev t3 σ H' (.int su) → EvL (tLst (tCons (tDGet (tVar 0) (tC (.str "m"))) (tCons t1 (tCons t2 (tCons t3 tNil))))) σ H' [.int s'.m, .int op, .int a, .int su] := fun h0 hA' op a su _ _ _ h1 h2 h3 => el_lst (ea_cons (ev_dget (ev_var h0) ev_c hA'.1 kl_m) (ea_cons h1 (ea_cons h2 (ea_cons h3 ea_nil)))) (by show 4 ≤ 100000; decide)
    have hm4 : ∀ (l : List Int) (a b c e : Int), l.map V.int ++ [.int a, .int b, .int c, .int e] = (l ++ [a, b, c, e]).map V.int := fun l a b c e => by rw [List.map_append]; rfl
    have hm1 : ∀ (l : List Int) (a : Int), l.map V.int ++ [.int a] = (l ++ [a]).map V.int := fun l a => by rw [List.map_append]; rfl
    refine s_if (b := decide (c = 91)) (by walk_at "et") (fun hb H3 e3 => ?_) (fun hb H3 e3 => ?_)
    · have h91 : c = 91 := of_decide_eq_true hb
      have ef : f = b91 := by subst h91; unfold brT at hf; rw [if_pos rfl] at hf; cases hf; rfl
      subst ef
      have hA3 := hA2.ex e3
      refine q_app hA3.2.2.1 (ev_var rfl) (ev_var rfl) (by rw [List.length_map]; omega) (fun H4 e4 => ?_)
      rw [hm1]
      have hA4 := (hA3.ex e4).pil (s.pl ++ [s.k])
      refine q_dput (k := .inr "k") (ev_op (ev_var rfl) (ev_dget (ev_var rfl) ev_c hA4.1 kl_b) rv_I0) (ev_var rfl) ev_c hA4.1 (kv_len hA4) (fun H5 e5 => ?_)
      rw [kp_k]
      have hA5 := (hA4.ex e5).set { s with k := s.k + s.b, pl := s.pl ++ [s.k] } rfl rfl
      exact s_dropP (ep_D (63, s.k) hA5 (by show s.im.length ≤ 80000; omega) (by show (s.pl ++ [s.k]).length ≤ 80000; rw [List.length_append]; simp; omega) (ea_cons (ev_var rfl) (ea_cons ev_c (ea_cons (ev_var rfl) ea_nil)))) fun v H6 h => k _ _ ⟨rfl, h.2.1, (db_d ((db_p (ex_bu (e12.trans (e3.trans e4)))).trans (ex_bu e5))).trans h.2.2⟩
    have n91 := of_decide_eq_false hb
    refine s_if (b := decide (c = 93)) (by walk_at "et") (fun hb H4 e4 => ?_) (fun hb H4 e4 => ?_)
    · have h93 : c = 93 := of_decide_eq_true hb
      have ef : f = b93 := by subst h93; unfold brT at hf; rw [if_neg (by decide), if_neg (by decide), if_pos rfl] at hf; cases hf; rfl
      subst ef
      refine q_asgP (ep_pull (hA2.ex (e3.trans e4)) (ea_cons (ev_var rfl) ea_nil)) (fun v H5 h5 => ?_)
      obtain ⟨rfl, hA5, b5⟩ := h5
      refine q_ext hA5.2.1 (ev_dget (ev_var rfl) ev_c hA5.1 kl_i) (hk2 rfl hA5 32 0 (topT s) ev_c ev_c (ev_var rfl)) (by rw [List.length_map]; show s.im.length + 4 ≤ 100000; omega) (fun H6 e6 => ?_)
      rw [hm4]
      have hA6 := (hA5.ex e6).img (s.im ++ [s.m, 32, 0, topT s])
      refine s_dput (k := .inr "m") (ev_var rfl) (ev_var rfl) ev_c hA6.1 (kv_len hA6) (fun H7 e7 => ?_)
      rw [kp_m]
      exact k _ _ ⟨rfl, (hA6.ex e7).set (b93 s) rfl rfl, db_d ((db_i (((ex_bu (e12.trans (e3.trans e4))).trans b5).trans (ex_bu e6))).trans (ex_bu e7))⟩
    have n93 := of_decide_eq_false hb
    refine s_if (b := decide (c = 125)) (by walk_at "et") (fun hb H5 e5 => ?_) (fun hb H5 e5 => ?_)
    · have h125 : c = 125 := of_decide_eq_true hb
      have ef : f = b125 := by subst h125; unfold brT at hf; rw [if_neg (by decide), if_neg (by decide), if_neg (by decide), if_neg (by decide), if_pos rfl] at hf; cases hf; rfl
      subst ef
      refine q_asgP (ep_pull (hA2.ex (e3.trans (e4.trans e5))) (ea_cons (ev_var rfl) ea_nil)) (fun v H6 h6 => ?_)
      obtain ⟨rfl, hA6, b6⟩ := h6
      refine q_dput (k := .inr "k") (ev_op (ev_var rfl) (ev_dget (ev_var rfl) ev_c hA6.1 kl_b) rv_I0) (ev_var rfl) ev_c hA6.1 (kv_len hA6) (fun H7 e7 => ?_)
      rw [kp_k]
      have hA7 := (hA6.ex e7).set { (popT s) with k := s.k + s.b } rfl rfl
      refine q_ext hA7.2.1 (ev_dget (ev_var rfl) ev_c hA7.1 kl_i) (hk2 rfl hA7 63 s.k (topT s) ev_c (ev_var rfl) (ev_var rfl)) (by rw [List.length_map]; show s.im.length + 4 ≤ 100000; omega) (fun H8 e8 => ?_)
      rw [hm4]
      have hA8 := (hA7.ex e8).img (s.im ++ [s.m, 63, s.k, topT s])
      refine s_dput (k := .inr "m") (ev_var rfl) (ev_var rfl) ev_c hA8.1 (kv_len hA8) (fun H9 e9 => ?_)
      rw [kp_m]
      exact k _ _ ⟨rfl, (hA8.ex e9).set (b125 s) rfl rfl, db_d ((db_i ((db_d (((ex_bu (e12.trans (e3.trans (e4.trans e5)))).trans b6).trans (ex_bu e7))).trans (ex_bu e8))).trans (ex_bu e9))⟩
    have n125 := of_decide_eq_false hb
    have hc : c = 124 ∧ f = b124 ∨ c = 123 ∧ f = b123 := by
      unfold brT at hf
      by_cases h4 : c = 124
      · rw [if_neg n91, if_pos h4] at hf
        cases hf
        exact .inl ⟨h4, rfl⟩
      by_cases h3 : c = 123
      · rw [if_neg n91, if_neg h4, if_neg n93, if_pos h3] at hf
        cases hf
        exact .inr ⟨h3, rfl⟩
      rw [if_neg n91, if_neg h4, if_neg n93, if_neg h3, if_neg n125, if_neg h59] at hf
      cases hf
    have hA5 := hA2.ex (e3.trans (e4.trans e5))
    have e15 := e12.trans (e3.trans (e4.trans e5))
    refine q_dput (k := .inr "k") (ev_op (ev_var rfl) (ev_dget (ev_var rfl) ev_c hA5.1 kl_b) rv_I0) (ev_var rfl) ev_c hA5.1 (kv_len hA5) (fun H6 e6 => ?_)
    rw [kp_k]
    have hA6 := (hA5.ex e6).set { s with k := s.k + s.b } rfl rfl
    refine q_ext hA6.2.1 (ev_dget (ev_var rfl) ev_c hA6.1 kl_i) (hk2 rfl hA6 32 0 s.k ev_c ev_c (ev_var rfl)) (by rw [List.length_map]; show s.im.length + 4 ≤ 100000; omega) (fun H7 e7 => ?_)
    rw [hm4]
    have hA7 := (hA6.ex e7).img (s.im ++ [s.m, 32, 0, s.k])
    refine q_dput (k := .inr "m") (ev_var rfl) (ev_var rfl) ev_c hA7.1 (kv_len hA7) (fun H8 e8 => ?_)
    rw [kp_m]
    have hA8 := (hA7.ex e8).set { s with im := s.im ++ [s.m, 32, 0, s.k], k := s.k + s.b, m := s.k } rfl rfl
    have B8 := db_d ((db_i ((db_d ((ex_bu (L := [d, zi, zp]) e15).trans (ex_bu e6)) (o := .dK (KVs { s with k := s.k + s.b } zi zp))).trans (ex_bu e7)) (o := .lst ((s.im ++ [s.m, 32, 0, s.k]).map V.int))).trans (ex_bu e8)) (o := .dK (KVs { s with im := s.im ++ [s.m, 32, 0, s.k], k := s.k + s.b, m := s.k } zi zp))
    rcases hc with ⟨rfl, rfl⟩ | ⟨rfl, rfl⟩
    · refine q_when (b := true) (et_is (et_test (ev_op (ev_var rfl) ev_c rv_eqI)) rfl) (fun _ H9 e9 => ?_) (fun hb => nomatch hb)
      refine s_dputP (k := .inr "m") (ep_pull (hA8.ex e9) (ea_cons (ev_var rfl) ea_nil)) (fun v H10 h10 => ⟨_, h10.2.1.1, fun _ _ => ev_var rfl, fun _ _ => ev_c, kv_len h10.2.1, fun H11 e11 => ?_⟩)
      obtain ⟨rfl, hA10, b10⟩ := h10
      rw [kp_m]
      have hA11 := (hA10.ex e11).set { s with im := s.im ++ [s.m, 32, 0, s.k], k := s.k + s.b, m := topT s, pl := s.pl.dropLast } rfl rfl
      refine s_app hA11.2.2.1 (ev_var rfl) (ev_var rfl) (by rw [List.length_map]; show s.pl.dropLast.length < 100000; rw [List.length_dropLast]; omega) (fun H12 e12' => ?_)
      rw [hm1]
      exact k _ _ ⟨rfl, (hA11.ex e12').pil (s.pl.dropLast ++ [s.k]), db_p ((db_d (((B8.trans (ex_bu e9)).trans b10).trans (ex_bu e11))).trans (ex_bu e12'))⟩
    · refine q_when (b := false) (et_is (et_test (ev_op (ev_var rfl) ev_c rv_eqI)) rfl) (fun hb => nomatch hb) (fun _ H9 e9 => ?_)
      refine s_app (hA8.ex e9).2.2.1 (ev_var rfl) (ev_var rfl) (by rw [List.length_map]; show s.pl.length < 100000; omega) (fun H10 e10 => ?_)
      rw [hm1]
      exact k _ _ ⟨rfl, ((hA8.ex e9).ex e10).pil (s.pl ++ [s.k]), db_p ((B8.trans (ex_bu e9)).trans (ex_bu e10))⟩
def paT (s : TS) (w c : Int) : TS := if w = 39 then emT s 35 c else if w = 61 then emT s 61 c else { s with pl := s.pl ++ [s.m], m := c }
def sp_law_pair (K : PySem.W.Frag) : Sp := spD 70000 (fun a : Int × Int => [.int a.1, .int a.2]) (fun s a => paT s a.1 a.2) (fun _ _ => .non)
theorem ok_law_pair (T : Txt K mg) : FnOk P w K mg base CX0 2 T.f_law_pair T.d_law_pair ["state", "sign", "code"] (sp_law_pair K) := by
  refine T.F_law_pair.ok sc_law_pair (fun vs H Q E h => ?_) (fun cdv A outer s H vs Q E hr h => ?_)
  · obtain ⟨d, zi, zp, s, a, rfl, _⟩ := h
    rfl
  · obtain ⟨d, zi, zp, s, ⟨w, c⟩, rfl, hA, hz, hp, k⟩ := h
    refine ⟨_, (pss_one (ps_if (pt_cmpR op_eq (pv 1) pe_int (nomark _)) (pss_one (ps_expr (pe_call (ok_law_emit T) (hr.mono (by decide)) (by rfl) T.g_law_emit T.F_law_emit.kp T.b_law_emit .nil pass0 (pa_cons (pv 0) (pa_cons pe_int (pa_cons (pv 2) pa_nil)))))) (pss_one (ps_if (pt_cmpR op_eq (pv 1) pe_int (nomark _)) (pss_one (ps_expr (pe_call (ok_law_emit T) (hr.mono (by decide)) (by rfl) T.g_law_emit T.F_law_emit.kp T.b_law_emit .nil pass0 (pa_cons (pv 0) (pa_cons pe_int (pa_cons (pv 2) pa_nil)))))) (pss_cons (ps_expr (pe_bm PySem.F.plainAttrs_list PySem.F.slot_list_append PySem.F.type_list_append mt_append (pe_dget (hu_of hr) (pv 0) pe_str (fun _ _ => rfl)) (pa_cons (pe_dget (hu_of hr) (pv 0) pe_str (fun _ _ => rfl)) pa_nil)))
        (pss_one (ps_dput (hu_of hr) (pv 0) pe_str (pv 2) rfl))))))), ?_⟩
    dsimp only at k
    refine s_if (b := decide (w = 39)) (et_test (ev_op (ev_var rfl) ev_c rv_eqI)) (fun hb H1 e1 => ?_) (fun hb H1 e1 => ?_)
    · rw [show paT s w c = emT s 35 c from if_pos (of_decide_eq_true hb)] at k
      exact s_dropP (ep_D (35, c) (hA.ex e1) (by omega) (by omega) (ea_cons (ev_var rfl) (ea_cons ev_c (ea_cons (ev_var rfl) ea_nil)))) fun v H6 h => k _ _ ⟨rfl, h.2.1, (ex_bu e1).trans h.2.2⟩
    have n39 := of_decide_eq_false hb
    refine s_if (b := decide (w = 61)) (et_test (ev_op (ev_var rfl) ev_c rv_eqI)) (fun hb H2 e2 => ?_) (fun hb H2 e2 => ?_)
    · rw [show paT s w c = emT s 61 c from (if_neg n39).trans (if_pos (of_decide_eq_true hb))] at k
      exact s_dropP (ep_D (61, c) (hA.ex (e1.trans e2)) (by omega) (by omega) (ea_cons (ev_var rfl) (ea_cons ev_c (ea_cons (ev_var rfl) ea_nil)))) fun v H6 h => k _ _ ⟨rfl, h.2.1, (ex_bu (e1.trans e2)).trans h.2.2⟩
    · rw [show paT s w c = { s with pl := s.pl ++ [s.m], m := c } from (if_neg n39).trans (if_neg (of_decide_eq_false hb))] at k
      have hA2 := hA.ex (e1.trans e2)
      refine q_app hA2.2.2.1 (ev_dget (ev_var rfl) ev_c hA2.1 kl_p) (ev_dget (ev_var rfl) ev_c hA2.1 kl_m) (by rw [List.length_map]; omega) (fun H3 e3 => ?_)
      have e : s.pl.map V.int ++ [.int s.m] = (s.pl ++ [s.m]).map V.int := by rw [List.map_append]; rfl
      rw [e]
      have hA3 := (hA2.ex e3).pil (s.pl ++ [s.m])
      refine s_dput (k := .inr "m") (ev_var rfl) (ev_var rfl) ev_c hA3.1 (kv_len hA3) (fun H4 e4 => ?_)
      rw [kp_m]
      exact k _ _ ⟨rfl, (hA3.ex e4).set { s with pl := s.pl ++ [s.m], m := c } rfl rfl, db_d ((db_p (ex_bu (e1.trans (e2.trans e3)))).trans (ex_bu e4))⟩
def coT (s : TS) (c : Int) : TS := match brT c with
  | some f => f s
  | none => if 32 < c then emT s c 0 else s
theorem br_gt {c : Int} {f : TS → TS} (h : brT c = some f) : c = 59 ∨ (c = 91 ∨ c = 93 ∨ (123 ≤ c ∧ c ≤ 125)) := by
  unfold brT at h
  by_cases h1 : c = 91
  · exact .inr (.inl h1)
  by_cases h2 : c = 124
  · exact .inr (.inr (.inr (by omega)))
  by_cases h3 : c = 93
  · exact .inr (.inr (.inl h3))
  by_cases h4 : c = 123
  · exact .inr (.inr (.inr (by omega)))
  by_cases h5 : c = 125
  · exact .inr (.inr (.inr (by omega)))
  by_cases h6 : c = 59
  · exact .inl h6
  rw [if_neg h1, if_neg h2, if_neg h3, if_neg h4, if_neg h5, if_neg h6] at h
  cases h
theorem br_is {c : Int} (h : c = 91 ∨ c = 93 ∨ (123 ≤ c ∧ c ≤ 125)) : ∃ f, brT c = some f := by
  have hc : c = 91 ∨ c = 93 ∨ c = 123 ∨ c = 124 ∨ c = 125 := by omega
  rcases hc with rfl | rfl | rfl | rfl | rfl <;> exact ⟨_, rfl⟩
def sp_law_code (K : PySem.W.Frag) : Sp := spD 60000 (fun c : Int => [.int c]) (fun s c => coT s c) (fun _ _ => .non)
theorem ok_law_code (T : Txt K mg) : FnOk P w K mg base CX0 3 T.f_law_code T.d_law_code ["state", "code"] (sp_law_code K) := by
  refine T.F_law_code.ok sc_law_code (fun vs H Q E h => ?_) (fun cdv A outer s H vs Q E hr h => ?_)
  · obtain ⟨d, zi, zp, s, a, rfl, _⟩ := h
    rfl
  · obtain ⟨d, zi, zp, s, c, rfl, hA, hz, hp, k⟩ := h
    refine ⟨_, (pss_cons (ps_if (pt_cmpR op_le (pv 1) pe_int (nomark _)) (pss_one ps_retN) pss_nil)
        (pss_one (ps_if (pt_cmpR op_eq (pv 1) pe_int (nomark _)) (pss_cons (ps_expr (pe_bm PySem.F.plainAttrs_list PySem.F.slot_list_extend PySem.F.type_list_extend mt_extend (pe_dget (hu_of hr) (pv 0) pe_str (fun _ _ => rfl)) (pa_cons (pe_lst (pa_cons (pe_dget (hu_of hr) (pv 0) pe_str (fun _ _ => rfl)) (pa_cons pe_int (pa_cons pe_int (pa_cons pe_int pa_nil))))) pa_nil)))
        (pss_one (ps_dput (hu_of hr) (pv 0) pe_str (pe_call (ok_law_pull T) (hr.mono (by decide)) (by rfl) T.g_law_pull T.F_law_pull.kp T.b_law_pull .nil pass0 (pa_cons (pe_dget (hu_of hr) (pv 0) pe_str (fun _ _ => rfl)) pa_nil)) rfl))) (pss_one (ps_if (PW.pt (pw_or (pt_cmpR op_eq (pv 1) pe_int (nomark _)) (pw_or (pt_cmpR op_eq (pv 1) pe_int (nomark _)) (pw_or1 (pt_chain op_le op_le pe_int (pv 1) pe_int))))) (pss_one (ps_expr (pe_call (ok_law_branch T) (hr.mono (by decide)) (by rfl) T.g_law_branch T.F_law_branch.kp T.b_law_branch .nil pass0 (pa_cons (pv 0) (pa_cons (pv 1) pa_nil))))) (pss_one (ps_expr (pe_call (ok_law_emit T) (hr.mono (by decide)) (by rfl) T.g_law_emit T.F_law_emit.kp T.b_law_emit .nil pass0 (pa_cons (pv 0) (pa_cons (pv 1) (pa_cons pe_int pa_nil))))))))))), ?_⟩
    dsimp only at k
    refine q_when (b := decide (c ≤ 32)) (by walk_at "et") (fun hb H1 e1 => ?_) (fun hb H1 e1 => ?_)
    · have h32 : c ≤ 32 := of_decide_eq_true hb
      have e : coT s c = s := by
        unfold coT
        cases hf : brT c with
        | none => exact if_neg (by omega)
        | some f =>
          have := br_gt hf
          omega
      rw [e] at k
      exact k _ _ ⟨rfl, hA.ex e1, ex_bu e1⟩
    have h32 : 32 < c := by have := of_decide_eq_false hb; omega
    refine s_if (b := decide (c = 59)) (by walk_at "et") (fun hb H2 e2 => ?_) (fun hb H2 e2 => ?_)
    · have h59 : c = 59 := of_decide_eq_true hb
      have e : coT s c = b59 s := by subst h59; rfl
      rw [e] at k
      have hA2 := hA.ex (e1.trans e2)
      refine q_ext hA2.2.1 (ev_dget (ev_var rfl) ev_c hA2.1 kl_i) (el_lst (vs := [.int s.m, .int 41, .int 0, .int 1]) (ea_cons (ev_dget (ev_var rfl) ev_c hA2.1 kl_m) (ea_cons ev_c (ea_cons ev_c (ea_cons ev_c ea_nil)))) (by show 4 ≤ 100000; decide)) (by rw [List.length_map]; show s.im.length + 4 ≤ 100000; omega) (fun H3 e3 => ?_)
      have e : s.im.map V.int ++ [.int s.m, .int 41, .int 0, .int 1] = (s.im ++ [s.m, 41, 0, 1]).map V.int := by rw [List.map_append]; rfl
      rw [e]
      have hA3 := (hA2.ex e3).img (s.im ++ [s.m, 41, 0, 1])
      refine s_dputP (k := .inr "m") (ep_pull hA3 (ea_cons (ev_dget (ev_var rfl) ev_c hA3.1 kl_p) ea_nil)) (fun v H10 h10 => ⟨_, h10.2.1.1, fun _ _ => ev_var rfl, fun _ _ => ev_c, kv_len h10.2.1, fun H11 e11 => ?_⟩)
      obtain ⟨rfl, hA10, b10⟩ := h10
      rw [kp_m]
      exact k _ _ ⟨rfl, (hA10.ex e11).set (b59 s) rfl rfl, db_d (((db_i (ex_bu (e1.trans (e2.trans e3)))).trans b10).trans (ex_bu e11))⟩
    have n59 := of_decide_eq_false hb
    have hA2 := hA.ex (e1.trans e2)
    refine s_if (b := (decide (c = 91) || (decide (c = 93) || (decide (123 ≤ c) && decide (c ≤ 125))))) (et_or (et_test (ev_op (ev_var rfl) ev_c rv_eqI)) (fun _ => et_or (et_test (ev_op (ev_var rfl) ev_c rv_eqI)) (fun _ => et_test (ev_chain ev_c (ev_var rfl) rv_I0 (fun _ => ev_c) (fun _ => rv_I0))))) (fun hb H3 e3 => ?_) (fun hb H3 e3 => ?_)
    · simp only [Bool.or_eq_true, Bool.and_eq_true, decide_eq_true_eq] at hb
      obtain ⟨f, hf⟩ := br_is hb
      have e : coT s c = f s := by unfold coT; rw [hf]
      rw [e] at k
      exact s_dropP (ep_branch (hA2.ex e3) (by omega) (by omega) n59 hf (ea_cons (ev_var rfl) (ea_cons (ev_var rfl) ea_nil))) fun v H6 h => k _ _ ⟨rfl, h.2.1, (ex_bu (e1.trans (e2.trans e3))).trans h.2.2⟩
    · have e : coT s c = emT s c 0 := by
        unfold coT
        cases hf : brT c with
        | none => exact if_pos h32
        | some f =>
          rcases br_gt hf with h | h
          · exact absurd h n59
          · rw [show (decide (c = 91) || (decide (c = 93) || (decide (123 ≤ c) && decide (c ≤ 125)))) = true from by simp only [Bool.or_eq_true, Bool.and_eq_true, decide_eq_true_eq]; exact h] at hb
            cases hb
      rw [e] at k
      exact s_dropP (ep_D (c, 0) (hA2.ex e3) (by omega) (by omega) (ea_cons (ev_var rfl) (ea_cons (ev_var rfl) (ea_cons ev_c ea_nil)))) fun v H6 h => k _ _ ⟨rfl, h.2.1, (ex_bu (e1.trans (e2.trans e3))).trans h.2.2⟩
/-! ### both translators agree -/
def wOK (s : TS) : Prop := ∀ w, s.wa = some w → w = 39 ∨ w = 61 ∨ w = 58
theorem stopped (l : List Int) (s : TS) (h : s.st = true) : l.foldl takeT s = s := by
  induction l with
  | nil => rfl
  | cons c r ih => rw [List.foldl_cons, show takeT s c = s from if_pos h, ih]
theorem pa_sk {s : TS} {w c : Int} (hw : w = 39 ∨ w = 61 ∨ w = 58) : { paT s w c with wa := none } = skT s w c := by
  unfold paT skT
  rcases hw with rfl | rfl | rfl <;> rfl
theorem co_sg {s : TS} {c : Int} (h : ¬ (c = 39 ∨ c = 61 ∨ c = 58)) : sgT s c = coT s c := by
  unfold sgT coT
  rw [if_neg h]
  try rfl
theorem take_st {s : TS} {c : Int} (hs : s.st = false) (h0 : ¬ c < 0) : (takeT s c).st = false := by
  unfold takeT
  rw [if_neg (by rw [hs]; exact Bool.false_ne_true), if_neg h0]
  split
  · rename_i w _
    rw [(sk_len s w c).2.2.1, hs]
  split
  · exact hs
  · rw [(sg_len (endN s) c).2.2.1, (endN_len s).2.2.2.1, hs]
theorem take_wok {s : TS} {c : Int} (hs : s.st = false) (h0 : ¬ c < 0) (hw : wOK s) : wOK (takeT s c) := by
  unfold takeT
  rw [if_neg (by rw [hs]; exact Bool.false_ne_true), if_neg h0]
  split
  · rename_i w _
    intro v hv
    rw [(sk_len s w c).2.2.2.2] at hv
    cases hv
  split
  · exact hw
  · rename_i hn _
    unfold sgT
    split
    · intro v hv
      cases hv
      rename_i h
      rcases h with h | h | h
      · exact .inl h
      · exact .inr (.inl h)
      · exact .inr (.inr h)
    · have he : (endN s).wa = none := (endN_len s).2.2.1.trans hn
      split
      · rename_i f hf
        intro v hv
        rw [(br_len hf (endN s)).2.2.2.2, he] at hv
        cases hv
      split
      · intro v hv
        have : (emT (endN s) c 0).wa = (endN s).wa := rfl
        rw [this, he] at hv
        cases hv
      · intro v hv
        rw [he] at hv
        cases hv


end
end K66

set_option Elab.async false
set_option linter.all false
set_option maxRecDepth 100000
set_option maxHeartbeats 4000000
namespace K66
open PySem PySem.Spec PyProof.Rows L2 Evl Gd
/-! ### how expressions are evaluated, without a word of ours -/
local macro_rules | `(tactic| walk_at "ev") => `(tactic| exact ev_c)
local macro_rules | `(tactic| walk_at "ev") => `(tactic| exact ev_var rfl)
local macro_rules | `(tactic| walk_at "ev") => `(tactic| (refine' ev_op ?k1 ?k2 ?k3; (case k1 => walk_at "ev"); (case k2 => walk_at "ev"); (case k3 => walk_at "rv")))
local macro_rules | `(tactic| walk_at "ev") => `(tactic| (refine' ev_cb ?k1 ?k2; (case k1 => walk_at "ea"); (case k2 => walk_at "rc")))
local macro_rules | `(tactic| walk_at "ev") => `(tactic| (refine' ev_call ?k1 ?k2; (case k1 => walk_at "ea"); (case k2 => walk_at "sp")))
local macro_rules | `(tactic| walk_at "ev") => `(tactic| (refine' ev_chain ?k1 ?k2 ?k3 (fun _ => ?k4) (fun _ => ?k5); (case k1 => walk_at "ev"); (case k2 => walk_at "ev"); (case k3 => walk_at "rv"); (case k4 => walk_at "ev"); (case k5 => walk_at "rv")))
local macro_rules | `(tactic| walk_at "ev") => `(tactic| (refine' ev_orV ?k1 (fun _ => ?k2); (case k1 => walk_at "ev"); (case k2 => walk_at "ev")))
local macro_rules | `(tactic| walk_at "ev") => `(tactic| (refine' ev_andV ?k1 (fun _ => ?k2); (case k1 => walk_at "ev"); (case k2 => walk_at "ev")))
local macro_rules | `(tactic| walk_at "ev") => `(tactic| (refine' ev_notV ?k1; (case k1 => walk_at "ev")))
local macro_rules | `(tactic| walk_at "ea") => `(tactic| exact ea_nil)
local macro_rules | `(tactic| walk_at "ea") => `(tactic| (refine' ea_cons ?k1 ?k2; (case k1 => walk_at "ev"); (case k2 => walk_at "ea")))
local macro_rules | `(tactic| walk_at "rv") => `(tactic| exact rv_I0)
local macro_rules | `(tactic| walk_at "rv") => `(tactic| exact rv_eqI)
local macro_rules | `(tactic| walk_at "rv") => `(tactic| exact rv_neI)
local macro_rules | `(tactic| walk_at "rv") => `(tactic| exact rv_eqS)
local macro_rules | `(tactic| walk_at "rv") => `(tactic| exact rv_neS)
local macro_rules | `(tactic| walk_at "rv") => `(tactic| exact rv_mod (by decide))
local macro_rules | `(tactic| walk_at "rv") => `(tactic| exact rv_fdiv (by decide) (by decide))
local macro_rules | `(tactic| walk_at "rv") => `(tactic| exact rv_mulR (by decide))
local macro_rules | `(tactic| walk_at "rv") => `(tactic| exact rv_pow (by decide))
local macro_rules | `(tactic| walk_at "rc") => `(tactic| exact rc_int)
local macro_rules | `(tactic| walk_at "rc") => `(tactic| exact rc_ord)
local macro_rules | `(tactic| walk_at "et") => `(tactic| (refine' et_test ?k1; (case k1 => walk_at "ev")))
local macro_rules | `(tactic| walk_at "et") => `(tactic| (refine' et_B ?k1; (case k1 => walk_at "ev")))
local macro_rules | `(tactic| walk_at "et") => `(tactic| (refine' et_not ?k1; (case k1 => walk_at "et")))
local macro_rules | `(tactic| walk_at "et") => `(tactic| (refine' et_or ?k1 (fun _ => ?k2); (case k1 => walk_at "et"); (case k2 => walk_at "et")))
local macro_rules | `(tactic| walk_at "et") => `(tactic| (refine' et_and ?k1 (fun _ => ?k2); (case k1 => walk_at "et"); (case k2 => walk_at "et")))
section
variable {P : Program} {w : World} {K : PySem.W.Frag} {mg : Str → Option Value} {base : Heap}
theorem sk_nu (s : TS) (w c : Int) : (skT s w c).nu = s.nu := by
  unfold skT
  split
  · rfl
  split <;> rfl
theorem endN_nu (s : TS) : (endN s).nu = none := by
  unfold endN
  split
  · assumption
  · rfl
theorem br_nu {c : Int} {f : TS → TS} (h : brT c = some f) (s : TS) : (f s).nu = s.nu := by
  unfold brT at h
  repeat' split at h
  all_goals first
    | (cases h; rfl)
    | cases h
theorem co_nu (s : TS) (c : Int) : (coT s c).nu = s.nu ∧ (coT s c).wa = s.wa := by
  unfold coT
  split
  · rename_i f hf
    exact ⟨br_nu hf s, (br_len hf s).2.2.2.2⟩
  split <;> exact ⟨rfl, rfl⟩
def BegT (H : Hp) (f b : Int) : V → Hp → Prop := fun v H' => ∃ d zi zp, v = .ref d ∧ H d = none ∧ H zi = none ∧ H zp = none ∧ DA H' d zi zp (t0 f b) ∧ Ex H H'
theorem end_st (s : TS) : (emT (endN { s with st := true }) 41 0).im = (emT (endN s) 41 0).im := by
  cases s with
  | mk im m k pl nu wa b st fi ex => cases nu <;> rfl
def sp_law_translate (K : PySem.W.Frag) : Sp := fun vs H Q _ => ∃ (a : Addr) (ns : List Int) (f b : Int), vs = [.ref a, .int f, .int b] ∧ H a = some (.lst (ns.map V.int)) ∧ ns.length ≤ 1000 ∧ RetL ((imgT ns f b).map V.int) H Q
theorem l_law_translate {a : Addr} {ns : List Int} {f b : Int} {H : Hp} (h : H a = some (.lst (ns.map V.int))) (hl : ns.length ≤ 1000) : SpL (sp_law_translate K) [.ref a, .int f, .int b] H ((imgT ns f b).map V.int) := fun _ e _ q _ => ⟨a, ns, f, b, rfl, e _ _ h, hl, q⟩
theorem ok_law_translate (T : Txt K mg) : FnOk P w K mg base CX0 4 T.f_law_translate T.d_law_translate ["codes", "first", "by"] (sp_law_translate K) := by
  refine T.F_law_translate.ok sc_law_translate (fun vs H Q E h => ?_) (fun cdv A outer s H vs Q E hr h => ?_)
  · obtain ⟨a, ns, f, b, rfl, _⟩ := h
    rfl
  · obtain ⟨a, ns, f, b, rfl, hA, hl, k⟩ := h
    refine ⟨_, (pss_cons (ps_set (i := 3) sc_law_translate.nd rfl (Or.inl rfl) (pe_disp (pps_cons pe_str (pe_lst (pa_cons pe_int (pa_cons pe_int (pa_cons pe_int (pa_cons (pv 1) pa_nil))))) (pps_cons pe_str (pv 1) (pps_cons pe_str (pe_op op_add (pv 1) (pv 2)) (pps_cons pe_str (pv 2) (pps_cons pe_str (pe_lst pa_nil) pps_nil))))) (by rfl) (by rfl) (fun z => by cases z) (by decide)))
        (pss_cons (ps_set (i := 4) sc_law_translate.nd rfl (Or.inl rfl) pe_non)
        (pss_cons (ps_set (i := 5) sc_law_translate.nd rfl (Or.inl rfl) pe_int)
        (pss_cut (ps_for PassesOwn.never rfl (pi_list (pv 0)) (pg_name (i := 6) sc_law_translate.nd rfl (Or.inl rfl)) (pss_cons (ps_if (pt_cmpR op_lt (pv 6) pe_int (nomark _)) (pss_one ps_break) pss_nil)
        (pss_one (ps_if (pt_cmpR op_ne (pv 5) pe_int (nomark _)) (pss_cons (ps_expr (pe_call (ok_law_pair T) (hr.mono (by decide)) (by rfl) T.g_law_pair T.F_law_pair.kp T.b_law_pair .nil pass0 (pa_cons (pv 3) (pa_cons (pv 5) (pa_cons (pv 6) pa_nil)))))
        (pss_one (ps_set (i := 5) sc_law_translate.nd rfl (Or.inl rfl) pe_int))) (pss_one (ps_if (pt_chain op_le op_le pe_int (pv 6) pe_int) (pss_cons (ps_if (pt_cmpR op_isN (pv 4) pe_non (nomark _)) (pss_one (ps_set (i := 4) sc_law_translate.nd rfl (Or.inl rfl) pe_int)) pss_nil)
        (pss_one (ps_set (i := 4) sc_law_translate.nd rfl (Or.inl rfl) (pe_op op_sub (pe_op op_add (pe_op op_mul pe_int (pv 4)) (pv 6)) pe_int)))) (pss_cut (ps_if (pt_cmpR op_notN (pv 4) pe_non (nomark _)) (pss_cons (ps_expr (pe_call (ok_law_emit T) (hr.mono (by decide)) (by rfl) T.g_law_emit T.F_law_emit.kp T.b_law_emit .nil pass0 (pa_cons (pv 3) (pa_cons pe_int (pa_cons (pv 4) pa_nil)))))
        (pss_one (ps_set (i := 4) sc_law_translate.nd rfl (Or.inl rfl) pe_non))) pss_nil)
        (pss_one (ps_if (PW.pt (pw_or (pt_cmpR op_eq (pv 6) pe_int (nomark _)) (pw_or (pt_cmpR op_eq (pv 6) pe_int (nomark _)) (pw_or1 (pt_cmpR op_eq (pv 6) pe_int (nomark _)))))) (pss_one (ps_set (i := 5) sc_law_translate.nd rfl (Or.inl rfl) (pv 6))) (pss_one (ps_expr (pe_call (ok_law_code T) (hr.mono (by decide)) (by rfl) T.g_law_code T.F_law_code.kp T.b_law_code .nil pass0 (pa_cons (pv 3) (pa_cons (pv 6) pa_nil))))))))))))))
        (pss_cut (ps_if (pt_cmpR op_notN (pv 4) pe_non (nomark _)) (pss_one (ps_expr (pe_call (ok_law_emit T) (hr.mono (by decide)) (by rfl) T.g_law_emit T.F_law_emit.kp T.b_law_emit .nil pass0 (pa_cons (pv 3) (pa_cons pe_int (pa_cons (pv 4) pa_nil)))))) pss_nil)
        (pss_cons (ps_expr (pe_call (ok_law_emit T) (hr.mono (by decide)) (by rfl) T.g_law_emit T.F_law_emit.kp T.b_law_emit .nil pass0 (pa_cons (pv 3) (pa_cons pe_int (pa_cons pe_int pa_nil)))))
        (pss_one (ps_ret (pe_dget (hu_of hr) (pv 3) pe_str (fun _ _ => rfl)))))))))), ?_⟩
    refine q_asgP (P := BegT H f b) (fun Q q => ?_) (fun v H1 hv => ?_)
    · intro d hd
      refine ⟨_, rfl, (by show 4 ≤ sizeLine; exact sz_of (by decide)), fun zi hzi => ⟨_, rfl, _, rfl, _, rfl, f, b, rfl, rfl, _, rfl, (by show 0 ≤ sizeLine; exact Nat.zero_le _), fun zp hzp => ?_⟩⟩
      have nid : zi ≠ d := fun e => by rw [e, upd_same] at hzi; cases hzi
      have npi : zp ≠ zi := fun e => by rw [e, upd_same] at hzp; cases hzp
      have npd : zp ≠ d := fun e => by rw [e, upd_ne (Ne.symm nid), upd_same] at hzp; cases hzp
      rw [upd_ne nid] at hzi
      rw [upd_ne npi, upd_ne npd] at hzp
      refine ⟨by rw [upd_ne (Ne.symm npd), upd_ne (Ne.symm nid)]; exact upd_same, KVs (t0 f b) zi zp, rfl, by show 5 ≤ 15; decide, ?_⟩
      refine q _ _ ⟨d, zi, zp, rfl, hd, hzi, hzp, ⟨upd_same, ?_, ?_, Ne.symm npi⟩, fun c o e => ?_⟩
      · rw [upd_ne nid, upd_ne (Ne.symm npi)]
        exact upd_same
      · rw [upd_ne npd]
        exact upd_same
      · rw [upd_ne (ne_of_none e hd), upd_ne (ne_of_none e hzp), upd_ne (ne_of_none e hzi), upd_ne (ne_of_none e hd)]
        exact e
    obtain ⟨d, zi, zp, rfl, nd, ni, np, hD1, e1⟩ := hv
    refine q_asg ev_c (fun H2 e2 => ?_)
    refine q_asg ev_c (fun H3 e3 => ?_)
    have hA3 := e3 _ _ (e2 _ _ (e1 _ _ hA))
    have na : a ∉ [d, zi, zp] := by simp [ne_of_none hA nd, ne_of_none hA ni, ne_of_none hA np]
    have h4 : (t0 f b).im.length = 4 := rfl
    have h0 : (t0 f b).pl.length = 0 := rfl
    have himg : imgT ns f b = (emT (endN (ns.foldl takeT (t0 f b))) 41 0).im := by
      unfold imgT finT
      rw [if_neg (by rw [(run_len ns (t0 f b)).2.2]; exact Bool.false_ne_true)]
    refine q_cut (M := fun σ' H' => ∃ (ts : TS) (sg y : Option V), DA H' d zi zp ts ∧ Bu [d, zi, zp] H3 H' ∧ (emT (endN ts) 41 0).im = imgT ns f b ∧ ts.im.length ≤ 50000 ∧ ts.pl.length ≤ 50000 ∧ σ' = [some (.ref a), some (.int f), some (.int b), some (.ref d), some (optV ts.nu), sg, y]) ?_ ?_
    · refine s_forLn (ev_var rfl) (sq_of hA3) (fun i σ' H' => ∃ (ts : TS) (y : Option V), ts = (ns.take i).foldl takeT (t0 f b) ∧ ts.st = false ∧ wOK ts ∧ DA H' d zi zp ts ∧ Bu [d, zi, zp] H3 H' ∧ σ' = [some (.ref a), some (.int f), some (.int b), some (.ref d), some (optV ts.nu), some (.int (ts.wa.getD 0)), y]) ?_ ?_ ?_ ?_
      · intro H4 e4
        exact ⟨t0 f b, none, rfl, rfl, (by intro w h; cases h), hD1.ex (e2.trans (e3.trans e4)), ex_bu e4, rfl⟩
      · rintro i σ' H' _ ⟨_, _, _, _, _, _, bb, _⟩
        exact sq_of (bb _ _ na hA3)
      · rintro i c' σ' H' hx ⟨ts, y, hts, hst, hwk, hD, bb, rfl⟩
        obtain ⟨c, hc, rfl⟩ := map_at hx
        have hlen := run_len (ns.take i) (t0 f b)
        rw [List.length_take, ← hts] at hlen
        have hi : i < ns.length := (List.getElem?_eq_some_iff.mp hc).1
        refine q_when (b := decide (c < 0)) (by walk_at "et") (fun hb H4 e4 => ?_) (fun hb H4 e4 => ?_)
        · refine ⟨ts, _, _, hD.ex e4, bb.trans (ex_bu e4), ?_, by omega, by omega, rfl⟩
          have hsp : ns = ns.take i ++ c :: ns.drop (i + 1) := by
            have := List.take_append_drop i ns
            rw [List.drop_eq_getElem_cons hi] at this
            have hci : ns[i] = c := by
              have := List.getElem?_eq_getElem hi
              rw [hc] at this
              exact (Option.some.inj this).symm
            rw [hci] at this
            exact this.symm
          have hfin : ns.foldl takeT (t0 f b) = { ts with st := true } := by
            rw [hsp, List.foldl_append, ← hts, List.foldl_cons]
            have : takeT ts c = { ts with st := true } := by
              unfold takeT
              rw [if_neg (by rw [hst]; exact Bool.false_ne_true), if_pos (of_decide_eq_true hb)]
            rw [this]
            exact stopped _ _ rfl
          rw [himg, hfin, end_st]
        have n0 := of_decide_eq_false hb
        have hst' := take_st hst n0
        have hwk' := take_wok hst n0 hwk
        have hts' : takeT ts c = (ns.take (i + 1)).foldl takeT (t0 f b) := by rw [foldl_snoc hc, hts]
        have nst : ¬ ts.st = true := by rw [hst]; exact Bool.false_ne_true
        have hD4 := hD.ex e4
        have b4 := bb.trans (ex_bu e4)
        cases hwa : ts.wa with
        | some w =>
          have hw := hwk w hwa
          have e : takeT ts c = skT ts w c := by unfold takeT; rw [if_neg nst, if_neg n0, hwa]
          refine s_if (b := !decide (w = 0)) (et_test (ev_op (ev_var rfl) ev_c rv_neI)) (fun hb H5 e5 => ?_) (fun hb H5 e5 => ?_)
          · refine q_dropP (ep_D (w, c) (hD4.ex e5) (by omega) (by omega) (ea_cons (ev_var rfl) (ea_cons (ev_var rfl) (ea_cons (ev_var rfl) ea_nil)))) (fun v H6 h6 => ?_)
            refine s_asg ev_c (fun H7 e7 => ⟨takeT ts c, some (.int c), hts', hst', hwk', ?_, ((b4.trans (ex_bu e5)).trans h6.2.2).trans (ex_bu e7), ?_⟩)
            · rw [e, ← pa_sk hw]
              exact (h6.2.1.ex e7).re _ rfl rfl rfl
            · rw [e, sk_nu, (sk_len ts w c).2.2.2.2]
              rfl
          · have : w = 0 := by simpa using hb
            omega
        | none =>
          refine s_if (b := !decide ((0 : Int) = 0)) (et_test (ev_op (ev_var rfl) ev_c rv_neI)) (fun hb H5 e5 => by rw [decide_eq_true rfl] at hb; cases hb) (fun hb H5 e5 => ?_)
          have hD5 := hD4.ex e5
          have b5 := b4.trans (ex_bu e5)
          refine s_if (b := isDg c) (et_test (ev_chain ev_c (ev_var rfl) rv_I0 (fun _ => ev_c) (fun _ => rv_I0))) (fun hd H6 e6 => ?_) (fun hd H6 e6 => ?_)
          · have e : takeT ts c = { ts with nu := some (10 * ts.nu.getD 0 + c - 48) } := by unfold takeT; rw [if_neg nst, if_neg n0, hwa]; exact if_pos hd
            refine q_ifAsg (b := decide (optV ts.nu = .non)) (v := .int (ts.nu.getD 0)) (et_test (ev_op (ev_var rfl) ev_c rv_isNon)) (fun hb => ?_) (fun hb => ?_) (fun H7 e7 => ?_)
            · cases hn : ts.nu with
              | none => exact ev_c
              | some v => rw [hn] at hb; cases hb
            · cases hn : ts.nu with
              | none => rw [hn] at hb; cases hb
              | some v => rfl
            refine s_asg (v := .int (10 * ts.nu.getD 0 + c - 48)) (ev_op (ev_op (ev_op ev_c (ev_var rfl) (rv_mulL (by decide))) (ev_var rfl) rv_I0) ev_c rv_I0) (fun H8 e8 => ⟨takeT ts c, some (.int c), hts', hst', hwk', ?_, b5.trans (ex_bu (e6.trans (e7.trans e8))), ?_⟩)
            · rw [e]
              exact (hD5.ex (e6.trans (e7.trans e8))).re _ rfl rfl rfl
            · rw [e]
              show _ = [some (V.ref a), some (V.int f), some (V.int b), some (V.ref d), some (V.int (10 * ts.nu.getD 0 + c - 48)), some (V.int (ts.wa.getD 0)), some (V.int c)]
              rw [hwa]
              rfl
          · have e : takeT ts c = sgT (endN ts) c := by unfold takeT; rw [if_neg nst, if_neg n0, hwa]; exact if_neg (by rw [hd]; exact Bool.false_ne_true)
            have hel := endN_len ts
            refine q_cut (M := fun σ' H' => DA H' d zi zp (endN ts) ∧ Bu [d, zi, zp] H3 H' ∧ σ' = [some (.ref a), some (.int f), some (.int b), some (.ref d), some .non, some (.int 0), some (.int c)]) ?_ ?_
            · refine s_when (b := ts.nu.isSome) (et_test (ev_op (ev_var rfl) ev_c rv_notN)) (fun hb H7 e7 => ?_) (fun hb H7 e7 => ?_)
              · obtain ⟨v, hv⟩ := Option.isSome_iff_exists.mp hb
                have e : endN ts = { emT ts 35 v with nu := none } := by unfold endN; rw [hv]
                refine q_dropP (ep_D (35, v) (hD5.ex (e6.trans e7)) (by omega) (by omega) (ea_cons (ev_var rfl) (ea_cons ev_c (ea_cons (ev_var (by rw [hv]; rfl)) ea_nil)))) (fun u H8 h8 => ?_)
                refine s_asg ev_c (fun H9 e9 => ⟨?_, ((b5.trans (ex_bu (e6.trans e7))).trans h8.2.2).trans (ex_bu e9), rfl⟩)
                rw [e]
                exact (h8.2.1.ex e9).re _ rfl rfl rfl
              · have hn : ts.nu = none := by
                  cases h : ts.nu with
                  | none => rfl
                  | some v => rw [h] at hb; cases hb
                have e : endN ts = ts := by unfold endN; rw [hn]
                rw [e]
                exact ⟨hD5.ex (e6.trans e7), b5.trans (ex_bu (e6.trans e7)), by rw [hn]; rfl⟩
            · rintro σ' H7 ⟨hD7, b7, rfl⟩
              refine s_if (b := (decide (c = 39) || (decide (c = 61) || decide (c = 58)))) (et_or (et_test (ev_op (ev_var rfl) ev_c rv_eqI)) (fun _ => et_or (et_test (ev_op (ev_var rfl) ev_c rv_eqI)) (fun _ => et_test (ev_op (ev_var rfl) ev_c rv_eqI)))) (fun hb H8 e8 => ?_) (fun hb H8 e8 => ?_)
              · have h3 : c = 39 ∨ c = 61 ∨ c = 58 := by simpa using hb
                have e' : takeT ts c = { endN ts with wa := some c } := by rw [e]; exact if_pos h3
                refine s_asg (ev_var rfl) (fun H9 e9 => ⟨takeT ts c, some (.int c), hts', hst', hwk', ?_, b7.trans (ex_bu (e8.trans e9)), ?_⟩)
                · rw [e']
                  exact (hD7.ex (e8.trans e9)).re _ rfl rfl rfl
                · rw [e']
                  show _ = [some (V.ref a), some (V.int f), some (V.int b), some (V.ref d), some (optV (endN ts).nu), some (V.int c), some (V.int c)]
                  rw [endN_nu]
                  rfl
              · have h3 : ¬ (c = 39 ∨ c = 61 ∨ c = 58) := by
                  intro h
                  rw [show (decide (c = 39) || (decide (c = 61) || decide (c = 58))) = true from by simpa using h] at hb
                  cases hb
                have e' : takeT ts c = coT (endN ts) c := by rw [e, co_sg h3]
                refine s_dropP (ep_D c (hD7.ex e8) (by omega) (by omega) (ea_cons (ev_var rfl) (ea_cons (ev_var rfl) ea_nil))) fun v H9 h9 => ⟨takeT ts c, some (.int c), hts', hst', hwk', ?_, (b7.trans (ex_bu e8)).trans h9.2.2, ?_⟩
                · rw [e']
                  exact h9.2.1
                · rw [e', (co_nu _ _).1, (co_nu _ _).2, endN_nu, hel.2.2.1, hwa]
                  rfl
      · rintro σ' H4 ⟨ts, y, hts, hst, hwk, hD, bb, rfl⟩
        rw [List.length_map, List.take_length] at hts
        have hlen := run_len ns (t0 f b)
        rw [← hts] at hlen
        exact ⟨ts, _, y, hD, bb, by rw [himg, ← hts], by omega, by omega, rfl⟩
    · rintro σ' H4 ⟨ts, sg, y, hD, bb, him, hz, hp, rfl⟩
      have hel := endN_len ts
      refine q_cut (M := fun σ' H' => DA H' d zi zp (endN ts) ∧ Bu [d, zi, zp] H3 H' ∧ ∃ nu, σ' = [some (.ref a), some (.int f), some (.int b), some (.ref d), nu, sg, y]) ?_ ?_
      · refine s_when (b := ts.nu.isSome) (et_test (ev_op (ev_var rfl) ev_c rv_notN)) (fun hb H7 e7 => ?_) (fun hb H7 e7 => ?_)
        · obtain ⟨v, hv⟩ := Option.isSome_iff_exists.mp hb
          have e : endN ts = { emT ts 35 v with nu := none } := by unfold endN; rw [hv]
          refine s_dropP (ep_D (35, v) (hD.ex e7) (by omega) (by omega) (ea_cons (ev_var rfl) (ea_cons ev_c (ea_cons (ev_var (by rw [hv]; rfl)) ea_nil)))) fun u H8 h8 => ⟨?_, (bb.trans (ex_bu e7)).trans h8.2.2, _, rfl⟩
          rw [e]
          exact h8.2.1.re _ rfl rfl rfl
        · have hn : ts.nu = none := by
            cases h : ts.nu with
            | none => rfl
            | some v => rw [h] at hb; cases hb
          have e : endN ts = ts := by unfold endN; rw [hn]
          rw [e]
          exact ⟨hD.ex e7, bb.trans (ex_bu e7), _, rfl⟩
      · rintro σ' H7 ⟨hD7, b7, nu, rfl⟩
        refine q_dropP (ep_D (41, 0) hD7 (by omega) (by omega) (ea_cons (ev_var rfl) (ea_cons ev_c (ea_cons ev_c ea_nil)))) (fun u H8 h8 => ?_)
        have hD8 := h8.2.1
        refine s_ret (ev_dget (ev_var rfl) ev_c hD8.1 kl_i) (fun H9 e9 => k zi H9 ni ?_ ?_)
        · intro c o e
          have m : c ∉ [d, zi, zp] := by simp [ne_of_none e nd, ne_of_none e ni, ne_of_none e np]
          exact e9 _ _ (h8.2.2 _ _ m (b7 _ _ m (e3 _ _ (e2 _ _ (e1 _ _ e)))))
        · have := e9 _ _ hD8.2.1
          rw [this]
          show some (HO.lst ((emT (endN ts) 41 0).im.map V.int)) = _
          rw [him]

def sp_law_is_integer (K : PySem.W.Frag) : Sp := fun vs H Q _ => ∃ i : Int, vs = [.int i] ∧ RetV (.bl true) H Q
theorem v_law_is_integer {i : Int} {H : Hp} : SpV (sp_law_is_integer K) [.int i] H (.bl true) := fun _ _ _ q _ => ⟨i, rfl, q⟩
theorem ok_law_is_integer (T : Txt K mg) : FnOk P w K mg base CX0 1 T.f_law_is_integer T.d_law_is_integer ["actual"] (sp_law_is_integer K) := by
  refine T.F_law_is_integer.ok sc_law_is_integer (fun vs H Q E h => ?_) (fun cdv A outer s H vs Q E hr h => ?_)
  · obtain ⟨i, rfl, _⟩ := h
    rfl
  · obtain ⟨i, rfl, k⟩ := h
    refine ⟨_, (pss_one (ps_ret (pe_and (pe_callB call_isi (by rfl) T.n_isinstance (by decide +kernel) (pa_cons (pv 0) (pa_cons (pe_bltn (v := .ty "int") (by rfl) T.n_int (by decide +kernel) rfl) pa_nil))) (pe_one (pe_not (pe_callB call_isi (by rfl) T.n_isinstance (by decide +kernel) (pa_cons (pv 0) (pa_cons (pe_bltn (v := .ty "bool") (by rfl) T.n_bool (by decide +kernel) rfl) pa_nil)))))))), ?_⟩
    exact s_ret (v := .bl (true && !false)) (ev_andV (ev_cb (ea_cons (ev_var rfl) (ea_cons ev_c ea_nil)) rc_isInt) (fun _ => ev_notV (ev_cb (ea_cons (ev_var rfl) (ea_cons ev_c ea_nil)) rc_isIntB))) k
def sp_law_is_integers (K : PySem.W.Frag) : Sp := fun vs H Q _ => ∃ (p : Addr) (ns : List Int), vs = [.ref p] ∧ SqL K H p (ns.map V.int) ∧ RetV (.bl true) H Q
theorem v_law_is_integers {p : Addr} {ns : List Int} {H : Hp} (h : SqL K H p (ns.map V.int)) : SpV (sp_law_is_integers K) [.ref p] H (.bl true) := fun _ e _ q _ => ⟨p, ns, rfl, ex_l e h, q⟩
theorem ok_law_is_integers (T : Txt K mg) : FnOk P w K mg base CX0 2 T.f_law_is_integers T.d_law_is_integers ["actual"] (sp_law_is_integers K) := by
  refine T.F_law_is_integers.ok sc_law_is_integers (fun vs H Q E h => ?_) (fun cdv A outer s H vs Q E hr h => ?_)
  · obtain ⟨p, ns, rfl, _⟩ := h
    rfl
  · obtain ⟨p, ns, rfl, hp, k⟩ := h
    refine ⟨_, (pss_cons (ps_if (pt_not (pt_val (pe_callB call_isi (by rfl) T.n_isinstance (by decide +kernel) (pa_cons (pv 0) (pa_cons (pe_bltn (v := .ty "list") (by rfl) T.n_list (by decide +kernel) rfl) pa_nil))))) (pss_one (ps_ret pe_bl)) pss_nil)
        (pss_cons (ps_for PassesOwn.never rfl (pi_list (pv 0)) (pg_name (i := 1) sc_law_is_integers.nd rfl (Or.inl rfl)) (pss_one (ps_if (pt_not (pt_val (pe_call (ok_law_is_integer T) (hr.mono (by decide)) (by rfl) T.g_law_is_integer T.F_law_is_integer.kp T.b_law_is_integer .nil pass0 (pa_cons (pv 1) pa_nil)))) (pss_one (ps_ret pe_bl)) pss_nil)))
        (pss_one (ps_ret pe_bl)))), ?_⟩
    refine q_when (b := !true) (et_not (et_B (ev_cb (ea_cons (ev_var rfl) (ea_cons ev_c ea_nil)) (rc_isListS hp)))) (fun hb => nomatch hb) (fun _ H1 e1 => ?_)
    refine q_forLn (ev_var rfl) (ex_l e1 hp) (fun i σ' H' => Ex H H' ∧ ∃ y, σ' = [some (.ref p), y]) (fun H2 e2 => ⟨e1.trans e2, none, rfl⟩) (fun i σ' H' _ hq => ex_l hq.1 hp) ?_ ?_
    · rintro i x σ' H' hx ⟨e2, y, rfl⟩
      obtain ⟨c, hc, rfl⟩ := map_at hx
      exact s_when (b := !true) (et_not (et_B (ev_call (ea_cons (ev_var rfl) ea_nil) v_law_is_integer))) (fun hb => nomatch hb) (fun _ H3 e3 => ⟨e2.trans e3, _, rfl⟩)
    · rintro σ' H' ⟨e2, y, rfl⟩
      exact s_ret ev_c fun H3 e3 => k H3 (e2.trans e3)


end
end K66

set_option Elab.async false
set_option linter.all false
set_option maxRecDepth 100000
set_option maxHeartbeats 4000000
namespace K66
open PySem PySem.Spec PyProof.Rows L2 Evl Gd
/-! ### how expressions are evaluated, without a word of ours -/
local macro_rules | `(tactic| walk_at "ev") => `(tactic| exact ev_c)
local macro_rules | `(tactic| walk_at "ev") => `(tactic| exact ev_var rfl)
local macro_rules | `(tactic| walk_at "ev") => `(tactic| (refine' ev_op ?k1 ?k2 ?k3; (case k1 => walk_at "ev"); (case k2 => walk_at "ev"); (case k3 => walk_at "rv")))
local macro_rules | `(tactic| walk_at "ev") => `(tactic| (refine' ev_cb ?k1 ?k2; (case k1 => walk_at "ea"); (case k2 => walk_at "rc")))
local macro_rules | `(tactic| walk_at "ev") => `(tactic| (refine' ev_call ?k1 ?k2; (case k1 => walk_at "ea"); (case k2 => walk_at "sp")))
local macro_rules | `(tactic| walk_at "ev") => `(tactic| (refine' ev_chain ?k1 ?k2 ?k3 (fun _ => ?k4) (fun _ => ?k5); (case k1 => walk_at "ev"); (case k2 => walk_at "ev"); (case k3 => walk_at "rv"); (case k4 => walk_at "ev"); (case k5 => walk_at "rv")))
local macro_rules | `(tactic| walk_at "ev") => `(tactic| (refine' ev_orV ?k1 (fun _ => ?k2); (case k1 => walk_at "ev"); (case k2 => walk_at "ev")))
local macro_rules | `(tactic| walk_at "ev") => `(tactic| (refine' ev_andV ?k1 (fun _ => ?k2); (case k1 => walk_at "ev"); (case k2 => walk_at "ev")))
local macro_rules | `(tactic| walk_at "ev") => `(tactic| (refine' ev_notV ?k1; (case k1 => walk_at "ev")))
local macro_rules | `(tactic| walk_at "ea") => `(tactic| exact ea_nil)
local macro_rules | `(tactic| walk_at "ea") => `(tactic| (refine' ea_cons ?k1 ?k2; (case k1 => walk_at "ev"); (case k2 => walk_at "ea")))
local macro_rules | `(tactic| walk_at "rv") => `(tactic| exact rv_I0)
local macro_rules | `(tactic| walk_at "rv") => `(tactic| exact rv_eqI)
local macro_rules | `(tactic| walk_at "rv") => `(tactic| exact rv_neI)
local macro_rules | `(tactic| walk_at "rv") => `(tactic| exact rv_eqS)
local macro_rules | `(tactic| walk_at "rv") => `(tactic| exact rv_neS)
local macro_rules | `(tactic| walk_at "rv") => `(tactic| exact rv_mod (by decide))
local macro_rules | `(tactic| walk_at "rv") => `(tactic| exact rv_fdiv (by decide) (by decide))
local macro_rules | `(tactic| walk_at "rv") => `(tactic| exact rv_mulR (by decide))
local macro_rules | `(tactic| walk_at "rv") => `(tactic| exact rv_pow (by decide))
local macro_rules | `(tactic| walk_at "rc") => `(tactic| exact rc_int)
local macro_rules | `(tactic| walk_at "rc") => `(tactic| exact rc_ord)
local macro_rules | `(tactic| walk_at "et") => `(tactic| (refine' et_test ?k1; (case k1 => walk_at "ev")))
local macro_rules | `(tactic| walk_at "et") => `(tactic| (refine' et_B ?k1; (case k1 => walk_at "ev")))
local macro_rules | `(tactic| walk_at "et") => `(tactic| (refine' et_not ?k1; (case k1 => walk_at "et")))
local macro_rules | `(tactic| walk_at "et") => `(tactic| (refine' et_or ?k1 (fun _ => ?k2); (case k1 => walk_at "et"); (case k2 => walk_at "et")))
local macro_rules | `(tactic| walk_at "et") => `(tactic| (refine' et_and ?k1 (fun _ => ?k2); (case k1 => walk_at "et"); (case k2 => walk_at "et")))
section
variable {P : Program} {w : World} {K : PySem.W.Frag} {mg : Str → Option Value} {base : Heap}
def isCh (c : Int) : Bool := decide (c = 10) || (decide (32 ≤ c) && decide (c ≤ 36) || decide (38 ≤ c) && decide (c ≤ 126))
def sp_is_character (K : PySem.W.Frag) : Sp := fun vs H Q _ => ∃ c : Int, vs = [.int c] ∧ RetV (.bl (isCh c)) H Q
theorem v_is_character {c : Int} {H : Hp} : SpV (sp_is_character K) [.int c] H (.bl (isCh c)) := fun _ _ _ q _ => ⟨c, rfl, q⟩
local macro_rules | `(tactic| walk_at "sp") => `(tactic| exact v_is_character)
theorem ok_is_character (T : Txt K mg) : FnOk P w K mg base CX0 1 T.f_is_character T.d_is_character ["code"] (sp_is_character K) := by
  refine T.F_is_character.ok sc_is_character (fun vs H Q E h => ?_) (fun cdv A outer s H vs Q E hr h => ?_)
  · obtain ⟨c, rfl, _⟩ := h
    rfl
  · obtain ⟨c, rfl, k⟩ := h
    refine ⟨_, (pss_one (ps_ret (pe_or (pe_cmpR op_eq (pv 0) (pe_glob (v := .int 10) (by rfl) T.c_NEWLINE ⟨_, rfl⟩) (nomark _)) (pe_or (pe_chain op_le op_le pe_int (pv 0) pe_int) (pe_one (pe_chain op_le op_le pe_int (pv 0) pe_int)))))), ?_⟩
    exact s_ret (v := .bl (isCh c)) (by walk_at "ev") k
/-- the codes of a text -/
def codes (z : Str) : List Int := z.cps.toList.map fun (c : Nat) => (c : Int)
def sp_codes_of (K : PySem.W.Frag) (C : Addr) : Sp := fun vs H Q E => ∃ z : Str, vs = [.str z] ∧ z.cps.size ≤ 1000 ∧
  ((codes z).all isCh = true → RetL ((codes z).map V.int) H Q) ∧ ((codes z).all isCh = false → ∀ H2, Ex H H2 → E (.ref C) none H2)
theorem l_codes_of {C : Addr} {z : Str} {H : Hp} (hz : z.cps.size ≤ 1000) (h : (codes z).all isCh = true) : SpL (sp_codes_of K C) [.str z] H ((codes z).map V.int) := fun _ _ _ q _ => ⟨z, rfl, hz, fun _ => q, fun z => by rw [h] at z; cases z⟩
theorem ok_codes_of (T : Txt K mg) : FnOk P w K mg base (L2.CX P w) 2 T.f_codes_of T.d_codes_of ["text"] (sp_codes_of K T.C_NotText) := by
  refine T.F_codes_of.okX sc_codes_of (fun vs H Q E h => ?_) (fun cdv A outer s H vs Q E hr h => ?_)
  · obtain ⟨z, rfl, _⟩ := h
    rfl
  · obtain ⟨z, rfl, hz, kG, kB⟩ := h
    refine ⟨_, (pss_cons (ps_setLc (i := 1) (own := [("character", 2)]) (by rfl) sc_codes_of.nd rfl rfl (sw_true rfl rfl rfl (by decide +kernel)) (pi_str (pv 0)) (blkOk_by (own := [("character", 2)]) (N := N_codes_of) (sc := defScope s_codes_of) (by decide +kernel)) (fun _ _ _ _ _ => pg_name (i := 2) sc_codes_of.nd rfl (Or.inl rfl)) (fun _ _ _ _ _ => pts_nil) (fun _ _ _ _ _ => (pe_callB call_ord (by rfl) T.n_ord (by decide +kernel) (pa_cons (pv 2) pa_nil))))
        (pss_cons (ps_for (passes_of rfl) rfl (pi_list (pv 1)) (pg_name (i := 3) sc_codes_of.nd rfl (Or.inl rfl)) (pss_one (ps_if (pt_not (pt_val (pe_call (ok_is_character T) (hr.mono (by decide)) (by rfl) T.g_is_character T.F_is_character.kp T.b_is_character .nil pass0 (pa_cons (pv 3) pa_nil)))) (pss_one (ps_raise rfl (takes_of rfl rfl rfl rfl) (pmk_own PySem.F.excBase_ValueError T.x_NotText T.g_NotText T.k_NotText (raises_own T.b_NotText T.t_NotText) (by rfl)))) pss_nil)))
        (pss_one (ps_ret (pv 1))))), ?_⟩
    refine q_asgL (el_mapS (fun v => match v with | .str x => V.int ((x.cps.getD 0 0 : Nat) : Int) | _ => .non) (ev_var rfl) (by omega) (fun _ => rfl) (fun c _ H1 _ => by walk_at "ev")) (fun p H1 hp e1 h1 => ?_)
    have hm : (sgns z).map (fun v => match v with | .str x => V.int ((x.cps.getD 0 0 : Nat) : Int) | _ => .non) = (codes z).map V.int := by
      rw [sgns_map]
      unfold codes
      rw [List.map_map]
      rfl
    rw [hm] at h1
    refine q_forLn (j := 3) (ev_var rfl) (sq_of h1) (fun i σ' H' => Ex H1 H' ∧ (∃ y, σ' = [some (.str z), some (.ref p), none, y]) ∧ ((codes z).take i).all isCh = true) (fun H2 e2 => ⟨e2, ⟨none, rfl⟩, rfl⟩)
      (fun i σ' H' _ hp => ex_l hp.1 (sq_of h1)) ?_ ?_
    · rintro i x σ' H' hx ⟨e2, ⟨y, rfl⟩, hall⟩
      obtain ⟨c, hc, rfl⟩ := map_at hx
      refine s_when (b := !isCh c) (by walk_at "et") (fun hb H3 e3 => ?_) (fun hb H3 e3 => ?_)
      · refine kB ?_ H3 (e1.trans (e2.trans e3))
        refine List.all_eq_false.mpr ⟨c, List.mem_of_getElem? hc, ?_⟩
        simpa using hb
      · refine ⟨e2.trans e3, ⟨_, rfl⟩, ?_⟩
        rw [take_snoc hc, List.all_append, hall]
        simpa using hb
    · rintro σ' H' ⟨e2, ⟨y, rfl⟩, hall⟩
      rw [List.length_map, List.take_length] at hall
      exact s_ret (ev_var rfl) fun H3 e3 => kG hall p H3 hp (e1.trans (e2.trans e3)) (e3 _ _ (e2 _ _ h1))

/-! ### kinds -/
def KN : List Str := ["digits", "short", "plain", "turned"]
def sp_check_kind (K : PySem.W.Frag) (C : Addr) : Sp := fun vs H Q E => ∃ x : Str, vs = [.str x] ∧ (x ∈ KN → RetV .non H Q) ∧ (x ∉ KN → ∀ H2, Ex H H2 → E (.ref C) none H2)
theorem ok_check_kind (T : Txt K mg) : FnOk P w K mg base (L2.CX P w) 1 T.f_check_kind T.d_check_kind ["kind"] (sp_check_kind K T.C_BadKind) := by
  refine T.F_check_kind.okX sc_check_kind (fun vs H Q E h => ?_) (fun cdv A outer s H vs Q E hr h => ?_)
  · obtain ⟨x, rfl, _⟩ := h
    rfl
  · obtain ⟨x, rfl, kG, kB⟩ := h
    refine ⟨_, (pss_one (ps_if (pt_cmpR op_notIn_seq (pv 0) (pe_glob (v := .ref T.D_KINDS) (by rfl) T.g_KINDS rfl) (by rfl)) (pss_one (ps_raise rfl (takes_of rfl rfl rfl rfl) (pmk_own PySem.F.excBase_ValueError T.x_BadKind T.g_BadKind T.k_BadKind (raises_own T.b_BadKind T.t_BadKind) (by rfl)))) pss_nil)), ?_⟩
    refine s_when (b := !inV (.str x) (KN.map V.str)) (et_test (ev_op (ev_var rfl) ev_c (rv_niT (TupK.sq T.tup_KINDS _) rfl rfl))) (fun hb H1 e1 => ?_) (fun hb H1 e1 => ?_)
    · rw [inV_strs] at hb
      exact kB (by simpa using hb) H1 e1
    · rw [inV_strs] at hb
      exact kG (by simpa using hb) H1 e1
theorem q_kind {C : Addr} {x : Str} {σ : L2.St} {H : Hp} {D : Ends} {tz : L2.TS} {E : XK} {te : TE} (ht : Ev te σ H (.str x)) (kG : x ∈ KN → ∀ H1, Ex H H1 → tz D σ H1) (kB : x ∉ KN → ∀ H2, Ex H H2 → E (.ref C) none H2) : tSeq (tDrop (tCallS (sp_check_kind K C) (fun _ => E) (tCons te tNil))) tz D σ H := by
  by_cases hx : x ∈ KN
  · exact q_dropP (P := fun _ H' => Ex H H') (ep_callS (ea_cons ht ea_nil) fun H1 e1 Q q => ⟨x, rfl, fun _ H2 e2 => q _ H2 (e1.trans e2), fun z => absurd hx z⟩) (fun v H1 e1 => kG hx H1 e1)
  · exact q_dropP (P := fun _ _ => False) (ep_callS (ea_cons ht ea_nil) fun H1 e1 Q q => ⟨x, rfl, fun z => absurd z hx, fun _ H2 e2 => kB hx H2 (e1.trans e2)⟩) (fun v H1 h => h.elim)
def meantI (x : Str) (cs : List Int) : List Int := if x = "digits" then rd cs else if x = "short" then (runS cs).cs else if x = "plain" then imgT cs 200 1 else imgT cs (-1) (-1)
def sp_meant (K : PySem.W.Frag) : Sp := fun vs H Q _ => ∃ (x : Str) (a : Addr) (cs : List Int), vs = [.str x, .ref a] ∧ H a = some (.lst (cs.map V.int)) ∧ cs.length ≤ 1000 ∧ RetL ((meantI x cs).map V.int) H Q
theorem l_meant {x : Str} {a : Addr} {cs : List Int} {H : Hp} (h : H a = some (.lst (cs.map V.int))) (hl : cs.length ≤ 1000) : SpL (sp_meant K) [.str x, .ref a] H ((meantI x cs).map V.int) := fun _ e _ q _ => ⟨x, a, cs, rfl, e _ _ h, hl, q⟩
theorem eqStr {σ : L2.St} {i : Nat} {x s : Str} {G : Hp} (h : σ[i]? = some (some (.str x))) : EvT (tTest (tOp rEq (tVar i) (tC (.str s)))) σ G (decide (x = s)) := et_is (et_test (ev_op (ev_var h) ev_c (rv_eq rfl))) (by
  by_cases e : x = s
  · rw [decide_eq_true e, decide_eq_true (congrArg V.str e)]
  · rw [decide_eq_false e, decide_eq_false (fun z => e (V.str.inj z))])
theorem ok_meant (T : Txt K mg) : FnOk P w K mg base CX0 7 T.f_meant T.d_meant ["kind", "codes"] (sp_meant K) := by
  refine T.F_meant.ok sc_meant (fun vs H Q E h => ?_) (fun cdv A outer s H vs Q E hr h => ?_)
  · obtain ⟨x, a, cs, rfl, _⟩ := h
    rfl
  · obtain ⟨x, a, cs, rfl, hA, hl, k⟩ := h
    refine ⟨_, (pss_cons (ps_if (pt_cmpR op_eq (pv 0) pe_str (nomark _)) (pss_one (ps_ret (pe_call (ok_read_digits T) (hr.mono (by decide)) (by rfl) T.g_read_digits T.F_read_digits.kp T.b_read_digits .nil pass0 (pa_cons (pv 1) pa_nil)))) pss_nil)
        (pss_cons (ps_if (pt_cmpR op_eq (pv 0) pe_str (nomark _)) (pss_one (ps_ret (pe_call (ok_translate_short T) (hr.mono (by decide)) (by rfl) T.g_translate_short T.F_translate_short.kp T.b_translate_short .nil pass0 (pa_cons (pv 1) pa_nil)))) pss_nil)
        (pss_cons (ps_if (pt_cmpR op_eq (pv 0) pe_str (nomark _)) (pss_one (ps_ret (pe_call (ok_translate T) (hr.mono (by decide)) (by rfl) T.g_translate T.F_translate.kp (bs_translate T).choose_spec.2 (bs_translate T).choose_spec.1 pass0 (pa_cons (pv 1) pa_nil)))) pss_nil)
        (pss_one (ps_ret (pe_callN (ok_translate T) (hr.mono (by decide)) (by rfl) T.g_translate T.F_translate.kp (kb_translate_first_by T).choose_spec pass0 (pa_cons (pv 1) pa_nil) (pk_cons (pe_un un_neg pe_int) (pk_cons (pe_un un_neg pe_int) pk_nil)))))))), ?_⟩
    unfold meantI at k
    refine q_when (b := decide (x = "digits")) (eqStr rfl) (fun hb H1 e1 => ?_) (fun hb H1 e1 => ?_)
    · rw [if_pos (of_decide_eq_true hb)] at k
      exact s_retL (el_call (ea_cons (ev_var rfl) ea_nil) (l_read_digits (sq_of (e1 _ _ hA)) (by omega))) fun p H2 np e2 hp => k p H2 (fresh_back e1 np) (e1.trans e2) hp
    rw [if_neg (of_decide_eq_false hb)] at k
    refine q_when (b := decide (x = "short")) (eqStr rfl) (fun hb H2 e2 => ?_) (fun hb H2 e2 => ?_)
    · rw [if_pos (of_decide_eq_true hb)] at k
      exact s_retL (el_call (ea_cons (ev_var rfl) ea_nil) (l_translate_short (e2 _ _ (e1 _ _ hA)) (by omega))) fun p H3 np e3 hp => k p H3 (fresh_back (e1.trans e2) np) (e1.trans (e2.trans e3)) hp
    rw [if_neg (of_decide_eq_false hb)] at k
    refine q_when (b := decide (x = "plain")) (eqStr rfl) (fun hb H3 e3 => ?_) (fun hb H3 e3 => ?_)
    · rw [if_pos (of_decide_eq_true hb)] at k
      exact s_retL (el_call (ea_cons (ev_var rfl) ea_nil) (l_translate (e3 _ _ (e2 _ _ (e1 _ _ hA))) (by omega))) fun p H4 np e4 hp => k p H4 (fresh_back (e1.trans (e2.trans e3)) np) (e1.trans (e2.trans (e3.trans e4))) hp
    rw [if_neg (of_decide_eq_false hb)] at k
    exact s_retL (el_callN (vs := [.ref a]) (zs := [.int (-1), .int (-1)]) (ea_cons (ev_var rfl) ea_nil) (ea_cons (ev_un ev_c ru_neg) (ea_cons (ev_un ev_c ru_neg) ea_nil)) rfl rfl (l_translate (e3 _ _ (e2 _ _ (e1 _ _ hA))) (by omega))) fun p H4 np e4 hp => k p H4 (fresh_back (e1.trans (e2.trans e3)) np) (e1.trans (e2.trans (e3.trans e4))) hp
def sp_due (K : PySem.W.Frag) (CN CB : Addr) : Sp := fun vs H Q E => ∃ x z : Str, vs = [.str x, .str z] ∧ z.cps.size ≤ 1000 ∧ (x ∉ KN → ∀ H2, Ex H H2 → E (.ref CB) none H2) ∧ (x ∈ KN → (codes z).all isCh = false → ∀ H2, Ex H H2 → E (.ref CN) none H2) ∧
  (x ∈ KN → (codes z).all isCh = true → RetL ((meantI x (codes z)).map V.int) H Q)
theorem codes_len {z : Str} : (codes z).length = z.cps.size := by unfold codes; rw [List.length_map]; exact Array.length_toList
theorem ok_due (T : Txt K mg) : FnOk P w K mg base (L2.CX P w) 8 T.f_due T.d_due ["kind", "text"] (sp_due K T.C_NotText T.C_BadKind) := by
  refine T.F_due.okX sc_due (fun vs H Q E h => ?_) (fun cdv A outer s H vs Q E hr h => ?_)
  · obtain ⟨x, z, rfl, _⟩ := h
    rfl
  · obtain ⟨x, z, rfl, hz, kB, kN, kG⟩ := h
    refine ⟨_, (pss_cons (ps_expr (pe_callS (ok_check_kind T) (hr.mono (by decide)) (by rfl) T.g_check_kind T.F_check_kind.kp T.b_check_kind (fun σ => passAt (takes_of rfl rfl rfl rfl) σ) (by exact (pa_cons (pv 0) pa_nil))))
        (pss_one (ps_ret (pe_call (ok_meant T) (hr.mono (by decide)) (by rfl) T.g_meant T.F_meant.kp T.b_meant .nil pass0 (pa_cons (pv 0) (pa_cons (pe_callS (ok_codes_of T) (hr.mono (by decide)) (by rfl) T.g_codes_of T.F_codes_of.kp T.b_codes_of (fun σ => passAt (takes_of rfl rfl rfl rfl) σ) (by exact (pa_cons (pv 1) pa_nil))) pa_nil)))))), ?_⟩
    refine q_kind (ev_var rfl) (fun hx H1 e1 => ?_) kB
    exact ⟨_, rfl, _, rfl, z, rfl, hz, fun hall p H2 np e2 hp => ⟨x, p, codes z, rfl, hp, by rw [codes_len]; exact hz, fun q H3 nq e3 hq => kG hx hall q H3 (fresh_back (e1.trans e2) nq) (e1.trans (e2.trans e3)) hq⟩, fun hall H2 e2 => kN hx hall H2 (e1.trans e2)⟩

def oN : Option Nat → V
  | none => .non
  | some n => .int (n : Int)
def oND : Option Nat → PyData
  | none => .none
  | some n => .int (n : Int)
theorem take_eq_succ {xs ys : List Int} {i : Nat} {x y : Int} (h : xs.take i = ys.take i) (h1 : xs[i]? = some x) (h2 : ys[i]? = some y) (e : x = y) : xs.take (i + 1) = ys.take (i + 1) := by
  rw [take_snoc h1, take_snoc h2, h, e]
def sp_first_difference (K : PySem.W.Frag) : Sp := fun vs H Q _ => ∃ (a b : Addr) (xs ys : List Int), vs = [.ref a, .ref b] ∧ SqL K H a (xs.map V.int) ∧ SqL K H b (ys.map V.int) ∧ xs.length ≤ 90000 ∧ ys.length ≤ 90000 ∧ RetV (oN (difI xs ys)) H Q
theorem v_first_difference {a b : Addr} {xs ys : List Int} {H : Hp} (ha : SqL K H a (xs.map V.int)) (hb : SqL K H b (ys.map V.int)) (h1 : xs.length ≤ 90000) (h2 : ys.length ≤ 90000) : SpV (sp_first_difference K) [.ref a, .ref b] H (oN (difI xs ys)) := fun _ e _ q _ => ⟨a, b, xs, ys, rfl, ex_l e ha, ex_l e hb, h1, h2, q⟩
theorem at_int {xs : List Int} {i : Nat} (h : i < xs.length) : ∃ x, xs[i]? = some x ∧ atI (xs.map V.int) (i : Int) = some (.int x) := ⟨xs[i], List.getElem?_eq_getElem h, atI_nat (by rw [List.getElem?_map, List.getElem?_eq_getElem h]; rfl)⟩
theorem ok_first_difference (T : Txt K mg) : FnOk P w K mg base CX0 1 T.f_first_difference T.d_first_difference ["one", "other"] (sp_first_difference K) := by
  refine T.F_first_difference.ok sc_first_difference (fun vs H Q E h => ?_) (fun cdv A outer s H vs Q E hr h => ?_)
  · obtain ⟨a, b, xs, ys, rfl, _⟩ := h
    rfl
  · obtain ⟨a, b, xs, ys, rfl, ha, hb, h1, h2, k⟩ := h
    refine ⟨_, (pss_cons (ps_for PassesOwn.never rfl (pi_range1 (by rfl) T.n_range (pa_cons (pe_callB (call_min2 rfl) (by rfl) T.n_min (by decide +kernel) (pa_cons (pe_callB call_len_seq (by rfl) T.n_len (by decide +kernel) (pa_cons (pv 0) pa_nil)) (pa_cons (pe_callB call_len_seq (by rfl) T.n_len (by decide +kernel) (pa_cons (pv 1) pa_nil)) pa_nil))) pa_nil)) (pg_name (i := 2) sc_first_difference.nd rfl (Or.inl rfl)) (pss_one (ps_if (pt_cmpR op_ne (pe_ix ix_list (pv 0) (pv 2) (fun _ _ => rfl)) (pe_ix ix_list (pv 1) (pv 2) (fun _ _ => rfl)) (nomark _)) (pss_one (ps_ret (pv 2))) pss_nil)))
        (pss_one (ps_ret (pe_ifExp (pt_cmpR op_eq (pe_callB call_len_seq (by rfl) T.n_len (by decide +kernel) (pa_cons (pv 0) pa_nil)) (pe_callB call_len_seq (by rfl) T.n_len (by decide +kernel) (pa_cons (pv 1) pa_nil)) (nomark _)) pe_non (pe_callB (call_min2 rfl) (by rfl) T.n_min (by decide +kernel) (pa_cons (pe_callB call_len_seq (by rfl) T.n_len (by decide +kernel) (pa_cons (pv 0) pa_nil)) (pa_cons (pe_callB call_len_seq (by rfl) T.n_len (by decide +kernel) (pa_cons (pv 1) pa_nil)) pa_nil))))))), ?_⟩
    have la : ∀ {G : Hp} {y : Option V}, Ex H G → Ev (tCB (rLenS K) (tCons (tVar 0) tNil)) [some (.ref a), some (.ref b), y] G (.int (xs.length : Int)) := fun {G y} e => by
      have := ev_len (K := K) (H := G) (ta := tVar 0) (σ := [some (.ref a), some (.ref b), y]) (ev_var rfl) (ex_l e ha)
      rwa [List.length_map] at this
    have lb : ∀ {G : Hp} {y : Option V}, Ex H G → Ev (tCB (rLenS K) (tCons (tVar 1) tNil)) [some (.ref a), some (.ref b), y] G (.int (ys.length : Int)) := fun {G y} e => by
      have := ev_len (K := K) (H := G) (ta := tVar 1) (σ := [some (.ref a), some (.ref b), y]) (ev_var rfl) (ex_l e hb)
      rwa [List.length_map] at this
    have hmin : (if ((ys.length : Int) < (xs.length : Int)) then (ys.length : Int) else (xs.length : Int)) = ((min xs.length ys.length : Nat) : Int) := by split <;> omega
    have hm : ∀ {G : Hp} {y : Option V}, Ex H G → Ev (tCB rMin2 (tCons (tCB (rLenS K) (tCons (tVar 0) tNil)) (tCons (tCB (rLenS K) (tCons (tVar 1) tNil)) tNil))) [some (.ref a), some (.ref b), y] G (.int ((min xs.length ys.length : Nat) : Int)) := fun {G y} e => by
      rw [← hmin]
      exact ev_min2 (la e) (lb e)
    obtain ⟨mn, hmn⟩ : ∃ m : Nat, m = min xs.length ys.length := ⟨_, rfl⟩
    rw [← hmn] at hm
    refine q_forR1 (n := (mn : Int)) (ea_cons (hm (Ex.refl H)) ea_nil) (by omega) (fun i σ' H' => Ex H H' ∧ xs.take i = ys.take i ∧ ∃ y, σ' = [some (.ref a), some (.ref b), y]) ?_ ?_ ?_
    · intro H1 e1
      exact ⟨e1, rfl, _, rfl⟩
    · rintro i σ' H' hi ⟨fr, ht, y, rfl⟩
      obtain ⟨x, hx, ax⟩ := at_int (xs := xs) (i := i) (by omega)
      obtain ⟨z, hz, az⟩ := at_int (xs := ys) (i := i) (by omega)
      refine s_when (b := !decide (x = z)) (et_test (ev_op (ev_op (ev_var rfl) (ev_var rfl) (rv_ixL (ex_l fr ha) ax)) (ev_op (ev_var rfl) (ev_var rfl) (rv_ixL (ex_l fr hb) az)) rv_neI)) (fun hb H1 e1 => ?_) (fun hb H1 e1 => ?_)
      · have hne : x ≠ z := by simpa using hb
        have hd : difI xs ys = some i := dif_some ht (by omega) (by omega) (by rw [hx, hz]; exact fun e => hne (Option.some.inj e))
        rw [hd] at k
        exact s_ret (ev_var rfl) fun H2 e2 => k H2 (fr.trans (e1.trans e2))
      · have he : x = z := by simpa using hb
        exact ⟨fr.trans e1, take_eq_succ ht hx hz he, _, rfl⟩
    · rintro σ' H1 ⟨fr, ht, y, rfl⟩
      rw [Int.toNat_natCast, hmn] at ht
      by_cases hl : xs.length = ys.length
      · have he : xs = ys := by
          rw [hl, Nat.min_self] at ht
          rw [List.take_length] at ht
          rw [← ht, ← hl, List.take_length]
        rw [dif_none he] at k
        exact s_ret (ev_ifE (b := true) (et_is (et_test (ev_op (la fr) (lb fr) rv_eqI)) (decide_eq_true (by omega))) (fun _ _ _ => ev_c) (fun z => nomatch z)) fun H2 e2 => k H2 (fr.trans e2)
      · have hd : difI xs ys = some (min xs.length ys.length) := dif_some ht (by omega) (by omega) (by
          by_cases h : xs.length < ys.length
          · rw [Nat.min_eq_left (by omega), List.getElem?_eq_none (Nat.le_refl _), List.getElem?_eq_getElem h]
            exact fun z => nomatch z
          · rw [Nat.min_eq_right (by omega), List.getElem?_eq_none (Nat.le_refl _) (l := ys), List.getElem?_eq_getElem (show ys.length < xs.length by omega)]
            exact fun z => nomatch z)
        rw [hd, ← hmn] at k
        exact s_ret (ev_ifE (b := false) (et_is (et_test (ev_op (la fr) (lb fr) rv_eqI)) (decide_eq_false (by omega))) (fun z => nomatch z) (fun _ H2 e2 => hm (fr.trans e2))) fun H2 e2 => k H2 (fr.trans e2)


end
end K66

set_option Elab.async false
set_option linter.all false
set_option maxRecDepth 100000
set_option maxHeartbeats 4000000
namespace K66
open PySem PySem.Spec PyProof.Rows L2 Evl Gd
/-! ### how expressions are evaluated, without a word of ours -/
local macro_rules | `(tactic| walk_at "ev") => `(tactic| exact ev_c)
local macro_rules | `(tactic| walk_at "ev") => `(tactic| exact ev_var rfl)
local macro_rules | `(tactic| walk_at "ev") => `(tactic| (refine' ev_op ?k1 ?k2 ?k3; (case k1 => walk_at "ev"); (case k2 => walk_at "ev"); (case k3 => walk_at "rv")))
local macro_rules | `(tactic| walk_at "ev") => `(tactic| (refine' ev_cb ?k1 ?k2; (case k1 => walk_at "ea"); (case k2 => walk_at "rc")))
local macro_rules | `(tactic| walk_at "ev") => `(tactic| (refine' ev_call ?k1 ?k2; (case k1 => walk_at "ea"); (case k2 => walk_at "sp")))
local macro_rules | `(tactic| walk_at "ev") => `(tactic| (refine' ev_chain ?k1 ?k2 ?k3 (fun _ => ?k4) (fun _ => ?k5); (case k1 => walk_at "ev"); (case k2 => walk_at "ev"); (case k3 => walk_at "rv"); (case k4 => walk_at "ev"); (case k5 => walk_at "rv")))
local macro_rules | `(tactic| walk_at "ev") => `(tactic| (refine' ev_orV ?k1 (fun _ => ?k2); (case k1 => walk_at "ev"); (case k2 => walk_at "ev")))
local macro_rules | `(tactic| walk_at "ev") => `(tactic| (refine' ev_andV ?k1 (fun _ => ?k2); (case k1 => walk_at "ev"); (case k2 => walk_at "ev")))
local macro_rules | `(tactic| walk_at "ev") => `(tactic| (refine' ev_notV ?k1; (case k1 => walk_at "ev")))
local macro_rules | `(tactic| walk_at "ea") => `(tactic| exact ea_nil)
local macro_rules | `(tactic| walk_at "ea") => `(tactic| (refine' ea_cons ?k1 ?k2; (case k1 => walk_at "ev"); (case k2 => walk_at "ea")))
local macro_rules | `(tactic| walk_at "rv") => `(tactic| exact rv_I0)
local macro_rules | `(tactic| walk_at "rv") => `(tactic| exact rv_eqI)
local macro_rules | `(tactic| walk_at "rv") => `(tactic| exact rv_neI)
local macro_rules | `(tactic| walk_at "rv") => `(tactic| exact rv_eqS)
local macro_rules | `(tactic| walk_at "rv") => `(tactic| exact rv_neS)
local macro_rules | `(tactic| walk_at "rv") => `(tactic| exact rv_mod (by decide))
local macro_rules | `(tactic| walk_at "rv") => `(tactic| exact rv_fdiv (by decide) (by decide))
local macro_rules | `(tactic| walk_at "rv") => `(tactic| exact rv_mulR (by decide))
local macro_rules | `(tactic| walk_at "rv") => `(tactic| exact rv_pow (by decide))
local macro_rules | `(tactic| walk_at "rc") => `(tactic| exact rc_int)
local macro_rules | `(tactic| walk_at "rc") => `(tactic| exact rc_ord)
local macro_rules | `(tactic| walk_at "et") => `(tactic| (refine' et_test ?k1; (case k1 => walk_at "ev")))
local macro_rules | `(tactic| walk_at "et") => `(tactic| (refine' et_B ?k1; (case k1 => walk_at "ev")))
local macro_rules | `(tactic| walk_at "et") => `(tactic| (refine' et_not ?k1; (case k1 => walk_at "et")))
local macro_rules | `(tactic| walk_at "et") => `(tactic| (refine' et_or ?k1 (fun _ => ?k2); (case k1 => walk_at "et"); (case k2 => walk_at "et")))
local macro_rules | `(tactic| walk_at "et") => `(tactic| (refine' et_and ?k1 (fun _ => ?k2); (case k1 => walk_at "et"); (case k2 => walk_at "et")))
section
variable {P : Program} {w : World} {K : PySem.W.Frag} {mg : Str → Option Value} {base : Heap}
/-! ### the law's own readings -/
theorem rdFin_none {xs : List Int} : rdFin (xs, none) = xs := rfl
theorem rdFin_some {xs : List Int} {v : Int} : rdFin (xs, some v) = xs ++ [v] := rfl
def sp_law_digits (K : PySem.W.Frag) : Sp := fun vs H Q _ => ∃ (a : Addr) (ns : List Int), vs = [.ref a] ∧ SqL K H a (ns.map V.int) ∧ ns.length ≤ 1000 ∧ RetL ((rdFin (rdGo ns)).map V.int) H Q
theorem l_law_digits {a : Addr} {ns : List Int} {H : Hp} (h : SqL K H a (ns.map V.int)) (hl : ns.length ≤ 1000) : SpL (sp_law_digits K) [.ref a] H ((rdFin (rdGo ns)).map V.int) := fun _ e _ q _ => ⟨a, ns, rfl, ex_l e h, hl, q⟩
theorem ok_law_digits (T : Txt K mg) : FnOk P w K mg base CX0 1 T.f_law_digits T.d_law_digits ["codes"] (sp_law_digits K) := by
  refine T.F_law_digits.ok sc_law_digits (fun vs H Q E h => ?_) (fun cdv A outer s H vs Q E hr h => ?_)
  · obtain ⟨a, ns, rfl, _⟩ := h
    rfl
  · obtain ⟨a, ns, rfl, hS, hl, k⟩ := h
    refine ⟨_, (pss_cons (ps_set (i := 1) sc_law_digits.nd rfl (Or.inl rfl) (pe_lst pa_nil))
        (pss_cons (ps_set (i := 2) sc_law_digits.nd rfl (Or.inl rfl) pe_bl)
        (pss_cons (ps_for PassesOwn.never rfl (pi_list (pv 0)) (pg_name (i := 3) sc_law_digits.nd rfl (Or.inl rfl)) (pss_one (ps_if (pt_chain op_le op_le pe_int (pv 3) pe_int) (pss_cut (ps_if (pt_not (pt_val (pv 2))) (pss_one (ps_expr (pe_bm PySem.F.plainAttrs_list PySem.F.slot_list_append PySem.F.type_list_append mt_append (pv 1) (pa_cons pe_int pa_nil)))) pss_nil)
        (pss_cons (ps_expr (pe_bm PySem.F.plainAttrs_list PySem.F.slot_list_append PySem.F.type_list_append mt_append (pv 1) (pa_cons (pe_op op_sub (pe_op op_add (pe_op op_mul pe_int (pe_bm0 PySem.F.plainAttrs_list PySem.F.slot_list_pop PySem.F.type_list_pop mt_pop (pv 1))) (pv 3)) pe_int) pa_nil)))
        (pss_one (ps_set (i := 2) sc_law_digits.nd rfl (Or.inl rfl) pe_bl)))) (pss_one (ps_set (i := 2) sc_law_digits.nd rfl (Or.inl rfl) pe_bl)))))
        (pss_one (ps_ret (pv 1)))))), ?_⟩
    refine q_asgL (xs := []) (el_lst ea_nil (by decide)) (fun p H1 hp e1 d1 => ?_)
    refine q_asg ev_c (fun H2 e2 => ?_)
    have hS2 := ex_l (e1.trans e2) hS
    refine q_forLn (ev_var rfl) hS2 (fun i σ' H' => Ex H H' ∧ H' p = some (.lst ((rdFin (rdGo (ns.take i))).map V.int)) ∧ ∃ y : Option V, σ' = [some (.ref a), some (.ref p), some (.bl (rdGo (ns.take i)).2.isSome), y]) ?_ ?_ ?_ ?_
    · intro H4 e4
      exact ⟨e1.trans (e2.trans e4), e4 _ _ (e2 _ _ d1), none, rfl⟩
    · rintro i σ' H' _ ⟨e4, _⟩
      exact ex_l e4 hS
    · rintro i x σ' H' hx ⟨e4, hd, y, rfl⟩
      obtain ⟨c, hc, rfl⟩ := map_at hx
      have hi := (List.getElem?_eq_some_iff.mp hc).1
      have hlen := rdGo_len (ns.take i)
      rw [List.length_take] at hlen
      rw [rdGo_snoc hc]
      generalize rdGo (ns.take i) = st at hd hlen
      obtain ⟨xs, o⟩ := st
      dsimp only at hlen
      refine s_if (b := isDg c) (et_test (ev_chain ev_c (ev_var rfl) rv_I0 (fun _ => ev_c) (fun _ => rv_I0))) (fun hb H5 e5 => ?_) (fun hb H5 e5 => ?_)
      · unfold rdStep
        rw [if_pos hb]
        refine q_cut (M := fun σ' H' => Ex H H' ∧ H' p = some (.lst ((xs ++ [o.getD 0]).map V.int)) ∧ σ' = [some (.ref a), some (.ref p), some (.bl o.isSome), some (.int c)]) ?_ ?_
        · refine s_when (b := !o.isSome) (et_not (et_B (ev_var rfl))) (fun ho H6 e6 => ?_) (fun ho H6 e6 => ?_)
          · cases o with
            | some v => cases ho
            | none =>
              refine s_app (xs := xs.map V.int) (e6 _ _ (e5 _ _ hd)) (ev_var rfl) ev_c (by rw [List.length_map]; omega) (fun H7 e7 => ?_)
              refine ⟨Ex.mut (e4.trans (e5.trans (e6.trans e7))) hp, ?_, rfl⟩
              rw [List.map_append]
              exact upd_same
          · cases o with
            | none => cases ho
            | some v => exact ⟨e4.trans (e5.trans e6), e6 _ _ (e5 _ _ hd), rfl⟩
        · rintro σ' H6 ⟨e6, d6, rfl⟩
          refine q_appR (P := fun v H' => v = .int (10 * o.getD 0 + c - 48) ∧ Ex H H' ∧ H' p = some (.lst (xs.map V.int))) (ev_var rfl) d6 (fun H7 e7 => ?_) (fun v H7 hv => ?_)
          · refine ep_opR (P1 := fun v H' => v = .int (10 * o.getD 0 + c) ∧ Ex H H' ∧ H' p = some (.lst (xs.map V.int))) (ep_opR (P1 := fun v H' => v = .int (10 * o.getD 0) ∧ Ex H H' ∧ H' p = some (.lst (xs.map V.int))) (ep_opRR (P1 := fun v H' => v = .int (o.getD 0) ∧ Ex H H' ∧ H' p = some (.lst (xs.map V.int))) ev_c (fun H8 e8 => (ep_pop (l := p) (ns := xs ++ [o.getD 0]) (ev_var rfl) (e8 _ _ (e7 _ _ d6)) (by simp)).imp fun v G hv => ?_) (fun v G hv Q q => ?_)) (fun _ _ _ => ev_var rfl) (fun v G hv G2 g2 Q q => ?_)) (fun _ _ _ => ev_c) (fun v G hv G2 g2 Q q => ?_)
            · obtain ⟨rfl, G1, g1, rfl⟩ := hv
              exact ⟨by rw [List.getLast?_concat]; rfl, Ex.mut ((e6.trans e7).trans (e8.trans g1)) hp, by rw [upd_same, List.dropLast_concat]⟩
            · obtain ⟨rfl, g, gd⟩ := hv
              exact rv_mulL (by decide) G (Ex.refl G) Q fun G2 g2 => q _ _ ⟨rfl, g.trans g2, g2 _ _ gd⟩
            · obtain ⟨rfl, g, gd⟩ := hv
              exact rv_I0 G2 (Ex.refl G2) Q fun G3 g3 => q _ _ ⟨rfl, g.trans (g2.trans g3), g3 _ _ (g2 _ _ gd)⟩
            · obtain ⟨rfl, g, gd⟩ := hv
              exact rv_I0 G2 (Ex.refl G2) Q fun G3 g3 => q _ _ ⟨rfl, g.trans (g2.trans g3), g3 _ _ (g2 _ _ gd)⟩
          · obtain ⟨rfl, e7, d7⟩ := hv
            refine ⟨xs.map V.int, d7, by rw [List.length_map]; omega, ?_⟩
            refine s_asg ev_c (fun H8 e8 => ?_)
            refine ⟨(Ex.mut e7 hp).trans e8, ?_, _, rfl⟩
            rw [rdFin_some, List.map_append]
            exact e8 _ _ upd_same
      · refine s_asg ev_c (fun H6 e6 => ?_)
        unfold rdStep
        rw [if_neg (by rw [hb]; exact Bool.false_ne_true)]
        cases o with
        | none => exact ⟨e4.trans (e5.trans e6), e6 _ _ (e5 _ _ hd), _, rfl⟩
        | some v => exact ⟨e4.trans (e5.trans e6), e6 _ _ (e5 _ _ hd), _, rfl⟩
    · rintro σ' H' ⟨e4, hd, y, rfl⟩
      rw [List.length_map, List.take_length] at hd
      exact s_ret (ev_var rfl) (fun H6 e6 => k p H6 hp (e4.trans e6) (e6 _ _ hd))
theorem step_f {s : SS} {c : Int} (hf : s.f = false) (h0 : 0 ≤ c) : feedS s c = stepS s c ∧ (stepS s c).f = false := by
  have e : feedS s c = stepS s c := by unfold feedS; rw [hf]; rfl
  refine ⟨e, ?_⟩
  unfold stepS
  rw [if_neg (by omega)]
  split
  · exact hf
  split
  · exact hf
  split
  · unfold signS
    split
    · exact hf
    split
    · exact hf
    split
    · exact hf
    · exact hf
  · exact hf
def shV (a p : Addr) (s : SS) (y : Option V) : L2.St := [some (.ref a), some (.ref p), some (.int s.m), some (.int s.r), some (.bl s.w), y]
def sp_law_short (K : PySem.W.Frag) : Sp := fun vs H Q _ => ∃ (a : Addr) (ns : List Int), vs = [.ref a] ∧ SqL K H a (ns.map V.int) ∧ ns.length ≤ 1000 ∧ (∀ c ∈ ns, 0 ≤ c) ∧ RetL ((runS ns).cs.map V.int) H Q
theorem l_law_short {a : Addr} {ns : List Int} {H : Hp} (h : SqL K H a (ns.map V.int)) (hl : ns.length ≤ 1000) (h0 : ∀ c ∈ ns, 0 ≤ c) : SpL (sp_law_short K) [.ref a] H ((runS ns).cs.map V.int) := fun _ e _ q _ => ⟨a, ns, rfl, ex_l e h, hl, h0, q⟩
theorem ok_law_short (T : Txt K mg) : FnOk P w K mg base CX0 1 T.f_law_short T.d_law_short ["codes"] (sp_law_short K) := by
  refine T.F_law_short.ok sc_law_short (fun vs H Q E h => ?_) (fun cdv A outer s H vs Q E hr h => ?_)
  · obtain ⟨a, ns, rfl, _⟩ := h
    rfl
  · obtain ⟨a, ns, rfl, hS, hl, h0, k⟩ := h
    refine ⟨_, (pss_cons (ps_set (i := 1) sc_law_short.nd rfl (Or.inl rfl) (pe_lst pa_nil))
        (pss_cons (ps_set (i := 2) sc_law_short.nd rfl (Or.inl rfl) pe_int)
        (pss_cons (ps_set (i := 3) sc_law_short.nd rfl (Or.inl rfl) pe_int)
        (pss_cons (ps_set (i := 4) sc_law_short.nd rfl (Or.inl rfl) pe_bl)
        (pss_cons (ps_for PassesOwn.never rfl (pi_list (pv 0)) (pg_name (i := 5) sc_law_short.nd rfl (Or.inl rfl)) (pss_one (ps_if (pt_val (pv 4)) (pss_cons (ps_expr (pe_bm PySem.F.plainAttrs_list PySem.F.slot_list_extend PySem.F.type_list_extend mt_extend (pv 1) (pa_cons (pe_lst (pa_cons (pv 2) (pa_cons pe_int (pa_cons (pv 5) (pa_cons (pe_op op_add (pv 2) pe_int) pa_nil))))) pa_nil)))
        (pss_cons (ps_set (i := 2) sc_law_short.nd rfl (Or.inl rfl) (pe_op op_add (pv 2) pe_int))
        (pss_cons (ps_set (i := 3) sc_law_short.nd rfl (Or.inl rfl) pe_int)
        (pss_one (ps_set (i := 4) sc_law_short.nd rfl (Or.inl rfl) pe_bl))))) (pss_one (ps_if (pt_chain op_le op_le pe_int (pv 5) pe_int) (pss_one (ps_set (i := 3) sc_law_short.nd rfl (Or.inl rfl) (pe_op op_sub (pe_op op_add (pe_op op_mul pe_int (pv 3)) (pv 5)) pe_int))) (pss_one (ps_if (pt_cmpR op_eq (pv 5) pe_int (nomark _)) (pss_cons (ps_set (i := 2) sc_law_short.nd rfl (Or.inl rfl) (pv 3))
        (pss_one (ps_set (i := 3) sc_law_short.nd rfl (Or.inl rfl) pe_int))) (pss_one (ps_if (pt_cmpR op_eq (pv 5) pe_int (nomark _)) (pss_one (ps_set (i := 4) sc_law_short.nd rfl (Or.inl rfl) pe_bl)) (pss_one (ps_if (pt_cmpR op_eq (pv 5) pe_int (nomark _)) (pss_cons (ps_expr (pe_bm PySem.F.plainAttrs_list PySem.F.slot_list_extend PySem.F.type_list_extend mt_extend (pv 1) (pa_cons (pe_lst (pa_cons (pv 2) (pa_cons pe_int (pa_cons pe_int (pa_cons (pv 3) pa_nil))))) pa_nil)))
        (pss_cons (ps_set (i := 2) sc_law_short.nd rfl (Or.inl rfl) (pe_op op_add (pv 2) pe_int))
        (pss_one (ps_set (i := 3) sc_law_short.nd rfl (Or.inl rfl) pe_int)))) (pss_one (ps_if (pt_cmpR op_gt (pv 5) pe_int (nomark _)) (pss_cons (ps_expr (pe_bm PySem.F.plainAttrs_list PySem.F.slot_list_extend PySem.F.type_list_extend mt_extend (pv 1) (pa_cons (pe_lst (pa_cons (pv 2) (pa_cons (pv 5) (pa_cons (pv 3) (pa_cons (pe_op op_add (pv 2) pe_int) pa_nil))))) pa_nil)))
        (pss_cons (ps_set (i := 2) sc_law_short.nd rfl (Or.inl rfl) (pe_op op_add (pv 2) pe_int))
        (pss_one (ps_set (i := 3) sc_law_short.nd rfl (Or.inl rfl) pe_int)))) pss_nil)))))))))))))
        (pss_one (ps_ret (pv 1)))))))), ?_⟩
    refine q_asgL (xs := []) (el_lst ea_nil (by decide)) (fun p H1 hp e1 d1 => ?_)
    refine q_asg ev_c (fun H2 e2 => ?_)
    refine q_asg ev_c (fun H3 e3 => ?_)
    refine q_asg ev_c (fun H4 e4 => ?_)
    have e14 := e1.trans (e2.trans (e3.trans e4))
    refine q_forLn (ev_var rfl) (ex_l e14 hS) (fun i σ' H' => Ex H H' ∧ ∃ s : SS, (ns.take i).foldl feedS s0 = s ∧ s.f = false ∧ H' p = some (.lst (s.cs.map V.int)) ∧ ∃ y, σ' = shV a p s y) ?_ ?_ ?_ ?_
    · intro H5 e5
      exact ⟨e14.trans e5, s0, rfl, rfl, e5 _ _ (e4 _ _ (e3 _ _ (e2 _ _ d1))), none, rfl⟩
    · rintro i σ' H' _ ⟨e5, _⟩
      exact ex_l e5 hS
    · rintro i x σ' H' hx ⟨e5, s, hs, hf, hd, y, rfl⟩
      obtain ⟨c, hc, rfl⟩ := map_at hx
      have hi := (List.getElem?_eq_some_iff.mp hc).1
      have hlen := run_lenS (ns.take i) s0
      have hz0 : s0.cs.length = 0 := rfl
      rw [hs, List.length_take, hz0] at hlen
      have hc0 := h0 c (List.mem_of_getElem? hc)
      obtain ⟨es, hf'⟩ := step_f hf hc0
      have hs' : (ns.take (i + 1)).foldl feedS s0 = stepS s c := by rw [foldl_snoc hc, hs, es]
      have done : ∀ (s' : SS), stepS s c = s' → ∀ G, Ex H G → G p = some (.lst (s'.cs.map V.int)) → Ex H G ∧ ∃ t : SS, (ns.take (i + 1)).foldl feedS s0 = t ∧ t.f = false ∧ G p = some (.lst (t.cs.map V.int)) ∧ ∃ y', shV a p s' (some (.int c)) = shV a p t y' := fun s' e' G g1 g2 => ⟨g1, s', hs'.trans e', e' ▸ hf', g2, _, rfl⟩
      have st0 : ¬ c < 0 := by omega
      have four : ∀ {op arg su : Int} {G : Hp}, Ex H G → ((s.cs.map V.int).length + [V.int s.m, V.int op, V.int arg, V.int su].length ≤ 100000) := fun _ => by
        rw [List.length_map]; show s.cs.length + 4 ≤ _; omega
      have ext : ∀ {op arg su : Int}, (s.cs.map V.int) ++ [V.int s.m, .int op, .int arg, .int su] = (s.cs ++ [s.m, op, arg, su]).map V.int := fun {op arg su} => by rw [List.map_append]; rfl
      refine s_if (b := s.w) (et_B (ev_var rfl)) (fun hw H6 e6 => ?_) (fun hw H6 e6 => ?_)
      · have e' : stepS s c = ⟨s.m + 1, 0, false, s.f, s.cs ++ [s.m, 35, c, s.m + 1]⟩ := by unfold stepS; rw [if_neg st0, if_pos hw]; rfl
        refine q_ext (e6 _ _ hd) (ev_var rfl) (el_lst (vs := [.int s.m, .int 35, .int c, .int (s.m + 1)]) (ea_cons (ev_var rfl) (ea_cons ev_c (ea_cons (ev_var rfl) (ea_cons (ev_op (ev_var rfl) ev_c rv_I0) ea_nil)))) (by show 4 ≤ 100000; decide)) (four (e5.trans e6)) (fun H7 e7 => ?_)
        refine q_asg (ev_op (ev_var rfl) ev_c rv_I0) (fun H8 e8 => ?_)
        refine q_asg ev_c (fun H9 e9 => ?_)
        exact s_asg ev_c (fun H10 e10 => done _ e' _ ((Ex.mut (e5.trans (e6.trans e7)) hp).trans (e8.trans (e9.trans e10))) (e10 _ _ (e9 _ _ (e8 _ _ (by rw [upd_same, ext])))))
      have nw : ¬ s.w = true := by rw [hw]; exact Bool.false_ne_true
      refine s_if (b := isDg c) (et_test (ev_chain ev_c (ev_var rfl) rv_I0 (fun _ => ev_c) (fun _ => rv_I0))) (fun hb H7 e7 => ?_) (fun hb H7 e7 => ?_)
      · have e' : stepS s c = ⟨s.m, 10 * s.r + c - 48, s.w, s.f, s.cs⟩ := by unfold stepS; rw [if_neg st0, if_neg nw, if_pos hb]
        exact s_asg (v := .int (10 * s.r + c - 48)) (ev_op (ev_op (ev_op ev_c (ev_var rfl) (rv_mulL (by decide))) (ev_var rfl) rv_I0) ev_c rv_I0) (fun H8 e8 => done _ e' _ (e5.trans (e6.trans (e7.trans e8))) (e8 _ _ (e7 _ _ (e6 _ _ hd))))
      have nd : ¬ isDg c = true := by rw [hb]; exact Bool.false_ne_true
      refine s_if (b := decide (c = 58)) (et_test (ev_op (ev_var rfl) ev_c rv_eqI)) (fun hb H8 e8 => ?_) (fun hb H8 e8 => ?_)
      · have e := of_decide_eq_true hb
        have e' : stepS s c = ⟨s.r, 0, s.w, s.f, s.cs⟩ := by unfold stepS; rw [if_neg st0, if_neg nw, if_neg nd, if_pos (by omega)]; unfold signS; rw [if_neg (by omega), if_pos e]
        refine q_asg (ev_var rfl) (fun H9 e9 => ?_)
        exact s_asg ev_c (fun H10 e10 => done _ e' _ (e5.trans (e6.trans (e7.trans (e8.trans (e9.trans e10))))) (e10 _ _ (e9 _ _ (e8 _ _ (e7 _ _ (e6 _ _ hd))))))
      have n58 := of_decide_eq_false hb
      refine s_if (b := decide (c = 39)) (et_test (ev_op (ev_var rfl) ev_c rv_eqI)) (fun hb H9 e9 => ?_) (fun hb H9 e9 => ?_)
      · have e := of_decide_eq_true hb
        have e' : stepS s c = ⟨s.m, s.r, true, s.f, s.cs⟩ := by unfold stepS; rw [if_neg st0, if_neg nw, if_neg nd, if_pos (by omega)]; unfold signS; rw [if_pos e]
        exact s_asg ev_c (fun H10 e10 => done _ e' _ (e5.trans (e6.trans (e7.trans (e8.trans (e9.trans e10))))) (e10 _ _ (e9 _ _ (e8 _ _ (e7 _ _ (e6 _ _ hd))))))
      have n39 := of_decide_eq_false hb
      have hd9 := e9 _ _ (e8 _ _ (e7 _ _ (e6 _ _ hd)))
      have e59 := e5.trans (e6.trans (e7.trans (e8.trans e9)))
      refine s_if (b := decide (c = 62)) (et_test (ev_op (ev_var rfl) ev_c rv_eqI)) (fun hb H10 e10 => ?_) (fun hb H10 e10 => ?_)
      · have e := of_decide_eq_true hb
        have e' : stepS s c = ⟨s.m + 1, 0, s.w, s.f, s.cs ++ [s.m, 32, 0, s.r]⟩ := by unfold stepS; rw [if_neg st0, if_neg nw, if_neg nd, if_pos (by omega)]; unfold signS; rw [if_neg n39, if_neg n58, if_pos e]; rfl
        refine q_ext (e10 _ _ hd9) (ev_var rfl) (el_lst (vs := [.int s.m, .int 32, .int 0, .int s.r]) (ea_cons (ev_var rfl) (ea_cons ev_c (ea_cons ev_c (ea_cons (ev_var rfl) ea_nil)))) (by show 4 ≤ 100000; decide)) (four (e59.trans e10)) (fun H11 e11 => ?_)
        refine q_asg (ev_op (ev_var rfl) ev_c rv_I0) (fun H12 e12 => ?_)
        exact s_asg ev_c (fun H13 e13 => done _ e' _ ((Ex.mut (e59.trans (e10.trans e11)) hp).trans (e12.trans e13)) (e13 _ _ (e12 _ _ (by rw [upd_same, ext]))))
      have n62 := of_decide_eq_false hb
      refine s_when (b := decide (32 < c)) (et_test (ev_op (ev_var rfl) ev_c rv_I0)) (fun hb H11 e11 => ?_) (fun hb H11 e11 => ?_)
      · have e' : stepS s c = ⟨s.m + 1, 0, s.w, s.f, s.cs ++ [s.m, c, s.r, s.m + 1]⟩ := by unfold stepS; rw [if_neg st0, if_neg nw, if_neg nd, if_pos (of_decide_eq_true hb)]; unfold signS; rw [if_neg n39, if_neg n58, if_neg n62]; rfl
        refine q_ext (e11 _ _ (e10 _ _ hd9)) (ev_var rfl) (el_lst (vs := [.int s.m, .int c, .int s.r, .int (s.m + 1)]) (ea_cons (ev_var rfl) (ea_cons (ev_var rfl) (ea_cons (ev_var rfl) (ea_cons (ev_op (ev_var rfl) ev_c rv_I0) ea_nil)))) (by show 4 ≤ 100000; decide)) (four (e59.trans (e10.trans e11))) (fun H12 e12 => ?_)
        refine q_asg (ev_op (ev_var rfl) ev_c rv_I0) (fun H13 e13 => ?_)
        exact s_asg ev_c (fun H14 e14 => done _ e' _ ((Ex.mut (e59.trans (e10.trans (e11.trans e12))) hp).trans (e13.trans e14)) (e14 _ _ (e13 _ _ (by rw [upd_same, ext]))))
      · have e' : stepS s c = s := by unfold stepS; rw [if_neg st0, if_neg nw, if_neg nd, if_neg (of_decide_eq_false hb)]
        exact done s e' _ (e59.trans (e10.trans e11)) (e11 _ _ (e10 _ _ hd9))
    · rintro σ' H' ⟨e5, s, hs, hf, hd, y, rfl⟩
      rw [List.length_map, List.take_length] at hs
      refine s_ret (ev_var rfl) (fun H6 e6 => k p H6 hp (e5.trans e6) ?_)
      unfold runS
      rw [hs]
      exact e6 _ _ hd


end
end K66

set_option Elab.async false
set_option linter.all false
set_option maxRecDepth 100000
set_option maxHeartbeats 4000000
namespace K66
open PySem PySem.Spec PyProof.Rows L2 Evl Gd
/-! ### how expressions are evaluated, without a word of ours -/
local macro_rules | `(tactic| walk_at "ev") => `(tactic| exact ev_c)
local macro_rules | `(tactic| walk_at "ev") => `(tactic| exact ev_var rfl)
local macro_rules | `(tactic| walk_at "ev") => `(tactic| (refine' ev_op ?k1 ?k2 ?k3; (case k1 => walk_at "ev"); (case k2 => walk_at "ev"); (case k3 => walk_at "rv")))
local macro_rules | `(tactic| walk_at "ev") => `(tactic| (refine' ev_cb ?k1 ?k2; (case k1 => walk_at "ea"); (case k2 => walk_at "rc")))
local macro_rules | `(tactic| walk_at "ev") => `(tactic| (refine' ev_call ?k1 ?k2; (case k1 => walk_at "ea"); (case k2 => walk_at "sp")))
local macro_rules | `(tactic| walk_at "ev") => `(tactic| (refine' ev_chain ?k1 ?k2 ?k3 (fun _ => ?k4) (fun _ => ?k5); (case k1 => walk_at "ev"); (case k2 => walk_at "ev"); (case k3 => walk_at "rv"); (case k4 => walk_at "ev"); (case k5 => walk_at "rv")))
local macro_rules | `(tactic| walk_at "ev") => `(tactic| (refine' ev_orV ?k1 (fun _ => ?k2); (case k1 => walk_at "ev"); (case k2 => walk_at "ev")))
local macro_rules | `(tactic| walk_at "ev") => `(tactic| (refine' ev_andV ?k1 (fun _ => ?k2); (case k1 => walk_at "ev"); (case k2 => walk_at "ev")))
local macro_rules | `(tactic| walk_at "ev") => `(tactic| (refine' ev_notV ?k1; (case k1 => walk_at "ev")))
local macro_rules | `(tactic| walk_at "ea") => `(tactic| exact ea_nil)
local macro_rules | `(tactic| walk_at "ea") => `(tactic| (refine' ea_cons ?k1 ?k2; (case k1 => walk_at "ev"); (case k2 => walk_at "ea")))
local macro_rules | `(tactic| walk_at "rv") => `(tactic| exact rv_I0)
local macro_rules | `(tactic| walk_at "rv") => `(tactic| exact rv_eqI)
local macro_rules | `(tactic| walk_at "rv") => `(tactic| exact rv_neI)
local macro_rules | `(tactic| walk_at "rv") => `(tactic| exact rv_eqS)
local macro_rules | `(tactic| walk_at "rv") => `(tactic| exact rv_neS)
local macro_rules | `(tactic| walk_at "rv") => `(tactic| exact rv_mod (by decide))
local macro_rules | `(tactic| walk_at "rv") => `(tactic| exact rv_fdiv (by decide) (by decide))
local macro_rules | `(tactic| walk_at "rv") => `(tactic| exact rv_mulR (by decide))
local macro_rules | `(tactic| walk_at "rv") => `(tactic| exact rv_pow (by decide))
local macro_rules | `(tactic| walk_at "rc") => `(tactic| exact rc_int)
local macro_rules | `(tactic| walk_at "rc") => `(tactic| exact rc_ord)
local macro_rules | `(tactic| walk_at "et") => `(tactic| (refine' et_test ?k1; (case k1 => walk_at "ev")))
local macro_rules | `(tactic| walk_at "et") => `(tactic| (refine' et_B ?k1; (case k1 => walk_at "ev")))
local macro_rules | `(tactic| walk_at "et") => `(tactic| (refine' et_not ?k1; (case k1 => walk_at "et")))
local macro_rules | `(tactic| walk_at "et") => `(tactic| (refine' et_or ?k1 (fun _ => ?k2); (case k1 => walk_at "et"); (case k2 => walk_at "et")))
local macro_rules | `(tactic| walk_at "et") => `(tactic| (refine' et_and ?k1 (fun _ => ?k2); (case k1 => walk_at "et"); (case k2 => walk_at "et")))
section
variable {P : Program} {w : World} {K : PySem.W.Frag} {mg : Str → Option Value} {base : Heap}
/-! ### drawn texts -/
def CHS : Str := " !\"#$&'()*+,-./0123456789:;<=>?@ABCDEFGHIJKLMNOPQRSTUVWXYZ[\\]^_`" ++ "abcdefghijklmnopqrstuvwxyz{|}~\n"
def OFT : Str := "[]{}|;:A='019 28>#.,x+"
def chI (d : Int) : Nat := CHS.cps.toList.getD (d.fmod 95).toNat 0
def ofI (d : Int) : Nat := OFT.cps.toList.getD (d.fmod 22).toNat 0
theorem at_mod {z : Str} {m : Nat} (hm : z.cps.toList.length = m) (h0 : 0 < m) (v : Int) : atI z.cps.toList (v.fmod (m : Int)) = some (z.cps.toList.getD (v.fmod (m : Int)).toNat 0) := by
  have h1 := Int.fmod_nonneg_of_pos v (show (0 : Int) < (m : Int) by omega)
  have h2 := Int.fmod_lt_of_pos v (show (0 : Int) < (m : Int) by omega)
  obtain ⟨j, hj⟩ : ∃ j : Nat, v.fmod (m : Int) = (j : Int) := ⟨(v.fmod (m : Int)).toNat, by omega⟩
  rw [hj]
  refine atI_nat ?_
  show _ = some (z.cps.toList.getD j 0)
  rw [List.getD_eq_getElem?_getD, List.getElem?_eq_getElem (by omega)]
  rfl
theorem ix_all {z : Str} {m : Nat} (hm : z.cps.toList.length = m) (h0 : 0 < m) (hall : z.cps.toList.all (fun c => isCh ((c : Nat) : Int)) = true) (v : Int) : isCh ((z.cps.toList.getD (v.fmod (m : Int)).toNat 0 : Nat) : Int) = true := by
  have h1 := Int.fmod_nonneg_of_pos v (show (0 : Int) < (m : Int) by omega)
  have h2 := Int.fmod_lt_of_pos v (show (0 : Int) < (m : Int) by omega)
  have hlt : (v.fmod (m : Int)).toNat < z.cps.toList.length := by omega
  rw [List.getD_eq_getElem?_getD, List.getElem?_eq_getElem hlt]
  exact List.all_eq_true.mp hall _ (List.getElem_mem hlt)
theorem ch_ok (d : Int) : isCh ((chI d : Nat) : Int) = true := ix_all (m := 95) (by decide +kernel) (by decide) (by decide +kernel) d
theorem of_ok (d : Int) : isCh ((ofI d : Nat) : Int) = true := ix_all (m := 22) (by decide +kernel) (by decide) (by decide +kernel) d
theorem codes_app (x y : Str) : codes (x ++ y) = codes x ++ codes y := by
  unfold codes
  rw [show (x ++ y).cps = x.cps ++ y.cps from rfl, Array.toList_append, List.map_append]
theorem codes_one (c : Nat) : codes ⟨#[c]⟩ = [((c : Nat) : Int)] := rfl
theorem len_app (x y : Str) : (x ++ y).cps.size = x.cps.size + y.cps.size := by
  rw [show (x ++ y).cps = x.cps ++ y.cps from rfl, Array.size_append]
def sp_law_char (K : PySem.W.Frag) : Sp := fun vs H Q _ => ∃ d : Int, vs = [.int d] ∧ RetV (.str ⟨#[chI d]⟩) H Q
theorem v_law_char {d : Int} {H : Hp} : SpV (sp_law_char K) [.int d] H (.str ⟨#[chI d]⟩) := fun _ _ _ q _ => ⟨d, rfl, q⟩
theorem ok_law_char (T : Txt K mg) : FnOk P w K mg base CX0 1 T.f_law_char T.d_law_char ["code"] (sp_law_char K) := by
  refine T.F_law_char.ok sc_law_char (fun vs H Q E h => ?_) (fun cdv A outer s H vs Q E hr h => ?_)
  · obtain ⟨d, rfl, _⟩ := h
    rfl
  · obtain ⟨d, rfl, k⟩ := h
    refine ⟨_, (pss_cons (ps_set (i := 1) sc_law_char.nd rfl (Or.inl rfl) pe_str)
        (pss_cons (ps_set (i := 1) sc_law_char.nd rfl (Or.inl rfl) (pe_op op_add_str (pv 1) pe_str))
        (pss_one (ps_ret (pe_ix ix_str (pv 1) (pe_op op_modN (pe_callTy call_int1 (by rfl) T.n_int (by decide +kernel) (pa_cons (pv 0) pa_nil)) pe_int) (fun _ _ => rfl)))))), ?_⟩
    refine q_asg ev_c (fun H1 e1 => ?_)
    refine q_asg (v := .str CHS) (ev_op (ev_var rfl) ev_c (rv_addS (by decide +kernel))) (fun H2 e2 => ?_)
    exact s_ret (ev_op (ev_var rfl) (ev_op (ev_cb (ea_cons (ev_var rfl) ea_nil) rc_int) ev_c (rv_mod (by decide))) (rv_ixS (by decide +kernel) (at_mod (m := 95) (by decide +kernel) (by decide) d))) fun H3 e3 => k H3 (e1.trans (e2.trans e3))
def TxD (p : Addr) (H : Hp) (n : Nat) : V → Hp → Prop := fun v H' => ∃ z : Str, v = .str z ∧ (codes z).all isCh = true ∧ z.cps.size ≤ n ∧ Drw p H' ∧ But p H H'
def sp_law_text (K : PySem.W.Frag) : Sp := fun vs H Q _ => ∃ p : Addr, vs = [.ref p] ∧ Drw p H ∧ ∀ v H', TxD p H 60 v H' → Q v H'
theorem ep_text {p : Addr} {i : Nat} {σ : L2.St} {H : Hp} (hi : σ[i]? = some (some (.ref p))) (hD : Drw p H) : EvP (tCall (sp_law_text K) [] E0 (tCons (tVar i) tNil)) σ H (TxD p H 60) := fun Q q => ⟨_, hi, p, rfl, hD, q⟩
theorem ok_law_text (T : Txt K mg) : FnOk P w K mg base CX0 2 T.f_law_text T.d_law_text ["draws"] (sp_law_text K) := by
  refine T.F_law_text.ok sc_law_text (fun vs H Q E h => ?_) (fun cdv A outer s H vs Q E hr h => ?_)
  · obtain ⟨p, rfl, _⟩ := h
    rfl
  · obtain ⟨p, rfl, hD1, k⟩ := h
    refine ⟨_, (pss_cons (ps_set (i := 1) sc_law_text.nd rfl (Or.inl rfl) pe_str)
        (pss_cons (ps_set (i := 2) sc_law_text.nd rfl (Or.inl rfl) pe_str)
        (pss_cut (ps_for PassesOwn.never rfl (pi_range1 (by rfl) T.n_range (pa_cons pe_int pa_nil)) (pg_name (i := 3) sc_law_text.nd rfl (Or.inl rfl)) (pss_cons (ps_if (pt_not (pt_truth (pv 0) (by intro _; rfl))) (pss_one ps_break) pss_nil)
        (pss_cons (ps_set (i := 4) sc_law_text.nd rfl (Or.inl rfl) (pe_call (ok_law_next T) (hr.mono (by decide)) (by rfl) T.g_law_next T.F_law_next.kp T.b_law_next .nil pass0 (pa_cons (pv 0) pa_nil)))
        (pss_one (ps_if (pt_cmpR op_lt (pv 4) pe_int (nomark _)) (pss_one (ps_set (i := 2) sc_law_text.nd rfl (Or.inl rfl) (pe_op op_add_str (pv 2) (pe_ix ix_str (pv 1) (pe_op op_modN (pe_callTy call_int1 (by rfl) T.n_int (by decide +kernel) (pa_cons (pv 4) pa_nil)) pe_int) (fun _ _ => rfl))))) (pss_one (ps_set (i := 2) sc_law_text.nd rfl (Or.inl rfl) (pe_op op_add_str (pv 2) (pe_call (ok_law_char T) (hr.mono (by decide)) (by rfl) T.g_law_char T.F_law_char.kp T.b_law_char .nil pass0 (pa_cons (pv 4) pa_nil))))))))))
        (pss_one (ps_ret (pv 2)))))), ?_⟩
    refine q_asg (v := .str OFT) ev_c (fun H2 e2 => ?_)
    refine q_asg (v := .str "") ev_c (fun H3 e3 => ?_)
    refine q_cut (M := fun σ' H' => Drw p H' ∧ But p H H' ∧ ∃ (z : Str) (y1 y2 : Option V), (codes z).all isCh = true ∧ z.cps.size ≤ 60 ∧ σ' = [some (.ref p), some (.str OFT), some (.str z), y1, y2]) ?_ ?_
    · refine s_forR1 (n := 60) (ea_cons ev_c ea_nil) (by decide) (fun i σ' H' => Drw p H' ∧ But p H H' ∧ ∃ (z : Str) (y1 y2 : Option V), (codes z).all isCh = true ∧ z.cps.size ≤ i ∧ σ' = [some (.ref p), some (.str OFT), some (.str z), y1, y2]) ?_ ?_ ?_
      · intro H4 e4
        exact ⟨hD1.ex (e2.trans (e3.trans e4)), ex_but (e2.trans (e3.trans e4)), "", none, none, rfl, Nat.zero_le _, rfl⟩
      · rintro i σ' H' hi ⟨hD, bb, z, y1, y2, hall, hz, rfl⟩
        have hi : i < 60 := by omega
        obtain ⟨ds, hd, hs, hlen⟩ := id hD
        refine q_when (b := !!(ds.map V.int).isEmpty) (et_not (et_truL (K := K) (ev_var rfl) (sq_of hd))) (fun hb H3 e3 => ?_) (fun hb H3 e3 => ?_)
        · exact ⟨hD.ex e3, bb.trans (ex_but e3), z, _, y2, hall, by omega, rfl⟩
        · refine q_asgP (ep_next (p := p) rfl (hD.ex e3)) (fun v H4 hv => ?_)
          obtain ⟨d, rfl, hd4, hD4, b4⟩ := hv
          have done : ∀ (c : Nat), isCh ((c : Nat) : Int) = true → ∀ G, Ex H4 G → Drw p G ∧ But p H G ∧ ∃ (z' : Str) (y1' y2' : Option V), (codes z').all isCh = true ∧ z'.cps.size ≤ i + 1 ∧ ([some (.ref p), some (.str OFT), some (.str (z ++ ⟨#[c]⟩)), some (.int (i : Int)), some (.int d)] : L2.St) = [some (.ref p), some (.str OFT), some (.str z'), y1', y2'] := fun c hc G g =>
            ⟨hD4.ex g, bb.trans ((ex_but e3).trans (b4.trans (ex_but g))), z ++ ⟨#[c]⟩, _, _, by rw [codes_app, codes_one, List.all_append, hall, List.all_cons, hc]; rfl, by rw [len_app]; show z.cps.size + 1 ≤ _; omega, rfl⟩
          have hlz : ∀ c : Nat, z.length + (⟨#[c]⟩ : Str).length ≤ 100000 := fun c => by
            show z.cps.size + 1 ≤ _
            omega
          refine s_if (b := decide (d < 700)) (et_test (ev_op (ev_var rfl) ev_c rv_I0)) (fun hb H5 e5 => ?_) (fun hb H5 e5 => ?_)
          · exact s_asg (ev_op (ev_var rfl) (ev_op (ev_var rfl) (ev_op (ev_cb (ea_cons (ev_var rfl) ea_nil) rc_int) ev_c (rv_mod (by decide))) (rv_ixS (by decide +kernel) (at_mod (m := 22) (by decide +kernel) (by decide) d))) (rv_addS (hlz _))) fun H6 e6 => done (ofI d) (of_ok d) H6 (e5.trans e6)
          · exact s_asg (ev_op (ev_var rfl) (ev_call (ea_cons (ev_var rfl) ea_nil) v_law_char) (rv_addS (hlz _))) fun H6 e6 => done (chI d) (ch_ok d) H6 (e5.trans e6)
      · rintro σ' H4 ⟨hD4, bb, z, y1, y2, hall, hz, rfl⟩
        exact ⟨hD4, bb, z, y1, y2, hall, hz, rfl⟩
    · rintro σ' H5 ⟨hD5, bb5, z, y1, y2, hall, hz, rfl⟩
      exact s_ret (ev_var rfl) fun H6 e6 => k _ H6 ⟨z, rfl, hall, hz, hD5.ex e6, bb5.trans (ex_but e6)⟩
/-! ### what is told -/
def tagD (s : Str) (l : List Int) : PyData := .tuple [.str s, .list (l.map PyData.int)]
def toldD (x z : Str) : PyData := if x ∈ KN then (if (codes z).all isCh = true then tagD "binary" (meantI x (codes z)) else tagD "text" []) else tagD "kind" []
theorem s_retTupS {σ : L2.St} {H : Hp} {te : TE} {t : TA} {sp : Sp} {E : L2.St → XK} {D : Ends} {x : V} {vs : List V} (h : Ev te σ H x) (ht : EvA t σ H vs) (k : ∀ H1, Ex H H1 → sp vs H1 (fun v H2 => ∀ t, H2 t = none → D.rt (.ref t) (upd H2 t (.tup [x, v]))) (E σ)) (mono : ∀ (vs : List V) (H : Hp) (Q Q' : VK) (E : XK), (∀ v H', Q v H' → Q' v H') → sp vs H Q E → sp vs H Q' E) : tRet (tTup (tCons te (tCons (tCallS sp E t) tNil))) D σ H :=
  h H (Ex.refl H) _ fun H1 e1 => ht H1 e1 _ fun H2 e2 => mono _ _ _ _ _ (fun v H3 q => ⟨by show 2 ≤ _; rw [sizeLine_eq]; decide, q⟩) (k H2 (e1.trans e2))
theorem due_mono {CN CB : Addr} (vs : List V) (H : Hp) (Q Q' : VK) (E : XK) (h : ∀ v H', Q v H' → Q' v H') (s : sp_due K CN CB vs H Q E) : sp_due K CN CB vs H Q' E := by
  obtain ⟨x, z, h1, h2, h3, h4, h5⟩ := s
  exact ⟨x, z, h1, h2, h3, h4, fun hx hc p H2 np e hp => h _ _ (h5 hx hc p H2 np e hp)⟩
def sp_law_told (K : PySem.W.Frag) : Sp := fun vs H Q _ => ∃ x z : Str, vs = [.str x, .str z] ∧ z.cps.size ≤ 1000 ∧ RetD K (toldD x z) H Q
theorem ok_law_told (T : Txt K mg) : FnOk P w K mg base CX0 9 T.f_law_told T.d_law_told ["kind", "text"] (sp_law_told K) := by
  refine T.F_law_told.ok sc_law_told (fun vs H Q E h => ?_) (fun cdv A outer s H vs Q E hr h => ?_)
  · obtain ⟨x, z, rfl, _⟩ := h
    rfl
  · obtain ⟨x, z, rfl, hz, k⟩ := h
    refine ⟨_, (pss_one (Gd.ps_try_mix rfl rfl sc_law_told.nd takes0 (fun W pn xe tk own => (pss_one (ps_ret (pe_tup (pa_cons pe_str (pa_cons (pe_callS (ok_due T) (hr.mono (by decide)) (by rfl) T.g_due T.F_due.kp T.b_due (fun σ => passAt tk σ) (by exact (pa_cons (pv 0) (pa_cons (pv 1) pa_nil)))) pa_nil)))))) (.cons ⟨(by rfl), by decide, .inl T.g_BadKind⟩ (.as (i := 2) rfl rfl) (fun a oe cls d pn hz hf => (pss_cons (ps_if (PW.pt (pw_or (pt_val (pe_callB (call_isX ⟨T.ga_BadKind, T.gg_BadKind, T.b_BadKind, T.hd_BadKind, T.gc_BadKind, T.gs_BadKind, T.gt_BadKind, T.gm_BadKind⟩ hz hf) (by rfl) T.n_isinstance (by decide +kernel) (pa_cons (pv 2) (pa_cons (pe_glob (v := .ref T.C_NotText) (by rfl) T.g_NotText rfl) pa_nil)))) (pw_or1 (pt_not (pt_val (pe_callB (call_isX ⟨T.ga_BadKind, T.gg_BadKind, T.b_BadKind, T.hd_BadKind, T.gc_BadKind, T.gs_BadKind, T.gt_BadKind, T.gm_BadKind⟩ hz hf) (by rfl) T.n_isinstance (by decide +kernel) (pa_cons (pv 2) (pa_cons (pe_glob (v := .ref T.C_PlinthError) (by rfl) T.g_PlinthError rfl) pa_nil)))))))) (pss_one (ps_ret (pe_tup (pa_cons pe_str (pa_cons (pe_lst pa_nil) pa_nil))))) pss_nil)
        (pss_one (ps_ret (pe_tup (pa_cons pe_str (pa_cons (pe_lst pa_nil) pa_nil))))))) (.cons ⟨(by rfl), by decide, .inl T.g_NotText⟩ (.as (i := 2) rfl rfl) (fun a oe cls d pn hz hf => (pss_cons (ps_if (pt_not (pt_val (pe_callB (call_isX ⟨T.ga_NotText, T.gg_NotText, T.b_NotText, T.hd_NotText, T.gc_NotText, T.gs_NotText, T.gt_NotText, T.gm_NotText⟩ hz hf) (by rfl) T.n_isinstance (by decide +kernel) (pa_cons (pv 2) (pa_cons (pe_glob (v := .ref T.C_PlinthError) (by rfl) T.g_PlinthError rfl) pa_nil))))) (pss_one (ps_ret (pe_tup (pa_cons pe_str (pa_cons (pe_lst pa_nil) pa_nil))))) pss_nil)
        (pss_one (ps_ret (pe_tup (pa_cons pe_str (pa_cons (pe_lst pa_nil) pa_nil))))))) .nil)))), ?_⟩
    have go : ∀ {tz : Str} {te : TA} {σ : L2.St} {D : Ends} {H2 : Hp}, D.rt = Q → Ex H H2 → toldD x z = tagD tz [] → tRet (tTup (tCons (tC (.str tz)) (tCons (tLst tNil) tNil))) D σ H2 := fun {tz te σ D H2} eD e2 et =>
      s_retD (K := K) (d := tagD tz []) (ed_tup (eda_cons (ed_ev ev_c (.str tz)) (eda_cons (ed_L (xs := []) (el_lst ea_nil (by decide)) (dpAll_ints [])) eda_nil)) (by show 2 ≤ 100000; decide)) fun v H4 e4 hv => by rw [eD]; exact k v H4 (e2.trans e4) (by rw [et]; exact hv)
    refine s_retTupS ev_c (ea_cons (ev_var rfl) (ea_cons (ev_var rfl) ea_nil)) (fun H1 e1 => ⟨x, z, rfl, hz, fun hx H2 e2 => ?_, fun hx hc H2 e2 => ?_, fun hx hc p H2 np e2 hp t nt => ?_⟩) due_mono
    · have et : toldD x z = tagD "kind" [] := by unfold toldD; rw [if_neg hx]
      refine ⟨true, PySem.W.exm_ref T.b_BadKind T.hd_BadKind T.t_BadKind T.s_BadKind, fun _ ae hae => ?_, fun q => nomatch q⟩
      refine q_when (b := false) (et_is (et_or (a := false) (b := false) (et_B (ev_cb (ea_cons (ev_var rfl) (ea_cons ev_c ea_nil)) (rc_isX (fun u h => h) T.kit_BadKind_NotText))) (fun _ => et_is (et_not (et_B (ev_cb (ea_cons (ev_var rfl) (ea_cons ev_c ea_nil)) (rc_isX (fun u h => h) T.kit_BadKind_PlinthError)))) rfl)) rfl) (fun hb => nomatch hb) (fun _ H3 e3 => ?_)
      exact go (te := tNil) rfl (e1.trans (e2.trans e3)) et
    · have et : toldD x z = tagD "text" [] := by unfold toldD; rw [if_pos hx, if_neg (by rw [hc]; exact Bool.false_ne_true)]
      refine ⟨false, PySem.W.exm_ref T.b_BadKind T.hd_BadKind T.t_BadKind T.sub_NotText_BadKind, (fun q => nomatch q), fun _ => ⟨true, PySem.W.exm_ref T.b_NotText T.hd_NotText T.t_NotText T.s_NotText, fun _ ae hae => ?_, fun q => nomatch q⟩⟩
      refine q_when (b := false) (et_is (et_not (et_B (ev_cb (ea_cons (ev_var rfl) (ea_cons ev_c ea_nil)) (rc_isX (fun u h => h) T.kit_NotText_PlinthError)))) rfl) (fun hb => nomatch hb) (fun _ H3 e3 => ?_)
      exact go (te := tNil) rfl (e1.trans (e2.trans e3)) et
    · have et : toldD x z = tagD "binary" (meantI x (codes z)) := by unfold toldD; rw [if_pos hx, if_pos hc]
      refine k _ _ ((e1.trans e2).trans (Ex.new nt)) ?_
      rw [et]
      exact .tup (st_of upd_same) (.cons (.str _) (.cons (dp_ints (sq_of (by rw [upd_ne (ne_of_none hp nt)]; exact hp))) .nil))
theorem drwNe {p q : Addr} {H H1 : Hp} (h : Drw p H) (n : H q = none) : q ≠ p := fun e => by
  obtain ⟨ds, hd, _⟩ := h
  rw [e, hd] at n
  cases n
theorem drwUpd {p q : Addr} {H : Hp} {o : HO} (h : Drw p H) (n : q ≠ p) : Drw p (upd H q o) := by
  obtain ⟨ds, hd, hs⟩ := h
  exact ⟨ds, by rw [upd_ne n.symm]; exact hd, hs⟩
theorem butNew {p q : Addr} {H H' : Hp} {o : HO} (b : But p H H') (n : H q = none) : But p H (upd H' q o) := fun a u ha h => by
  rw [upd_ne (ne_of_none h n)]
  exact b a u ha h
theorem ep_mod {p : Addr} {i : Nat} {σ : L2.St} {G : Hp} {m : Int} (hi : σ[i]? = some (some (.ref p))) (hG : Drw p G) (hm : 0 < m) : EvP (tOp (rI (fun _ j => j ≠ 0) fun i j => .int (i.fmod j)) (tCB rInt1 (tCons (tCall (sp_law_next K) [] E0 (tCons (tVar i) tNil)) tNil)) (tC (.int m))) σ G (DP p G fun x => 0 ≤ x ∧ x < m) := fun Q q =>
  ep_next (p := p) hi hG _ fun v H' hv => by
    obtain ⟨d, rfl, hd, hD4, b4⟩ := hv
    exact .inl ⟨d, rfl, d, m, rfl, rfl, (show m ≠ 0 by omega), q _ _ ⟨d.fmod m, rfl, fmod_in d hm, hD4, b4⟩⟩
theorem ep_intN {p : Addr} {i : Nat} {σ : L2.St} {G : Hp} (hi : σ[i]? = some (some (.ref p))) (hG : Drw p G) : EvP (tCB rInt1 (tCons (tCall (sp_law_next K) [] E0 (tCons (tVar i) tNil)) tNil)) σ G (DP p G fun x => 0 ≤ x ∧ x < 1000) := fun Q q =>
  ep_next (p := p) hi hG _ fun v H' hv => by
    obtain ⟨d, rfl, hd, hD4, b4⟩ := hv
    exact .inl ⟨d, rfl, q _ _ ⟨d, rfl, hd, hD4, b4⟩⟩
theorem ep_lcDrN {p : Addr} {C : Int → Prop} {σ : L2.St} {H : Hp} {td te : TE} {m j : Nat} {vs : List Nat} (h : EvP td σ H (DP p H fun d => 0 ≤ d ∧ d < (m : Int))) (hz : m ≤ 90000) (hw : ∀ x, wipe ((wipe σ vs).set j (some x)) vs = wipe σ vs)
    (he : ∀ (i : Nat) H', Drw p H' → EvP te ((wipe σ vs).set j (some (.int (i : Int)))) H' (DP p H' C)) : EvP (tLc (iRng1 (tCons td tNil)) (gName j) tYes te vs) σ H (fun v H' => ∃ n, n < m ∧ DrL p H n C v H') := fun Q q =>
  h _ fun v H1 hv => by
    obtain ⟨d, rfl, hd, hD1, b1⟩ := hv
    have := ep_lcDr (p := p) (C := C) (ta := tCons (tC (.int (d.toNat : Int))) tNil) (n := d.toNat) (σ := σ) (H := H1) (ea_cons ev_c ea_nil) (by omega) hD1 hw (fun i _ H' _ hD' => he i H' hD') Q (fun v H' hv => by
      obtain ⟨q0, cs, h1, h2, h3, h4, h5, h6⟩ := hv
      refine q v H' ⟨d.toNat, by omega, q0, cs, h1, ?_, b1.trans h3, h4, h5, h6⟩
      by_cases z : q0 = p
      · obtain ⟨es, hes, _⟩ := hD1
        rw [z, hes] at h2
        cases h2
      · cases h0 : H q0 with
        | none => rfl
        | some o => rw [b1 _ _ z h0] at h2; cases h2)
    rw [Int.toNat_of_nonneg hd.1] at this
    exact this
/-! ### two lists -/
def TwD (K : PySem.W.Frag) (p : Addr) : V → Hp → Prop := fun v H' => ∃ one other : List Int, Dp K H' v (.tuple [.list (one.map PyData.int), .list (other.map PyData.int)]) ∧ one.length ≤ 100 ∧ other.length ≤ 200 ∧ Drw p H'
def sp_law_lists (K : PySem.W.Frag) : Sp := fun vs H Q _ => ∃ p : Addr, vs = [.ref p] ∧ Drw p H ∧ ∀ v H', TwD K p v H' → Q v H'
theorem ep_lists {p : Addr} {i : Nat} {σ : L2.St} {H : Hp} (hi : σ[i]? = some (some (.ref p))) (hD : Drw p H) : EvP (tCall (sp_law_lists K) [] E0 (tCons (tVar i) tNil)) σ H (TwD K p) := fun Q q => ⟨_, hi, p, rfl, hD, q⟩
theorem ok_law_lists (T : Txt K mg) : FnOk P w K mg base CX0 2 T.f_law_lists T.d_law_lists ["draws"] (sp_law_lists K) := by
  refine T.F_law_lists.ok sc_law_lists (fun vs H Q E h => ?_) (fun cdv A outer s H vs Q E hr h => ?_)
  · obtain ⟨p, rfl, _⟩ := h
    rfl
  · obtain ⟨p, rfl, hD1, k⟩ := h
    refine ⟨_, (pss_cons (ps_setLc (i := 1) (own := [("k", 2)]) (by rfl) sc_law_lists.nd rfl rfl (sw_true rfl rfl rfl (by decide +kernel)) (pi_range1 (by rfl) T.n_range (pa_cons (pe_op op_modN (pe_callTy call_int1 (by rfl) T.n_int (by decide +kernel) (pa_cons (pe_call (ok_law_next T) (hr.mono (by decide)) (by rfl) T.g_law_next T.F_law_next.kp T.b_law_next .nil pass0 (pa_cons (pv 0) pa_nil)) pa_nil)) pe_int) pa_nil)) (blkOk_by (own := [("k", 2)]) (N := N_law_lists) (sc := defScope s_law_lists) (by decide +kernel)) (fun _ _ _ _ _ => pg_name (i := 2) sc_law_lists.nd rfl (Or.inl rfl)) (fun _ _ _ _ _ => pts_nil) (fun _ _ _ _ _ => (pe_op op_sub (pe_op op_modN (pe_callTy call_int1 (by rfl) T.n_int (by decide +kernel) (pa_cons (pe_call (ok_law_next T) (hr.mono (by decide)) (by rfl) T.g_law_next T.F_law_next.kp T.b_law_next .nil pass0 (pa_cons (pv 0) pa_nil)) pa_nil)) pe_int) pe_int)))
        (pss_cons (ps_set (i := 3) sc_law_lists.nd rfl (Or.inl rfl) (pe_op op_modN (pe_callTy call_int1 (by rfl) T.n_int (by decide +kernel) (pa_cons (pe_call (ok_law_next T) (hr.mono (by decide)) (by rfl) T.g_law_next T.F_law_next.kp T.b_law_next .nil pass0 (pa_cons (pv 0) pa_nil)) pa_nil)) pe_int))
        (pss_cons (ps_set (i := 4) sc_law_lists.nd rfl (Or.inl rfl) (pe_op op_modN (pe_callTy call_int1 (by rfl) T.n_int (by decide +kernel) (pa_cons (pe_call (ok_law_next T) (hr.mono (by decide)) (by rfl) T.g_law_next T.F_law_next.kp T.b_law_next .nil pass0 (pa_cons (pv 0) pa_nil)) pa_nil)) pe_int))
        (pss_cons (ps_if (pt_cmpR op_eq (pv 3) pe_int (nomark _)) (pss_one (ps_ret (pe_tup (pa_cons (pv 1) (pa_cons (pe_callTy call_list_of (by rfl) T.n_list (by decide +kernel) (pa_cons (pv 1) pa_nil)) pa_nil))))) pss_nil)
        (pss_cons (ps_if (pt_cmpR op_eq (pv 3) pe_int (nomark _)) (pss_one (ps_ret (pe_tup (pa_cons (pv 1) (pa_cons (pe_slice sl_list (pv 1) po_none (po_some (pv 4))) pa_nil))))) pss_nil)
        (pss_cons (ps_if (pt_cmpR op_eq (pv 3) pe_int (nomark _)) (pss_one (ps_ret (pe_tup (pa_cons (pv 1) (pa_cons (pe_op op_cat (pv 1) (pe_op op_rep (pe_lst (pa_cons (pe_callTy call_int1 (by rfl) T.n_int (by decide +kernel) (pa_cons (pv 4) pa_nil)) pa_nil)) pe_int)) pa_nil))))) pss_nil)
        (pss_cons (ps_if (pt_cmpR op_eq (pv 3) pe_int (nomark _)) (pss_one (ps_ret (pe_tup (pa_cons (pv 1) (pa_cons (pe_op op_cat (pe_op op_cat (pe_slice sl_list (pv 1) po_none (po_some (pv 4))) (pe_lst (pa_cons pe_int pa_nil))) (pe_slice sl_list (pv 1) (po_some (pe_op op_add (pv 4) pe_int)) po_none)) pa_nil))))) pss_nil)
        (pss_cons (ps_if (pt_cmpR op_eq (pv 3) pe_int (nomark _)) (pss_one (ps_ret (pe_tup (pa_cons (pv 1) (pa_cons (pe_op op_cat (pe_slice sl_list (pv 1) po_none (po_some (pv 4))) (pe_slice sl_list (pv 1) (po_some (pe_op op_add (pv 4) pe_int)) po_none)) pa_nil))))) pss_nil)
        (pss_one (ps_ret (pe_tup (pa_cons (pv 1) (pa_cons (pe_lc (own := [("k", 2)]) (by rfl) sc_law_lists.nd (pi_range1 (by rfl) T.n_range (pa_cons (pv 4) pa_nil)) (blkOk_by (own := [("k", 2)]) (N := N_law_lists) (sc := defScope s_law_lists) (by decide +kernel)) (fun _ _ _ _ _ => pg_name (i := 2) sc_law_lists.nd rfl (Or.inl rfl)) (fun _ _ _ _ _ => pts_nil) (fun _ _ _ _ _ => (pe_op op_sub (pe_op op_modN (pe_callTy call_int1 (by rfl) T.n_int (by decide +kernel) (pa_cons (pe_call (ok_law_next T) (hr.mono (by decide)) (by rfl) T.g_law_next T.F_law_next.kp T.b_law_next .nil pass0 (pa_cons (pv 0) pa_nil)) pa_nil)) pe_int) pe_int))) pa_nil))))))))))))), ?_⟩
    refine q_asgP (ep_lcDrN (p := p) (m := 21) (C := fun _ => True) (ep_mod (m := 21) rfl hD1 (by decide)) (by decide) (fun _ => rfl) (fun i G hG => ep_opL (g := fun d => d - 4) (ep_mod (m := 9) rfl hG (by decide)) (fun _ => ev_c) (fun d G1 Q _ q => ⟨d, 4, rfl, rfl, q⟩) (fun _ _ => trivial))) (fun v H2 hv => ?_)
    obtain ⟨n, hn, q, one, rfl, nq, b2, hD2, hq2, hl, _⟩ := hv
    have nqp : q ≠ p := drw_ne hD1 nq
    refine q_asgP (ep_mod (m := 6) rfl hD2 (by decide)) (fun v H3 hv => ?_)
    obtain ⟨kd, rfl, hkd, hD3, b3⟩ := hv
    refine q_asgP (ep_mod (m := 21) rfl hD3 (by decide)) (fun v H4 hv => ?_)
    obtain ⟨at_, rfl, hat, hD4, b4⟩ := hv
    have hq4 := b4 _ _ nqp (b3 _ _ nqp hq2)
    have hA : ∀ {G : Hp}, Ex H4 G → G q = some (.lst (one.map V.int)) := fun g => g _ _ hq4
    have hk : ∀ {G : Hp} {c : Int}, EvT (tTest (tOp rEq (tVar 3) (tC (.int c)))) [some (.ref p), some (.ref q), none, some (.int kd), some (.int at_)] G (decide (kd = c)) := fun {G c} => et_test (ev_op (ev_var rfl) ev_c rv_eqI)
    have go : ∀ {te : TE} {G : Hp} {os : List Int}, Ex H4 G → EvL te [some (.ref p), some (.ref q), none, some (.int kd), some (.int at_)] G (os.map V.int) → os.length ≤ 200 →
        tRet (tTup (tCons (tVar 1) (tCons te tNil))) { nx := fun x H' => Q V.non H', rt := Q } [some (.ref p), some (.ref q), none, some (.int kd), some (.int at_)] G := fun {te G os} g h hlo =>
      s_retD (K := K) (d := .tuple [.list (one.map PyData.int), .list (os.map PyData.int)]) (ed_tup (eda_cons (ed_ev (ev_var rfl) (dp_ints (sq_of (hA g)))) (eda_cons (ed_L h (dpAll_ints os)) eda_nil)) (by show 2 ≤ 100000; decide)) fun v G2 g2 hv => k v G2 ⟨one, os, hv, by omega, hlo, hD4.ex (g.trans g2)⟩
    have c1 := cutZ_len one none (some at_)
    have c2 := cutZ_len one (some (at_ + 1)) none
    refine q_when (b := decide (kd = 0)) hk (fun _ H5 e5 => go (os := one) e5 (el_list (ev_var rfl) (sq_of (hA e5))) (by omega)) (fun _ H5 e5 => ?_)
    refine q_when (b := decide (kd = 1)) hk (fun _ H6 e6 => go (e5.trans e6) (el_slI (ev_var rfl) (sq_of (hA (e5.trans e6))) eo_none (eo_some (ev_var rfl))) (by omega)) (fun _ H6 e6 => ?_)
    refine q_when (b := decide (kd = 2)) hk (fun _ H7 e7 => ?_) (fun _ H7 e7 => ?_)
    · refine go (os := one ++ [at_, at_, at_]) (e5.trans (e6.trans e7)) ?_ (by rw [List.length_append]; show one.length + 3 ≤ _; omega)
      rw [List.map_append]
      exact el_cat (ys := [V.int at_, .int at_, .int at_]) (ev_var rfl) (hA (e5.trans (e6.trans e7))) (el_rep (xs := [.int at_]) (n := 3) (el_lst (vs := [.int at_]) (ea_cons (ev_cb (ea_cons (ev_var rfl) ea_nil) rc_int) ea_nil) (by show 1 ≤ 100000; decide)) (fun _ _ => ev_c) (by show 1 * 3 ≤ 100000; decide) (by decide)) (by rw [List.length_map]; show one.length + 3 ≤ _; omega)
    have e57 := e5.trans (e6.trans e7)
    refine q_when (b := decide (kd = 3)) hk (fun _ H8 e8 => ?_) (fun _ H8 e8 => ?_)
    · refine go (os := (cutZ one none (some at_) ++ [50]) ++ cutZ one (some (at_ + 1)) none) (e57.trans e8) ?_ (by rw [List.length_append, List.length_append]; show _ + 1 + _ ≤ _; omega)
      rw [List.map_append, List.map_append]
      exact el_catN (el_catN (el_slI (ev_var rfl) (sq_of (hA (e57.trans e8))) eo_none (eo_some (ev_var rfl))) (el_lst (vs := [.int 50]) (ea_cons ev_c ea_nil) (by show 1 ≤ 100000; decide)) (by rw [List.length_map]; show _ + 1 ≤ _; omega)) (el_slI (ev_var rfl) (sq_of (hA (e57.trans e8))) (eo_some (ev_op (ev_var rfl) ev_c rv_I0)) eo_none) (by rw [List.length_append, List.length_map, List.length_map (as := cutZ one (some (at_ + 1)) none)]; show _ + 1 + _ ≤ _; omega)
    refine q_when (b := decide (kd = 4)) hk (fun _ H9 e9 => ?_) (fun _ H9 e9 => ?_)
    · refine go (os := cutZ one none (some at_) ++ cutZ one (some (at_ + 1)) none) (e57.trans (e8.trans e9)) ?_ (by rw [List.length_append]; omega)
      rw [List.map_append]
      exact el_catN (el_slI (ev_var rfl) (sq_of (hA (e57.trans (e8.trans e9)))) eo_none (eo_some (ev_var rfl))) (el_slI (ev_var rfl) (sq_of (hA (e57.trans (e8.trans e9)))) (eo_some (ev_op (ev_var rfl) ev_c rv_I0)) eo_none) (by rw [List.length_map, List.length_map]; omega)
    have e49 := e57.trans (e8.trans e9)
    obtain ⟨m, rfl⟩ : ∃ m : Nat, at_ = (m : Int) := ⟨at_.toNat, by omega⟩
    refine ⟨_, rfl, ep_lcDr (p := p) (n := m) (C := fun _ => True) (ea_cons (ev_var rfl) ea_nil) (by omega) (hD4.ex e49) (fun _ => rfl) (fun i _ G _ hG => ep_opL (g := fun d => d - 4) (ep_mod (m := 9) rfl hG (by decide)) (fun _ => ev_c) (fun d G1 Q _ q => ⟨d, 4, rfl, rfl, q⟩) (fun _ _ => trivial)) _ fun v H10 hv => ?_⟩
    obtain ⟨r, other, rfl, nr, b10, hD10, hr10, hlr, _⟩ := hv
    have hq10 := b10 _ _ nqp (hA e49)
    exact ⟨by show 2 ≤ _; rw [sizeLine_eq]; decide, fun t nt => k _ _ ⟨one, other, .tup (st_of upd_same) (.cons (dp_ints (sq_of (by rw [upd_ne (ne_of_none hq10 nt)]; exact hq10))) (.cons (dp_ints (sq_of (by rw [upd_ne (ne_of_none hr10 nt)]; exact hr10))) .nil)), by omega, by omega, hD10.ex (Ex.new nt)⟩⟩
/-! ### the law -/
def sp_law_difference (K : PySem.W.Frag) : Sp := fun vs H Q _ => ∃ (a b : Addr) (xs ys : List Int), vs = [.ref a, .ref b] ∧ SqL K H a (xs.map V.int) ∧ SqL K H b (ys.map V.int) ∧ xs.length ≤ 90000 ∧ ys.length ≤ 90000 ∧ RetV (oN (difI xs ys)) H Q
theorem v_law_difference {a b : Addr} {xs ys : List Int} {H : Hp} (ha : SqL K H a (xs.map V.int)) (hb : SqL K H b (ys.map V.int)) (h1 : xs.length ≤ 90000) (h2 : ys.length ≤ 90000) : SpV (sp_law_difference K) [.ref a, .ref b] H (oN (difI xs ys)) := fun _ e _ q _ => ⟨a, b, xs, ys, rfl, ex_l e ha, ex_l e hb, h1, h2, q⟩
theorem ok_law_difference (T : Txt K mg) : FnOk P w K mg base CX0 1 T.f_law_difference T.d_law_difference ["one", "other"] (sp_law_difference K) := by
  refine T.F_law_difference.ok sc_law_difference (fun vs H Q E h => ?_) (fun cdv A outer s H vs Q E hr h => ?_)
  · obtain ⟨a, b, xs, ys, rfl, _⟩ := h
    rfl
  · obtain ⟨a, b, xs, ys, rfl, ha, hb, h1, h2, k⟩ := h
    refine ⟨_, (pss_cons (ps_for PassesOwn.never rfl (pi_range1 (by rfl) T.n_range (pa_cons (pe_callB call_len_seq (by rfl) T.n_len (by decide +kernel) (pa_cons (pv 0) pa_nil)) pa_nil)) (pg_name (i := 2) sc_law_difference.nd rfl (Or.inl rfl)) (pss_one (ps_if (PW.pt (pw_or (pt_cmpR op_ge (pv 2) (pe_callB call_len_seq (by rfl) T.n_len (by decide +kernel) (pa_cons (pv 1) pa_nil)) (nomark _)) (pw_or1 (pt_cmpR op_ne (pe_ix ix_list (pv 0) (pv 2) (fun _ _ => rfl)) (pe_ix ix_list (pv 1) (pv 2) (fun _ _ => rfl)) (nomark _))))) (pss_one (ps_ret (pv 2))) pss_nil)))
        (pss_cons (ps_if (pt_cmpR op_gt (pe_callB call_len_seq (by rfl) T.n_len (by decide +kernel) (pa_cons (pv 1) pa_nil)) (pe_callB call_len_seq (by rfl) T.n_len (by decide +kernel) (pa_cons (pv 0) pa_nil)) (nomark _)) (pss_one (ps_ret (pe_callB call_len_seq (by rfl) T.n_len (by decide +kernel) (pa_cons (pv 0) pa_nil)))) pss_nil)
        (pss_one (ps_ret pe_non)))), ?_⟩
    have la : ∀ {G : Hp} {y : Option V}, Ex H G → Ev (tCB (rLenS K) (tCons (tVar 0) tNil)) [some (.ref a), some (.ref b), y] G (.int (xs.length : Int)) := fun {G y} e => by
      have := ev_len (K := K) (H := G) (ta := tVar 0) (σ := [some (.ref a), some (.ref b), y]) (ev_var rfl) (ex_l e ha)
      rwa [List.length_map] at this
    have lb : ∀ {G : Hp} {y : Option V}, Ex H G → Ev (tCB (rLenS K) (tCons (tVar 1) tNil)) [some (.ref a), some (.ref b), y] G (.int (ys.length : Int)) := fun {G y} e => by
      have := ev_len (K := K) (H := G) (ta := tVar 1) (σ := [some (.ref a), some (.ref b), y]) (ev_var rfl) (ex_l e hb)
      rwa [List.length_map] at this
    obtain ⟨mn, hmn⟩ : ∃ m : Nat, m = xs.length := ⟨_, rfl⟩
    refine q_forR1 (n := (mn : Int)) (ea_cons (by rw [hmn]; exact la (Ex.refl H)) ea_nil) (by omega) (fun i σ' H' => Ex H H' ∧ xs.take i = ys.take i ∧ i ≤ ys.length ∧ ∃ y, σ' = [some (.ref a), some (.ref b), y]) ?_ ?_ ?_
    · intro H1 e1
      exact ⟨e1, rfl, Nat.zero_le _, _, rfl⟩
    · rintro i σ' H' hi ⟨fr, ht, hiy, y, rfl⟩
      obtain ⟨x, hx, ax⟩ := at_int (xs := xs) (i := i) (by omega)
      by_cases hlt : i < ys.length
      · obtain ⟨z, hz, az⟩ := at_int (xs := ys) (i := i) hlt
        refine s_when (b := (false || !decide (x = z))) (et_or (et_is (et_test (ev_op (ev_var rfl) (lb fr) rv_I0)) (decide_eq_false (by omega))) (fun _ => et_test (ev_op (ev_op (ev_var rfl) (ev_var rfl) (rv_ixL (ex_l fr ha) ax)) (ev_op (ev_var rfl) (ev_var rfl) (rv_ixL (ex_l fr hb) az)) rv_neI))) (fun hb H1 e1 => ?_) (fun hb H1 e1 => ?_)
        · have hne : x ≠ z := by simpa using hb
          have hd : difI xs ys = some i := dif_some ht (by omega) (by omega) (by rw [hx, hz]; exact fun e => hne (Option.some.inj e))
          rw [hd] at k
          exact s_ret (ev_var rfl) fun H2 e2 => k H2 (fr.trans (e1.trans e2))
        · have he : x = z := by simpa using hb
          exact ⟨fr.trans e1, take_eq_succ ht hx hz he, by omega, _, rfl⟩
      · have hi2 : i = ys.length := by omega
        have hd : difI xs ys = some i := dif_some ht (by omega) (by omega) (by rw [hx, hi2, List.getElem?_eq_none (Nat.le_refl _)]; exact fun z => nomatch z)
        rw [hd] at k
        exact s_when (b := true) (et_or (b := false) (et_is (et_test (ev_op (ev_var rfl) (lb fr) rv_I0)) (decide_eq_true (by omega))) (fun z => nomatch z)) (fun _ H1 e1 => s_ret (ev_var rfl) fun H2 e2 => k H2 (fr.trans (e1.trans e2))) (fun z => nomatch z)
    · rintro σ' H1 ⟨fr, ht, hiy, y, rfl⟩
      rw [Int.toNat_natCast, hmn] at ht hiy
      rw [List.take_length] at ht
      refine q_when (b := decide (xs.length < ys.length)) (et_is (et_test (ev_op (lb fr) (la fr) rv_I0)) (by apply decide_eq_decide.mpr; omega)) (fun hb H2 e2 => ?_) (fun hb H2 e2 => ?_)
      · have hl := of_decide_eq_true hb
        have hd : difI xs ys = some xs.length := dif_some (by rw [List.take_length]; exact ht) (Nat.le_refl _) (by omega) (by rw [List.getElem?_eq_none (Nat.le_refl _), List.getElem?_eq_getElem hl]; exact fun z => nomatch z)
        rw [hd] at k
        exact s_ret (la (fr.trans e2)) fun H3 e3 => k H3 (fr.trans (e2.trans e3))
      · have hl : xs.length = ys.length := by have := of_decide_eq_false hb; omega
        have he : xs = ys := by rw [hl, List.take_length] at ht; exact ht
        rw [dif_none he] at k
        exact s_ret ev_c fun H3 e3 => k H3 (fr.trans (e2.trans e3))
theorem nonneg {z : Str} : ∀ c ∈ codes z, 0 ≤ c := fun c hc => by
  unfold codes at hc
  obtain ⟨n, _, rfl⟩ := List.mem_map.mp hc
  omega
theorem rd_codes (z : Str) : rd (codes z) = rdFin (rdGo (codes z)) := by
  have h : ∀ l : List Int, (∀ c ∈ l, 0 ≤ c) → l.takeWhile nn = l := by
    intro l
    induction l with
    | nil => intro _; rfl
    | cons c r ih =>
      intro h
      rw [List.takeWhile_cons, show nn c = true from decide_eq_true (h c List.mem_cons_self), if_pos rfl, ih fun c hc => h c (List.mem_cons_of_mem _ hc)]
  unfold rd
  rw [h _ nonneg]
theorem cutS_to {x : Str} {k : Nat} (h : k ≤ x.length) : (cutS x none (some (k : Int))).cps.toList = x.cps.toList.take k := by
  unfold cutS
  show (x.cps.toList.drop 0).take (HT.sIx x.length x.length (some (k : Int)) - 0) = _
  rw [HT.sIx_nat, Nat.min_eq_left h]
  rfl
theorem cutS_to' {x : Str} {k : Nat} : (cutS x none (some (k : Int))).cps.toList = x.cps.toList.take k := by
  unfold cutS
  show (x.cps.toList.drop 0).take (HT.sIx x.length x.length (some (k : Int)) - 0) = _
  rw [HT.sIx_nat, List.drop_zero, Nat.sub_zero]
  by_cases h : k ≤ x.length
  · rw [Nat.min_eq_left h]
  · rw [Nat.min_eq_right (by omega), List.take_of_length_le (show x.cps.toList.length ≤ x.length from Nat.le_refl _), List.take_of_length_le (by show x.length ≤ k; omega)]
theorem ep_lst2 {H : Hp} {σ : L2.St} {t1 t2 : TE} {x1 x2 : List V} (h1 : EvL t1 σ H x1) (h2 : EvL t2 σ H x2) : EvP (tLst (tCons t1 (tCons t2 tNil))) σ H (fun v H' => ∃ l a1 a2, v = .ref l ∧ Ex H H' ∧ H' l = some (.lst [.ref a1, .ref a2]) ∧ H' a1 = some (.lst x1) ∧ H' a2 = some (.lst x2)) := fun Q q =>
  h1 H (Ex.refl H) _ fun a1 H1 n1 e1 g1 => h2 H1 e1 _ fun a2 H2 n2 e2 g2 => ⟨sz_of (n := 2) (by decide), fun l hl => by
    have f1 := e2 _ _ g1
    refine q _ _ ⟨l, a1, a2, rfl, (e1.trans e2).trans (Ex.new hl), upd_same, ?_, ?_⟩
    · rw [upd_ne (ne_of_none f1 hl)]; exact f1
    · rw [upd_ne (ne_of_none g2 hl)]; exact g2⟩
def KL : List Str := ["digits", "short", "plain", "turned", "digits", "short", "plain", "turned", "seed"]
def kdI (ch : Int) : Str := KL.getD (ch.fmod 9).toNat ""
theorem kl_all : ∀ k < 9, KL.getD k "" ∈ KN ∨ KL.getD k "" = "seed" := by decide
theorem kd_or (ch : Int) : kdI ch ∈ KN ∨ kdI ch = "seed" := kl_all _ (by have := fmod_in ch (m := 9) (by decide); omega)
theorem seed_no : ("seed" : Str) ∉ KN := by decide
theorem kn_or {x : Str} (h : x ∈ KN) : x = "digits" ∨ x = "short" ∨ x = "plain" ∨ x = "turned" := by
  unfold KN at h
  simpa using h
def badT (z : Str) : Str := z ++ "\t" ++ cutS z none (some 3)
theorem bad_no (z : Str) : (codes (badT z)).all isCh = false := by
  unfold badT
  rw [codes_app, codes_app, List.all_append, List.all_append, show (codes "\t").all isCh = false from by decide, Bool.and_false, Bool.false_and]
theorem cut_len (z : Str) : (cutS z none (some 3)).cps.size ≤ z.cps.size := by
  have h := congrArg List.length (cutS_to' (x := z) (k := 3))
  rw [List.length_take] at h
  have h1 : (cutS z none (some ((3 : Nat) : Int))).cps.toList.length = (cutS z none (some 3)).cps.size := rfl
  have h2 : z.cps.toList.length = z.cps.size := rfl
  omega
def sp_law (K : PySem.W.Frag) : Sp := fun vs H Q _ => ∃ (a : Addr) (ns : List Int), vs = [.ref a] ∧ SqL K H a (ns.map V.int) ∧ ns.length ≤ 63 ∧ ∀ H', Q (.bl true) H'
theorem ok_law (T : Txt K mg) : FnOk P w K mg base CX0 10 T.f_law T.d_law ["script"] (sp_law K) := by
  refine T.F_law.ok sc_law (fun vs H Q E h => ?_) (fun cdv A outer s H vs Q E hr h => ?_)
  · obtain ⟨a, ns, rfl, _⟩ := h
    rfl
  · obtain ⟨a, ns, rfl, hS, hl, k⟩ := h
    refine ⟨_, (pss_cons (ps_set (i := 1) sc_law.nd rfl (Or.inl rfl) (pe_call (ok_law_draws T) (hr.mono (by decide)) (by rfl) T.g_law_draws T.F_law_draws.kp T.b_law_draws .nil pass0 (pa_cons (pv 0) pa_nil)))
        (pss_cons (ps_expr (pe_bm0 PySem.F.plainAttrs_list PySem.F.slot_list_reverse PySem.F.type_list_reverse mt_reverse (pv 1)))
        (pss_cons (ps_set (i := 2) sc_law.nd rfl (Or.inl rfl) (pe_call (ok_law_next T) (hr.mono (by decide)) (by rfl) T.g_law_next T.F_law_next.kp T.b_law_next .nil pass0 (pa_cons (pv 1) pa_nil)))
        (pss_cons (ps_asg (pe_call (ok_law_lists T) (hr.mono (by decide)) (by rfl) T.g_law_lists T.F_law_lists.kp T.b_law_lists .nil pass0 (pa_cons (pv 1) pa_nil)) (pg_tup (by rfl) (pgs_cons (pg_name (i := 3) sc_law.nd rfl (Or.inl rfl)) (pgs_cons (pg_name (i := 4) sc_law.nd rfl (Or.inl rfl)) pgs_nil))))
        (pss_cons (ps_set (i := 5) sc_law.nd rfl (Or.inl rfl) (pe_lst (pa_cons (pe_callTy call_list_of (by rfl) T.n_list (by decide +kernel) (pa_cons (pv 3) pa_nil)) (pa_cons (pe_callTy call_list_of (by rfl) T.n_list (by decide +kernel) (pa_cons (pv 4) pa_nil)) pa_nil))))
        (pss_cons (ps_set (i := 6) sc_law.nd rfl (Or.inl rfl) (pe_call (ok_first_difference T) (hr.mono (by decide)) (by rfl) T.g_first_difference T.F_first_difference.kp T.b_first_difference .nil pass0 (pa_cons (pe_ix ix_list (pv 5) pe_int (fun _ _ => rfl)) (pa_cons (pe_ix ix_list (pv 5) pe_int (fun _ _ => rfl)) pa_nil))))
        (pss_cons (ps_set (i := 7) sc_law.nd rfl (Or.inl rfl) (pe_call (ok_law_difference T) (hr.mono (by decide)) (by rfl) T.g_law_difference T.F_law_difference.kp T.b_law_difference .nil pass0 (pa_cons (pv 3) (pa_cons (pv 4) pa_nil))))
        (pss_cons (ps_if (pt_cmpR (op_neD hr.units) (pv 5) (pe_lst (pa_cons (pv 3) (pa_cons (pv 4) pa_nil))) (nomark _)) (pss_one (ps_ret pe_bl)) pss_nil)
        (pss_cut (ps_if (pt_cmpR op_isN (pv 7) pe_non (nomark _)) (pss_one (ps_if (pt_cmpR op_notN (pv 6) pe_non (nomark _)) (pss_one (ps_ret pe_bl)) pss_nil)) (pss_one (ps_if (PW.pt (pw_or (pt_not (pt_val (pe_call (ok_law_is_integer T) (hr.mono (by decide)) (by rfl) T.g_law_is_integer T.F_law_is_integer.kp T.b_law_is_integer .nil pass0 (pa_cons (pv 6) pa_nil)))) (pw_or1 (pt_cmpR (op_neD hr.units) (pv 6) (pv 7) (nomark _))))) (pss_one (ps_ret pe_bl)) pss_nil)))
        (pss_cons (ps_set (i := 8) sc_law.nd rfl (Or.inl rfl) (pe_ix ix_list (pe_lst (pa_cons pe_str (pa_cons pe_str (pa_cons pe_str (pa_cons pe_str (pa_cons pe_str (pa_cons pe_str (pa_cons pe_str (pa_cons pe_str (pa_cons pe_str pa_nil)))))))))) (pe_op op_modN (pe_callTy call_int1 (by rfl) T.n_int (by decide +kernel) (pa_cons (pv 2) pa_nil)) pe_int) (fun _ _ => rfl)))
        (pss_cons (ps_set (i := 9) sc_law.nd rfl (Or.inl rfl) (pe_call (ok_law_text T) (hr.mono (by decide)) (by rfl) T.g_law_text T.F_law_text.kp T.b_law_text .nil pass0 (pa_cons (pv 1) pa_nil)))
        (pss_cons (ps_set (i := 10) sc_law.nd rfl (Or.inl rfl) (pe_cmpR op_eq (pe_op op_modN (pe_op op_fdivN (pv 2) pe_int) pe_int) pe_int (nomark _)))
        (pss_cut (ps_if (pt_val (pv 10)) (pss_one (ps_set (i := 9) sc_law.nd rfl (Or.inl rfl) (pe_op op_add_str (pe_op op_add_str (pv 9) pe_str) (pe_slice sl_str (pv 9) po_none (po_some pe_int))))) pss_nil)
        (pss_cons (ps_asg (pe_call (ok_law_told T) (hr.mono (by decide)) (by rfl) T.g_law_told T.F_law_told.kp T.b_law_told .nil pass0 (pa_cons (pv 8) (pa_cons (pv 9) pa_nil))) (pg_tup (by rfl) (pgs_cons (pg_name (i := 11) sc_law.nd rfl (Or.inl rfl)) (pgs_cons (pg_name (i := 12) sc_law.nd rfl (Or.inl rfl)) pgs_nil))))
        (pss_cons (ps_if (pt_cmpR op_eq (pv 8) pe_str (nomark _)) (pss_one (ps_ret (pe_cmpR op_eq (pv 11) pe_str (nomark _)))) pss_nil)
        (pss_cut (ps_if (pt_val (pv 10)) (pss_one (ps_ret (pe_cmpR op_eq (pv 11) pe_str (nomark _)))) pss_nil)
        (pss_cons (ps_setLc (i := 13) (own := [("char", 14)]) (by rfl) sc_law.nd rfl rfl (sw_true rfl rfl rfl (by decide +kernel)) (pi_str (pv 9)) (blkOk_by (own := [("char", 14)]) (N := N_law) (sc := defScope s_law) (by decide +kernel)) (fun _ _ _ _ _ => pg_name (i := 14) sc_law.nd rfl (Or.inl rfl)) (fun _ _ _ _ _ => pts_nil) (fun _ _ _ _ _ => (pe_callB call_ord (by rfl) T.n_ord (by decide +kernel) (pa_cons (pv 14) pa_nil))))
        (pss_cut (ps_if (pt_cmpR op_eq (pv 8) pe_str (nomark _)) (pss_one (ps_set (i := 7) sc_law.nd rfl (Or.inl rfl) (pe_call (ok_law_digits T) (hr.mono (by decide)) (by rfl) T.g_law_digits T.F_law_digits.kp T.b_law_digits .nil pass0 (pa_cons (pv 13) pa_nil)))) (pss_one (ps_if (pt_cmpR op_eq (pv 8) pe_str (nomark _)) (pss_one (ps_set (i := 7) sc_law.nd rfl (Or.inl rfl) (pe_call (ok_law_short T) (hr.mono (by decide)) (by rfl) T.g_law_short T.F_law_short.kp T.b_law_short .nil pass0 (pa_cons (pv 13) pa_nil)))) (pss_one (ps_if (pt_cmpR op_eq (pv 8) pe_str (nomark _)) (pss_one (ps_set (i := 7) sc_law.nd rfl (Or.inl rfl) (pe_call (ok_law_translate T) (hr.mono (by decide)) (by rfl) T.g_law_translate T.F_law_translate.kp T.b_law_translate .nil pass0 (pa_cons (pv 13) (pa_cons pe_int (pa_cons pe_int pa_nil)))))) (pss_one (ps_set (i := 7) sc_law.nd rfl (Or.inl rfl) (pe_call (ok_law_translate T) (hr.mono (by decide)) (by rfl) T.g_law_translate T.F_law_translate.kp T.b_law_translate .nil pass0 (pa_cons (pv 13) (pa_cons (pe_un un_neg pe_int) (pa_cons (pe_un un_neg pe_int) pa_nil)))))))))))
        (pss_one (ps_ret (pe_and (pe_cmpR op_eq (pv 11) pe_str (nomark _)) (pe_and (pe_call (ok_law_is_integers T) (hr.mono (by decide)) (by rfl) T.g_law_is_integers T.F_law_is_integers.kp T.b_law_is_integers .nil pass0 (pa_cons (pv 12) pa_nil)) (pe_one (pe_cmpR (op_eqD hr.units) (pv 12) (pv 7) (nomark _))))))))))))))))))))))))), ?_⟩
    refine ⟨_, rfl, a, ns, rfl, hS, hl, fun p H1 hp e1 hD1 => ?_⟩
    obtain ⟨ds, hd1, hs1, hlen1⟩ := hD1
    refine q_rev hd1 (ev_var rfl) (fun H2 e2 => ?_)
    have hD2 : Drw p (upd H2 p (.lst (ds.map V.int).reverse)) := ⟨ds.reverse, by rw [upd_same, List.map_reverse], fun d h => hs1 d (List.mem_reverse.mp h), by rw [List.length_reverse]; exact hlen1⟩
    generalize upd H2 p (.lst (ds.map V.int).reverse) = H2 at hD2
    refine q_asgP (ep_next rfl hD2) (fun v H3 hv => ?_)
    obtain ⟨ch, rfl, hch, hD3, _⟩ := hv
    refine ep_lists rfl hD3 _ fun v H4 hv => ?_
    obtain ⟨one, other, hdt, ho, hot, hD4⟩ := hv
    obtain ⟨t, xs, rfl, hT, hxs⟩ := dp_tup_inv hdt
    rcases hxs with _ | ⟨h1, _ | ⟨h2, _ | _⟩⟩
    obtain ⟨a1, rfl, ha1⟩ := dp_ints_inv h1
    obtain ⟨a2, rfl, ha2⟩ := dp_ints_inv h2
    refine g_tup2 hT ?_
    refine q_asgP (ep_lst2 (el_list (ev_var rfl) ha1) (el_list (ev_var rfl) ha2)) (fun v H5 hv => ?_)
    obtain ⟨l, b1, b2, rfl, e5, hl5, hb1, hb2⟩ := hv
    refine q_asg (ev_call (ea_cons (ev_op (ev_var rfl) ev_c (rv_ixL (v := .ref b1) (sq_of hl5) rfl)) (ea_cons (ev_op (ev_var rfl) ev_c (rv_ixL (v := .ref b2) (sq_of hl5) rfl)) ea_nil)) (v_first_difference (sq_of hb1) (sq_of hb2) (by omega) (by omega))) (fun H6 e6 => ?_)
    refine q_asg (ev_call (ea_cons (ev_var rfl) (ea_cons (ev_var rfl) ea_nil)) (v_law_difference (ex_l (e5.trans e6) ha1) (ex_l (e5.trans e6) ha2) (by omega) (by omega))) (fun H7 e7 => ?_)
    have e47 := e5.trans (e6.trans e7)
    have e57 := e6.trans e7
    have dps : Dp K H7 (.ref l) (rowsD [one, other]) := .lst (sq_of (e57 _ _ hl5)) (.cons (dp_ints (sq_of (e57 _ _ hb1))) (.cons (dp_ints (sq_of (e57 _ _ hb2))) .nil))
    obtain ⟨s1, s2⟩ := rowsD_ok [one, other]
    refine q_when (b := false) (et_is (et_test (ev_neD (d := rowsD [one, other]) (e := rowsD [one, other]) (ed_ev (ev_var rfl) dps) (ed_lst (ds := [.list (one.map PyData.int), .list (other.map PyData.int)]) (eda_cons (ed_ev (ev_var rfl) (dp_ints (ex_l e47 ha1))) (eda_cons (ed_ev (ev_var rfl) (dp_ints (ex_l e47 ha2))) eda_nil)) (by show 2 ≤ 100000; decide)) s2 s2)) (by rw [s1]; rfl)) (fun hb => nomatch hb) (fun _ H8 e8 => ?_)
    have hD8 := hD4.ex (e47.trans e8)
    refine q_cut (M := fun σ' H' => Ex H8 H' ∧ σ' = [some (.ref a), some (.ref p), some (.int ch), some (.ref a1), some (.ref a2), some (.ref l), some (oN (difI one other)), some (oN (difI one other)), none, none, none, none, none, none, none]) ?_ ?_
    · cases hdf : difI one other with
      | none => exact s_if (b := true) (et_is (et_test (ev_op (ev_var rfl) ev_c rv_isNon)) rfl) (fun _ H9 e9 => s_when (b := false) (et_is (et_test (ev_op (ev_var rfl) ev_c rv_notNon)) rfl) (fun hb => nomatch hb) fun _ H10 e10 => ⟨e9.trans e10, rfl⟩) (fun hb => nomatch hb)
      | some i => exact s_if (b := false) (et_is (et_test (ev_op (ev_var rfl) ev_c rv_isNon)) rfl) (fun hb => nomatch hb) (fun _ H9 e9 => s_when (b := false) (et_is (et_or (a := false) (b := false) (et_is (et_not (et_B (ev_call (ea_cons (ev_var rfl) ea_nil) v_law_is_integer))) rfl) (fun _ => et_is (et_test (ev_neD (ed_int (ev_var rfl)) (ed_int (ev_var rfl)) rfl rfl)) (by show (!decide ((i : Int) = i)) = false; rw [decide_eq_true rfl]; rfl))) rfl) (fun hb => nomatch hb) fun _ H10 e10 => ⟨e9.trans e10, rfl⟩)
    rintro σ' H9 ⟨e9, rfl⟩
    clear hdt h1 h2 ha1 ha2 hT dps hl5 hb1 hb2
    generalize oN (difI one other) = pl
    refine q_asg (v := .str (kdI ch)) (ev_opV (xs := KL.map V.str) (el_lst (ea_cons ev_c (ea_cons ev_c (ea_cons ev_c (ea_cons ev_c (ea_cons ev_c (ea_cons ev_c (ea_cons ev_c (ea_cons ev_c (ea_cons ev_c ea_nil))))))))) (by show 9 ≤ 100000; decide)) (fun H1 e => ev_op (ev_cb (ea_cons (ev_var rfl) ea_nil) rc_int) ev_c (rv_mod (by decide))) (fun q G hq _ => rv_ixL (sq_of hq) (at_of (j := (ch.fmod 9).toNat) (by have := fmod_in ch (m := 9) (by decide); omega) ?_))) (fun H10 e10 => ?_)
    · have hlt : (ch.fmod 9).toNat < KL.length := by have := fmod_in ch (m := 9) (by decide); show _ < 9; omega
      unfold kdI
      rw [List.getElem?_map, List.getD_eq_getElem?_getD, List.getElem?_eq_getElem hlt]
      rfl
    refine q_asgP (ep_text (p := p) rfl (hD8.ex (e9.trans e10))) (fun v H11 hv => ?_)
    obtain ⟨z, rfl, hall, hz, _, _⟩ := hv
    refine q_asg (v := .bl (decide ((ch.fdiv 9).fmod 9 = 1))) (ev_op (ev_op (ev_op (ev_var rfl) ev_c (rv_fdiv (by decide) (by decide))) ev_c (rv_mod (by decide))) ev_c rv_eqI) (fun H12 e12 => ?_)
    have hk := kd_or ch
    generalize kdI ch = x at hk
    generalize decide ((ch.fdiv 9).fmod 9 = 1) = bad
    refine q_cut (M := fun σ' H' => ∃ z' : Str, z'.cps.size ≤ 1000 ∧ (codes z').all isCh = !bad ∧ (bad = false → z' = z) ∧ σ' = [some (.ref a), some (.ref p), some (.int ch), some (.ref a1), some (.ref a2), some (.ref l), some pl, some pl, some (.str x), some (.str z'), some (.bl bad), none, none, none, none]) ?_ ?_
    · refine s_when (b := bad) (et_B (ev_var rfl)) (fun hb H13 e13 => ?_) (fun hb H13 e13 => ⟨z, by omega, by rw [hall, hb]; rfl, fun _ => rfl, rfl⟩)
      have hcl := cut_len z
      have hl1 : z.length + ("\t" : Str).length ≤ 100000 := by show z.cps.size + 1 ≤ _; omega
      have hl2 : (z ++ "\t").length + (cutS z none (some 3)).length ≤ 100000 := by
        have := len_app z "\t"
        show (z ++ "\t").cps.size + (cutS z none (some 3)).cps.size ≤ _
        rw [this]
        show z.cps.size + 1 + _ ≤ _
        omega
      refine s_asg (v := .str (badT z)) (ev_op (ev_op (ev_var rfl) ev_c (rv_addS hl1)) (ev_sub (ev_var rfl) eo_none (eo_some ev_c) (by show z.cps.size ≤ _; omega)) (rv_addS hl2)) (fun H14 e14 => ⟨badT z, ?_, by rw [bad_no, hb]; rfl, (fun h => by rw [hb] at h; cases h), rfl⟩)
      unfold badT
      rw [len_app, len_app]
      show z.cps.size + 1 + _ ≤ _
      omega
    rintro σ' H13 ⟨z', hz', hall', hzz, rfl⟩
    refine ⟨_, rfl, _, rfl, x, z', rfl, hz', fun v H14 e14 hv => ?_⟩
    have fin : ∀ {tg : Str} {l : List Int} {v : V}, Dp K H14 v (tagD tg l) → ∃ t q, v = .ref t ∧ SqT K H14 t [.str tg, .ref q] ∧ SqL K H14 q (l.map V.int) := fun hv => by
      obtain ⟨t, xs, rfl, hT, hxs⟩ := dp_tup_inv hv
      rcases hxs with _ | ⟨h1, _ | ⟨h2, _ | _⟩⟩
      cases h1
      obtain ⟨q, rfl, hq⟩ := dp_ints_inv h2
      exact ⟨t, q, rfl, hT, hq⟩
    rcases hk with hk | rfl
    · have hne : x ≠ "seed" := fun e => seed_no (e ▸ hk)
      cases bad with
      | true =>
        have et : toldD x z' = tagD "text" [] := by unfold toldD; rw [if_pos hk, if_neg (by rw [hall']; exact Bool.false_ne_true)]
        rw [et] at hv
        obtain ⟨t, q, rfl, hT, hq⟩ := fin hv
        refine g_tup2 hT ?_
        refine q_when (b := false) (et_is (eqStr rfl) (decide_eq_false hne)) (fun hb => nomatch hb) (fun _ H15 e15 => ?_)
        refine q_cut (M := fun _ _ => False) ?_ (fun _ _ h => h.elim)
        refine s_when (b := true) (et_B (ev_var rfl)) (fun _ H16 e16 => ?_) (fun hb => nomatch hb)
        exact s_ret (v := .bl (decide (V.str "text" = V.str "text"))) (ev_op (ev_var rfl) ev_c (rv_eq rfl)) fun H17 _ => by rw [decide_eq_true rfl]; exact k H17
      | false =>
        have et : toldD x z' = tagD "binary" (meantI x (codes z')) := by unfold toldD; rw [if_pos hk, if_pos (show (codes z').all isCh = true from hall')]
        rw [et] at hv
        obtain ⟨t, q, rfl, hT, hq⟩ := fin hv
        refine g_tup2 hT ?_
        refine q_when (b := false) (et_is (eqStr rfl) (decide_eq_false hne)) (fun hb => nomatch hb) (fun _ H15 e15 => ?_)
        refine q_cut (M := fun σ' H' => Ex H14 H' ∧ σ' = [some (.ref a), some (.ref p), some (.int ch), some (.ref a1), some (.ref a2), some (.ref l), some pl, some pl, some (.str x), some (.str z'), some (.bl false), some (.str "binary"), some (.ref q), none, none]) (s_when (b := false) (et_B (ev_var rfl)) (fun hb => nomatch hb) fun _ H16 e16 => ⟨e15.trans e16, rfl⟩) ?_
        rintro σ' H16 ⟨e16, rfl⟩
        refine q_asgL (el_mapS (fun v => match v with | .str x => V.int ((x.cps.getD 0 0 : Nat) : Int) | _ => .non) (ev_var rfl) (by omega) (fun _ => rfl) (fun c _ H1 _ => by walk_at "ev")) (fun r H17 nr e17 h17 => ?_)
        have hm : (sgns z').map (fun v => match v with | .str x => V.int ((x.cps.getD 0 0 : Nat) : Int) | _ => .non) = (codes z').map V.int := by
          rw [sgns_map]
          unfold codes
          rw [List.map_map]
          rfl
        rw [hm] at h17
        have hcl : (codes z').length ≤ 1000 := by rw [codes_len]; exact hz'
        refine q_cut (M := fun σ' H' => ∃ u, Ex H14 H' ∧ H' u = some (.lst ((meantI x (codes z')).map V.int)) ∧ σ' = [some (.ref a), some (.ref p), some (.int ch), some (.ref a1), some (.ref a2), some (.ref l), some pl, some (.ref u), some (.str x), some (.str z'), some (.bl false), some (.str "binary"), some (.ref q), some (.ref r), none]) ?_ ?_
        · have e1417 := e16.trans e17
          rcases kn_or hk with rfl | rfl | rfl | rfl
          · have em : meantI "digits" (codes z') = rdFin (rdGo (codes z')) := by unfold meantI; rw [if_pos rfl, rd_codes]
            rw [em]
            exact s_if (b := true) (et_is (eqStr rfl) (by decide)) (fun _ H18 e18 => s_asgL (el_call (ea_cons (ev_var rfl) ea_nil) (l_law_digits (sq_of (e18 _ _ h17)) hcl)) fun u H19 nu e19 hu => ⟨u, e1417.trans (e18.trans e19), hu, rfl⟩) (fun hb => nomatch hb)
          · have em : meantI "short" (codes z') = (runS (codes z')).cs := by unfold meantI; rw [if_neg (by decide), if_pos rfl]
            rw [em]
            exact s_if (b := false) (et_is (eqStr rfl) (by decide)) (fun hb => nomatch hb) (fun _ H18 e18 => s_if (b := true) (et_is (eqStr rfl) (by decide)) (fun _ H19 e19 => s_asgL (el_call (ea_cons (ev_var rfl) ea_nil) (l_law_short (sq_of (e19 _ _ (e18 _ _ h17))) hcl nonneg)) fun u H20 nu e20 hu => ⟨u, e1417.trans (e18.trans (e19.trans e20)), hu, rfl⟩) (fun hb => nomatch hb))
          · have em : meantI "plain" (codes z') = imgT (codes z') 200 1 := by unfold meantI; rw [if_neg (by decide), if_neg (by decide), if_pos rfl]
            rw [em]
            exact s_if (b := false) (et_is (eqStr rfl) (by decide)) (fun hb => nomatch hb) (fun _ H18 e18 => s_if (b := false) (et_is (eqStr rfl) (by decide)) (fun hb => nomatch hb) (fun _ H19 e19 => s_if (b := true) (et_is (eqStr rfl) (by decide)) (fun _ H20 e20 => s_asgL (el_call (ea_cons (ev_var rfl) (ea_cons ev_c (ea_cons ev_c ea_nil))) (l_law_translate (e20 _ _ (e19 _ _ (e18 _ _ h17))) hcl)) fun u H21 nu e21 hu => ⟨u, e1417.trans (e18.trans (e19.trans (e20.trans e21))), hu, rfl⟩) (fun hb => nomatch hb)))
          · have em : meantI "turned" (codes z') = imgT (codes z') (-1) (-1) := by unfold meantI; rw [if_neg (by decide), if_neg (by decide), if_neg (by decide)]
            rw [em]
            exact s_if (b := false) (et_is (eqStr rfl) (by decide)) (fun hb => nomatch hb) (fun _ H18 e18 => s_if (b := false) (et_is (eqStr rfl) (by decide)) (fun hb => nomatch hb) (fun _ H19 e19 => s_if (b := false) (et_is (eqStr rfl) (by decide)) (fun hb => nomatch hb) (fun _ H20 e20 => s_asgL (el_call (ea_cons (ev_var rfl) (ea_cons (ev_un ev_c ru_neg) (ea_cons (ev_un ev_c ru_neg) ea_nil))) (l_law_translate (e20 _ _ (e19 _ _ (e18 _ _ h17))) hcl)) fun u H21 nu e21 hu => ⟨u, e1417.trans (e18.trans (e19.trans (e20.trans e21))), hu, rfl⟩)))
        rintro σ' H18 ⟨u, e18, hu, rfl⟩
        refine s_ret (v := .bl (decide (V.str "binary" = V.str "binary") && (true && decide (meantI x (codes z') = meantI x (codes z'))))) (ev_andV (ev_op (ev_var rfl) ev_c (rv_eq rfl)) (fun _ => ev_andV (ev_call (ea_cons (ev_var rfl) ea_nil) (v_law_is_integers (ex_l e18 hq))) (fun _ => ev_op (ev_var rfl) (ev_var rfl) (rv_eqL (ex_l e18 hq) (sq_of hu))))) fun H19 _ => ?_
        rw [decide_eq_true rfl, decide_eq_true rfl]
        exact k H19
    · have et : toldD "seed" z' = tagD "kind" [] := by unfold toldD; rw [if_neg seed_no]
      rw [et] at hv
      obtain ⟨t, q, rfl, hT, hq⟩ := fin hv
      refine g_tup2 hT ?_
      refine q_when (b := true) (et_is (eqStr rfl) (by decide)) (fun _ H15 e15 => ?_) (fun hb => nomatch hb)
      exact s_ret (v := .bl (decide (V.str "kind" = V.str "kind"))) (ev_op (ev_var rfl) ev_c (rv_eq rfl)) fun H17 _ => by rw [decide_eq_true rfl]; exact k H17
theorem law_at (K : PySem.W.Frag) (H : Hp) (a : Addr) (ns : List Int) (hl : ns.length ≤ 63) (hO : Only H) (hS : SqL K H a (ns.map V.int)) : sp_law K [.ref a] H (fun v _ => v = .bl true) fun _ _ _ => False := ⟨a, ns, rfl, hS, hl, fun _ => rfl⟩


end
end K66

set_option Elab.async false
set_option linter.all false
set_option maxRecDepth 100000
set_option maxHeartbeats 4000000
namespace K66
open PySem PySem.Spec PyProof.Rows L2 Evl Gd
/-! ### the head's facts -/
theorem mk_txt {K : PySem.W.Frag} {h : Heap} {mg : Str → Option Value} {p1 p2 p3 p4 p5 p6 p7 p8 p9 p10 p11 p12 p13 p14 p15 p16 p17 p18 p19 kD20 p20 p21 p22 p23 p24 p25 p26 p27 p28 p29 kD30 p30 p31 p32 p33 p34 p35 p36 p37 p38 p39 p40 p41 p42 p43 p44 p45 p46 p47 p48 p49 p50 p51 p52 p53 C_PlinthError C_NotText C_BadKind C_Translator C_ShortReader D_BRACKETS D_KINDS : Addr} (X : K.In h) (G : h.Ns mainGlobals mg)
    {tq20_first tq20_by tq30_first tq30_by t_BRANCH t_COLON t_NEWLINE t_NOP t_PUSH t_QUOTE t_RETURN t_SET t_SPACE t_GREATER : Tok}
    {od1 an1 od2 an2 od3 an3 od4 an4 od5 an5 od6 an6 od7 an7 od8 an8 od9 an9 od10 an10 od11 an11 od12 an12 od13 an13 od14 an14 od15 an15 od16 an16 od17 an17 od18 an18 od19 an19 od20 an20 od21 an21 od22 an22 od23 an23 od24 an24 od25 an25 od26 an26 od27 an27 od28 an28 od29 an29 od30 an30 od31 an31 od32 an32 od33 an33 od34 an34 od35 an35 od36 an36 od37 an37 od38 an38 od39 an39 od40 an40 od41 an41 od42 an42 od43 an43 od44 an44 od45 an45 od46 an46 od47 an47 od48 an48 od49 an49 od50 an50 od51 an51 od52 an52 od53 an53 : Option Addr} {sl1 sl2 sl3 sl4 sl5 sl6 sl7 sl8 sl9 sl10 sl11 sl12 sl13 sl14 sl15 sl16 sl17 sl18 sl19 sl20 sl21 sl22 sl23 sl24 sl25 sl26 sl27 sl28 sl29 sl30 sl31 sl32 sl33 sl34 sl35 sl36 sl37 sl38 sl39 sl40 sl41 sl42 sl43 sl44 sl45 sl46 sl47 sl48 sl49 sl50 sl51 sl52 sl53 : Array (Option Value)}
    {es_BRACKETS : Array DictEntry} {nn_BRACKETS : Nat}
    {odKINDS : Option Addr} {itKINDS : Array Value} {nnKINDS : Nat} {slKINDS : Array (Option Value)}
    {oc1 kV1 dc1 pm1 cd1 ct1 oc2 kV2 dc2 pm2 cd2 ct2 oc3 kV3 dc3 pm3 cd3 ct3 oc4 kV4 dc4 pm4 cd4 ct4 oc5 kV5 dc5 pm5 cd5 ct5 oc6 kV6 dc6 pm6 cd6 ct6 oc7 kV7 dc7 pm7 cd7 ct7 oc8 kV8 dc8 pm8 cd8 ct8 oc9 kV9 dc9 pm9 cd9 ct9 oc10 kV10 dc10 pm10 cd10 ct10 oc11 kV11 dc11 pm11 cd11 ct11 oc12 kV12 dc12 pm12 cd12 ct12 oc13 kV13 dc13 pm13 cd13 ct13 oc14 kV14 dc14 pm14 cd14 ct14 oc15 kV15 dc15 pm15 cd15 ct15 oc16 kV16 dc16 pm16 cd16 ct16 oc17 kV17 dc17 pm17 cd17 ct17 oc18 kV18 dc18 pm18 cd18 ct18 oc19 kV19 dc19 pm19 cd19 ct19 oc20 dc20 pm20 cd20 ct20 oc21 kV21 dc21 pm21 cd21 ct21 oc22 kV22 dc22 pm22 cd22 ct22 oc23 kV23 dc23 pm23 cd23 ct23 oc24 kV24 dc24 pm24 cd24 ct24 oc25 kV25 dc25 pm25 cd25 ct25 oc26 kV26 dc26 pm26 cd26 ct26 oc27 kV27 dc27 pm27 cd27 ct27 oc28 kV28 dc28 pm28 cd28 ct28 oc29 kV29 dc29 pm29 cd29 ct29 oc30 dc30 pm30 cd30 ct30 oc31 kV31 dc31 pm31 cd31 ct31 oc32 kV32 dc32 pm32 cd32 ct32 oc33 kV33 dc33 pm33 cd33 ct33 oc34 kV34 dc34 pm34 cd34 ct34 oc35 kV35 dc35 pm35 cd35 ct35 oc36 kV36 dc36 pm36 cd36 ct36 oc37 kV37 dc37 pm37 cd37 ct37 oc38 kV38 dc38 pm38 cd38 ct38 oc39 kV39 dc39 pm39 cd39 ct39 oc40 kV40 dc40 pm40 cd40 ct40 oc41 kV41 dc41 pm41 cd41 ct41 oc42 kV42 dc42 pm42 cd42 ct42 oc43 kV43 dc43 pm43 cd43 ct43 oc44 kV44 dc44 pm44 cd44 ct44 oc45 kV45 dc45 pm45 cd45 ct45 oc46 kV46 dc46 pm46 cd46 ct46 oc47 kV47 dc47 pm47 cd47 ct47 oc48 kV48 dc48 pm48 cd48 ct48 oc49 kV49 dc49 pm49 cd49 ct49 oc50 kV50 dc50 pm50 cd50 ct50 oc51 kV51 dc51 pm51 cd51 ct51 oc52 kV52 dc52 pm52 cd52 ct52 oc53 kV53 dc53 pm53 cd53 ct53 : Value}
    (g_Translator : PySem.W.nsIn K mainGlobals "Translator" = some (some (.ref C_Translator)))
    (g_ShortReader : PySem.W.nsIn K mainGlobals "ShortReader" = some (some (.ref C_ShortReader)))
    (a1 : PySem.W.nsIn K mainGlobals "is_character" = some (some (.ref p1)))
    (l1 : K.lookup p1 = some ⟨oc1, od1, .func (PySem.W.fnOf "is_character" "is_character" (defArgs s_is_character) (defBody s_is_character) (defScope s_is_character) .none kV1 dc1 pm1 an1 cd1 ct1), sl1⟩)
    (c1 : PySem.W.codeIn K cd1 "is_character" = true)
    (k1 : PySem.W.keepIn K (.ref p1) = true)
    (a2 : PySem.W.nsIn K mainGlobals "is_digit" = some (some (.ref p2)))
    (l2 : K.lookup p2 = some ⟨oc2, od2, .func (PySem.W.fnOf "is_digit" "is_digit" (defArgs s_is_digit) (defBody s_is_digit) (defScope s_is_digit) .none kV2 dc2 pm2 an2 cd2 ct2), sl2⟩)
    (c2 : PySem.W.codeIn K cd2 "is_digit" = true)
    (k2 : PySem.W.keepIn K (.ref p2) = true)
    (a3 : PySem.W.nsIn K mainGlobals "with_digit" = some (some (.ref p3)))
    (l3 : K.lookup p3 = some ⟨oc3, od3, .func (PySem.W.fnOf "with_digit" "with_digit" (defArgs s_with_digit) (defBody s_with_digit) (defScope s_with_digit) .none kV3 dc3 pm3 an3 cd3 ct3), sl3⟩)
    (c3 : PySem.W.codeIn K cd3 "with_digit" = true)
    (k3 : PySem.W.keepIn K (.ref p3) = true)
    (a4 : PySem.W.nsIn K mainGlobals "codes_of" = some (some (.ref p4)))
    (l4 : K.lookup p4 = some ⟨oc4, od4, .func (PySem.W.fnOf "codes_of" "codes_of" (defArgs s_codes_of) (defBody s_codes_of) (defScope s_codes_of) .none kV4 dc4 pm4 an4 cd4 ct4), sl4⟩)
    (c4 : PySem.W.codeIn K cd4 "codes_of" = true)
    (k4 : PySem.W.keepIn K (.ref p4) = true)
    (a5 : PySem.W.nsIn K mainGlobals "readable" = some (some (.ref p5)))
    (l5 : K.lookup p5 = some ⟨oc5, od5, .func (PySem.W.fnOf "readable" "readable" (defArgs s_readable) (defBody s_readable) (defScope s_readable) .none kV5 dc5 pm5 an5 cd5 ct5), sl5⟩)
    (c5 : PySem.W.codeIn K cd5 "readable" = true)
    (k5 : PySem.W.keepIn K (.ref p5) = true)
    (a6 : PySem.W.nsIn K mainGlobals "read_digits" = some (some (.ref p6)))
    (l6 : K.lookup p6 = some ⟨oc6, od6, .func (PySem.W.fnOf "read_digits" "read_digits" (defArgs s_read_digits) (defBody s_read_digits) (defScope s_read_digits) .none kV6 dc6 pm6 an6 cd6 ct6), sl6⟩)
    (c6 : PySem.W.codeIn K cd6 "read_digits" = true)
    (k6 : PySem.W.keepIn K (.ref p6) = true)
    (a7 : PySem.W.findIn K (.ref C_ShortReader) "__init__" = some (some (.ref p7)))
    (i7 : PySem.W.isFn K (.ref p7) = true)
    (l7 : K.lookup p7 = some ⟨oc7, od7, .func (PySem.W.fnOf "__init__" "ShortReader.__init__" (defArgs s_ShortReader_init) (defBody s_ShortReader_init) (defScope s_ShortReader_init) .none kV7 dc7 pm7 an7 cd7 ct7), sl7⟩)
    (c7 : PySem.W.codeIn K cd7 "ShortReader.__init__" = true)
    (k7 : PySem.W.keepIn K (.ref p7) = true)
    (a8 : PySem.W.findIn K (.ref C_ShortReader) "feed" = some (some (.ref p8)))
    (i8 : PySem.W.isFn K (.ref p8) = true)
    (l8 : K.lookup p8 = some ⟨oc8, od8, .func (PySem.W.fnOf "feed" "ShortReader.feed" (defArgs s_ShortReader_feed) (defBody s_ShortReader_feed) (defScope s_ShortReader_feed) .none kV8 dc8 pm8 an8 cd8 ct8), sl8⟩)
    (c8 : PySem.W.codeIn K cd8 "ShortReader.feed" = true)
    (k8 : PySem.W.keepIn K (.ref p8) = true)
    (a9 : PySem.W.findIn K (.ref C_ShortReader) "image" = some (some (.ref p9)))
    (i9 : PySem.W.isFn K (.ref p9) = true)
    (l9 : K.lookup p9 = some ⟨oc9, od9, .func (PySem.W.fnOf "image" "ShortReader.image" (defArgs s_ShortReader_image) (defBody s_ShortReader_image) (defScope s_ShortReader_image) .none kV9 dc9 pm9 an9 cd9 ct9), sl9⟩)
    (c9 : PySem.W.codeIn K cd9 "ShortReader.image" = true)
    (k9 : PySem.W.keepIn K (.ref p9) = true)
    (a10 : PySem.W.findIn K (.ref C_ShortReader) "_take" = some (some (.ref p10)))
    (i10 : PySem.W.isFn K (.ref p10) = true)
    (l10 : K.lookup p10 = some ⟨oc10, od10, .func (PySem.W.fnOf "_take" "ShortReader._take" (defArgs s_ShortReader_take) (defBody s_ShortReader_take) (defScope s_ShortReader_take) .none kV10 dc10 pm10 an10 cd10 ct10), sl10⟩)
    (c10 : PySem.W.codeIn K cd10 "ShortReader._take" = true)
    (k10 : PySem.W.keepIn K (.ref p10) = true)
    (a11 : PySem.W.findIn K (.ref C_ShortReader) "_take_sign" = some (some (.ref p11)))
    (i11 : PySem.W.isFn K (.ref p11) = true)
    (l11 : K.lookup p11 = some ⟨oc11, od11, .func (PySem.W.fnOf "_take_sign" "ShortReader._take_sign" (defArgs s_ShortReader_take_sign) (defBody s_ShortReader_take_sign) (defScope s_ShortReader_take_sign) .none kV11 dc11 pm11 an11 cd11 ct11), sl11⟩)
    (c11 : PySem.W.codeIn K cd11 "ShortReader._take_sign" = true)
    (k11 : PySem.W.keepIn K (.ref p11) = true)
    (a12 : PySem.W.findIn K (.ref C_ShortReader) "_emit" = some (some (.ref p12)))
    (i12 : PySem.W.isFn K (.ref p12) = true)
    (l12 : K.lookup p12 = some ⟨oc12, od12, .func (PySem.W.fnOf "_emit" "ShortReader._emit" (defArgs s_ShortReader_emit) (defBody s_ShortReader_emit) (defScope s_ShortReader_emit) .none kV12 dc12 pm12 an12 cd12 ct12), sl12⟩)
    (c12 : PySem.W.codeIn K cd12 "ShortReader._emit" = true)
    (k12 : PySem.W.keepIn K (.ref p12) = true)
    (a13 : PySem.W.nsIn K mainGlobals "translate_short" = some (some (.ref p13)))
    (l13 : K.lookup p13 = some ⟨oc13, od13, .func (PySem.W.fnOf "translate_short" "translate_short" (defArgs s_translate_short) (defBody s_translate_short) (defScope s_translate_short) .none kV13 dc13 pm13 an13 cd13 ct13), sl13⟩)
    (c13 : PySem.W.codeIn K cd13 "translate_short" = true)
    (k13 : PySem.W.keepIn K (.ref p13) = true)
    (a14 : PySem.W.nsIn K mainGlobals "_begin_choice" = some (some (.ref p14)))
    (l14 : K.lookup p14 = some ⟨oc14, od14, .func (PySem.W.fnOf "_begin_choice" "_begin_choice" (defArgs s_begin_choice) (defBody s_begin_choice) (defScope s_begin_choice) .none kV14 dc14 pm14 an14 cd14 ct14), sl14⟩)
    (c14 : PySem.W.codeIn K cd14 "_begin_choice" = true)
    (k14 : PySem.W.keepIn K (.ref p14) = true)
    (a15 : PySem.W.nsIn K mainGlobals "_turn_choice" = some (some (.ref p15)))
    (l15 : K.lookup p15 = some ⟨oc15, od15, .func (PySem.W.fnOf "_turn_choice" "_turn_choice" (defArgs s_turn_choice) (defBody s_turn_choice) (defScope s_turn_choice) .none kV15 dc15 pm15 an15 cd15 ct15), sl15⟩)
    (c15 : PySem.W.codeIn K cd15 "_turn_choice" = true)
    (k15 : PySem.W.keepIn K (.ref p15) = true)
    (a16 : PySem.W.nsIn K mainGlobals "_end_choice" = some (some (.ref p16)))
    (l16 : K.lookup p16 = some ⟨oc16, od16, .func (PySem.W.fnOf "_end_choice" "_end_choice" (defArgs s_end_choice) (defBody s_end_choice) (defScope s_end_choice) .none kV16 dc16 pm16 an16 cd16 ct16), sl16⟩)
    (c16 : PySem.W.codeIn K cd16 "_end_choice" = true)
    (k16 : PySem.W.keepIn K (.ref p16) = true)
    (a17 : PySem.W.nsIn K mainGlobals "_begin_loop" = some (some (.ref p17)))
    (l17 : K.lookup p17 = some ⟨oc17, od17, .func (PySem.W.fnOf "_begin_loop" "_begin_loop" (defArgs s_begin_loop) (defBody s_begin_loop) (defScope s_begin_loop) .none kV17 dc17 pm17 an17 cd17 ct17), sl17⟩)
    (c17 : PySem.W.codeIn K cd17 "_begin_loop" = true)
    (k17 : PySem.W.keepIn K (.ref p17) = true)
    (a18 : PySem.W.nsIn K mainGlobals "_end_loop" = some (some (.ref p18)))
    (l18 : K.lookup p18 = some ⟨oc18, od18, .func (PySem.W.fnOf "_end_loop" "_end_loop" (defArgs s_end_loop) (defBody s_end_loop) (defScope s_end_loop) .none kV18 dc18 pm18 an18 cd18 ct18), sl18⟩)
    (c18 : PySem.W.codeIn K cd18 "_end_loop" = true)
    (k18 : PySem.W.keepIn K (.ref p18) = true)
    (a19 : PySem.W.nsIn K mainGlobals "_end_definition" = some (some (.ref p19)))
    (l19 : K.lookup p19 = some ⟨oc19, od19, .func (PySem.W.fnOf "_end_definition" "_end_definition" (defArgs s_end_definition) (defBody s_end_definition) (defScope s_end_definition) .none kV19 dc19 pm19 an19 cd19 ct19), sl19⟩)
    (c19 : PySem.W.codeIn K cd19 "_end_definition" = true)
    (k19 : PySem.W.keepIn K (.ref p19) = true)
    (a20 : PySem.W.findIn K (.ref C_Translator) "__init__" = some (some (.ref p20)))
    (i20 : PySem.W.isFn K (.ref p20) = true)
    (l20 : K.lookup p20 = some ⟨oc20, od20, .func (PySem.W.fnOf "__init__" "Translator.__init__" (defArgs s_Translator_init) (defBody s_Translator_init) (defScope s_Translator_init) .none (.ref kD20) dc20 pm20 an20 cd20 ct20), sl20⟩)
    (q20_first : PySem.W.nsIn K kD20 "first" = some (some (.int 200 tq20_first)))
    (q20_by : PySem.W.nsIn K kD20 "by" = some (some (.int 1 tq20_by)))
    (c20 : PySem.W.codeIn K cd20 "Translator.__init__" = true)
    (k20 : PySem.W.keepIn K (.ref p20) = true)
    (a21 : PySem.W.findIn K (.ref C_Translator) "popped" = some (some (.ref p21)))
    (i21 : PySem.W.isFn K (.ref p21) = true)
    (l21 : K.lookup p21 = some ⟨oc21, od21, .func (PySem.W.fnOf "popped" "Translator.popped" (defArgs s_Translator_popped) (defBody s_Translator_popped) (defScope s_Translator_popped) .none kV21 dc21 pm21 an21 cd21 ct21), sl21⟩)
    (c21 : PySem.W.codeIn K cd21 "Translator.popped" = true)
    (k21 : PySem.W.keepIn K (.ref p21) = true)
    (a22 : PySem.W.findIn K (.ref C_Translator) "taken_number" = some (some (.ref p22)))
    (i22 : PySem.W.isFn K (.ref p22) = true)
    (l22 : K.lookup p22 = some ⟨oc22, od22, .func (PySem.W.fnOf "taken_number" "Translator.taken_number" (defArgs s_Translator_taken_number) (defBody s_Translator_taken_number) (defScope s_Translator_taken_number) .none kV22 dc22 pm22 an22 cd22 ct22), sl22⟩)
    (c22 : PySem.W.codeIn K cd22 "Translator.taken_number" = true)
    (k22 : PySem.W.keepIn K (.ref p22) = true)
    (a23 : PySem.W.findIn K (.ref C_Translator) "append_node" = some (some (.ref p23)))
    (i23 : PySem.W.isFn K (.ref p23) = true)
    (l23 : K.lookup p23 = some ⟨oc23, od23, .func (PySem.W.fnOf "append_node" "Translator.append_node" (defArgs s_Translator_append_node) (defBody s_Translator_append_node) (defScope s_Translator_append_node) .none kV23 dc23 pm23 an23 cd23 ct23), sl23⟩)
    (c23 : PySem.W.codeIn K cd23 "Translator.append_node" = true)
    (k23 : PySem.W.keepIn K (.ref p23) = true)
    (a24 : PySem.W.findIn K (.ref C_Translator) "emit" = some (some (.ref p24)))
    (i24 : PySem.W.isFn K (.ref p24) = true)
    (l24 : K.lookup p24 = some ⟨oc24, od24, .func (PySem.W.fnOf "emit" "Translator.emit" (defArgs s_Translator_emit) (defBody s_Translator_emit) (defScope s_Translator_emit) .none kV24 dc24 pm24 an24 cd24 ct24), sl24⟩)
    (c24 : PySem.W.codeIn K cd24 "Translator.emit" = true)
    (k24 : PySem.W.keepIn K (.ref p24) = true)
    (a25 : PySem.W.findIn K (.ref C_Translator) "take" = some (some (.ref p25)))
    (i25 : PySem.W.isFn K (.ref p25) = true)
    (l25 : K.lookup p25 = some ⟨oc25, od25, .func (PySem.W.fnOf "take" "Translator.take" (defArgs s_Translator_take) (defBody s_Translator_take) (defScope s_Translator_take) .none kV25 dc25 pm25 an25 cd25 ct25), sl25⟩)
    (c25 : PySem.W.codeIn K cd25 "Translator.take" = true)
    (k25 : PySem.W.keepIn K (.ref p25) = true)
    (a26 : PySem.W.findIn K (.ref C_Translator) "finish" = some (some (.ref p26)))
    (i26 : PySem.W.isFn K (.ref p26) = true)
    (l26 : K.lookup p26 = some ⟨oc26, od26, .func (PySem.W.fnOf "finish" "Translator.finish" (defArgs s_Translator_finish) (defBody s_Translator_finish) (defScope s_Translator_finish) .none kV26 dc26 pm26 an26 cd26 ct26), sl26⟩)
    (c26 : PySem.W.codeIn K cd26 "Translator.finish" = true)
    (k26 : PySem.W.keepIn K (.ref p26) = true)
    (a27 : PySem.W.findIn K (.ref C_Translator) "_end_numeral" = some (some (.ref p27)))
    (i27 : PySem.W.isFn K (.ref p27) = true)
    (l27 : K.lookup p27 = some ⟨oc27, od27, .func (PySem.W.fnOf "_end_numeral" "Translator._end_numeral" (defArgs s_Translator_end_numeral) (defBody s_Translator_end_numeral) (defScope s_Translator_end_numeral) .none kV27 dc27 pm27 an27 cd27 ct27), sl27⟩)
    (c27 : PySem.W.codeIn K cd27 "Translator._end_numeral" = true)
    (k27 : PySem.W.keepIn K (.ref p27) = true)
    (a28 : PySem.W.findIn K (.ref C_Translator) "_take_skipped" = some (some (.ref p28)))
    (i28 : PySem.W.isFn K (.ref p28) = true)
    (l28 : K.lookup p28 = some ⟨oc28, od28, .func (PySem.W.fnOf "_take_skipped" "Translator._take_skipped" (defArgs s_Translator_take_skipped) (defBody s_Translator_take_skipped) (defScope s_Translator_take_skipped) .none kV28 dc28 pm28 an28 cd28 ct28), sl28⟩)
    (c28 : PySem.W.codeIn K cd28 "Translator._take_skipped" = true)
    (k28 : PySem.W.keepIn K (.ref p28) = true)
    (a29 : PySem.W.findIn K (.ref C_Translator) "_take_sign" = some (some (.ref p29)))
    (i29 : PySem.W.isFn K (.ref p29) = true)
    (l29 : K.lookup p29 = some ⟨oc29, od29, .func (PySem.W.fnOf "_take_sign" "Translator._take_sign" (defArgs s_Translator_take_sign) (defBody s_Translator_take_sign) (defScope s_Translator_take_sign) .none kV29 dc29 pm29 an29 cd29 ct29), sl29⟩)
    (c29 : PySem.W.codeIn K cd29 "Translator._take_sign" = true)
    (k29 : PySem.W.keepIn K (.ref p29) = true)
    (a30 : PySem.W.nsIn K mainGlobals "translate" = some (some (.ref p30)))
    (l30 : K.lookup p30 = some ⟨oc30, od30, .func (PySem.W.fnOf "translate" "translate" (defArgs s_translate) (defBody s_translate) (defScope s_translate) .none (.ref kD30) dc30 pm30 an30 cd30 ct30), sl30⟩)
    (q30_first : PySem.W.nsIn K kD30 "first" = some (some (.int 200 tq30_first)))
    (q30_by : PySem.W.nsIn K kD30 "by" = some (some (.int 1 tq30_by)))
    (c30 : PySem.W.codeIn K cd30 "translate" = true)
    (k30 : PySem.W.keepIn K (.ref p30) = true)
    (a31 : PySem.W.nsIn K mainGlobals "check_kind" = some (some (.ref p31)))
    (l31 : K.lookup p31 = some ⟨oc31, od31, .func (PySem.W.fnOf "check_kind" "check_kind" (defArgs s_check_kind) (defBody s_check_kind) (defScope s_check_kind) .none kV31 dc31 pm31 an31 cd31 ct31), sl31⟩)
    (c31 : PySem.W.codeIn K cd31 "check_kind" = true)
    (k31 : PySem.W.keepIn K (.ref p31) = true)
    (a32 : PySem.W.nsIn K mainGlobals "meant" = some (some (.ref p32)))
    (l32 : K.lookup p32 = some ⟨oc32, od32, .func (PySem.W.fnOf "meant" "meant" (defArgs s_meant) (defBody s_meant) (defScope s_meant) .none kV32 dc32 pm32 an32 cd32 ct32), sl32⟩)
    (c32 : PySem.W.codeIn K cd32 "meant" = true)
    (k32 : PySem.W.keepIn K (.ref p32) = true)
    (a33 : PySem.W.nsIn K mainGlobals "due" = some (some (.ref p33)))
    (l33 : K.lookup p33 = some ⟨oc33, od33, .func (PySem.W.fnOf "due" "due" (defArgs s_due) (defBody s_due) (defScope s_due) .none kV33 dc33 pm33 an33 cd33 ct33), sl33⟩)
    (c33 : PySem.W.codeIn K cd33 "due" = true)
    (k33 : PySem.W.keepIn K (.ref p33) = true)
    (a34 : PySem.W.nsIn K mainGlobals "first_difference" = some (some (.ref p34)))
    (l34 : K.lookup p34 = some ⟨oc34, od34, .func (PySem.W.fnOf "first_difference" "first_difference" (defArgs s_first_difference) (defBody s_first_difference) (defScope s_first_difference) .none kV34 dc34 pm34 an34 cd34 ct34), sl34⟩)
    (c34 : PySem.W.codeIn K cd34 "first_difference" = true)
    (k34 : PySem.W.keepIn K (.ref p34) = true)
    (a35 : PySem.W.nsIn K mainGlobals "_law_number" = some (some (.ref p35)))
    (l35 : K.lookup p35 = some ⟨oc35, od35, .func (PySem.W.fnOf "_law_number" "_law_number" (defArgs s_law_number) (defBody s_law_number) (defScope s_law_number) .none kV35 dc35 pm35 an35 cd35 ct35), sl35⟩)
    (c35 : PySem.W.codeIn K cd35 "_law_number" = true)
    (k35 : PySem.W.keepIn K (.ref p35) = true)
    (a36 : PySem.W.nsIn K mainGlobals "_law_draws" = some (some (.ref p36)))
    (l36 : K.lookup p36 = some ⟨oc36, od36, .func (PySem.W.fnOf "_law_draws" "_law_draws" (defArgs s_law_draws) (defBody s_law_draws) (defScope s_law_draws) .none kV36 dc36 pm36 an36 cd36 ct36), sl36⟩)
    (c36 : PySem.W.codeIn K cd36 "_law_draws" = true)
    (k36 : PySem.W.keepIn K (.ref p36) = true)
    (a37 : PySem.W.nsIn K mainGlobals "_law_next" = some (some (.ref p37)))
    (l37 : K.lookup p37 = some ⟨oc37, od37, .func (PySem.W.fnOf "_law_next" "_law_next" (defArgs s_law_next) (defBody s_law_next) (defScope s_law_next) .none kV37 dc37 pm37 an37 cd37 ct37), sl37⟩)
    (c37 : PySem.W.codeIn K cd37 "_law_next" = true)
    (k37 : PySem.W.keepIn K (.ref p37) = true)
    (a38 : PySem.W.nsIn K mainGlobals "_law_pull" = some (some (.ref p38)))
    (l38 : K.lookup p38 = some ⟨oc38, od38, .func (PySem.W.fnOf "_law_pull" "_law_pull" (defArgs s_law_pull) (defBody s_law_pull) (defScope s_law_pull) .none kV38 dc38 pm38 an38 cd38 ct38), sl38⟩)
    (c38 : PySem.W.codeIn K cd38 "_law_pull" = true)
    (k38 : PySem.W.keepIn K (.ref p38) = true)
    (a39 : PySem.W.nsIn K mainGlobals "_law_emit" = some (some (.ref p39)))
    (l39 : K.lookup p39 = some ⟨oc39, od39, .func (PySem.W.fnOf "_law_emit" "_law_emit" (defArgs s_law_emit) (defBody s_law_emit) (defScope s_law_emit) .none kV39 dc39 pm39 an39 cd39 ct39), sl39⟩)
    (c39 : PySem.W.codeIn K cd39 "_law_emit" = true)
    (k39 : PySem.W.keepIn K (.ref p39) = true)
    (a40 : PySem.W.nsIn K mainGlobals "_law_branch" = some (some (.ref p40)))
    (l40 : K.lookup p40 = some ⟨oc40, od40, .func (PySem.W.fnOf "_law_branch" "_law_branch" (defArgs s_law_branch) (defBody s_law_branch) (defScope s_law_branch) .none kV40 dc40 pm40 an40 cd40 ct40), sl40⟩)
    (c40 : PySem.W.codeIn K cd40 "_law_branch" = true)
    (k40 : PySem.W.keepIn K (.ref p40) = true)
    (a41 : PySem.W.nsIn K mainGlobals "_law_pair" = some (some (.ref p41)))
    (l41 : K.lookup p41 = some ⟨oc41, od41, .func (PySem.W.fnOf "_law_pair" "_law_pair" (defArgs s_law_pair) (defBody s_law_pair) (defScope s_law_pair) .none kV41 dc41 pm41 an41 cd41 ct41), sl41⟩)
    (c41 : PySem.W.codeIn K cd41 "_law_pair" = true)
    (k41 : PySem.W.keepIn K (.ref p41) = true)
    (a42 : PySem.W.nsIn K mainGlobals "_law_code" = some (some (.ref p42)))
    (l42 : K.lookup p42 = some ⟨oc42, od42, .func (PySem.W.fnOf "_law_code" "_law_code" (defArgs s_law_code) (defBody s_law_code) (defScope s_law_code) .none kV42 dc42 pm42 an42 cd42 ct42), sl42⟩)
    (c42 : PySem.W.codeIn K cd42 "_law_code" = true)
    (k42 : PySem.W.keepIn K (.ref p42) = true)
    (a43 : PySem.W.nsIn K mainGlobals "_law_translate" = some (some (.ref p43)))
    (l43 : K.lookup p43 = some ⟨oc43, od43, .func (PySem.W.fnOf "_law_translate" "_law_translate" (defArgs s_law_translate) (defBody s_law_translate) (defScope s_law_translate) .none kV43 dc43 pm43 an43 cd43 ct43), sl43⟩)
    (c43 : PySem.W.codeIn K cd43 "_law_translate" = true)
    (k43 : PySem.W.keepIn K (.ref p43) = true)
    (a44 : PySem.W.nsIn K mainGlobals "_law_is_integer" = some (some (.ref p44)))
    (l44 : K.lookup p44 = some ⟨oc44, od44, .func (PySem.W.fnOf "_law_is_integer" "_law_is_integer" (defArgs s_law_is_integer) (defBody s_law_is_integer) (defScope s_law_is_integer) .none kV44 dc44 pm44 an44 cd44 ct44), sl44⟩)
    (c44 : PySem.W.codeIn K cd44 "_law_is_integer" = true)
    (k44 : PySem.W.keepIn K (.ref p44) = true)
    (a45 : PySem.W.nsIn K mainGlobals "_law_is_integers" = some (some (.ref p45)))
    (l45 : K.lookup p45 = some ⟨oc45, od45, .func (PySem.W.fnOf "_law_is_integers" "_law_is_integers" (defArgs s_law_is_integers) (defBody s_law_is_integers) (defScope s_law_is_integers) .none kV45 dc45 pm45 an45 cd45 ct45), sl45⟩)
    (c45 : PySem.W.codeIn K cd45 "_law_is_integers" = true)
    (k45 : PySem.W.keepIn K (.ref p45) = true)
    (a46 : PySem.W.nsIn K mainGlobals "_law_digits" = some (some (.ref p46)))
    (l46 : K.lookup p46 = some ⟨oc46, od46, .func (PySem.W.fnOf "_law_digits" "_law_digits" (defArgs s_law_digits) (defBody s_law_digits) (defScope s_law_digits) .none kV46 dc46 pm46 an46 cd46 ct46), sl46⟩)
    (c46 : PySem.W.codeIn K cd46 "_law_digits" = true)
    (k46 : PySem.W.keepIn K (.ref p46) = true)
    (a47 : PySem.W.nsIn K mainGlobals "_law_short" = some (some (.ref p47)))
    (l47 : K.lookup p47 = some ⟨oc47, od47, .func (PySem.W.fnOf "_law_short" "_law_short" (defArgs s_law_short) (defBody s_law_short) (defScope s_law_short) .none kV47 dc47 pm47 an47 cd47 ct47), sl47⟩)
    (c47 : PySem.W.codeIn K cd47 "_law_short" = true)
    (k47 : PySem.W.keepIn K (.ref p47) = true)
    (a48 : PySem.W.nsIn K mainGlobals "_law_char" = some (some (.ref p48)))
    (l48 : K.lookup p48 = some ⟨oc48, od48, .func (PySem.W.fnOf "_law_char" "_law_char" (defArgs s_law_char) (defBody s_law_char) (defScope s_law_char) .none kV48 dc48 pm48 an48 cd48 ct48), sl48⟩)
    (c48 : PySem.W.codeIn K cd48 "_law_char" = true)
    (k48 : PySem.W.keepIn K (.ref p48) = true)
    (a49 : PySem.W.nsIn K mainGlobals "_law_text" = some (some (.ref p49)))
    (l49 : K.lookup p49 = some ⟨oc49, od49, .func (PySem.W.fnOf "_law_text" "_law_text" (defArgs s_law_text) (defBody s_law_text) (defScope s_law_text) .none kV49 dc49 pm49 an49 cd49 ct49), sl49⟩)
    (c49 : PySem.W.codeIn K cd49 "_law_text" = true)
    (k49 : PySem.W.keepIn K (.ref p49) = true)
    (a50 : PySem.W.nsIn K mainGlobals "_law_told" = some (some (.ref p50)))
    (l50 : K.lookup p50 = some ⟨oc50, od50, .func (PySem.W.fnOf "_law_told" "_law_told" (defArgs s_law_told) (defBody s_law_told) (defScope s_law_told) .none kV50 dc50 pm50 an50 cd50 ct50), sl50⟩)
    (c50 : PySem.W.codeIn K cd50 "_law_told" = true)
    (k50 : PySem.W.keepIn K (.ref p50) = true)
    (a51 : PySem.W.nsIn K mainGlobals "_law_lists" = some (some (.ref p51)))
    (l51 : K.lookup p51 = some ⟨oc51, od51, .func (PySem.W.fnOf "_law_lists" "_law_lists" (defArgs s_law_lists) (defBody s_law_lists) (defScope s_law_lists) .none kV51 dc51 pm51 an51 cd51 ct51), sl51⟩)
    (c51 : PySem.W.codeIn K cd51 "_law_lists" = true)
    (k51 : PySem.W.keepIn K (.ref p51) = true)
    (a52 : PySem.W.nsIn K mainGlobals "_law_difference" = some (some (.ref p52)))
    (l52 : K.lookup p52 = some ⟨oc52, od52, .func (PySem.W.fnOf "_law_difference" "_law_difference" (defArgs s_law_difference) (defBody s_law_difference) (defScope s_law_difference) .none kV52 dc52 pm52 an52 cd52 ct52), sl52⟩)
    (c52 : PySem.W.codeIn K cd52 "_law_difference" = true)
    (k52 : PySem.W.keepIn K (.ref p52) = true)
    (a53 : PySem.W.nsIn K mainGlobals "law" = some (some (.ref p53)))
    (l53 : K.lookup p53 = some ⟨oc53, od53, .func (PySem.W.fnOf "law" "law" (defArgs s_law) (defBody s_law) (defScope s_law) .none kV53 dc53 pm53 an53 cd53 ct53), sl53⟩)
    (c53 : PySem.W.codeIn K cd53 "law" = true)
    (k53 : PySem.W.keepIn K (.ref p53) = true)
    (g_PlinthError : PySem.W.nsIn K mainGlobals "PlinthError" = some (some (.ref C_PlinthError)))
    (k_PlinthError : PySem.W.keepIn K (.ref C_PlinthError) = true)
    (x_PlinthError : PySem.W.excIn K C_PlinthError [.type "ValueError", .type "Exception", .type "BaseException", .type "object"] "ValueError.__new__" = true)
    (b_PlinthError : PySem.W.subIn K (.ref C_PlinthError) (.type "BaseException") = some true)
    (t_PlinthError : PySem.W.typeIn K (.ref C_PlinthError) = some (.type "type"))
    (hd_PlinthError : PySem.W.hasDictIn K C_PlinthError = true)
    (s_PlinthError : PySem.W.subIn K (.ref C_PlinthError) (.ref C_PlinthError) = some true)
    (i_PlinthError : PySem.W.isClsIn K C_PlinthError = true)
    (g_NotText : PySem.W.nsIn K mainGlobals "NotText" = some (some (.ref C_NotText)))
    (k_NotText : PySem.W.keepIn K (.ref C_NotText) = true)
    (x_NotText : PySem.W.excIn K C_NotText [.type "ValueError", .type "Exception", .type "BaseException", .type "object"] "ValueError.__new__" = true)
    (b_NotText : PySem.W.subIn K (.ref C_NotText) (.type "BaseException") = some true)
    (t_NotText : PySem.W.typeIn K (.ref C_NotText) = some (.type "type"))
    (hd_NotText : PySem.W.hasDictIn K C_NotText = true)
    (s_NotText : PySem.W.subIn K (.ref C_NotText) (.ref C_NotText) = some true)
    (i_NotText : PySem.W.isClsIn K C_NotText = true)
    (ga_NotText : PySem.W.findIn K (.ref C_NotText) "__getattribute__" = some (some (.builtin "BaseException.__getattribute__")))
    (gg_NotText : PySem.W.findIn K (.ref C_NotText) "__getattr__" = some none)
    (gc_NotText : PySem.W.findIn K (.ref C_NotText) "__class__" = some (some (.builtin "object.__class__")))
    (gs_NotText : PySem.W.specialIn K (.builtin "object.__class__") "__get__" = some (some (.builtin "getset_descriptor.__get__")))
    (gt_NotText : PySem.W.takesIn K (.builtin "object.__class__") = some true)
    (gm_NotText : PySem.W.mroIn K C_NotText (.type "object") = some true)
    (g_BadKind : PySem.W.nsIn K mainGlobals "BadKind" = some (some (.ref C_BadKind)))
    (k_BadKind : PySem.W.keepIn K (.ref C_BadKind) = true)
    (x_BadKind : PySem.W.excIn K C_BadKind [.type "ValueError", .type "Exception", .type "BaseException", .type "object"] "ValueError.__new__" = true)
    (b_BadKind : PySem.W.subIn K (.ref C_BadKind) (.type "BaseException") = some true)
    (t_BadKind : PySem.W.typeIn K (.ref C_BadKind) = some (.type "type"))
    (hd_BadKind : PySem.W.hasDictIn K C_BadKind = true)
    (s_BadKind : PySem.W.subIn K (.ref C_BadKind) (.ref C_BadKind) = some true)
    (i_BadKind : PySem.W.isClsIn K C_BadKind = true)
    (ga_BadKind : PySem.W.findIn K (.ref C_BadKind) "__getattribute__" = some (some (.builtin "BaseException.__getattribute__")))
    (gg_BadKind : PySem.W.findIn K (.ref C_BadKind) "__getattr__" = some none)
    (gc_BadKind : PySem.W.findIn K (.ref C_BadKind) "__class__" = some (some (.builtin "object.__class__")))
    (gs_BadKind : PySem.W.specialIn K (.builtin "object.__class__") "__get__" = some (some (.builtin "getset_descriptor.__get__")))
    (gt_BadKind : PySem.W.takesIn K (.builtin "object.__class__") = some true)
    (gm_BadKind : PySem.W.mroIn K C_BadKind (.type "object") = some true)
    (sub_NotText_BadKind : PySem.W.subIn K (.ref C_NotText) (.ref C_BadKind) = some false)
    (kit_NotText_PlinthError : PySem.W.kitOne K (.ref C_NotText) (.ref C_PlinthError) = some true)
    (kit_BadKind_NotText : PySem.W.kitOne K (.ref C_BadKind) (.ref C_NotText) = some false)
    (kit_BadKind_PlinthError : PySem.W.kitOne K (.ref C_BadKind) (.ref C_PlinthError) = some true)
    (pg_Translator : PySem.W.plainGet K C_Translator Str.empty = true)
    (hd_Translator : PySem.W.hasDictIn K C_Translator = true)
    (po_Translator : PySem.W.plainOver K C_Translator = true)
    (sa_Translator : PySem.W.findIn K (.ref C_Translator) "__setattr__" = some (some (.builtin "object.__setattr__")))
    (mk_Translator : PySem.W.makesIn K C_Translator = true)
    (kc_Translator : PySem.W.keepIn K (.ref C_Translator) = true)
    (na_Translator_image : PySem.W.findIn K (.ref C_Translator) "image" = some none)
    (na_Translator_m : PySem.W.findIn K (.ref C_Translator) "m" = some none)
    (na_Translator_k : PySem.W.findIn K (.ref C_Translator) "k" = some none)
    (na_Translator_pile : PySem.W.findIn K (.ref C_Translator) "pile" = some none)
    (na_Translator_numeral : PySem.W.findIn K (.ref C_Translator) "numeral" = some none)
    (na_Translator_waiting : PySem.W.findIn K (.ref C_Translator) "waiting" = some none)
    (na_Translator_by : PySem.W.findIn K (.ref C_Translator) "_by" = some none)
    (na_Translator_stopped : PySem.W.findIn K (.ref C_Translator) "_stopped" = some none)
    (na_Translator_finished : PySem.W.findIn K (.ref C_Translator) "_finished" = some none)
    (pg_ShortReader : PySem.W.plainGet K C_ShortReader Str.empty = true)
    (hd_ShortReader : PySem.W.hasDictIn K C_ShortReader = true)
    (po_ShortReader : PySem.W.plainOver K C_ShortReader = true)
    (sa_ShortReader : PySem.W.findIn K (.ref C_ShortReader) "__setattr__" = some (some (.builtin "object.__setattr__")))
    (mk_ShortReader : PySem.W.makesIn K C_ShortReader = true)
    (kc_ShortReader : PySem.W.keepIn K (.ref C_ShortReader) = true)
    (na_ShortReader_m : PySem.W.findIn K (.ref C_ShortReader) "m" = some none)
    (na_ShortReader_r : PySem.W.findIn K (.ref C_ShortReader) "r" = some none)
    (na_ShortReader_waiting : PySem.W.findIn K (.ref C_ShortReader) "waiting" = some none)
    (na_ShortReader_finished : PySem.W.findIn K (.ref C_ShortReader) "finished" = some none)
    (na_ShortReader_cells : PySem.W.findIn K (.ref C_ShortReader) "_cells" = some none)
    (g_BRACKETS : PySem.W.nsIn K mainGlobals "_BRACKETS" = some (some (.ref D_BRACKETS)))
    (tl_BRACKETS : K.lookup D_BRACKETS = some ⟨.type "dict", none, .dict es_BRACKETS nn_BRACKETS, #[]⟩)
    (tk_BRACKETS : ikeys es_BRACKETS.toList = some [(91, .ref p14), (124, .ref p15), (93, .ref p16), (123, .ref p17), (125, .ref p18), (59, .ref p19)])
    (tw_BRACKETS : (D_BRACKETS == sysModules) = false)
    (tn_BRACKETS : [p14, p15, p16, p17, p18, p19].Nodup)
    (g_KINDS : PySem.W.nsIn K mainGlobals "_KINDS" = some (some (.ref D_KINDS)))
    (tu_KINDS : K.lookup D_KINDS = some ⟨.type "tuple", odKINDS, .seq itKINDS nnKINDS, slKINDS⟩)
    (ti_KINDS : strsV itKINDS.toList = some [("digits" : Str), ("short" : Str), ("plain" : Str), ("turned" : Str)])
    (c_BRANCH : PySem.W.nsIn K mainGlobals "BRANCH" = some (some (.int 63 t_BRANCH)))
    (c_COLON : PySem.W.nsIn K mainGlobals "COLON" = some (some (.int 58 t_COLON)))
    (c_NEWLINE : PySem.W.nsIn K mainGlobals "NEWLINE" = some (some (.int 10 t_NEWLINE)))
    (c_NOP : PySem.W.nsIn K mainGlobals "NOP" = some (some (.int 32 t_NOP)))
    (c_PUSH : PySem.W.nsIn K mainGlobals "PUSH" = some (some (.int 35 t_PUSH)))
    (c_QUOTE : PySem.W.nsIn K mainGlobals "QUOTE" = some (some (.int 39 t_QUOTE)))
    (c_RETURN : PySem.W.nsIn K mainGlobals "RETURN" = some (some (.int 41 t_RETURN)))
    (c_SET : PySem.W.nsIn K mainGlobals "SET" = some (some (.int 61 t_SET)))
    (c_SPACE : PySem.W.nsIn K mainGlobals "SPACE" = some (some (.int 32 t_SPACE)))
    (c_GREATER : PySem.W.nsIn K mainGlobals "_GREATER" = some (some (.int 62 t_GREATER)))
    (n_bool : PySem.W.nsIn K mainGlobals "bool" = some none)
    (n_int : PySem.W.nsIn K mainGlobals "int" = some none)
    (n_isinstance : PySem.W.nsIn K mainGlobals "isinstance" = some none)
    (n_len : PySem.W.nsIn K mainGlobals "len" = some none)
    (n_list : PySem.W.nsIn K mainGlobals "list" = some none)
    (n_min : PySem.W.nsIn K mainGlobals "min" = some none)
    (n_ord : PySem.W.nsIn K mainGlobals "ord" = some none)
    (n_range : PySem.W.nsIn K mainGlobals "range" = some none)
    : ∃ T : Txt K mg, T.f_law = p53 := by
  exact ⟨{
      C_Translator := C_Translator
      C_ShortReader := C_ShortReader
      f_is_character := p1
      d_is_character := _
      F_is_character := fun_mk (st := s_is_character) l1 c1 k1
      b_is_character := (fun_mk (st := s_is_character) l1 c1 k1).binds (ps := ["code"]) fun _ _ _ _ _ _ us hl => match us, hl with | [_], _ => rfl
      g_is_character := PySem.W.mg_of X G a1
      f_is_digit := p2
      d_is_digit := _
      F_is_digit := fun_mk (st := s_is_digit) l2 c2 k2
      b_is_digit := (fun_mk (st := s_is_digit) l2 c2 k2).binds (ps := ["code"]) fun _ _ _ _ _ _ us hl => match us, hl with | [_], _ => rfl
      g_is_digit := PySem.W.mg_of X G a2
      f_with_digit := p3
      d_with_digit := _
      F_with_digit := fun_mk (st := s_with_digit) l3 c3 k3
      b_with_digit := (fun_mk (st := s_with_digit) l3 c3 k3).binds (ps := ["number", "code"]) fun _ _ _ _ _ _ us hl => match us, hl with | [_, _], _ => rfl
      g_with_digit := PySem.W.mg_of X G a3
      f_codes_of := p4
      d_codes_of := _
      F_codes_of := fun_mk (st := s_codes_of) l4 c4 k4
      b_codes_of := (fun_mk (st := s_codes_of) l4 c4 k4).binds (ps := ["text"]) fun _ _ _ _ _ _ us hl => match us, hl with | [_], _ => rfl
      g_codes_of := PySem.W.mg_of X G a4
      f_readable := p5
      d_readable := _
      F_readable := fun_mk (st := s_readable) l5 c5 k5
      b_readable := (fun_mk (st := s_readable) l5 c5 k5).binds (ps := ["codes"]) fun _ _ _ _ _ _ us hl => match us, hl with | [_], _ => rfl
      g_readable := PySem.W.mg_of X G a5
      f_read_digits := p6
      d_read_digits := _
      F_read_digits := fun_mk (st := s_read_digits) l6 c6 k6
      b_read_digits := (fun_mk (st := s_read_digits) l6 c6 k6).binds (ps := ["codes"]) fun _ _ _ _ _ _ us hl => match us, hl with | [_], _ => rfl
      g_read_digits := PySem.W.mg_of X G a6
      f_ShortReader_init := p7
      d_ShortReader_init := _
      F_ShortReader_init := fun_mk (st := s_ShortReader_init) l7 c7 k7
      b_ShortReader_init := (fun_mk (st := s_ShortReader_init) l7 c7 k7).binds (ps := ["self"]) fun _ _ _ _ _ _ us hl => match us, hl with | [_], _ => rfl
      m_ShortReader_init := ⟨mk_ShortReader, a7, i7, kc_ShortReader⟩
      f_ShortReader_feed := p8
      d_ShortReader_feed := _
      F_ShortReader_feed := fun_mk (st := s_ShortReader_feed) l8 c8 k8
      b_ShortReader_feed := (fun_mk (st := s_ShortReader_feed) l8 c8 k8).binds (ps := ["self", "codes"]) fun _ _ _ _ _ _ us hl => match us, hl with | [_, _], _ => rfl
      m_ShortReader_feed := ⟨a8, i8, k8⟩
      f_ShortReader_image := p9
      d_ShortReader_image := _
      F_ShortReader_image := fun_mk (st := s_ShortReader_image) l9 c9 k9
      b_ShortReader_image := (fun_mk (st := s_ShortReader_image) l9 c9 k9).binds (ps := ["self"]) fun _ _ _ _ _ _ us hl => match us, hl with | [_], _ => rfl
      m_ShortReader_image := ⟨a9, i9, k9⟩
      f_ShortReader_take := p10
      d_ShortReader_take := _
      F_ShortReader_take := fun_mk (st := s_ShortReader_take) l10 c10 k10
      b_ShortReader_take := (fun_mk (st := s_ShortReader_take) l10 c10 k10).binds (ps := ["self", "code"]) fun _ _ _ _ _ _ us hl => match us, hl with | [_, _], _ => rfl
      m_ShortReader_take := ⟨a10, i10, k10⟩
      f_ShortReader_take_sign := p11
      d_ShortReader_take_sign := _
      F_ShortReader_take_sign := fun_mk (st := s_ShortReader_take_sign) l11 c11 k11
      b_ShortReader_take_sign := (fun_mk (st := s_ShortReader_take_sign) l11 c11 k11).binds (ps := ["self", "code"]) fun _ _ _ _ _ _ us hl => match us, hl with | [_, _], _ => rfl
      m_ShortReader_take_sign := ⟨a11, i11, k11⟩
      f_ShortReader_emit := p12
      d_ShortReader_emit := _
      F_ShortReader_emit := fun_mk (st := s_ShortReader_emit) l12 c12 k12
      b_ShortReader_emit := (fun_mk (st := s_ShortReader_emit) l12 c12 k12).binds (ps := ["self", "operation", "argument", "successor"]) fun _ _ _ _ _ _ us hl => match us, hl with | [_, _, _, _], _ => rfl
      m_ShortReader_emit := ⟨a12, i12, k12⟩
      f_translate_short := p13
      d_translate_short := _
      F_translate_short := fun_mk (st := s_translate_short) l13 c13 k13
      b_translate_short := (fun_mk (st := s_translate_short) l13 c13 k13).binds (ps := ["codes"]) fun _ _ _ _ _ _ us hl => match us, hl with | [_], _ => rfl
      g_translate_short := PySem.W.mg_of X G a13
      f_begin_choice := p14
      d_begin_choice := _
      F_begin_choice := fun_mk (st := s_begin_choice) l14 c14 k14
      b_begin_choice := (fun_mk (st := s_begin_choice) l14 c14 k14).binds (ps := ["translator"]) fun _ _ _ _ _ _ us hl => match us, hl with | [_], _ => rfl
      g_begin_choice := PySem.W.mg_of X G a14
      f_turn_choice := p15
      d_turn_choice := _
      F_turn_choice := fun_mk (st := s_turn_choice) l15 c15 k15
      b_turn_choice := (fun_mk (st := s_turn_choice) l15 c15 k15).binds (ps := ["translator"]) fun _ _ _ _ _ _ us hl => match us, hl with | [_], _ => rfl
      g_turn_choice := PySem.W.mg_of X G a15
      f_end_choice := p16
      d_end_choice := _
      F_end_choice := fun_mk (st := s_end_choice) l16 c16 k16
      b_end_choice := (fun_mk (st := s_end_choice) l16 c16 k16).binds (ps := ["translator"]) fun _ _ _ _ _ _ us hl => match us, hl with | [_], _ => rfl
      g_end_choice := PySem.W.mg_of X G a16
      f_begin_loop := p17
      d_begin_loop := _
      F_begin_loop := fun_mk (st := s_begin_loop) l17 c17 k17
      b_begin_loop := (fun_mk (st := s_begin_loop) l17 c17 k17).binds (ps := ["translator"]) fun _ _ _ _ _ _ us hl => match us, hl with | [_], _ => rfl
      g_begin_loop := PySem.W.mg_of X G a17
      f_end_loop := p18
      d_end_loop := _
      F_end_loop := fun_mk (st := s_end_loop) l18 c18 k18
      b_end_loop := (fun_mk (st := s_end_loop) l18 c18 k18).binds (ps := ["translator"]) fun _ _ _ _ _ _ us hl => match us, hl with | [_], _ => rfl
      g_end_loop := PySem.W.mg_of X G a18
      f_end_definition := p19
      d_end_definition := _
      F_end_definition := fun_mk (st := s_end_definition) l19 c19 k19
      b_end_definition := (fun_mk (st := s_end_definition) l19 c19 k19).binds (ps := ["translator"]) fun _ _ _ _ _ _ us hl => match us, hl with | [_], _ => rfl
      g_end_definition := PySem.W.mg_of X G a19
      f_Translator_init := p20
      d_Translator_init := _
      F_Translator_init := fun_mk (st := s_Translator_init) l20 c20 k20
      K_Translator_init := fund_mk (st := s_Translator_init) l20 c20 k20 (hq2 q20_first q20_by)
      m_Translator_init := ⟨mk_Translator, a20, i20, kc_Translator⟩
      f_Translator_popped := p21
      d_Translator_popped := _
      F_Translator_popped := fun_mk (st := s_Translator_popped) l21 c21 k21
      b_Translator_popped := (fun_mk (st := s_Translator_popped) l21 c21 k21).binds (ps := ["self"]) fun _ _ _ _ _ _ us hl => match us, hl with | [_], _ => rfl
      m_Translator_popped := ⟨a21, i21, k21⟩
      f_Translator_taken_number := p22
      d_Translator_taken_number := _
      F_Translator_taken_number := fun_mk (st := s_Translator_taken_number) l22 c22 k22
      b_Translator_taken_number := (fun_mk (st := s_Translator_taken_number) l22 c22 k22).binds (ps := ["self"]) fun _ _ _ _ _ _ us hl => match us, hl with | [_], _ => rfl
      m_Translator_taken_number := ⟨a22, i22, k22⟩
      f_Translator_append_node := p23
      d_Translator_append_node := _
      F_Translator_append_node := fun_mk (st := s_Translator_append_node) l23 c23 k23
      b_Translator_append_node := (fun_mk (st := s_Translator_append_node) l23 c23 k23).binds (ps := ["self", "operation", "argument", "successor"]) fun _ _ _ _ _ _ us hl => match us, hl with | [_, _, _, _], _ => rfl
      m_Translator_append_node := ⟨a23, i23, k23⟩
      f_Translator_emit := p24
      d_Translator_emit := _
      F_Translator_emit := fun_mk (st := s_Translator_emit) l24 c24 k24
      b_Translator_emit := (fun_mk (st := s_Translator_emit) l24 c24 k24).binds (ps := ["self", "operation", "argument"]) fun _ _ _ _ _ _ us hl => match us, hl with | [_, _, _], _ => rfl
      m_Translator_emit := ⟨a24, i24, k24⟩
      f_Translator_take := p25
      d_Translator_take := _
      F_Translator_take := fun_mk (st := s_Translator_take) l25 c25 k25
      b_Translator_take := (fun_mk (st := s_Translator_take) l25 c25 k25).binds (ps := ["self", "code"]) fun _ _ _ _ _ _ us hl => match us, hl with | [_, _], _ => rfl
      m_Translator_take := ⟨a25, i25, k25⟩
      f_Translator_finish := p26
      d_Translator_finish := _
      F_Translator_finish := fun_mk (st := s_Translator_finish) l26 c26 k26
      b_Translator_finish := (fun_mk (st := s_Translator_finish) l26 c26 k26).binds (ps := ["self"]) fun _ _ _ _ _ _ us hl => match us, hl with | [_], _ => rfl
      m_Translator_finish := ⟨a26, i26, k26⟩
      f_Translator_end_numeral := p27
      d_Translator_end_numeral := _
      F_Translator_end_numeral := fun_mk (st := s_Translator_end_numeral) l27 c27 k27
      b_Translator_end_numeral := (fun_mk (st := s_Translator_end_numeral) l27 c27 k27).binds (ps := ["self"]) fun _ _ _ _ _ _ us hl => match us, hl with | [_], _ => rfl
      m_Translator_end_numeral := ⟨a27, i27, k27⟩
      f_Translator_take_skipped := p28
      d_Translator_take_skipped := _
      F_Translator_take_skipped := fun_mk (st := s_Translator_take_skipped) l28 c28 k28
      b_Translator_take_skipped := (fun_mk (st := s_Translator_take_skipped) l28 c28 k28).binds (ps := ["self", "code"]) fun _ _ _ _ _ _ us hl => match us, hl with | [_, _], _ => rfl
      m_Translator_take_skipped := ⟨a28, i28, k28⟩
      f_Translator_take_sign := p29
      d_Translator_take_sign := _
      F_Translator_take_sign := fun_mk (st := s_Translator_take_sign) l29 c29 k29
      b_Translator_take_sign := (fun_mk (st := s_Translator_take_sign) l29 c29 k29).binds (ps := ["self", "code"]) fun _ _ _ _ _ _ us hl => match us, hl with | [_, _], _ => rfl
      m_Translator_take_sign := ⟨a29, i29, k29⟩
      f_translate := p30
      d_translate := _
      F_translate := fun_mk (st := s_translate) l30 c30 k30
      K_translate := fund_mk (st := s_translate) l30 c30 k30 (hq2 q30_first q30_by)
      g_translate := PySem.W.mg_of X G a30
      f_check_kind := p31
      d_check_kind := _
      F_check_kind := fun_mk (st := s_check_kind) l31 c31 k31
      b_check_kind := (fun_mk (st := s_check_kind) l31 c31 k31).binds (ps := ["kind"]) fun _ _ _ _ _ _ us hl => match us, hl with | [_], _ => rfl
      g_check_kind := PySem.W.mg_of X G a31
      f_meant := p32
      d_meant := _
      F_meant := fun_mk (st := s_meant) l32 c32 k32
      b_meant := (fun_mk (st := s_meant) l32 c32 k32).binds (ps := ["kind", "codes"]) fun _ _ _ _ _ _ us hl => match us, hl with | [_, _], _ => rfl
      g_meant := PySem.W.mg_of X G a32
      f_due := p33
      d_due := _
      F_due := fun_mk (st := s_due) l33 c33 k33
      b_due := (fun_mk (st := s_due) l33 c33 k33).binds (ps := ["kind", "text"]) fun _ _ _ _ _ _ us hl => match us, hl with | [_, _], _ => rfl
      g_due := PySem.W.mg_of X G a33
      f_first_difference := p34
      d_first_difference := _
      F_first_difference := fun_mk (st := s_first_difference) l34 c34 k34
      b_first_difference := (fun_mk (st := s_first_difference) l34 c34 k34).binds (ps := ["one", "other"]) fun _ _ _ _ _ _ us hl => match us, hl with | [_, _], _ => rfl
      g_first_difference := PySem.W.mg_of X G a34
      f_law_number := p35
      d_law_number := _
      F_law_number := fun_mk (st := s_law_number) l35 c35 k35
      b_law_number := (fun_mk (st := s_law_number) l35 c35 k35).binds (ps := ["cell"]) fun _ _ _ _ _ _ us hl => match us, hl with | [_], _ => rfl
      g_law_number := PySem.W.mg_of X G a35
      f_law_draws := p36
      d_law_draws := _
      F_law_draws := fun_mk (st := s_law_draws) l36 c36 k36
      b_law_draws := (fun_mk (st := s_law_draws) l36 c36 k36).binds (ps := ["script"]) fun _ _ _ _ _ _ us hl => match us, hl with | [_], _ => rfl
      g_law_draws := PySem.W.mg_of X G a36
      f_law_next := p37
      d_law_next := _
      F_law_next := fun_mk (st := s_law_next) l37 c37 k37
      b_law_next := (fun_mk (st := s_law_next) l37 c37 k37).binds (ps := ["draws"]) fun _ _ _ _ _ _ us hl => match us, hl with | [_], _ => rfl
      g_law_next := PySem.W.mg_of X G a37
      f_law_pull := p38
      d_law_pull := _
      F_law_pull := fun_mk (st := s_law_pull) l38 c38 k38
      b_law_pull := (fun_mk (st := s_law_pull) l38 c38 k38).binds (ps := ["pile"]) fun _ _ _ _ _ _ us hl => match us, hl with | [_], _ => rfl
      g_law_pull := PySem.W.mg_of X G a38
      f_law_emit := p39
      d_law_emit := _
      F_law_emit := fun_mk (st := s_law_emit) l39 c39 k39
      b_law_emit := (fun_mk (st := s_law_emit) l39 c39 k39).binds (ps := ["state", "op", "arg"]) fun _ _ _ _ _ _ us hl => match us, hl with | [_, _, _], _ => rfl
      g_law_emit := PySem.W.mg_of X G a39
      f_law_branch := p40
      d_law_branch := _
      F_law_branch := fun_mk (st := s_law_branch) l40 c40 k40
      b_law_branch := (fun_mk (st := s_law_branch) l40 c40 k40).binds (ps := ["state", "code"]) fun _ _ _ _ _ _ us hl => match us, hl with | [_, _], _ => rfl
      g_law_branch := PySem.W.mg_of X G a40
      f_law_pair := p41
      d_law_pair := _
      F_law_pair := fun_mk (st := s_law_pair) l41 c41 k41
      b_law_pair := (fun_mk (st := s_law_pair) l41 c41 k41).binds (ps := ["state", "sign", "code"]) fun _ _ _ _ _ _ us hl => match us, hl with | [_, _, _], _ => rfl
      g_law_pair := PySem.W.mg_of X G a41
      f_law_code := p42
      d_law_code := _
      F_law_code := fun_mk (st := s_law_code) l42 c42 k42
      b_law_code := (fun_mk (st := s_law_code) l42 c42 k42).binds (ps := ["state", "code"]) fun _ _ _ _ _ _ us hl => match us, hl with | [_, _], _ => rfl
      g_law_code := PySem.W.mg_of X G a42
      f_law_translate := p43
      d_law_translate := _
      F_law_translate := fun_mk (st := s_law_translate) l43 c43 k43
      b_law_translate := (fun_mk (st := s_law_translate) l43 c43 k43).binds (ps := ["codes", "first", "by"]) fun _ _ _ _ _ _ us hl => match us, hl with | [_, _, _], _ => rfl
      g_law_translate := PySem.W.mg_of X G a43
      f_law_is_integer := p44
      d_law_is_integer := _
      F_law_is_integer := fun_mk (st := s_law_is_integer) l44 c44 k44
      b_law_is_integer := (fun_mk (st := s_law_is_integer) l44 c44 k44).binds (ps := ["actual"]) fun _ _ _ _ _ _ us hl => match us, hl with | [_], _ => rfl
      g_law_is_integer := PySem.W.mg_of X G a44
      f_law_is_integers := p45
      d_law_is_integers := _
      F_law_is_integers := fun_mk (st := s_law_is_integers) l45 c45 k45
      b_law_is_integers := (fun_mk (st := s_law_is_integers) l45 c45 k45).binds (ps := ["actual"]) fun _ _ _ _ _ _ us hl => match us, hl with | [_], _ => rfl
      g_law_is_integers := PySem.W.mg_of X G a45
      f_law_digits := p46
      d_law_digits := _
      F_law_digits := fun_mk (st := s_law_digits) l46 c46 k46
      b_law_digits := (fun_mk (st := s_law_digits) l46 c46 k46).binds (ps := ["codes"]) fun _ _ _ _ _ _ us hl => match us, hl with | [_], _ => rfl
      g_law_digits := PySem.W.mg_of X G a46
      f_law_short := p47
      d_law_short := _
      F_law_short := fun_mk (st := s_law_short) l47 c47 k47
      b_law_short := (fun_mk (st := s_law_short) l47 c47 k47).binds (ps := ["codes"]) fun _ _ _ _ _ _ us hl => match us, hl with | [_], _ => rfl
      g_law_short := PySem.W.mg_of X G a47
      f_law_char := p48
      d_law_char := _
      F_law_char := fun_mk (st := s_law_char) l48 c48 k48
      b_law_char := (fun_mk (st := s_law_char) l48 c48 k48).binds (ps := ["code"]) fun _ _ _ _ _ _ us hl => match us, hl with | [_], _ => rfl
      g_law_char := PySem.W.mg_of X G a48
      f_law_text := p49
      d_law_text := _
      F_law_text := fun_mk (st := s_law_text) l49 c49 k49
      b_law_text := (fun_mk (st := s_law_text) l49 c49 k49).binds (ps := ["draws"]) fun _ _ _ _ _ _ us hl => match us, hl with | [_], _ => rfl
      g_law_text := PySem.W.mg_of X G a49
      f_law_told := p50
      d_law_told := _
      F_law_told := fun_mk (st := s_law_told) l50 c50 k50
      b_law_told := (fun_mk (st := s_law_told) l50 c50 k50).binds (ps := ["kind", "text"]) fun _ _ _ _ _ _ us hl => match us, hl with | [_, _], _ => rfl
      g_law_told := PySem.W.mg_of X G a50
      f_law_lists := p51
      d_law_lists := _
      F_law_lists := fun_mk (st := s_law_lists) l51 c51 k51
      b_law_lists := (fun_mk (st := s_law_lists) l51 c51 k51).binds (ps := ["draws"]) fun _ _ _ _ _ _ us hl => match us, hl with | [_], _ => rfl
      g_law_lists := PySem.W.mg_of X G a51
      f_law_difference := p52
      d_law_difference := _
      F_law_difference := fun_mk (st := s_law_difference) l52 c52 k52
      b_law_difference := (fun_mk (st := s_law_difference) l52 c52 k52).binds (ps := ["one", "other"]) fun _ _ _ _ _ _ us hl => match us, hl with | [_, _], _ => rfl
      g_law_difference := PySem.W.mg_of X G a52
      f_law := p53
      d_law := _
      F_law := fun_mk (st := s_law) l53 c53 k53
      b_law := (fun_mk (st := s_law) l53 c53 k53).binds (ps := ["script"]) fun _ _ _ _ _ _ us hl => match us, hl with | [_], _ => rfl
      g_law := PySem.W.mg_of X G a53
      h_law := fun s v => .of_eq rfl
      C_PlinthError := C_PlinthError
      g_PlinthError := PySem.W.mg_of X G g_PlinthError
      k_PlinthError := k_PlinthError
      x_PlinthError := x_PlinthError
      b_PlinthError := b_PlinthError
      t_PlinthError := t_PlinthError
      hd_PlinthError := hd_PlinthError
      s_PlinthError := s_PlinthError
      i_PlinthError := i_PlinthError
      C_NotText := C_NotText
      g_NotText := PySem.W.mg_of X G g_NotText
      k_NotText := k_NotText
      x_NotText := x_NotText
      b_NotText := b_NotText
      t_NotText := t_NotText
      hd_NotText := hd_NotText
      s_NotText := s_NotText
      i_NotText := i_NotText
      ga_NotText := ga_NotText
      gg_NotText := gg_NotText
      gc_NotText := gc_NotText
      gs_NotText := gs_NotText
      gt_NotText := gt_NotText
      gm_NotText := gm_NotText
      C_BadKind := C_BadKind
      g_BadKind := PySem.W.mg_of X G g_BadKind
      k_BadKind := k_BadKind
      x_BadKind := x_BadKind
      b_BadKind := b_BadKind
      t_BadKind := t_BadKind
      hd_BadKind := hd_BadKind
      s_BadKind := s_BadKind
      i_BadKind := i_BadKind
      ga_BadKind := ga_BadKind
      gg_BadKind := gg_BadKind
      gc_BadKind := gc_BadKind
      gs_BadKind := gs_BadKind
      gt_BadKind := gt_BadKind
      gm_BadKind := gm_BadKind
      sub_NotText_BadKind := sub_NotText_BadKind
      kit_NotText_PlinthError := kit_NotText_PlinthError
      kit_BadKind_NotText := kit_BadKind_NotText
      kit_BadKind_PlinthError := kit_BadKind_PlinthError
      gc_Translator := PySem.W.mg_of X G g_Translator
      cl_Translator := ⟨pg_Translator, hd_Translator, po_Translator, sa_Translator⟩
      na_Translator_image := na_Translator_image
      na_Translator_m := na_Translator_m
      na_Translator_k := na_Translator_k
      na_Translator_pile := na_Translator_pile
      na_Translator_numeral := na_Translator_numeral
      na_Translator_waiting := na_Translator_waiting
      na_Translator_by := na_Translator_by
      na_Translator_stopped := na_Translator_stopped
      na_Translator_finished := na_Translator_finished
      gc_ShortReader := PySem.W.mg_of X G g_ShortReader
      cl_ShortReader := ⟨pg_ShortReader, hd_ShortReader, po_ShortReader, sa_ShortReader⟩
      na_ShortReader_m := na_ShortReader_m
      na_ShortReader_r := na_ShortReader_r
      na_ShortReader_waiting := na_ShortReader_waiting
      na_ShortReader_finished := na_ShortReader_finished
      na_ShortReader_cells := na_ShortReader_cells
      D_BRACKETS := D_BRACKETS
      g_BRACKETS := PySem.W.mg_of X G g_BRACKETS
      tab_BRACKETS := ⟨⟨_, _, tl_BRACKETS, tk_BRACKETS⟩, tw_BRACKETS⟩
      nd_BRACKETS := tn_BRACKETS
      D_KINDS := D_KINDS
      g_KINDS := PySem.W.mg_of X G g_KINDS
      tup_KINDS := tupS_of tu_KINDS ti_KINDS (by decide)
      t_BRANCH := t_BRANCH
      c_BRANCH := PySem.W.mg_of X G c_BRANCH
      t_COLON := t_COLON
      c_COLON := PySem.W.mg_of X G c_COLON
      t_NEWLINE := t_NEWLINE
      c_NEWLINE := PySem.W.mg_of X G c_NEWLINE
      t_NOP := t_NOP
      c_NOP := PySem.W.mg_of X G c_NOP
      t_PUSH := t_PUSH
      c_PUSH := PySem.W.mg_of X G c_PUSH
      t_QUOTE := t_QUOTE
      c_QUOTE := PySem.W.mg_of X G c_QUOTE
      t_RETURN := t_RETURN
      c_RETURN := PySem.W.mg_of X G c_RETURN
      t_SET := t_SET
      c_SET := PySem.W.mg_of X G c_SET
      t_SPACE := t_SPACE
      c_SPACE := PySem.W.mg_of X G c_SPACE
      t_GREATER := t_GREATER
      c_GREATER := PySem.W.mg_of X G c_GREATER
      n_bool := PySem.W.mg_none_of X G n_bool
      n_int := PySem.W.mg_none_of X G n_int
      n_isinstance := PySem.W.mg_none_of X G n_isinstance
      n_len := PySem.W.mg_none_of X G n_len
      n_list := PySem.W.mg_none_of X G n_list
      n_min := PySem.W.mg_none_of X G n_min
      n_ord := PySem.W.mg_none_of X G n_ord
      n_range := PySem.W.mg_none_of X G n_range }, rfl⟩
theorem all_mk {l : PySem.W.OpenLaw} {w : World} {K : PySem.W.Frag} {h : Heap} {mg : Str → Option Value} {fa p1 p2 p3 p4 p5 p6 p7 p8 p9 p10 p11 p12 p13 p14 p15 p16 p17 p18 p19 kD20 p20 p21 p22 p23 p24 p25 p26 p27 p28 p29 kD30 p30 p31 p32 p33 p34 p35 p36 p37 p38 p39 p40 p41 p42 p43 p44 p45 p46 p47 p48 p49 p50 p51 p52 p53 C_PlinthError C_NotText C_BadKind C_Translator C_ShortReader D_BRACKETS D_KINDS : Addr} (X : K.In h) (G : h.Ns mainGlobals mg) (hfa : mg "law" = some (.ref fa))
    {tq20_first tq20_by tq30_first tq30_by t_BRANCH t_COLON t_NEWLINE t_NOP t_PUSH t_QUOTE t_RETURN t_SET t_SPACE t_GREATER : Tok}
    {od1 an1 od2 an2 od3 an3 od4 an4 od5 an5 od6 an6 od7 an7 od8 an8 od9 an9 od10 an10 od11 an11 od12 an12 od13 an13 od14 an14 od15 an15 od16 an16 od17 an17 od18 an18 od19 an19 od20 an20 od21 an21 od22 an22 od23 an23 od24 an24 od25 an25 od26 an26 od27 an27 od28 an28 od29 an29 od30 an30 od31 an31 od32 an32 od33 an33 od34 an34 od35 an35 od36 an36 od37 an37 od38 an38 od39 an39 od40 an40 od41 an41 od42 an42 od43 an43 od44 an44 od45 an45 od46 an46 od47 an47 od48 an48 od49 an49 od50 an50 od51 an51 od52 an52 od53 an53 : Option Addr} {sl1 sl2 sl3 sl4 sl5 sl6 sl7 sl8 sl9 sl10 sl11 sl12 sl13 sl14 sl15 sl16 sl17 sl18 sl19 sl20 sl21 sl22 sl23 sl24 sl25 sl26 sl27 sl28 sl29 sl30 sl31 sl32 sl33 sl34 sl35 sl36 sl37 sl38 sl39 sl40 sl41 sl42 sl43 sl44 sl45 sl46 sl47 sl48 sl49 sl50 sl51 sl52 sl53 : Array (Option Value)}
    {es_BRACKETS : Array DictEntry} {nn_BRACKETS : Nat}
    {odKINDS : Option Addr} {itKINDS : Array Value} {nnKINDS : Nat} {slKINDS : Array (Option Value)}
    {oc1 kV1 dc1 pm1 cd1 ct1 oc2 kV2 dc2 pm2 cd2 ct2 oc3 kV3 dc3 pm3 cd3 ct3 oc4 kV4 dc4 pm4 cd4 ct4 oc5 kV5 dc5 pm5 cd5 ct5 oc6 kV6 dc6 pm6 cd6 ct6 oc7 kV7 dc7 pm7 cd7 ct7 oc8 kV8 dc8 pm8 cd8 ct8 oc9 kV9 dc9 pm9 cd9 ct9 oc10 kV10 dc10 pm10 cd10 ct10 oc11 kV11 dc11 pm11 cd11 ct11 oc12 kV12 dc12 pm12 cd12 ct12 oc13 kV13 dc13 pm13 cd13 ct13 oc14 kV14 dc14 pm14 cd14 ct14 oc15 kV15 dc15 pm15 cd15 ct15 oc16 kV16 dc16 pm16 cd16 ct16 oc17 kV17 dc17 pm17 cd17 ct17 oc18 kV18 dc18 pm18 cd18 ct18 oc19 kV19 dc19 pm19 cd19 ct19 oc20 dc20 pm20 cd20 ct20 oc21 kV21 dc21 pm21 cd21 ct21 oc22 kV22 dc22 pm22 cd22 ct22 oc23 kV23 dc23 pm23 cd23 ct23 oc24 kV24 dc24 pm24 cd24 ct24 oc25 kV25 dc25 pm25 cd25 ct25 oc26 kV26 dc26 pm26 cd26 ct26 oc27 kV27 dc27 pm27 cd27 ct27 oc28 kV28 dc28 pm28 cd28 ct28 oc29 kV29 dc29 pm29 cd29 ct29 oc30 dc30 pm30 cd30 ct30 oc31 kV31 dc31 pm31 cd31 ct31 oc32 kV32 dc32 pm32 cd32 ct32 oc33 kV33 dc33 pm33 cd33 ct33 oc34 kV34 dc34 pm34 cd34 ct34 oc35 kV35 dc35 pm35 cd35 ct35 oc36 kV36 dc36 pm36 cd36 ct36 oc37 kV37 dc37 pm37 cd37 ct37 oc38 kV38 dc38 pm38 cd38 ct38 oc39 kV39 dc39 pm39 cd39 ct39 oc40 kV40 dc40 pm40 cd40 ct40 oc41 kV41 dc41 pm41 cd41 ct41 oc42 kV42 dc42 pm42 cd42 ct42 oc43 kV43 dc43 pm43 cd43 ct43 oc44 kV44 dc44 pm44 cd44 ct44 oc45 kV45 dc45 pm45 cd45 ct45 oc46 kV46 dc46 pm46 cd46 ct46 oc47 kV47 dc47 pm47 cd47 ct47 oc48 kV48 dc48 pm48 cd48 ct48 oc49 kV49 dc49 pm49 cd49 ct49 oc50 kV50 dc50 pm50 cd50 ct50 oc51 kV51 dc51 pm51 cd51 ct51 oc52 kV52 dc52 pm52 cd52 ct52 oc53 kV53 dc53 pm53 cd53 ct53 : Value}
    (g_Translator : PySem.W.nsIn K mainGlobals "Translator" = some (some (.ref C_Translator)))
    (g_ShortReader : PySem.W.nsIn K mainGlobals "ShortReader" = some (some (.ref C_ShortReader)))
    (a1 : PySem.W.nsIn K mainGlobals "is_character" = some (some (.ref p1)))
    (l1 : K.lookup p1 = some ⟨oc1, od1, .func (PySem.W.fnOf "is_character" "is_character" (defArgs s_is_character) (defBody s_is_character) (defScope s_is_character) .none kV1 dc1 pm1 an1 cd1 ct1), sl1⟩)
    (c1 : PySem.W.codeIn K cd1 "is_character" = true)
    (k1 : PySem.W.keepIn K (.ref p1) = true)
    (a2 : PySem.W.nsIn K mainGlobals "is_digit" = some (some (.ref p2)))
    (l2 : K.lookup p2 = some ⟨oc2, od2, .func (PySem.W.fnOf "is_digit" "is_digit" (defArgs s_is_digit) (defBody s_is_digit) (defScope s_is_digit) .none kV2 dc2 pm2 an2 cd2 ct2), sl2⟩)
    (c2 : PySem.W.codeIn K cd2 "is_digit" = true)
    (k2 : PySem.W.keepIn K (.ref p2) = true)
    (a3 : PySem.W.nsIn K mainGlobals "with_digit" = some (some (.ref p3)))
    (l3 : K.lookup p3 = some ⟨oc3, od3, .func (PySem.W.fnOf "with_digit" "with_digit" (defArgs s_with_digit) (defBody s_with_digit) (defScope s_with_digit) .none kV3 dc3 pm3 an3 cd3 ct3), sl3⟩)
    (c3 : PySem.W.codeIn K cd3 "with_digit" = true)
    (k3 : PySem.W.keepIn K (.ref p3) = true)
    (a4 : PySem.W.nsIn K mainGlobals "codes_of" = some (some (.ref p4)))
    (l4 : K.lookup p4 = some ⟨oc4, od4, .func (PySem.W.fnOf "codes_of" "codes_of" (defArgs s_codes_of) (defBody s_codes_of) (defScope s_codes_of) .none kV4 dc4 pm4 an4 cd4 ct4), sl4⟩)
    (c4 : PySem.W.codeIn K cd4 "codes_of" = true)
    (k4 : PySem.W.keepIn K (.ref p4) = true)
    (a5 : PySem.W.nsIn K mainGlobals "readable" = some (some (.ref p5)))
    (l5 : K.lookup p5 = some ⟨oc5, od5, .func (PySem.W.fnOf "readable" "readable" (defArgs s_readable) (defBody s_readable) (defScope s_readable) .none kV5 dc5 pm5 an5 cd5 ct5), sl5⟩)
    (c5 : PySem.W.codeIn K cd5 "readable" = true)
    (k5 : PySem.W.keepIn K (.ref p5) = true)
    (a6 : PySem.W.nsIn K mainGlobals "read_digits" = some (some (.ref p6)))
    (l6 : K.lookup p6 = some ⟨oc6, od6, .func (PySem.W.fnOf "read_digits" "read_digits" (defArgs s_read_digits) (defBody s_read_digits) (defScope s_read_digits) .none kV6 dc6 pm6 an6 cd6 ct6), sl6⟩)
    (c6 : PySem.W.codeIn K cd6 "read_digits" = true)
    (k6 : PySem.W.keepIn K (.ref p6) = true)
    (a7 : PySem.W.findIn K (.ref C_ShortReader) "__init__" = some (some (.ref p7)))
    (i7 : PySem.W.isFn K (.ref p7) = true)
    (l7 : K.lookup p7 = some ⟨oc7, od7, .func (PySem.W.fnOf "__init__" "ShortReader.__init__" (defArgs s_ShortReader_init) (defBody s_ShortReader_init) (defScope s_ShortReader_init) .none kV7 dc7 pm7 an7 cd7 ct7), sl7⟩)
    (c7 : PySem.W.codeIn K cd7 "ShortReader.__init__" = true)
    (k7 : PySem.W.keepIn K (.ref p7) = true)
    (a8 : PySem.W.findIn K (.ref C_ShortReader) "feed" = some (some (.ref p8)))
    (i8 : PySem.W.isFn K (.ref p8) = true)
    (l8 : K.lookup p8 = some ⟨oc8, od8, .func (PySem.W.fnOf "feed" "ShortReader.feed" (defArgs s_ShortReader_feed) (defBody s_ShortReader_feed) (defScope s_ShortReader_feed) .none kV8 dc8 pm8 an8 cd8 ct8), sl8⟩)
    (c8 : PySem.W.codeIn K cd8 "ShortReader.feed" = true)
    (k8 : PySem.W.keepIn K (.ref p8) = true)
    (a9 : PySem.W.findIn K (.ref C_ShortReader) "image" = some (some (.ref p9)))
    (i9 : PySem.W.isFn K (.ref p9) = true)
    (l9 : K.lookup p9 = some ⟨oc9, od9, .func (PySem.W.fnOf "image" "ShortReader.image" (defArgs s_ShortReader_image) (defBody s_ShortReader_image) (defScope s_ShortReader_image) .none kV9 dc9 pm9 an9 cd9 ct9), sl9⟩)
    (c9 : PySem.W.codeIn K cd9 "ShortReader.image" = true)
    (k9 : PySem.W.keepIn K (.ref p9) = true)
    (a10 : PySem.W.findIn K (.ref C_ShortReader) "_take" = some (some (.ref p10)))
    (i10 : PySem.W.isFn K (.ref p10) = true)
    (l10 : K.lookup p10 = some ⟨oc10, od10, .func (PySem.W.fnOf "_take" "ShortReader._take" (defArgs s_ShortReader_take) (defBody s_ShortReader_take) (defScope s_ShortReader_take) .none kV10 dc10 pm10 an10 cd10 ct10), sl10⟩)
    (c10 : PySem.W.codeIn K cd10 "ShortReader._take" = true)
    (k10 : PySem.W.keepIn K (.ref p10) = true)
    (a11 : PySem.W.findIn K (.ref C_ShortReader) "_take_sign" = some (some (.ref p11)))
    (i11 : PySem.W.isFn K (.ref p11) = true)
    (l11 : K.lookup p11 = some ⟨oc11, od11, .func (PySem.W.fnOf "_take_sign" "ShortReader._take_sign" (defArgs s_ShortReader_take_sign) (defBody s_ShortReader_take_sign) (defScope s_ShortReader_take_sign) .none kV11 dc11 pm11 an11 cd11 ct11), sl11⟩)
    (c11 : PySem.W.codeIn K cd11 "ShortReader._take_sign" = true)
    (k11 : PySem.W.keepIn K (.ref p11) = true)
    (a12 : PySem.W.findIn K (.ref C_ShortReader) "_emit" = some (some (.ref p12)))
    (i12 : PySem.W.isFn K (.ref p12) = true)
    (l12 : K.lookup p12 = some ⟨oc12, od12, .func (PySem.W.fnOf "_emit" "ShortReader._emit" (defArgs s_ShortReader_emit) (defBody s_ShortReader_emit) (defScope s_ShortReader_emit) .none kV12 dc12 pm12 an12 cd12 ct12), sl12⟩)
    (c12 : PySem.W.codeIn K cd12 "ShortReader._emit" = true)
    (k12 : PySem.W.keepIn K (.ref p12) = true)
    (a13 : PySem.W.nsIn K mainGlobals "translate_short" = some (some (.ref p13)))
    (l13 : K.lookup p13 = some ⟨oc13, od13, .func (PySem.W.fnOf "translate_short" "translate_short" (defArgs s_translate_short) (defBody s_translate_short) (defScope s_translate_short) .none kV13 dc13 pm13 an13 cd13 ct13), sl13⟩)
    (c13 : PySem.W.codeIn K cd13 "translate_short" = true)
    (k13 : PySem.W.keepIn K (.ref p13) = true)
    (a14 : PySem.W.nsIn K mainGlobals "_begin_choice" = some (some (.ref p14)))
    (l14 : K.lookup p14 = some ⟨oc14, od14, .func (PySem.W.fnOf "_begin_choice" "_begin_choice" (defArgs s_begin_choice) (defBody s_begin_choice) (defScope s_begin_choice) .none kV14 dc14 pm14 an14 cd14 ct14), sl14⟩)
    (c14 : PySem.W.codeIn K cd14 "_begin_choice" = true)
    (k14 : PySem.W.keepIn K (.ref p14) = true)
    (a15 : PySem.W.nsIn K mainGlobals "_turn_choice" = some (some (.ref p15)))
    (l15 : K.lookup p15 = some ⟨oc15, od15, .func (PySem.W.fnOf "_turn_choice" "_turn_choice" (defArgs s_turn_choice) (defBody s_turn_choice) (defScope s_turn_choice) .none kV15 dc15 pm15 an15 cd15 ct15), sl15⟩)
    (c15 : PySem.W.codeIn K cd15 "_turn_choice" = true)
    (k15 : PySem.W.keepIn K (.ref p15) = true)
    (a16 : PySem.W.nsIn K mainGlobals "_end_choice" = some (some (.ref p16)))
    (l16 : K.lookup p16 = some ⟨oc16, od16, .func (PySem.W.fnOf "_end_choice" "_end_choice" (defArgs s_end_choice) (defBody s_end_choice) (defScope s_end_choice) .none kV16 dc16 pm16 an16 cd16 ct16), sl16⟩)
    (c16 : PySem.W.codeIn K cd16 "_end_choice" = true)
    (k16 : PySem.W.keepIn K (.ref p16) = true)
    (a17 : PySem.W.nsIn K mainGlobals "_begin_loop" = some (some (.ref p17)))
    (l17 : K.lookup p17 = some ⟨oc17, od17, .func (PySem.W.fnOf "_begin_loop" "_begin_loop" (defArgs s_begin_loop) (defBody s_begin_loop) (defScope s_begin_loop) .none kV17 dc17 pm17 an17 cd17 ct17), sl17⟩)
    (c17 : PySem.W.codeIn K cd17 "_begin_loop" = true)
    (k17 : PySem.W.keepIn K (.ref p17) = true)
    (a18 : PySem.W.nsIn K mainGlobals "_end_loop" = some (some (.ref p18)))
    (l18 : K.lookup p18 = some ⟨oc18, od18, .func (PySem.W.fnOf "_end_loop" "_end_loop" (defArgs s_end_loop) (defBody s_end_loop) (defScope s_end_loop) .none kV18 dc18 pm18 an18 cd18 ct18), sl18⟩)
    (c18 : PySem.W.codeIn K cd18 "_end_loop" = true)
    (k18 : PySem.W.keepIn K (.ref p18) = true)
    (a19 : PySem.W.nsIn K mainGlobals "_end_definition" = some (some (.ref p19)))
    (l19 : K.lookup p19 = some ⟨oc19, od19, .func (PySem.W.fnOf "_end_definition" "_end_definition" (defArgs s_end_definition) (defBody s_end_definition) (defScope s_end_definition) .none kV19 dc19 pm19 an19 cd19 ct19), sl19⟩)
    (c19 : PySem.W.codeIn K cd19 "_end_definition" = true)
    (k19 : PySem.W.keepIn K (.ref p19) = true)
    (a20 : PySem.W.findIn K (.ref C_Translator) "__init__" = some (some (.ref p20)))
    (i20 : PySem.W.isFn K (.ref p20) = true)
    (l20 : K.lookup p20 = some ⟨oc20, od20, .func (PySem.W.fnOf "__init__" "Translator.__init__" (defArgs s_Translator_init) (defBody s_Translator_init) (defScope s_Translator_init) .none (.ref kD20) dc20 pm20 an20 cd20 ct20), sl20⟩)
    (q20_first : PySem.W.nsIn K kD20 "first" = some (some (.int 200 tq20_first)))
    (q20_by : PySem.W.nsIn K kD20 "by" = some (some (.int 1 tq20_by)))
    (c20 : PySem.W.codeIn K cd20 "Translator.__init__" = true)
    (k20 : PySem.W.keepIn K (.ref p20) = true)
    (a21 : PySem.W.findIn K (.ref C_Translator) "popped" = some (some (.ref p21)))
    (i21 : PySem.W.isFn K (.ref p21) = true)
    (l21 : K.lookup p21 = some ⟨oc21, od21, .func (PySem.W.fnOf "popped" "Translator.popped" (defArgs s_Translator_popped) (defBody s_Translator_popped) (defScope s_Translator_popped) .none kV21 dc21 pm21 an21 cd21 ct21), sl21⟩)
    (c21 : PySem.W.codeIn K cd21 "Translator.popped" = true)
    (k21 : PySem.W.keepIn K (.ref p21) = true)
    (a22 : PySem.W.findIn K (.ref C_Translator) "taken_number" = some (some (.ref p22)))
    (i22 : PySem.W.isFn K (.ref p22) = true)
    (l22 : K.lookup p22 = some ⟨oc22, od22, .func (PySem.W.fnOf "taken_number" "Translator.taken_number" (defArgs s_Translator_taken_number) (defBody s_Translator_taken_number) (defScope s_Translator_taken_number) .none kV22 dc22 pm22 an22 cd22 ct22), sl22⟩)
    (c22 : PySem.W.codeIn K cd22 "Translator.taken_number" = true)
    (k22 : PySem.W.keepIn K (.ref p22) = true)
    (a23 : PySem.W.findIn K (.ref C_Translator) "append_node" = some (some (.ref p23)))
    (i23 : PySem.W.isFn K (.ref p23) = true)
    (l23 : K.lookup p23 = some ⟨oc23, od23, .func (PySem.W.fnOf "append_node" "Translator.append_node" (defArgs s_Translator_append_node) (defBody s_Translator_append_node) (defScope s_Translator_append_node) .none kV23 dc23 pm23 an23 cd23 ct23), sl23⟩)
    (c23 : PySem.W.codeIn K cd23 "Translator.append_node" = true)
    (k23 : PySem.W.keepIn K (.ref p23) = true)
    (a24 : PySem.W.findIn K (.ref C_Translator) "emit" = some (some (.ref p24)))
    (i24 : PySem.W.isFn K (.ref p24) = true)
    (l24 : K.lookup p24 = some ⟨oc24, od24, .func (PySem.W.fnOf "emit" "Translator.emit" (defArgs s_Translator_emit) (defBody s_Translator_emit) (defScope s_Translator_emit) .none kV24 dc24 pm24 an24 cd24 ct24), sl24⟩)
    (c24 : PySem.W.codeIn K cd24 "Translator.emit" = true)
    (k24 : PySem.W.keepIn K (.ref p24) = true)
    (a25 : PySem.W.findIn K (.ref C_Translator) "take" = some (some (.ref p25)))
    (i25 : PySem.W.isFn K (.ref p25) = true)
    (l25 : K.lookup p25 = some ⟨oc25, od25, .func (PySem.W.fnOf "take" "Translator.take" (defArgs s_Translator_take) (defBody s_Translator_take) (defScope s_Translator_take) .none kV25 dc25 pm25 an25 cd25 ct25), sl25⟩)
    (c25 : PySem.W.codeIn K cd25 "Translator.take" = true)
    (k25 : PySem.W.keepIn K (.ref p25) = true)
    (a26 : PySem.W.findIn K (.ref C_Translator) "finish" = some (some (.ref p26)))
    (i26 : PySem.W.isFn K (.ref p26) = true)
    (l26 : K.lookup p26 = some ⟨oc26, od26, .func (PySem.W.fnOf "finish" "Translator.finish" (defArgs s_Translator_finish) (defBody s_Translator_finish) (defScope s_Translator_finish) .none kV26 dc26 pm26 an26 cd26 ct26), sl26⟩)
    (c26 : PySem.W.codeIn K cd26 "Translator.finish" = true)
    (k26 : PySem.W.keepIn K (.ref p26) = true)
    (a27 : PySem.W.findIn K (.ref C_Translator) "_end_numeral" = some (some (.ref p27)))
    (i27 : PySem.W.isFn K (.ref p27) = true)
    (l27 : K.lookup p27 = some ⟨oc27, od27, .func (PySem.W.fnOf "_end_numeral" "Translator._end_numeral" (defArgs s_Translator_end_numeral) (defBody s_Translator_end_numeral) (defScope s_Translator_end_numeral) .none kV27 dc27 pm27 an27 cd27 ct27), sl27⟩)
    (c27 : PySem.W.codeIn K cd27 "Translator._end_numeral" = true)
    (k27 : PySem.W.keepIn K (.ref p27) = true)
    (a28 : PySem.W.findIn K (.ref C_Translator) "_take_skipped" = some (some (.ref p28)))
    (i28 : PySem.W.isFn K (.ref p28) = true)
    (l28 : K.lookup p28 = some ⟨oc28, od28, .func (PySem.W.fnOf "_take_skipped" "Translator._take_skipped" (defArgs s_Translator_take_skipped) (defBody s_Translator_take_skipped) (defScope s_Translator_take_skipped) .none kV28 dc28 pm28 an28 cd28 ct28), sl28⟩)
    (c28 : PySem.W.codeIn K cd28 "Translator._take_skipped" = true)
    (k28 : PySem.W.keepIn K (.ref p28) = true)
    (a29 : PySem.W.findIn K (.ref C_Translator) "_take_sign" = some (some (.ref p29)))
    (i29 : PySem.W.isFn K (.ref p29) = true)
    (l29 : K.lookup p29 = some ⟨oc29, od29, .func (PySem.W.fnOf "_take_sign" "Translator._take_sign" (defArgs s_Translator_take_sign) (defBody s_Translator_take_sign) (defScope s_Translator_take_sign) .none kV29 dc29 pm29 an29 cd29 ct29), sl29⟩)
    (c29 : PySem.W.codeIn K cd29 "Translator._take_sign" = true)
    (k29 : PySem.W.keepIn K (.ref p29) = true)
    (a30 : PySem.W.nsIn K mainGlobals "translate" = some (some (.ref p30)))
    (l30 : K.lookup p30 = some ⟨oc30, od30, .func (PySem.W.fnOf "translate" "translate" (defArgs s_translate) (defBody s_translate) (defScope s_translate) .none (.ref kD30) dc30 pm30 an30 cd30 ct30), sl30⟩)
    (q30_first : PySem.W.nsIn K kD30 "first" = some (some (.int 200 tq30_first)))
    (q30_by : PySem.W.nsIn K kD30 "by" = some (some (.int 1 tq30_by)))
    (c30 : PySem.W.codeIn K cd30 "translate" = true)
    (k30 : PySem.W.keepIn K (.ref p30) = true)
    (a31 : PySem.W.nsIn K mainGlobals "check_kind" = some (some (.ref p31)))
    (l31 : K.lookup p31 = some ⟨oc31, od31, .func (PySem.W.fnOf "check_kind" "check_kind" (defArgs s_check_kind) (defBody s_check_kind) (defScope s_check_kind) .none kV31 dc31 pm31 an31 cd31 ct31), sl31⟩)
    (c31 : PySem.W.codeIn K cd31 "check_kind" = true)
    (k31 : PySem.W.keepIn K (.ref p31) = true)
    (a32 : PySem.W.nsIn K mainGlobals "meant" = some (some (.ref p32)))
    (l32 : K.lookup p32 = some ⟨oc32, od32, .func (PySem.W.fnOf "meant" "meant" (defArgs s_meant) (defBody s_meant) (defScope s_meant) .none kV32 dc32 pm32 an32 cd32 ct32), sl32⟩)
    (c32 : PySem.W.codeIn K cd32 "meant" = true)
    (k32 : PySem.W.keepIn K (.ref p32) = true)
    (a33 : PySem.W.nsIn K mainGlobals "due" = some (some (.ref p33)))
    (l33 : K.lookup p33 = some ⟨oc33, od33, .func (PySem.W.fnOf "due" "due" (defArgs s_due) (defBody s_due) (defScope s_due) .none kV33 dc33 pm33 an33 cd33 ct33), sl33⟩)
    (c33 : PySem.W.codeIn K cd33 "due" = true)
    (k33 : PySem.W.keepIn K (.ref p33) = true)
    (a34 : PySem.W.nsIn K mainGlobals "first_difference" = some (some (.ref p34)))
    (l34 : K.lookup p34 = some ⟨oc34, od34, .func (PySem.W.fnOf "first_difference" "first_difference" (defArgs s_first_difference) (defBody s_first_difference) (defScope s_first_difference) .none kV34 dc34 pm34 an34 cd34 ct34), sl34⟩)
    (c34 : PySem.W.codeIn K cd34 "first_difference" = true)
    (k34 : PySem.W.keepIn K (.ref p34) = true)
    (a35 : PySem.W.nsIn K mainGlobals "_law_number" = some (some (.ref p35)))
    (l35 : K.lookup p35 = some ⟨oc35, od35, .func (PySem.W.fnOf "_law_number" "_law_number" (defArgs s_law_number) (defBody s_law_number) (defScope s_law_number) .none kV35 dc35 pm35 an35 cd35 ct35), sl35⟩)
    (c35 : PySem.W.codeIn K cd35 "_law_number" = true)
    (k35 : PySem.W.keepIn K (.ref p35) = true)
    (a36 : PySem.W.nsIn K mainGlobals "_law_draws" = some (some (.ref p36)))
    (l36 : K.lookup p36 = some ⟨oc36, od36, .func (PySem.W.fnOf "_law_draws" "_law_draws" (defArgs s_law_draws) (defBody s_law_draws) (defScope s_law_draws) .none kV36 dc36 pm36 an36 cd36 ct36), sl36⟩)
    (c36 : PySem.W.codeIn K cd36 "_law_draws" = true)
    (k36 : PySem.W.keepIn K (.ref p36) = true)
    (a37 : PySem.W.nsIn K mainGlobals "_law_next" = some (some (.ref p37)))
    (l37 : K.lookup p37 = some ⟨oc37, od37, .func (PySem.W.fnOf "_law_next" "_law_next" (defArgs s_law_next) (defBody s_law_next) (defScope s_law_next) .none kV37 dc37 pm37 an37 cd37 ct37), sl37⟩)
    (c37 : PySem.W.codeIn K cd37 "_law_next" = true)
    (k37 : PySem.W.keepIn K (.ref p37) = true)
    (a38 : PySem.W.nsIn K mainGlobals "_law_pull" = some (some (.ref p38)))
    (l38 : K.lookup p38 = some ⟨oc38, od38, .func (PySem.W.fnOf "_law_pull" "_law_pull" (defArgs s_law_pull) (defBody s_law_pull) (defScope s_law_pull) .none kV38 dc38 pm38 an38 cd38 ct38), sl38⟩)
    (c38 : PySem.W.codeIn K cd38 "_law_pull" = true)
    (k38 : PySem.W.keepIn K (.ref p38) = true)
    (a39 : PySem.W.nsIn K mainGlobals "_law_emit" = some (some (.ref p39)))
    (l39 : K.lookup p39 = some ⟨oc39, od39, .func (PySem.W.fnOf "_law_emit" "_law_emit" (defArgs s_law_emit) (defBody s_law_emit) (defScope s_law_emit) .none kV39 dc39 pm39 an39 cd39 ct39), sl39⟩)
    (c39 : PySem.W.codeIn K cd39 "_law_emit" = true)
    (k39 : PySem.W.keepIn K (.ref p39) = true)
    (a40 : PySem.W.nsIn K mainGlobals "_law_branch" = some (some (.ref p40)))
    (l40 : K.lookup p40 = some ⟨oc40, od40, .func (PySem.W.fnOf "_law_branch" "_law_branch" (defArgs s_law_branch) (defBody s_law_branch) (defScope s_law_branch) .none kV40 dc40 pm40 an40 cd40 ct40), sl40⟩)
    (c40 : PySem.W.codeIn K cd40 "_law_branch" = true)
    (k40 : PySem.W.keepIn K (.ref p40) = true)
    (a41 : PySem.W.nsIn K mainGlobals "_law_pair" = some (some (.ref p41)))
    (l41 : K.lookup p41 = some ⟨oc41, od41, .func (PySem.W.fnOf "_law_pair" "_law_pair" (defArgs s_law_pair) (defBody s_law_pair) (defScope s_law_pair) .none kV41 dc41 pm41 an41 cd41 ct41), sl41⟩)
    (c41 : PySem.W.codeIn K cd41 "_law_pair" = true)
    (k41 : PySem.W.keepIn K (.ref p41) = true)
    (a42 : PySem.W.nsIn K mainGlobals "_law_code" = some (some (.ref p42)))
    (l42 : K.lookup p42 = some ⟨oc42, od42, .func (PySem.W.fnOf "_law_code" "_law_code" (defArgs s_law_code) (defBody s_law_code) (defScope s_law_code) .none kV42 dc42 pm42 an42 cd42 ct42), sl42⟩)
    (c42 : PySem.W.codeIn K cd42 "_law_code" = true)
    (k42 : PySem.W.keepIn K (.ref p42) = true)
    (a43 : PySem.W.nsIn K mainGlobals "_law_translate" = some (some (.ref p43)))
    (l43 : K.lookup p43 = some ⟨oc43, od43, .func (PySem.W.fnOf "_law_translate" "_law_translate" (defArgs s_law_translate) (defBody s_law_translate) (defScope s_law_translate) .none kV43 dc43 pm43 an43 cd43 ct43), sl43⟩)
    (c43 : PySem.W.codeIn K cd43 "_law_translate" = true)
    (k43 : PySem.W.keepIn K (.ref p43) = true)
    (a44 : PySem.W.nsIn K mainGlobals "_law_is_integer" = some (some (.ref p44)))
    (l44 : K.lookup p44 = some ⟨oc44, od44, .func (PySem.W.fnOf "_law_is_integer" "_law_is_integer" (defArgs s_law_is_integer) (defBody s_law_is_integer) (defScope s_law_is_integer) .none kV44 dc44 pm44 an44 cd44 ct44), sl44⟩)
    (c44 : PySem.W.codeIn K cd44 "_law_is_integer" = true)
    (k44 : PySem.W.keepIn K (.ref p44) = true)
    (a45 : PySem.W.nsIn K mainGlobals "_law_is_integers" = some (some (.ref p45)))
    (l45 : K.lookup p45 = some ⟨oc45, od45, .func (PySem.W.fnOf "_law_is_integers" "_law_is_integers" (defArgs s_law_is_integers) (defBody s_law_is_integers) (defScope s_law_is_integers) .none kV45 dc45 pm45 an45 cd45 ct45), sl45⟩)
    (c45 : PySem.W.codeIn K cd45 "_law_is_integers" = true)
    (k45 : PySem.W.keepIn K (.ref p45) = true)
    (a46 : PySem.W.nsIn K mainGlobals "_law_digits" = some (some (.ref p46)))
    (l46 : K.lookup p46 = some ⟨oc46, od46, .func (PySem.W.fnOf "_law_digits" "_law_digits" (defArgs s_law_digits) (defBody s_law_digits) (defScope s_law_digits) .none kV46 dc46 pm46 an46 cd46 ct46), sl46⟩)
    (c46 : PySem.W.codeIn K cd46 "_law_digits" = true)
    (k46 : PySem.W.keepIn K (.ref p46) = true)
    (a47 : PySem.W.nsIn K mainGlobals "_law_short" = some (some (.ref p47)))
    (l47 : K.lookup p47 = some ⟨oc47, od47, .func (PySem.W.fnOf "_law_short" "_law_short" (defArgs s_law_short) (defBody s_law_short) (defScope s_law_short) .none kV47 dc47 pm47 an47 cd47 ct47), sl47⟩)
    (c47 : PySem.W.codeIn K cd47 "_law_short" = true)
    (k47 : PySem.W.keepIn K (.ref p47) = true)
    (a48 : PySem.W.nsIn K mainGlobals "_law_char" = some (some (.ref p48)))
    (l48 : K.lookup p48 = some ⟨oc48, od48, .func (PySem.W.fnOf "_law_char" "_law_char" (defArgs s_law_char) (defBody s_law_char) (defScope s_law_char) .none kV48 dc48 pm48 an48 cd48 ct48), sl48⟩)
    (c48 : PySem.W.codeIn K cd48 "_law_char" = true)
    (k48 : PySem.W.keepIn K (.ref p48) = true)
    (a49 : PySem.W.nsIn K mainGlobals "_law_text" = some (some (.ref p49)))
    (l49 : K.lookup p49 = some ⟨oc49, od49, .func (PySem.W.fnOf "_law_text" "_law_text" (defArgs s_law_text) (defBody s_law_text) (defScope s_law_text) .none kV49 dc49 pm49 an49 cd49 ct49), sl49⟩)
    (c49 : PySem.W.codeIn K cd49 "_law_text" = true)
    (k49 : PySem.W.keepIn K (.ref p49) = true)
    (a50 : PySem.W.nsIn K mainGlobals "_law_told" = some (some (.ref p50)))
    (l50 : K.lookup p50 = some ⟨oc50, od50, .func (PySem.W.fnOf "_law_told" "_law_told" (defArgs s_law_told) (defBody s_law_told) (defScope s_law_told) .none kV50 dc50 pm50 an50 cd50 ct50), sl50⟩)
    (c50 : PySem.W.codeIn K cd50 "_law_told" = true)
    (k50 : PySem.W.keepIn K (.ref p50) = true)
    (a51 : PySem.W.nsIn K mainGlobals "_law_lists" = some (some (.ref p51)))
    (l51 : K.lookup p51 = some ⟨oc51, od51, .func (PySem.W.fnOf "_law_lists" "_law_lists" (defArgs s_law_lists) (defBody s_law_lists) (defScope s_law_lists) .none kV51 dc51 pm51 an51 cd51 ct51), sl51⟩)
    (c51 : PySem.W.codeIn K cd51 "_law_lists" = true)
    (k51 : PySem.W.keepIn K (.ref p51) = true)
    (a52 : PySem.W.nsIn K mainGlobals "_law_difference" = some (some (.ref p52)))
    (l52 : K.lookup p52 = some ⟨oc52, od52, .func (PySem.W.fnOf "_law_difference" "_law_difference" (defArgs s_law_difference) (defBody s_law_difference) (defScope s_law_difference) .none kV52 dc52 pm52 an52 cd52 ct52), sl52⟩)
    (c52 : PySem.W.codeIn K cd52 "_law_difference" = true)
    (k52 : PySem.W.keepIn K (.ref p52) = true)
    (a53 : PySem.W.nsIn K mainGlobals "law" = some (some (.ref p53)))
    (l53 : K.lookup p53 = some ⟨oc53, od53, .func (PySem.W.fnOf "law" "law" (defArgs s_law) (defBody s_law) (defScope s_law) .none kV53 dc53 pm53 an53 cd53 ct53), sl53⟩)
    (c53 : PySem.W.codeIn K cd53 "law" = true)
    (k53 : PySem.W.keepIn K (.ref p53) = true)
    (g_PlinthError : PySem.W.nsIn K mainGlobals "PlinthError" = some (some (.ref C_PlinthError)))
    (k_PlinthError : PySem.W.keepIn K (.ref C_PlinthError) = true)
    (x_PlinthError : PySem.W.excIn K C_PlinthError [.type "ValueError", .type "Exception", .type "BaseException", .type "object"] "ValueError.__new__" = true)
    (b_PlinthError : PySem.W.subIn K (.ref C_PlinthError) (.type "BaseException") = some true)
    (t_PlinthError : PySem.W.typeIn K (.ref C_PlinthError) = some (.type "type"))
    (hd_PlinthError : PySem.W.hasDictIn K C_PlinthError = true)
    (s_PlinthError : PySem.W.subIn K (.ref C_PlinthError) (.ref C_PlinthError) = some true)
    (i_PlinthError : PySem.W.isClsIn K C_PlinthError = true)
    (g_NotText : PySem.W.nsIn K mainGlobals "NotText" = some (some (.ref C_NotText)))
    (k_NotText : PySem.W.keepIn K (.ref C_NotText) = true)
    (x_NotText : PySem.W.excIn K C_NotText [.type "ValueError", .type "Exception", .type "BaseException", .type "object"] "ValueError.__new__" = true)
    (b_NotText : PySem.W.subIn K (.ref C_NotText) (.type "BaseException") = some true)
    (t_NotText : PySem.W.typeIn K (.ref C_NotText) = some (.type "type"))
    (hd_NotText : PySem.W.hasDictIn K C_NotText = true)
    (s_NotText : PySem.W.subIn K (.ref C_NotText) (.ref C_NotText) = some true)
    (i_NotText : PySem.W.isClsIn K C_NotText = true)
    (ga_NotText : PySem.W.findIn K (.ref C_NotText) "__getattribute__" = some (some (.builtin "BaseException.__getattribute__")))
    (gg_NotText : PySem.W.findIn K (.ref C_NotText) "__getattr__" = some none)
    (gc_NotText : PySem.W.findIn K (.ref C_NotText) "__class__" = some (some (.builtin "object.__class__")))
    (gs_NotText : PySem.W.specialIn K (.builtin "object.__class__") "__get__" = some (some (.builtin "getset_descriptor.__get__")))
    (gt_NotText : PySem.W.takesIn K (.builtin "object.__class__") = some true)
    (gm_NotText : PySem.W.mroIn K C_NotText (.type "object") = some true)
    (g_BadKind : PySem.W.nsIn K mainGlobals "BadKind" = some (some (.ref C_BadKind)))
    (k_BadKind : PySem.W.keepIn K (.ref C_BadKind) = true)
    (x_BadKind : PySem.W.excIn K C_BadKind [.type "ValueError", .type "Exception", .type "BaseException", .type "object"] "ValueError.__new__" = true)
    (b_BadKind : PySem.W.subIn K (.ref C_BadKind) (.type "BaseException") = some true)
    (t_BadKind : PySem.W.typeIn K (.ref C_BadKind) = some (.type "type"))
    (hd_BadKind : PySem.W.hasDictIn K C_BadKind = true)
    (s_BadKind : PySem.W.subIn K (.ref C_BadKind) (.ref C_BadKind) = some true)
    (i_BadKind : PySem.W.isClsIn K C_BadKind = true)
    (ga_BadKind : PySem.W.findIn K (.ref C_BadKind) "__getattribute__" = some (some (.builtin "BaseException.__getattribute__")))
    (gg_BadKind : PySem.W.findIn K (.ref C_BadKind) "__getattr__" = some none)
    (gc_BadKind : PySem.W.findIn K (.ref C_BadKind) "__class__" = some (some (.builtin "object.__class__")))
    (gs_BadKind : PySem.W.specialIn K (.builtin "object.__class__") "__get__" = some (some (.builtin "getset_descriptor.__get__")))
    (gt_BadKind : PySem.W.takesIn K (.builtin "object.__class__") = some true)
    (gm_BadKind : PySem.W.mroIn K C_BadKind (.type "object") = some true)
    (sub_NotText_BadKind : PySem.W.subIn K (.ref C_NotText) (.ref C_BadKind) = some false)
    (kit_NotText_PlinthError : PySem.W.kitOne K (.ref C_NotText) (.ref C_PlinthError) = some true)
    (kit_BadKind_NotText : PySem.W.kitOne K (.ref C_BadKind) (.ref C_NotText) = some false)
    (kit_BadKind_PlinthError : PySem.W.kitOne K (.ref C_BadKind) (.ref C_PlinthError) = some true)
    (pg_Translator : PySem.W.plainGet K C_Translator Str.empty = true)
    (hd_Translator : PySem.W.hasDictIn K C_Translator = true)
    (po_Translator : PySem.W.plainOver K C_Translator = true)
    (sa_Translator : PySem.W.findIn K (.ref C_Translator) "__setattr__" = some (some (.builtin "object.__setattr__")))
    (mk_Translator : PySem.W.makesIn K C_Translator = true)
    (kc_Translator : PySem.W.keepIn K (.ref C_Translator) = true)
    (na_Translator_image : PySem.W.findIn K (.ref C_Translator) "image" = some none)
    (na_Translator_m : PySem.W.findIn K (.ref C_Translator) "m" = some none)
    (na_Translator_k : PySem.W.findIn K (.ref C_Translator) "k" = some none)
    (na_Translator_pile : PySem.W.findIn K (.ref C_Translator) "pile" = some none)
    (na_Translator_numeral : PySem.W.findIn K (.ref C_Translator) "numeral" = some none)
    (na_Translator_waiting : PySem.W.findIn K (.ref C_Translator) "waiting" = some none)
    (na_Translator_by : PySem.W.findIn K (.ref C_Translator) "_by" = some none)
    (na_Translator_stopped : PySem.W.findIn K (.ref C_Translator) "_stopped" = some none)
    (na_Translator_finished : PySem.W.findIn K (.ref C_Translator) "_finished" = some none)
    (pg_ShortReader : PySem.W.plainGet K C_ShortReader Str.empty = true)
    (hd_ShortReader : PySem.W.hasDictIn K C_ShortReader = true)
    (po_ShortReader : PySem.W.plainOver K C_ShortReader = true)
    (sa_ShortReader : PySem.W.findIn K (.ref C_ShortReader) "__setattr__" = some (some (.builtin "object.__setattr__")))
    (mk_ShortReader : PySem.W.makesIn K C_ShortReader = true)
    (kc_ShortReader : PySem.W.keepIn K (.ref C_ShortReader) = true)
    (na_ShortReader_m : PySem.W.findIn K (.ref C_ShortReader) "m" = some none)
    (na_ShortReader_r : PySem.W.findIn K (.ref C_ShortReader) "r" = some none)
    (na_ShortReader_waiting : PySem.W.findIn K (.ref C_ShortReader) "waiting" = some none)
    (na_ShortReader_finished : PySem.W.findIn K (.ref C_ShortReader) "finished" = some none)
    (na_ShortReader_cells : PySem.W.findIn K (.ref C_ShortReader) "_cells" = some none)
    (g_BRACKETS : PySem.W.nsIn K mainGlobals "_BRACKETS" = some (some (.ref D_BRACKETS)))
    (tl_BRACKETS : K.lookup D_BRACKETS = some ⟨.type "dict", none, .dict es_BRACKETS nn_BRACKETS, #[]⟩)
    (tk_BRACKETS : ikeys es_BRACKETS.toList = some [(91, .ref p14), (124, .ref p15), (93, .ref p16), (123, .ref p17), (125, .ref p18), (59, .ref p19)])
    (tw_BRACKETS : (D_BRACKETS == sysModules) = false)
    (tn_BRACKETS : [p14, p15, p16, p17, p18, p19].Nodup)
    (g_KINDS : PySem.W.nsIn K mainGlobals "_KINDS" = some (some (.ref D_KINDS)))
    (tu_KINDS : K.lookup D_KINDS = some ⟨.type "tuple", odKINDS, .seq itKINDS nnKINDS, slKINDS⟩)
    (ti_KINDS : strsV itKINDS.toList = some [("digits" : Str), ("short" : Str), ("plain" : Str), ("turned" : Str)])
    (c_BRANCH : PySem.W.nsIn K mainGlobals "BRANCH" = some (some (.int 63 t_BRANCH)))
    (c_COLON : PySem.W.nsIn K mainGlobals "COLON" = some (some (.int 58 t_COLON)))
    (c_NEWLINE : PySem.W.nsIn K mainGlobals "NEWLINE" = some (some (.int 10 t_NEWLINE)))
    (c_NOP : PySem.W.nsIn K mainGlobals "NOP" = some (some (.int 32 t_NOP)))
    (c_PUSH : PySem.W.nsIn K mainGlobals "PUSH" = some (some (.int 35 t_PUSH)))
    (c_QUOTE : PySem.W.nsIn K mainGlobals "QUOTE" = some (some (.int 39 t_QUOTE)))
    (c_RETURN : PySem.W.nsIn K mainGlobals "RETURN" = some (some (.int 41 t_RETURN)))
    (c_SET : PySem.W.nsIn K mainGlobals "SET" = some (some (.int 61 t_SET)))
    (c_SPACE : PySem.W.nsIn K mainGlobals "SPACE" = some (some (.int 32 t_SPACE)))
    (c_GREATER : PySem.W.nsIn K mainGlobals "_GREATER" = some (some (.int 62 t_GREATER)))
    (n_bool : PySem.W.nsIn K mainGlobals "bool" = some none)
    (n_int : PySem.W.nsIn K mainGlobals "int" = some none)
    (n_isinstance : PySem.W.nsIn K mainGlobals "isinstance" = some none)
    (n_len : PySem.W.nsIn K mainGlobals "len" = some none)
    (n_list : PySem.W.nsIn K mainGlobals "list" = some none)
    (n_min : PySem.W.nsIn K mainGlobals "min" = some none)
    (n_ord : PySem.W.nsIn K mainGlobals "ord" = some none)
    (n_range : PySem.W.nsIn K mainGlobals "range" = some none)
    : ∃ fd : FuncData, (∀ (s : Shared) (v : Value), BindsTo s fd ⟨[v], []⟩ [("script", v)]) ∧ ∀ base : Heap, K.In base → base.Ns mainGlobals mg → FnOk l.prog w K mg base CX0 10 fa fd ["script"] (sp_law K) := by
  obtain ⟨T, eT⟩ := mk_txt X G g_Translator g_ShortReader a1 l1 c1 k1 a2 l2 c2 k2 a3 l3 c3 k3 a4 l4 c4 k4 a5 l5 c5 k5 a6 l6 c6 k6 a7 i7 l7 c7 k7 a8 i8 l8 c8 k8 a9 i9 l9 c9 k9 a10 i10 l10 c10 k10 a11 i11 l11 c11 k11 a12 i12 l12 c12 k12 a13 l13 c13 k13 a14 l14 c14 k14 a15 l15 c15 k15 a16 l16 c16 k16 a17 l17 c17 k17 a18 l18 c18 k18 a19 l19 c19 k19 a20 i20 l20 q20_first q20_by c20 k20 a21 i21 l21 c21 k21 a22 i22 l22 c22 k22 a23 i23 l23 c23 k23 a24 i24 l24 c24 k24 a25 i25 l25 c25 k25 a26 i26 l26 c26 k26 a27 i27 l27 c27 k27 a28 i28 l28 c28 k28 a29 i29 l29 c29 k29 a30 l30 q30_first q30_by c30 k30 a31 l31 c31 k31 a32 l32 c32 k32 a33 l33 c33 k33 a34 l34 c34 k34 a35 l35 c35 k35 a36 l36 c36 k36 a37 l37 c37 k37 a38 l38 c38 k38 a39 l39 c39 k39 a40 l40 c40 k40 a41 l41 c41 k41 a42 l42 c42 k42 a43 l43 c43 k43 a44 l44 c44 k44 a45 l45 c45 k45 a46 l46 c46 k46 a47 l47 c47 k47 a48 l48 c48 k48 a49 l49 c49 k49 a50 l50 c50 k50 a51 l51 c51 k51 a52 l52 c52 k52 a53 l53 c53 k53 g_PlinthError k_PlinthError x_PlinthError b_PlinthError t_PlinthError hd_PlinthError s_PlinthError i_PlinthError g_NotText k_NotText x_NotText b_NotText t_NotText hd_NotText s_NotText i_NotText ga_NotText gg_NotText gc_NotText gs_NotText gt_NotText gm_NotText g_BadKind k_BadKind x_BadKind b_BadKind t_BadKind hd_BadKind s_BadKind i_BadKind ga_BadKind gg_BadKind gc_BadKind gs_BadKind gt_BadKind gm_BadKind sub_NotText_BadKind kit_NotText_PlinthError kit_BadKind_NotText kit_BadKind_PlinthError pg_Translator hd_Translator po_Translator sa_Translator mk_Translator kc_Translator na_Translator_image na_Translator_m na_Translator_k na_Translator_pile na_Translator_numeral na_Translator_waiting na_Translator_by na_Translator_stopped na_Translator_finished pg_ShortReader hd_ShortReader po_ShortReader sa_ShortReader mk_ShortReader kc_ShortReader na_ShortReader_m na_ShortReader_r na_ShortReader_waiting na_ShortReader_finished na_ShortReader_cells g_BRACKETS tl_BRACKETS tk_BRACKETS tw_BRACKETS tn_BRACKETS g_KINDS tu_KINDS ti_KINDS c_BRANCH c_COLON c_NEWLINE c_NOP c_PUSH c_QUOTE c_RETURN c_SET c_SPACE c_GREATER n_bool n_int n_isinstance n_len n_list n_min n_ord n_range
  cases hfa.symm.trans T.g_law
  exact ⟨T.d_law, T.h_law, fun base _ _ => ok_law T⟩
end K66
open PySem PySem.W PyProof.Rows
set_option maxRecDepth 100000 in
set_option maxHeartbeats 0 in
theorem PySem.Challenge.cw_plinth_k66_what_is_due_holds : PySem.Challenge.rw_plinth_k66_what_is_due.Holds := by
  refine K66.opening fun said => ?_
  w_on; k_head; (case hw => w_witness2)
  k_fill
  refine L2.walk_ofK (l := PySem.Challenge.rw_plinth_k66_what_is_due) (n := 63) (k := 10) (x := "script") (CX := L2.CX0) (sp := K66.sp_law) rfl (by decide) rfl ⟨rfl, by decide, by decide⟩ (fun w h Y => PySem.W.kIn_of Y) ?F K66.law_at (fun _ _ _ _ z => z)
  case F =>
    intro w mg fa h KX G hmg
    refine' K66.all_mk KX G hmg ?g_Translator ?g_ShortReader ?a1 ?l1 ?c1 ?k1 ?a2 ?l2 ?c2 ?k2 ?a3 ?l3 ?c3 ?k3 ?a4 ?l4 ?c4 ?k4 ?a5 ?l5 ?c5 ?k5 ?a6 ?l6 ?c6 ?k6 ?a7 ?i7 ?l7 ?c7 ?k7 ?a8 ?i8 ?l8 ?c8 ?k8 ?a9 ?i9 ?l9 ?c9 ?k9 ?a10 ?i10 ?l10 ?c10 ?k10 ?a11 ?i11 ?l11 ?c11 ?k11 ?a12 ?i12 ?l12 ?c12 ?k12 ?a13 ?l13 ?c13 ?k13 ?a14 ?l14 ?c14 ?k14 ?a15 ?l15 ?c15 ?k15 ?a16 ?l16 ?c16 ?k16 ?a17 ?l17 ?c17 ?k17 ?a18 ?l18 ?c18 ?k18 ?a19 ?l19 ?c19 ?k19 ?a20 ?i20 ?l20 ?q20_first ?q20_by ?c20 ?k20 ?a21 ?i21 ?l21 ?c21 ?k21 ?a22 ?i22 ?l22 ?c22 ?k22 ?a23 ?i23 ?l23 ?c23 ?k23 ?a24 ?i24 ?l24 ?c24 ?k24 ?a25 ?i25 ?l25 ?c25 ?k25 ?a26 ?i26 ?l26 ?c26 ?k26 ?a27 ?i27 ?l27 ?c27 ?k27 ?a28 ?i28 ?l28 ?c28 ?k28 ?a29 ?i29 ?l29 ?c29 ?k29 ?a30 ?l30 ?q30_first ?q30_by ?c30 ?k30 ?a31 ?l31 ?c31 ?k31 ?a32 ?l32 ?c32 ?k32 ?a33 ?l33 ?c33 ?k33 ?a34 ?l34 ?c34 ?k34 ?a35 ?l35 ?c35 ?k35 ?a36 ?l36 ?c36 ?k36 ?a37 ?l37 ?c37 ?k37 ?a38 ?l38 ?c38 ?k38 ?a39 ?l39 ?c39 ?k39 ?a40 ?l40 ?c40 ?k40 ?a41 ?l41 ?c41 ?k41 ?a42 ?l42 ?c42 ?k42 ?a43 ?l43 ?c43 ?k43 ?a44 ?l44 ?c44 ?k44 ?a45 ?l45 ?c45 ?k45 ?a46 ?l46 ?c46 ?k46 ?a47 ?l47 ?c47 ?k47 ?a48 ?l48 ?c48 ?k48 ?a49 ?l49 ?c49 ?k49 ?a50 ?l50 ?c50 ?k50 ?a51 ?l51 ?c51 ?k51 ?a52 ?l52 ?c52 ?k52 ?a53 ?l53 ?c53 ?k53 ?g_PlinthError ?k_PlinthError ?x_PlinthError ?b_PlinthError ?t_PlinthError ?hd_PlinthError ?s_PlinthError ?i_PlinthError ?g_NotText ?k_NotText ?x_NotText ?b_NotText ?t_NotText ?hd_NotText ?s_NotText ?i_NotText ?ga_NotText ?gg_NotText ?gc_NotText ?gs_NotText ?gt_NotText ?gm_NotText ?g_BadKind ?k_BadKind ?x_BadKind ?b_BadKind ?t_BadKind ?hd_BadKind ?s_BadKind ?i_BadKind ?ga_BadKind ?gg_BadKind ?gc_BadKind ?gs_BadKind ?gt_BadKind ?gm_BadKind ?sub_NotText_BadKind ?kit_NotText_PlinthError ?kit_BadKind_NotText ?kit_BadKind_PlinthError ?pg_Translator ?hd_Translator ?po_Translator ?sa_Translator ?mk_Translator ?kc_Translator ?na_Translator_image ?na_Translator_m ?na_Translator_k ?na_Translator_pile ?na_Translator_numeral ?na_Translator_waiting ?na_Translator_by ?na_Translator_stopped ?na_Translator_finished ?pg_ShortReader ?hd_ShortReader ?po_ShortReader ?sa_ShortReader ?mk_ShortReader ?kc_ShortReader ?na_ShortReader_m ?na_ShortReader_r ?na_ShortReader_waiting ?na_ShortReader_finished ?na_ShortReader_cells ?g_BRACKETS ?tl_BRACKETS ?tk_BRACKETS ?tw_BRACKETS ?tn_BRACKETS ?g_KINDS ?tu_KINDS ?ti_KINDS ?c_BRANCH ?c_COLON ?c_NEWLINE ?c_NOP ?c_PUSH ?c_QUOTE ?c_RETURN ?c_SET ?c_SPACE ?c_GREATER ?n_bool ?n_int ?n_isinstance ?n_len ?n_list ?n_min ?n_ord ?n_range
    (case g_Translator => k_is)
    (case g_ShortReader => k_is)
    (case a1 => k_is)
    (case l1 => k_is)
    (case c1 => k_is)
    (case k1 => k_is)
    (case a2 => k_is)
    (case l2 => k_is)
    (case c2 => k_is)
    (case k2 => k_is)
    (case a3 => k_is)
    (case l3 => k_is)
    (case c3 => k_is)
    (case k3 => k_is)
    (case a4 => k_is)
    (case l4 => k_is)
    (case c4 => k_is)
    (case k4 => k_is)
    (case a5 => k_is)
    (case l5 => k_is)
    (case c5 => k_is)
    (case k5 => k_is)
    (case a6 => k_is)
    (case l6 => k_is)
    (case c6 => k_is)
    (case k6 => k_is)
    (case a7 => k_is)
    (case i7 => k_is)
    (case l7 => k_is)
    (case c7 => k_is)
    (case k7 => k_is)
    (case a8 => k_is)
    (case i8 => k_is)
    (case l8 => k_is)
    (case c8 => k_is)
    (case k8 => k_is)
    (case a9 => k_is)
    (case i9 => k_is)
    (case l9 => k_is)
    (case c9 => k_is)
    (case k9 => k_is)
    (case a10 => k_is)
    (case i10 => k_is)
    (case l10 => k_is)
    (case c10 => k_is)
    (case k10 => k_is)
    (case a11 => k_is)
    (case i11 => k_is)
    (case l11 => k_is)
    (case c11 => k_is)
    (case k11 => k_is)
    (case a12 => k_is)
    (case i12 => k_is)
    (case l12 => k_is)
    (case c12 => k_is)
    (case k12 => k_is)
    (case a13 => k_is)
    (case l13 => k_is)
    (case c13 => k_is)
    (case k13 => k_is)
    (case a14 => k_is)
    (case l14 => k_is)
    (case c14 => k_is)
    (case k14 => k_is)
    (case a15 => k_is)
    (case l15 => k_is)
    (case c15 => k_is)
    (case k15 => k_is)
    (case a16 => k_is)
    (case l16 => k_is)
    (case c16 => k_is)
    (case k16 => k_is)
    (case a17 => k_is)
    (case l17 => k_is)
    (case c17 => k_is)
    (case k17 => k_is)
    (case a18 => k_is)
    (case l18 => k_is)
    (case c18 => k_is)
    (case k18 => k_is)
    (case a19 => k_is)
    (case l19 => k_is)
    (case c19 => k_is)
    (case k19 => k_is)
    (case a20 => k_is)
    (case i20 => k_is)
    (case l20 => k_is)
    (case q20_first => k_is)
    (case q20_by => k_is)
    (case c20 => k_is)
    (case k20 => k_is)
    (case a21 => k_is)
    (case i21 => k_is)
    (case l21 => k_is)
    (case c21 => k_is)
    (case k21 => k_is)
    (case a22 => k_is)
    (case i22 => k_is)
    (case l22 => k_is)
    (case c22 => k_is)
    (case k22 => k_is)
    (case a23 => k_is)
    (case i23 => k_is)
    (case l23 => k_is)
    (case c23 => k_is)
    (case k23 => k_is)
    (case a24 => k_is)
    (case i24 => k_is)
    (case l24 => k_is)
    (case c24 => k_is)
    (case k24 => k_is)
    (case a25 => k_is)
    (case i25 => k_is)
    (case l25 => k_is)
    (case c25 => k_is)
    (case k25 => k_is)
    (case a26 => k_is)
    (case i26 => k_is)
    (case l26 => k_is)
    (case c26 => k_is)
    (case k26 => k_is)
    (case a27 => k_is)
    (case i27 => k_is)
    (case l27 => k_is)
    (case c27 => k_is)
    (case k27 => k_is)
    (case a28 => k_is)
    (case i28 => k_is)
    (case l28 => k_is)
    (case c28 => k_is)
    (case k28 => k_is)
    (case a29 => k_is)
    (case i29 => k_is)
    (case l29 => k_is)
    (case c29 => k_is)
    (case k29 => k_is)
    (case a30 => k_is)
    (case l30 => k_is)
    (case q30_first => k_is)
    (case q30_by => k_is)
    (case c30 => k_is)
    (case k30 => k_is)
    (case a31 => k_is)
    (case l31 => k_is)
    (case c31 => k_is)
    (case k31 => k_is)
    (case a32 => k_is)
    (case l32 => k_is)
    (case c32 => k_is)
    (case k32 => k_is)
    (case a33 => k_is)
    (case l33 => k_is)
    (case c33 => k_is)
    (case k33 => k_is)
    (case a34 => k_is)
    (case l34 => k_is)
    (case c34 => k_is)
    (case k34 => k_is)
    (case a35 => k_is)
    (case l35 => k_is)
    (case c35 => k_is)
    (case k35 => k_is)
    (case a36 => k_is)
    (case l36 => k_is)
    (case c36 => k_is)
    (case k36 => k_is)
    (case a37 => k_is)
    (case l37 => k_is)
    (case c37 => k_is)
    (case k37 => k_is)
    (case a38 => k_is)
    (case l38 => k_is)
    (case c38 => k_is)
    (case k38 => k_is)
    (case a39 => k_is)
    (case l39 => k_is)
    (case c39 => k_is)
    (case k39 => k_is)
    (case a40 => k_is)
    (case l40 => k_is)
    (case c40 => k_is)
    (case k40 => k_is)
    (case a41 => k_is)
    (case l41 => k_is)
    (case c41 => k_is)
    (case k41 => k_is)
    (case a42 => k_is)
    (case l42 => k_is)
    (case c42 => k_is)
    (case k42 => k_is)
    (case a43 => k_is)
    (case l43 => k_is)
    (case c43 => k_is)
    (case k43 => k_is)
    (case a44 => k_is)
    (case l44 => k_is)
    (case c44 => k_is)
    (case k44 => k_is)
    (case a45 => k_is)
    (case l45 => k_is)
    (case c45 => k_is)
    (case k45 => k_is)
    (case a46 => k_is)
    (case l46 => k_is)
    (case c46 => k_is)
    (case k46 => k_is)
    (case a47 => k_is)
    (case l47 => k_is)
    (case c47 => k_is)
    (case k47 => k_is)
    (case a48 => k_is)
    (case l48 => k_is)
    (case c48 => k_is)
    (case k48 => k_is)
    (case a49 => k_is)
    (case l49 => k_is)
    (case c49 => k_is)
    (case k49 => k_is)
    (case a50 => k_is)
    (case l50 => k_is)
    (case c50 => k_is)
    (case k50 => k_is)
    (case a51 => k_is)
    (case l51 => k_is)
    (case c51 => k_is)
    (case k51 => k_is)
    (case a52 => k_is)
    (case l52 => k_is)
    (case c52 => k_is)
    (case k52 => k_is)
    (case a53 => k_is)
    (case l53 => k_is)
    (case c53 => k_is)
    (case k53 => k_is)
    (case g_PlinthError => k_is)
    (case k_PlinthError => k_is)
    (case x_PlinthError => k_exc)
    (case b_PlinthError => k_is)
    (case t_PlinthError => k_is)
    (case hd_PlinthError => k_is)
    (case s_PlinthError => first | rfl | k_is)
    (case i_PlinthError => k_is)
    (case g_NotText => k_is)
    (case k_NotText => k_is)
    (case x_NotText => k_exc)
    (case b_NotText => k_is)
    (case t_NotText => k_is)
    (case hd_NotText => k_is)
    (case s_NotText => first | rfl | k_is)
    (case i_NotText => k_is)
    (case ga_NotText => k_is)
    (case gg_NotText => k_is)
    (case gc_NotText => k_is)
    (case gs_NotText => k_is)
    (case gt_NotText => k_is)
    (case gm_NotText => k_is)
    (case g_BadKind => k_is)
    (case k_BadKind => k_is)
    (case x_BadKind => k_exc)
    (case b_BadKind => k_is)
    (case t_BadKind => k_is)
    (case hd_BadKind => k_is)
    (case s_BadKind => first | rfl | k_is)
    (case i_BadKind => k_is)
    (case ga_BadKind => k_is)
    (case gg_BadKind => k_is)
    (case gc_BadKind => k_is)
    (case gs_BadKind => k_is)
    (case gt_BadKind => k_is)
    (case gm_BadKind => k_is)
    (case sub_NotText_BadKind => first | rfl | k_is)
    (case kit_NotText_PlinthError => kit_is)
    (case kit_BadKind_NotText => kit_is)
    (case kit_BadKind_PlinthError => kit_is)
    (case pg_Translator => k_is)
    (case hd_Translator => k_is)
    (case po_Translator => k_is)
    (case sa_Translator => k_is)
    (case mk_Translator => k_is)
    (case kc_Translator => k_is)
    (case na_Translator_image => k_is)
    (case na_Translator_m => k_is)
    (case na_Translator_k => k_is)
    (case na_Translator_pile => k_is)
    (case na_Translator_numeral => k_is)
    (case na_Translator_waiting => k_is)
    (case na_Translator_by => k_is)
    (case na_Translator_stopped => k_is)
    (case na_Translator_finished => k_is)
    (case pg_ShortReader => k_is)
    (case hd_ShortReader => k_is)
    (case po_ShortReader => k_is)
    (case sa_ShortReader => k_is)
    (case mk_ShortReader => k_is)
    (case kc_ShortReader => k_is)
    (case na_ShortReader_m => k_is)
    (case na_ShortReader_r => k_is)
    (case na_ShortReader_waiting => k_is)
    (case na_ShortReader_finished => k_is)
    (case na_ShortReader_cells => k_is)
    (case g_BRACKETS => k_is)
    (case tl_BRACKETS => k_is)
    (case tk_BRACKETS => first | rfl | decide +kernel)
    (case tw_BRACKETS => decide +kernel)
    (case tn_BRACKETS => decide +kernel)
    (case g_KINDS => k_is)
    (case tu_KINDS => k_is)
    (case ti_KINDS => first | rfl | decide +kernel)
    (case c_BRANCH => k_is)
    (case c_COLON => k_is)
    (case c_NEWLINE => k_is)
    (case c_NOP => k_is)
    (case c_PUSH => k_is)
    (case c_QUOTE => k_is)
    (case c_RETURN => k_is)
    (case c_SET => k_is)
    (case c_SPACE => k_is)
    (case c_GREATER => k_is)
    (case n_bool => k_is)
    (case n_int => k_is)
    (case n_isinstance => k_is)
    (case n_len => k_is)
    (case n_list => k_is)
    (case n_min => k_is)
    (case n_ord => k_is)
    (case n_range => k_is)


