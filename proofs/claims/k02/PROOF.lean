import PyProof.Rows.All
import Wide.All
import OpenK.AllK
import Wide.FinOn
import HandS.ForMost
import HandS.ForExc
import HandS.Evl
import HandS.ExcIs
import HandS.RaiseMore
import HandS.IsInst
import HandS.Replace
import HandS.Flow
import HandS.Walk
import KE.RegKIsAll
import KE.IntTextLaws
import HandS.CallLocal
import HandS.Defaults
import HandS.MakeKwOnly
import KE.KIntText
import PyProof.Rows.StrDigitsNeg
import HandS.DictComp
import KE.KSortedM
import KE.KExcIs
import HandS.ExcInit
import HandS.ExcField
import HandS.Nested
import HandS.FStr
import KE.KExcSuper
import HandS.ExcSuper
import HandS.ClsMeth
import HandS.Comp
import PySem.Challenge.RW_plinth_k02_texts_of_codes_and_readable_p
namespace Gd
end Gd

set_option Elab.async false
set_option linter.all false
set_option maxRecDepth 100000
set_option maxHeartbeats 4000000
set_option exponentiation.threshold 600
namespace K02
open PySem PySem.Spec PyProof.Rows L2 Evl Gd
/-! ### a look at the law, ahead of all that follows (it wants the most memory) -/
end K02
section
open PySem PySem.W PyProof.Rows
set_option maxRecDepth 100000 in
set_option maxHeartbeats 0 in
theorem K02.opening (h : PySem.Challenge.rw_plinth_k02_texts_of_codes_and_readable_p.row.wellSaid = true → PySem.Challenge.rw_plinth_k02_texts_of_codes_and_readable_p.row.Holds) : PySem.Challenge.rw_plinth_k02_texts_of_codes_and_readable_p.Holds := by
  w_on; o_law
  exact h (by assumption)
end
namespace K02

end K02

set_option Elab.async false
set_option linter.all false
set_option maxRecDepth 100000
set_option maxHeartbeats 4000000
/-! A layer of our own: defs that are promised only where no repr is running (guards), repr of data, the end of a law. -/
namespace Gd
open PySem PySem.Spec PyProof.Rows L2

/-- a def's promise, given only where no guard stands around -/
structure GOk (P : Program) (w : World) (K : PySem.W.Frag) (mg : Str → Option Value) (base : Heap) (CX : CXT) (k : Nat) (f : Addr) (fd : FuncData) (ps : List Str) (sp : Sp) : Prop where
  len : ∀ vs H Q E, sp vs H Q E → vs.length = ps.length
  go : ∀ (A : Around) (outer : List Env) (s : Shared) (H : Hp) (args : Args) (us : List Value) (vs : List V) (Q : VK) (E : XK),
    A.guards = some [] → Room k A → Env0 P w K mg base A outer s H → BindsTo s fd args (ps.zip us) → Vals vs us → sp vs H Q E →
      codeAny (model P w) A (.call (.ref f) args) (CR CX outer P w H s Q E) s

section
variable {P : Program} {w : World} {K : PySem.W.Frag} {mg : Str → Option Value} {base : Heap}
theorem gfun {CX : CXT} {x qual : Str} {st : Stmt} {f : Addr} {fd : FuncData} {N ps : List Str} {k : Nat} {sp : Sp}
    (F : Fun K x qual st f fd) (S : FnScope N ps (defScope st)) (len : ∀ vs H Q E, sp vs H Q E → vs.length = ps.length)
    (hb : ∀ (cdv : Value) (A : Around) (outer : List Env) (s : Shared) (H : Hp) (vs : List V) (Q : VK) (E : XK),
      A.guards = some [] → Room k (A.deeper (envOfC qual (defScope st) s.heap.objs.size f cdv)) → sp vs H Q E →
      ∃ t, PSs (cxOf CX P w K mg base N qual (defScope st) f cdv A outer s H E) (defBody st) t ∧ t { nx := fun _ H' => Q .non H', rt := Q } (start N vs) H) :
    GOk P w K mg base CX (k + 1) f fd ps sp := by
  obtain ⟨oc, od, kV, doc, pm, an, cdv, ct, osl, rfl, lk, hcd⟩ := F.ex
  constructor
  · exact len
  intro A outer s H args us vs Q E hg hr e0 hbd rv hsp
  have hl := len _ _ _ _ hsp
  have kp := fun b o e => (e0.bs b o e).1
  have KX : K.In s.heap := e0.mod.kin.keeps kp
  have lim : s.heap.NoLimit := e0.mod.nolimit.keeps kp
  refine codeAny_call_function hr.depth (KX _ _ lk) rfl S.co S.gen rfl (PySem.W.codeRec_of KX hcd) (hbd _ _ _ _ ?_)
  have hkind : ∀ y ∈ ps.zip us, (defScope st).names.lookup y.1 = some .local ∨ ((defScope st).names.lookup y.1 = some .cell ∧ ((cellsFrom (s.heap.objs.size + 1) (defScope st).names []).lookup y.1).isSome = true) := by
    rintro ⟨n, v⟩ hy
    cases S.par n (List.of_mem_zip hy).1 with
    | inl q => exact .inl q
    | inr q => exact .inr ⟨q, PySem.W.cellsFrom_some _ _ _ (.inl q)⟩
  refine wpAny_newFunctionEnv_cells S.kind hkind fun env he s1 x => ?_
  subst he
  obtain ⟨t, ht, hq⟩ := hb cdv A outer s H vs Q E hg (hr.deeper _) hsp
  refine ⟨lim.keeps x.toInCall.keep, codeAny_func (wpAny_mono (ht.run [] s1 (start N vs) H _ (inv_start S hr.hd e0 hl rv x) hq) (fun fl s' hs => ?_) fun e s' hs => hs)⟩
  cases fl with
  | ret u =>
    obtain ⟨v, σ', H', J, r2, q⟩ := hs
    exact ⟨v, H', J.os, J.bare, J.base, J.hok, r2, q⟩
  | next =>
    obtain ⟨σ', H', J, q⟩ := hs
    exact ⟨V.non, H', J.os, J.bare, J.base, J.hok, rfl, q⟩
  | brk => exact (let ⟨_, _, _, q⟩ := hs; False.elim q)
  | cont => exact (let ⟨_, _, _, q⟩ := hs; False.elim q)
end

/-! ### the call of such a def, from a body around which no guard stands -/
section
variable {X : Cx} {CX : CXT} {k : Nat} {f : Addr} {fd : FuncData} {ps : List Str} {sp : Sp} {E : XK} {x : Str} {p pos : Pos} {e : Expr} {es : List Expr} {t : TA}
theorem pe_callG (F : GOk X.prog X.w X.K X.mg X.base CX k f fd ps sp) (hgd : X.A.guards = some []) (hr : Room k X.A) (hg : Gl X x) (hm : X.mg x = some (.ref f)) (hk : PySem.W.keepIn X.K (.ref f) = true)
    (hb : Binds X.K fd ps []) (hx : Passes CX X E) (ha : PA X (e :: es) t) (hdb : (x == ("__debug__" : Str)) = false := by decide)
    (he : starEach (e :: es) X.env = (false, eval e X.env) :: starEach es X.env := by rfl) (hpl : (backTo pos (starEach es X.env)).any (·.1) = false := by rfl) :
    PE X (.Call (.Name x p) (e :: es) [] pos) (tCall sp [] E t) := by
  constructor
  intro pins s σ H Q I h
  refine wpAny_Call_Name_kw (ld_glob I hg hm ?_ hdb)
  refine PySem.W.callWith_K (h₀ := X.base) I.ok.mod.kin hk (thn (ha.run pos pins s σ H _ I h) fun us s1 hh => ?_) he hpl
  obtain ⟨vs, H1, I1, r, q⟩ := hh
  refine ⟨I1.kIn, ?_⟩
  rw [List.append_nil] at q
  have hl : us.length = ps.length := r.length.symm.trans (F.len _ _ _ _ q)
  have bd := hb s1 us I1.kIn (by rw [List.append_nil]; exact hl)
  rw [List.append_nil] at bd
  refine wpAny_call (codeAny_mono (F.go X.A X.stack s1 H1 ⟨us, []⟩ us vs Q E hgd hr I1.env0 bd r q) fun r' s' hq => ?_)
  cases r' with
  | error e => exact hx pins σ H1 s1 e s' I1 hq
  | ok fl =>
    cases fl with
    | ret u => exact I1.after hq
    | next => exact False.elim hq
    | brk => exact False.elim hq
    | cont => exact False.elim hq
end

/-! ### repr of data -/
def rRepr (K : PySem.W.Frag) : List V → Hp → VK → Prop := fun xs H Q => ∃ (v : V) (d : PyData), xs = [v] ∧ Dp K H v d ∧ d.showable = true ∧ d.hasDict = false ∧ d.depth ≤ 40 ∧ d.shown.length ≤ sizeLine ∧ Q (.str d.shown) H
section
variable {X : Cx}
theorem call_reprD (hgd : X.A.guards = some []) (hu : X.A.units + 64 < cLine) : CallR X (.builtin "repr") (rRepr X.K) := by
  intro pins s σ H xs us Q I r h
  obtain ⟨v, d, rfl, hd, hs, hnd, hdp, hz, q⟩ := h
  obtain ⟨u, rfl, ru⟩ := vals1 r
  obtain ⟨as, hr⟩ := Dp.reads I d v u hd ru
  cases hd with
  | lst h1 h2 =>
    cases ru
    exact repr_of_reads' hr hs (PyData.noDict_hsm hnd) hgd (by omega) (fun _ _ e => e) (fun h' u tk hk => ⟨.str _, H, I.kept (t' := tk) hk, ⟨_, rfl⟩, q⟩) hz
  | tup h1 h2 =>
    cases ru
    exact repr_of_reads' hr hs (PyData.noDict_hsm hnd) hgd (by omega) (fun _ _ e => e) (fun h' u tk hk => ⟨.str _, H, I.kept (t' := tk) hk, ⟨_, rfl⟩, q⟩) hz
  | int i =>
    obtain ⟨t, rfl⟩ := ru
    exact PySem.P.repr_of_int (of_decide_eq_true hs) ⟨.str _, H, I.tok _, ⟨_, rfl⟩, q⟩
  | non =>
    cases ru
    exact PySem.P.repr_of_none ⟨.str _, H, I.tok _, ⟨_, rfl⟩, q⟩
  | bl b =>
    cases ru
    refine PySem.P.repr_of_bool ⟨.str _, H, I.tok _, ⟨_, rfl⟩, ?_⟩
    have e : (PyData.bool b).shown = (if b then ("True" : Str) else "False") := by unfold PyData.shown; rfl
    rw [← e]
    exact q
  | str x =>
    obtain ⟨t, rfl⟩ := ru
    exact PySem.P.repr_of_str ⟨.str _, H, I.tok _, ⟨_, rfl⟩, q⟩ hz
end

/-! ### the end of a law whose def is so promised -/
section
variable {P : Program} {w : World} {K : PySem.W.Frag} {mg mb : Str → Option Value} {CX : CXT} {k : Nat} {fa a : Addr} {fd : FuncData} {x : Str} {sp : Sp} {s₁ : Shared} {vs : List Value} {ns : List Int}
/-- from an abstract heap H that tracks at most the script -/
theorem g_core (H : Hp) (KX : K.In s₁.heap) (hns : s₁.heap.Ns mainGlobals mg) (hb : s₁.heap.Ns builtinsNs mb) (hbb : ∀ x : Str, x ≠ "__name__" → mb x = bootBuiltins x) (hlim : s₁.heap.NoLimit) (hg : s₁.gens = #[])
    (ha : s₁.heap.get? a = some { cls := .type "list", data := .seq vs.toArray }) (hr : Room k callerA)
    (F : ∀ base : Heap, K.In base → base.Ns mainGlobals mg → GOk P w K mg base CX k fa fd [x] sp) (hbind : ∀ (s : Shared) (u : Value), BindsTo s fd ⟨[u], []⟩ [(x, u)])
    (hsp : sp [.ref a] H (fun v _ => v = .bl true) fun _ _ _ => False) (hCX : ∀ e s', CX [] H s₁ (fun _ _ _ => False) e s' → False)
    (hO : Only H) (hok : HOk P w H s₁.heap) (hA : ∀ b u, H b = some u → b = a ∧ K.lookup a = none) :
    codeAny (model P w) callerA (.call (.ref fa) ⟨[.ref a], []⟩) (fun r s' => r = .ok (.ret (.bool true)) ∧ PySem.OldK s₁.heap s'.heap ∧ s'.os = s₁.os ∧ AllBare s'.gens) s₁ := by
  have hid : ∀ {b : Addr} {o : Obj}, s₁.heap.get? b = some o → H b = none → (hidT s₁.heap H).get? b = some o := fun e n => hidT_get e n
  have un_d : ∀ {b : Addr} {o : Obj} {es : Array DictEntry} {ep : Nat}, s₁.heap.get? b = some o → o.data = .dict es ep → H b = none := by
    intro b o es ep e d
    cases q : H b with
    | none => rfl
    | some u =>
      rw [(hA b u q).1, ha] at e
      cases e
      exact nomatch d
  have ns_b : ∀ {b : Addr} {m : Str → Option Value}, s₁.heap.Ns b m → (hidT s₁.heap H).Ns b m := by
    rintro b m ⟨o, es, ep, e, d, r⟩
    exact ⟨o, es, ep, hid e (un_d e d), d, r⟩
  have k_b : K.In (hidT s₁.heap H) := by
    intro b o e
    refine hid (KX b o e) ?_
    cases q : H b with
    | none => rfl
    | some u =>
      obtain ⟨e1, e2⟩ := hA b u q
      rw [e1, e2] at e
      cases e
  have nl : (hidT s₁.heap H).NoLimit := let ⟨mc, h1, h2⟩ := hlim; ⟨mc, ns_b h1, h2⟩
  have e0 : Env0 P w K mg (hidT s₁.heap H) callerA [] s₁ H :=
    { frames := rfl, mod := ⟨k_b, ns_b hns, ⟨mb, ns_b hb, hbb⟩, nl⟩, bs := fun b o e => of_hidT e, bsz := Nat.le_of_eq (hidT_size _ _), funs := trivial,
      frf := fun b z => absurd (show b ∈ ([] : List Addr) from z) List.not_mem_nil, hok := hok, bare := .of_eq hg }
  refine codeAny_mono ((F _ k_b (ns_b hns)).go callerA [] s₁ H ⟨[.ref a], []⟩ [.ref a] [.ref a] _ _ rfl hr e0 (hbind s₁ (.ref a)) (.cons rfl .nil) hsp) fun r s' h => ?_
  cases r with
  | error e => exact (hCX e s' h).elim
  | ok fl =>
    cases fl with
    | next => exact False.elim h
    | brk => exact False.elim h
    | cont => exact False.elim h
    | ret u =>
      obtain ⟨v, H', os, bare, un, hok', r', q⟩ := h
      cases (show v = .bl true from q)
      cases (show u = Value.bool true from r')
      refine ⟨rfl, OldK.of_keep fun b o e => ?_, os, bare⟩
      cases q : H b with
      | none => exact un.keep b o e q (fun z => absurd (show b ∈ ([] : List Addr) from z) List.not_mem_nil) List.not_mem_nil
      | some u =>
        cases hO b with
        | inl z => exact nomatch q.symm.trans z
        | inr z =>
          obtain ⟨ob, xs, z⟩ := z
          obtain ⟨e1, _⟩ := hok b _ z
          cases e.symm.trans e1
          exact (hok' b _ (un.frzs b _ _ z)).1

theorem g_call (KX : K.In s₁.heap) (hns : s₁.heap.Ns mainGlobals mg) (hb : s₁.heap.Ns builtinsNs mb) (hbb : ∀ x : Str, x ≠ "__name__" → mb x = bootBuiltins x) (hlim : s₁.heap.NoLimit) (hg : s₁.gens = #[])
    (ha : s₁.heap.get? a = some { cls := .type "list", data := .seq vs.toArray }) (hi : IntsAre vs ns) (hl : ns.length ≤ sizeLine) (hr : Room k callerA)
    (F : ∀ base : Heap, K.In base → base.Ns mainGlobals mg → GOk P w K mg base CX k fa fd [x] sp) (hbind : ∀ (s : Shared) (u : Value), BindsTo s fd ⟨[u], []⟩ [(x, u)])
    (hsp : ∀ H : Hp, Only H → SqL K H a (ns.map V.int) → sp [.ref a] H (fun v _ => v = .bl true) fun _ _ _ => False)
    (hCX : ∀ H e s', CX [] H s₁ (fun _ _ _ => False) e s' → False) :
    codeAny (model P w) callerA (.call (.ref fa) ⟨[.ref a], []⟩) (fun r s' => r = .ok (.ret (.bool true)) ∧ PySem.OldK s₁.heap s'.heap ∧ s'.os = s₁.os ∧ AllBare s'.gens) s₁ := by
  have rv := vals_ints hi
  cases hk : K.lookup a with
  | some o =>
    cases ha.symm.trans (KX a o hk)
    have O : Only (fun _ => none : Hp) := fun _ => .inl rfl
    refine g_core (fun _ => none) KX hns hb hbb hlim hg ha hr F hbind (hsp _ O (.inr ?_)) (hCX _) O (fun b u z => nomatch (show (none : Option HO) = some u from z)) (fun b u z => nomatch (show (none : Option HO) = some u from z))
    exact ⟨_, vs.toArray, _, hk, rfl, rfl, rfl, by rw [List.size_toArray, hi.length]; exact hl, by simpa using rv⟩
  | none =>
    let sc : HO := .frz { cls := .type "list", data := .seq vs.toArray } (.lst (ns.map V.int))
    let H : Hp := fun b => if b = a then some sc else none
    have Ha : H a = some sc := if_pos rfl
    have Hb : ∀ b u, H b = some u → b = a ∧ u = sc := by
      intro b u z
      by_cases q : b = a
      · exact ⟨q, Option.some.inj (z.symm.trans (if_pos q))⟩
      · exact nomatch z.symm.trans (if_neg q)
    have O : Only H := by
      intro b
      by_cases q : b = a
      · exact .inr ⟨_, _, if_pos q⟩
      · exact .inl (if_neg q)
    refine g_core H KX hns hb hbb hlim hg ha hr F hbind (hsp H O (.inl (.inr ⟨_, Ha⟩))) (hCX H) O (fun b u z => ?_) (fun b u z => ⟨(Hb b u z).1, hk⟩)
    obtain ⟨rfl, rfl⟩ := Hb b u z
    exact ⟨ha, by rw [List.length_map]; exact hl, vs, _, rv, ha⟩
end

/-- the goal that k_head leaves of a law whose promise hangs on the written part alone -/
theorem g_walk {l : PySem.W.OpenLaw} {n k : Nat} {q : Program} {loose : List Str} {XP : (Str → Option Value) → Heap → Prop} {YP : World → Heap → Prop} {d : DefRec} {K : Params → PySem.W.Frag} {sp : PySem.W.Frag → Sp} {x : Str}
    (hn : l.most = some n) (hn2 : n ≤ sizeLine) (hdf : d.params.defaults = []) (hr : Room k callerA) (hY : ∀ (w : World) (h : Heap), YP w h → (K w.params).In h)
    (F : ∀ (w : World) (mg : Str → Option Value) (fa : Addr) (h : Heap), (K w.params).In h → h.Ns mainGlobals mg → mg d.name = some (.ref fa) →
      ∃ fd : FuncData, (∀ (s : Shared) (u : Value), BindsTo s fd ⟨[u], []⟩ [(x, u)]) ∧ ∀ base : Heap, (K w.params).In base → base.Ns mainGlobals mg → GOk l.prog w (K w.params) mg base CX0 k fa fd [x] (sp (K w.params)))
    (hsp : ∀ (K : PySem.W.Frag) (H : Hp) (a : Addr) (ns : List Int), ns.length ≤ n → Only H → SqL K H a (ns.map V.int) → sp K [.ref a] H (fun v _ => v = .bl true) fun _ _ _ => False) :
    PySem.W.WalkO q loose XP YP l.row.toRowW d [] (fun f vs => PySem.call f vs) := by
  refine Att.attach_call hn hdf ?_
  intro w s₀ s₁ mg mb fa o pm cd doc a vs ns G Y ho hd hcd hmg hobj hints hlen hg
  have KX := hY w _ Y
  obtain ⟨fd, hb, hF⟩ := F w mg fa _ KX G.T.g hmg
  exact g_call KX G.T.g G.T.b G.T.builtins G.T.nolimit hg hobj hints (Nat.le_trans hlen hn2) hr hF hb (fun H hO hS => hsp _ H a ns hlen hO hS) fun H e s' z => z
end Gd

set_option Elab.async false
set_option linter.all false
set_option maxRecDepth 100000
set_option maxHeartbeats 4000000
/-! More of our own: what evaluates to what, for chains, calls, texts; the draws of the laws. -/
namespace Gd
open PySem PySem.Spec PyProof.Rows L2 Evl
section
variable {K : PySem.W.Frag} {σ : L2.St} {H H' : Hp} {ta tb tc te : TE} {t u : TT} {x y z v : V} {r r' : R2}
theorem ev_chain {a b : Bool} {c : V} (ha : Ev ta σ H x) (hb : Ev tb σ H y) (hr : RV r x y H (.bl a)) (hc : a = true → Ev tc σ H c) (hr2 : a = true → RV r' y c H (.bl b)) :
    Ev (tChain r r' ta tb tc) σ H (.bl (a && b)) := fun H1 e Q q =>
  ha H1 e _ fun H2 e2 => hb H2 (e.trans e2) _ fun H3 e3 => hr H3 ((e.trans e2).trans e3) _ fun H4 e4 => ⟨a, rfl, by
    have e14 := (e2.trans e3).trans e4
    cases a with
    | true =>
      rw [if_pos rfl]
      exact hc rfl H4 (e.trans e14) _ fun H5 e5 => hr2 rfl H5 ((e.trans e14).trans e5) Q fun H6 e6 => q H6 ((e14.trans e5).trans e6)
    | false =>
      rw [if_neg Bool.false_ne_true]
      exact q H4 e14⟩
theorem rv_eqI {i j : Int} : RV rEq (.int i) (.int j) H (.bl (decide (i = j))) := by
  have h : RV rEq (.int i) (.int j) H (.bl (decide (V.int i = V.int j))) := rv_eq rfl
  have e : decide (V.int i = V.int j) = decide (i = j) := by
    by_cases h : i = j
    · rw [h, decide_eq_true rfl, decide_eq_true rfl]
    · rw [decide_eq_false h, decide_eq_false (fun q => h (V.int.inj q))]
  rw [← e]
  exact h
theorem rv_eqS {i j : Str} : RV rEq (.str i) (.str j) H (.bl (decide (i = j))) := by
  have h : RV rEq (.str i) (.str j) H (.bl (decide (V.str i = V.str j))) := rv_eq rfl
  have e : decide (V.str i = V.str j) = decide (i = j) := by
    by_cases h : i = j
    · rw [h, decide_eq_true rfl, decide_eq_true rfl]
    · rw [decide_eq_false h, decide_eq_false (fun q => h (V.str.inj q))]
  rw [← e]
  exact h
theorem rv_neS {i j : Str} : RV rNe (.str i) (.str j) H (.bl (!decide (i = j))) := by
  have h : RV rNe (.str i) (.str j) H (.bl (!decide (V.str i = V.str j))) := rv_ne rfl
  have e : decide (V.str i = V.str j) = decide (i = j) := by
    by_cases h : i = j
    · rw [h, decide_eq_true rfl, decide_eq_true rfl]
    · rw [decide_eq_false h, decide_eq_false (fun q => h (V.str.inj q))]
  rw [← e]
  exact h
theorem rv_neI {i j : Int} : RV rNe (.int i) (.int j) H (.bl (!decide (i = j))) := by
  have h : RV rNe (.int i) (.int j) H (.bl (!decide (V.int i = V.int j))) := rv_ne rfl
  have e : decide (V.int i = V.int j) = decide (i = j) := by
    by_cases h : i = j
    · rw [h, decide_eq_true rfl, decide_eq_true rfl]
    · rw [decide_eq_false h, decide_eq_false (fun q => h (V.int.inj q))]
  rw [← e]
  exact h
theorem rv_mod {i j : Int} (h : j ≠ 0) : RV (rI (fun _ j => j ≠ 0) fun i j => .int (i.fmod j)) (.int i) (.int j) H (.int (i.fmod j)) := rv_I h
theorem rv_fdiv {i j : Int} (h : j ≠ 0) (h2 : j.natAbs < 1073741824) : RV (rI CDivN fun i j => .int (i.fdiv j)) (.int i) (.int j) H (.int (i.fdiv j)) := rv_I ⟨h, h2⟩
theorem rv_mulR {i j : Int} (h : -(2 ^ 64) < j ∧ j < 2 ^ 64) : RV (rI CMul fun i j => .int (i * j)) (.int i) (.int j) H (.int (i * j)) := rv_I (.inr h)
theorem rv_mulL {i j : Int} (h : -(2 ^ 64) < i ∧ i < 2 ^ 64) : RV (rI CMul fun i j => .int (i * j)) (.int i) (.int j) H (.int (i * j)) := rv_I (.inl h)
theorem rv_pow {i j : Int} (h : 0 ≤ j ∧ j ≤ 1000000 ∧ i.natAbs < 2 ^ 64) : RV (rI CPow fun i j => .int (i ^ j.toNat)) (.int i) (.int j) H (.int (i ^ j.toNat)) := rv_I h
def rAddT : R2 := fun x y H Q => ∃ i j, x = .str i ∧ y = .str j ∧ i.length + j.length ≤ sizeLine ∧ Q (.str (i ++ j)) H
theorem rv_addS {i j : Str} (h : i.length + j.length ≤ 100000) : RV rAddT (.str i) (.str j) H (.str (i ++ j)) := fun H1 _ _ q => ⟨i, j, rfl, rfl, sz_of h, q H1 (Ex.refl H1)⟩
def rInt1 : List V → Hp → VK → Prop := fun xs H Q => (∃ i, xs = [.int i] ∧ Q (.int i) H) ∨ ∃ k, xs = [.bl k] ∧ Q (.int (if k then 1 else 0)) H
theorem rc_int {i : Int} : RC rInt1 [.int i] H (.int i) := fun H1 _ _ q => .inl ⟨i, rfl, q H1 (Ex.refl H1)⟩
theorem rc_intB {k : Bool} : RC rInt1 [.bl k] H (.int (if k then 1 else 0)) := fun H1 _ _ q => .inr ⟨k, rfl, q H1 (Ex.refl H1)⟩
def rOrd : List V → Hp → VK → Prop := fun xs H Q => ∃ x, xs = [.str x] ∧ x.length = 1 ∧ Q (.int (x.cps.getD 0 0 : Nat)) H
theorem rc_ord {c : Nat} : RC rOrd [.str ⟨#[c]⟩] H (.int (c : Int)) := fun H1 _ _ q => ⟨⟨#[c]⟩, rfl, rfl, q H1 (Ex.refl H1)⟩
def rLenT : List V → Hp → VK → Prop := fun xs H Q => ∃ x, xs = [.str x] ∧ x.length ≤ sizeLine ∧ Q (.int x.length) H
theorem rc_lenS {x : Str} (h : x.length ≤ 100000) : RC rLenT [.str x] H (.int x.length) := fun H1 _ _ q => ⟨x, rfl, sz_of h, q H1 (Ex.refl H1)⟩
theorem rc_repr {d : PyData} (hd : Dp K H v d) (hm : ∀ H1, Ex H H1 → Dp K H1 v d) (hs : d.showable = true) (hn : d.hasDict = false) (hp : d.depth ≤ 40) (hz : d.shown.length ≤ sizeLine) : RC (rRepr K) [v] H (.str d.shown) :=
  fun H1 e _ q => ⟨v, d, rfl, hm H1 e, hs, hn, hp, hz, q H1 (Ex.refl H1)⟩
theorem ev_sub {a : TE} {lo hi : TO} {i j : Option Int} {z : Str} (h : Ev a σ H (.str z)) (hl : EvO lo σ H i) (hh : EvO hi σ H j) (hz : z.length ≤ 100000) : Ev (tSl rSlS a lo hi) σ H (.str (cutS z i j)) := fun H1 e Q q =>
  h H1 e _ fun H2 e2 => hl H2 (e.trans e2) _ fun H3 e3 => hh H3 ((e.trans e2).trans e3) _ fun H4 e4 => ⟨z, rfl, sz_of hz, q H4 ((e2.trans e3).trans e4)⟩
end

/-! ### data of lists of ints -/
theorem dpAll_ints {K : PySem.W.Frag} {H : Hp} : ∀ ns : List Int, DpAll K H (ns.map V.int) (ns.map PyData.int)
  | [] => .nil
  | n :: r => .cons (.int n) (dpAll_ints r)
theorem dp_ints {K : PySem.W.Frag} {H : Hp} {a : Addr} {ns : List Int} (h : SqL K H a (ns.map V.int)) : Dp K H (.ref a) (.list (ns.map PyData.int)) := .lst h (dpAll_ints ns)
theorem showAll_ints : ∀ (ns : List Int), (∀ n ∈ ns, n.natAbs.log2 < 1920) → PyData.showableAll (ns.map PyData.int) = true
  | [], _ => by simp [PyData.showableAll]
  | n :: r, h => by
    rw [List.map_cons, PyData.showableAll, PyData.showable, decide_eq_true (h n List.mem_cons_self), showAll_ints r fun m hm => h m (List.mem_cons_of_mem _ hm)]
    rfl
theorem noDict_ints : ∀ ns : List Int, PyData.hasDictAll (ns.map PyData.int) = false
  | [] => by simp [PyData.hasDictAll]
  | n :: r => by
    rw [List.map_cons, PyData.hasDictAll, noDict_ints r, PyData.hasDict]
    rfl
theorem depthAll_ints : ∀ ns : List Int, PyData.depthAll (ns.map PyData.int) ≤ 1
  | [] => by simp [PyData.depthAll]
  | n :: r => by
    rw [List.map_cons, PyData.depthAll, PyData.depth]
    have := depthAll_ints r
    omega

/-! ### the script's cells -/
def cellN (ns : List Int) (k : Nat) : Int := ns.getD k 0

/-! ### comprehensions without a test: items mapped -/
section
variable {K : PySem.W.Frag} {σ : L2.St} {H H1 : Hp} {te tl : TE} {vs : List Nat} {j : Nat}
theorem take_snoc {α : Type} {l : List α} {i : Nat} {x : α} (h : l[i]? = some x) : l.take (i + 1) = l.take i ++ [x] := by
  rw [List.take_add_one, h]
  rfl
theorem lc_map {J : It} {G : Hp → Prop} {Y : Nat → Hp → V → Hp → Prop} {xs : List V} {D : Addr} {Qd : Hp → Prop} (w : Walk J xs.length G Y) (hY : ∀ i H x H', i < xs.length → Y i H x H' → H' = H ∧ xs[i]? = some x)
    (hz : xs.length ≤ 90000) (hw : ∀ x, wipe ((wipe σ vs).set j (some x)) vs = wipe σ vs) (f : V → V) (hG : ∀ H', Ex H1 H' → G H') (he : ∀ x ∈ xs, ∀ H', Ex H1 H' → Ev te ((wipe σ vs).set j (some x)) H' (f x)) (hD : H1 D = none)
    (k : ∀ H', Ex H1 H' → H' D = some (.lst (xs.map f)) → Qd H') :
    ∃ W : Nat → Nat → Hp → Prop, (∃ m, W 0 m (upd H1 D (.lst []))) ∧ ∀ i m H, W i m H →
      (J.stop i H ∧ Qd H) ∨ (J.go i H ∧ ∃ Nx : Hp → Prop, (∀ H', Nx H' → ∃ m', m' < m ∧ W (i + 1) m' H') ∧ ∀ x H', J.yld i H x H' → gName j x (wipe σ vs) H' fun σ2 H2 => wipe σ2 vs = wipe σ vs ∧ tYes σ2 H2 fun b H3 =>
        if b = true then te σ2 H3 fun y H4 => ∃ acc, H4 D = some (.lst acc) ∧ acc.length < sizeLine ∧ Nx (upd H4 D (.lst (acc ++ [y]))) else Nx H3) := by
  refine lc_it w (fun i H' => Ex H1 H' ∧ H' D = some (.lst ((xs.take i).map f))) ⟨Ex.new hD, upd_same⟩ (fun i H' _ p => hG H' p.1) ?_ (fun H' p => k H' p.1 (by rw [p.2, List.take_length]))
  intro i x H2 H3 hi p y
  obtain ⟨e, hx⟩ := hY i H2 x H3 hi y
  subst e
  obtain ⟨p1, p2⟩ := p
  refine ⟨hw x, ?_⟩
  dsimp only [tYes]
  rw [if_pos rfl]
  refine he x (List.mem_of_getElem? hx) H3 p1 H3 (Ex.refl H3) _ fun H4 e4 => ⟨(xs.take i).map f, e4 D _ p2, sz_lt (by rw [List.length_map, List.length_take]; omega), Ex.mut (p1.trans e4) hD, ?_⟩
  rw [upd_same, take_snoc hx, List.map_append]
  rfl
theorem el_mapL {a : Addr} {xs : List V} (f : V → V) (h : Ev tl σ H (.ref a)) (hx : SqL K H a xs) (hz : xs.length ≤ 90000) (hw : ∀ x, wipe ((wipe σ vs).set j (some x)) vs = wipe σ vs)
    (he : ∀ x ∈ xs, ∀ H1, Ex H H1 → Ev te ((wipe σ vs).set j (some x)) H1 (f x)) : EvL (tLc (iList K tl) (gName j) tYes te vs) σ H (xs.map f) := fun H0 e Q q =>
  h H0 e _ fun H1 e1 => ⟨a, rfl, ⟨xs, ex_l (e.trans e1) hx⟩, fun D hD => lc_map walk_list (fun _ _ _ _ _ y => y) hz hw f (fun H' e' => ex_l ((e.trans e1).trans e') hx) (fun x m H' e' => he x m H' ((e.trans e1).trans e')) hD
    (fun H' e' hd => q D H' (fresh_back e1 hD) (e1.trans e') hd)⟩
theorem el_mapNL {xs : List V} (f : V → V) (h : EvL tl σ H xs) (hz : xs.length ≤ 90000) (hw : ∀ x, wipe ((wipe σ vs).set j (some x)) vs = wipe σ vs)
    (he : ∀ x ∈ xs, ∀ H1, Ex H H1 → Ev te ((wipe σ vs).set j (some x)) H1 (f x)) : EvL (tLc (iList K tl) (gName j) tYes te vs) σ H (xs.map f) := fun H0 e Q q =>
  h H0 e _ fun a H1 _ e1 ha => ⟨a, rfl, ⟨xs, sq_of ha⟩, fun D hD => lc_map walk_list (fun _ _ _ _ _ y => y) hz hw f (fun H' e' => sq_of (e' a _ ha)) (fun x m H' e' => he x m H' ((e.trans e1).trans e')) hD
    (fun H' e' hd => q D H' (fresh_back e1 hD) (e1.trans e') hd)⟩
def sgns (z : Str) : List V := z.cps.toList.map fun c => V.str ⟨#[c]⟩
theorem sgns_at {z : Str} {i c : Nat} (h : z.cps[i]? = some c) : (sgns z)[i]? = some (.str ⟨#[c]⟩) := by
  unfold sgns
  rw [List.getElem?_map, Array.getElem?_toList, h]
  rfl
theorem sgns_len (z : Str) : (sgns z).length = z.cps.size := by
  unfold sgns
  rw [List.length_map, Array.length_toList]
theorem walk_signs (z : Str) : Walk (Its z) (sgns z).length (fun _ => True) (YAt (sgns z)) := by
  rw [sgns_len]
  exact walk_str.mono (fun _ h => h) fun i H x H' _ _ y => by
    obtain ⟨e, c, hc, rfl⟩ := y
    exact ⟨e, sgns_at hc⟩
theorem el_mapS {z : Str} (f : V → V) (h : Ev tl σ H (.str z)) (hz : z.cps.size ≤ 90000) (hw : ∀ x, wipe ((wipe σ vs).set j (some x)) vs = wipe σ vs)
    (he : ∀ c ∈ z.cps.toList, ∀ H1, Ex H H1 → Ev te ((wipe σ vs).set j (some (.str ⟨#[c]⟩))) H1 (f (.str ⟨#[c]⟩))) : EvL (tLc (iStr tl) (gName j) tYes te vs) σ H ((sgns z).map f) := fun H0 e Q q =>
  h H0 e _ fun H1 e1 => ⟨z, rfl, fun D hD => lc_map (walk_signs z) (fun _ _ _ _ _ y => y) (by rw [sgns_len]; exact hz) hw f (fun _ _ => trivial) (fun x m H' e' => by
    obtain ⟨c, hc, rfl⟩ := List.mem_map.mp m
    exact he c hc H' ((e.trans e1).trans e')) hD (fun H' e' hd => q D H' (fresh_back e1 hD) (e1.trans e') hd)⟩
end

/-! ### join, repr, str(..) -/
section
variable {K : PySem.W.Frag} {σ : L2.St} {H H1 : Hp} {te tl to : TE}
def rJoinT (K : PySem.W.Frag) : V → List V → Hp → VK → Prop := fun x xs H Q => ∃ a p, ∃ ys : List Str, x = .str a ∧ xs = [.ref p] ∧ (SqL K H p (ys.map V.str) ∨ SqT K H p (ys.map V.str)) ∧
      (ys.map (·.length)).sum + ys.length * a.length ≤ 16777216 ∧ Q (.str (Txt.join a ys)) H
theorem ev_joinL {a : Str} {ys : List Str} (ho : Ev to σ H (.str a)) (h : EvL te σ H (ys.map V.str)) (hz : (ys.map (·.length)).sum + ys.length * a.length ≤ 16777216) : Ev (tM1 (rJoinT K) to te) σ H (.str (Txt.join a ys)) := fun H0 e Q q =>
  ho H0 e _ fun H1 e1 => ⟨⟨a, rfl⟩, h H1 (e.trans e1) _ fun p H2 _ e2 hp => ⟨a, p, ys, rfl, rfl, .inl (sq_of hp), hz, q H2 (e1.trans e2)⟩⟩
theorem joinE (ys : List Str) : (Txt.join "" ys).cps.toList = (ys.map fun y => y.cps.toList).flatten := by
  have h : ∀ l : List (List Nat), TL.joinL [] l = l.flatten := by
    intro l
    induction l with
    | nil => rfl
    | cons p r ih =>
      cases r with
      | nil => simp [TL.joinL]
      | cons q r => rw [TL.joinL, ih]; rfl
  rw [TL.join_eq]
  show TL.tl _ = _
  rw [TL.tl_join]
  exact h _
theorem show_le {ns : List Int} (hl : ns.length ≤ 1000) (hb : ∀ n ∈ ns, n.natAbs < 10 ^ 100) : (PyData.list (ns.map PyData.int)).shown.length ≤ sizeLine := by
  have hs : PyData.leavesShort 101 (.list (ns.map PyData.int)) = true := by
    unfold PyData.leavesShort
    clear hl
    induction ns with
    | nil => simp [PyData.leavesShortAll]
    | cons n r ih =>
      rw [List.map_cons, PyData.leavesShortAll, ih fun m hm => hb m (List.mem_cons_of_mem _ hm), Bool.and_true, PyData.leavesShort]
      refine decide_eq_true ?_
      unfold PyData.shown
      have h := int_text_length_le10 (k := 100) (by decide) (hb n List.mem_cons_self)
      have e : (Str.ofString (toString n)).length = (toString n).length := PySem.ofString_length _
      show (Str.ofString (toString n)).length ≤ 101
      rw [e]
      exact h
  have hk := PyData.shown_le_bulk 101 (by decide) _ hs
  have hb2 : (PyData.list (ns.map PyData.int)).bulk = ns.length := by
    unfold PyData.bulk
    clear hs hk hl hb
    induction ns with
    | nil => simp [PyData.bulkAll]
    | cons n r ih =>
      rw [List.map_cons, PyData.bulkAll, PyData.bulk, ih, List.length_cons]
      omega
  rw [hb2] at hk
  rw [sizeLine_eq]
  omega
set_option exponentiation.threshold 3000 in
theorem pow_small : 10 ^ 100 ≤ 2 ^ 1920 := by decide +kernel
set_option exponentiation.threshold 3000 in
theorem log_lt {n : Int} (h : n.natAbs < 10 ^ 100) : n.natAbs.log2 < 1920 := by
  by_cases h0 : n.natAbs = 0
  · rw [h0]; decide
  · exact (Nat.log2_lt h0).mpr (Nat.lt_of_lt_of_le h pow_small)
theorem ev_reprI {a : Addr} {ns : List Int} (h : Ev te σ H (.ref a)) (hx : SqL K H a (ns.map V.int)) (hl : ns.length ≤ 1000) (hb : ∀ n ∈ ns, n.natAbs < 10 ^ 100) :
    Ev (tCB (rRepr K) (tCons te tNil)) σ H (.str (PyData.list (ns.map PyData.int)).shown) :=
  ev_cb (ea_cons h ea_nil) fun H1 e _ q => ⟨.ref a, .list (ns.map PyData.int), rfl, dp_ints (ex_l e hx), by
    rw [PyData.showable]
    exact showAll_ints ns fun n hn => log_lt (hb n hn), by
    rw [PyData.hasDict]
    exact noDict_ints ns, by
    rw [PyData.depth]
    have := depthAll_ints ns
    omega, show_le hl hb, q H1 (Ex.refl H1)⟩
end

/-! ### what is known behind a statement -/
theorem q_mid {t u : TS} {D : Ends} {σ : L2.St} {H : Hp} (M : L2.St → Hp → Prop) (mono : ∀ (N N' : L2.St → Hp → Prop), (∀ σ H, N σ H → N' σ H) → t { D with nx := N } σ H → t { D with nx := N' } σ H)
    (h : t { D with nx := M } σ H) (k : ∀ σ' H', M σ' H' → u D σ' H') : tSeq t u D σ H := mono M (u D) k h

/-! ### isinstance -/
section
variable {K : PySem.W.Frag} {H : Hp}
theorem rc_isStr {x : Str} : RC (rIsi K) [.str x, .ty "str"] H (.bl true) := fun H1 _ _ q => ⟨_, _, _, _, true, rfl, .ty "str", .base (.str x), kit_ty (by decide +kernel), q H1 (Ex.refl H1)⟩
theorem rc_isInt {i : Int} : RC (rIsi K) [.int i, .ty "int"] H (.bl true) := fun H1 _ _ q => ⟨_, _, _, _, true, rfl, .ty "int", .base (.int i), kit_ty (by decide +kernel), q H1 (Ex.refl H1)⟩
theorem rc_isIntB {i : Int} : RC (rIsi K) [.int i, .ty "bool"] H (.bl false) := fun H1 _ _ q => ⟨_, _, _, _, false, rfl, .ty "bool", .base (.int i), kit_ty (by decide +kernel), q H1 (Ex.refl H1)⟩
theorem rc_isNonS : RC (rIsi K) [.non, .ty "str"] H (.bl false) := fun H1 _ _ q => ⟨_, _, _, _, false, rfl, .ty "str", .base .non, kit_ty (by decide +kernel), q H1 (Ex.refl H1)⟩
/-- isinstance of the error that a suite holds: its class is asked in the reading -/
def rIsX (K : PySem.W.Frag) (D a : Addr) (cls : Value) (d : Option Addr) : List V → Hp → VK → Prop := fun xs H Q => cls = .ref D ∧ d = none ∧ rIsE K D a xs H Q
theorem call_isX {X : Cx} {a D : Addr} {oe : Obj} {pn : List (Addr × Obj)} {cls : Value} {d : Option Addr} (C : ExcC X.K D) (hz : Zc cls d oe) (hf : ∃ vs, oe.data = .fields vs) : CallR (X.suite a ((a, oe) :: pn)) (.builtin "isinstance") (rIsX X.K D a cls d) := by
  intro pins s σ H xs us Q I r h
  obtain ⟨rfl, rfl, h⟩ := h
  exact call_isE C hz hf pins s σ H xs us Q I r h
theorem rc_isX {D a : Addr} {c : V} {cv : Value} {b : Bool} (hc : ∀ u, RelV c u → u = cv) (hk : PySem.W.kitOne K (.ref D) cv = some b) : RC (rIsX K D a (.ref D) none) [.ref a, c] H (.bl b) := fun H1 _ _ q => ⟨rfl, rfl, c, cv, b, rfl, hc, hk, q H1 (Ex.refl H1)⟩
end

/-! ### the draws of the laws: a cell's values -/
def lvMix (cell size : Int) (k : Nat) : Int := ((((cell.fmod 2147483647) * 48271 + (k : Int) * 69621 + 7).fmod 2147483647 * 16807).fmod 2147483647).fmod size
def lvStep (cell size : Int) (st : Int × List Int) (k : Nat) : Int × List Int :=
  if st.1 ≥ 10 ^ 12 then (st.1.fdiv size, st.2 ++ [st.1.fmod size]) else (st.1, st.2 ++ [lvMix cell size k])
def lvGo (cell size : Int) (n : Nat) : Int × List Int := (List.range n).foldl (lvStep cell size) (cell, [])
theorem lvGo_succ (cell size : Int) (n : Nat) : lvGo cell size (n + 1) = lvStep cell size (lvGo cell size n) n := by
  unfold lvGo
  rw [List.range_succ, List.foldl_append]
  rfl
/-- what _law_values gives -/
def lvals (cell : Int) (n : Nat) (size : Int) : List Int := (lvGo cell size n).2
theorem lvStep_len (cell size : Int) (st : Int × List Int) (k : Nat) : (lvStep cell size st k).2.length = st.2.length + 1 := by
  unfold lvStep
  split <;> simp
theorem lvals_len (cell : Int) (n : Nat) (size : Int) : (lvals cell n size).length = n := by
  unfold lvals
  induction n with
  | zero => rfl
  | succ n ih => rw [lvGo_succ, lvStep_len, ih]
theorem lvals_in {cell size : Int} (h : 0 < size) (n : Nat) : ∀ v ∈ lvals cell n size, 0 ≤ v ∧ v < size := by
  unfold lvals
  induction n with
  | zero => intro v hv; exact absurd hv List.not_mem_nil
  | succ n ih =>
    intro v hv
    rw [lvGo_succ] at hv
    unfold lvStep lvMix at hv
    have key : ∀ x : Int, 0 ≤ x.fmod size ∧ x.fmod size < size := fun x => ⟨Int.fmod_nonneg_of_pos x h, Int.fmod_lt_of_pos x h⟩
    split at hv
    · rcases List.mem_append.mp hv with q | q
      · exact ih v q
      · rw [List.mem_singleton.mp q]; exact key _
    · rcases List.mem_append.mp hv with q | q
      · exact ih v q
      · rw [List.mem_singleton.mp q]; exact key _

/-! ### texts and their codes -/
theorem map_at {α β : Type} {f : α → β} {l : List α} {i : Nat} {x : β} (h : (l.map f)[i]? = some x) : ∃ c, l[i]? = some c ∧ x = f c := by
  rw [List.getElem?_map] at h
  cases e : l[i]? with
  | none => rw [e] at h; cases h
  | some c => rw [e] at h; exact ⟨c, rfl, (Option.some.inj h).symm⟩
theorem sgns_map (z : Str) (f : V → V) : (sgns z).map f = z.cps.toList.map fun c => f (.str ⟨#[c]⟩) := by
  unfold sgns
  rw [List.map_map]
  rfl
theorem app_toList (x y : Str) : (x ++ y).cps.toList = x.cps.toList ++ y.cps.toList := TL.tl_append x y
theorem len_size (x : Str) : x.length = x.cps.toList.length := by simp [Str.length]
theorem str_ext {x y : Str} (h : x.cps.toList = y.cps.toList) : x = y := by
  cases x; cases y
  congr
  exact Array.toList_inj.mp h
end Gd

set_option Elab.async false
set_option linter.all false
set_option maxRecDepth 100000
set_option maxHeartbeats 4000000
/-! Of our own: draws that are popped off a list; lists of ints compared; digits. -/
namespace Gd
open PySem PySem.Spec PyProof.Rows L2 Evl
/-- all but p is kept -/
def But (p : Addr) (H H' : Hp) : Prop := ∀ b o, b ≠ p → H b = some o → H' b = some o
theorem But.refl {p : Addr} {H : Hp} : But p H H := fun _ _ _ h => h
theorem But.trans {p : Addr} {H H1 H2 : Hp} (a : But p H H1) (b : But p H1 H2) : But p H H2 := fun c o n h => b c o n (a c o n h)
theorem ex_but {p : Addr} {H H' : Hp} (e : Ex H H') : But p H H' := fun b o _ h => e b o h
theorem But.upd {p : Addr} {H : Hp} {o : HO} : But p H (upd H p o) := fun b u n h => by rw [upd_ne n]; exact h
theorem But.seq {K : PySem.W.Frag} {p a : Addr} {H H' : Hp} {xs : List V} (b : But p H H') (n : a ≠ p) (h : SqL K H a xs) : SqL K H' a xs := by
  rcases h with (h | ⟨o, h⟩) | h
  · exact .inl (.inl (b _ _ n h))
  · exact .inl (.inr ⟨o, b _ _ n h⟩)
  · exact .inr h
/-- what was free is free still, seen backwards -/
theorem But.free {p a : Addr} {H H' : Hp} {o : HO} (b : But p H H') (hp : H' p = some o) (h : H' a = none) : a ≠ p ∧ H a = none := by
  have n : a ≠ p := fun e => by rw [e, hp] at h; cases h
  refine ⟨n, ?_⟩
  cases e : H a with
  | none => rfl
  | some u => rw [b a u n e] at h; cases h
def Small (ds : List Int) : Prop := (∀ d ∈ ds, 0 ≤ d ∧ d < 1000) ∧ ds.length ≤ 20000
theorem Small.nil : Small [] := ⟨fun _ h => absurd h List.not_mem_nil, Nat.zero_le _⟩
theorem Small.app {ds es : List Int} (h1 : ∀ d ∈ ds, 0 ≤ d ∧ d < 1000) (h2 : ∀ d ∈ es, 0 ≤ d ∧ d < 1000) : ∀ d ∈ ds ++ es, 0 ≤ d ∧ d < 1000 := fun d hd => (List.mem_append.mp hd).elim (h1 d) (h2 d)
theorem Small.one {ds : List Int} {x : Int} (h1 : ∀ d ∈ ds, 0 ≤ d ∧ d < 1000) (h2 : 0 ≤ x ∧ x < 1000) : ∀ d ∈ ds ++ [x], 0 ≤ d ∧ d < 1000 := Small.app h1 fun d hd => by rw [List.mem_singleton.mp hd]; exact h2
def Drw (p : Addr) (H : Hp) : Prop := ∃ ds : List Int, H p = some (.lst (ds.map V.int)) ∧ Small ds
theorem Drw.ex {p : Addr} {H H' : Hp} (d : Drw p H) (e : Ex H H') : Drw p H' := let ⟨ds, h, s⟩ := d; ⟨ds, e _ _ h, s⟩
theorem fmod_in (x : Int) {m : Int} (h : 0 < m) : 0 ≤ x.fmod m ∧ x.fmod m < m := ⟨Int.fmod_nonneg_of_pos x h, Int.fmod_lt_of_pos x h⟩

/-! ### lists of ints compared -/
section
variable {K : PySem.W.Frag} {H : Hp} {σ : L2.St} {ta tb te : TE}
theorem can_ints : ∀ ns : List Int, PyData.canLayAll0 (ns.map PyData.int) = true
  | [] => by simp [PyData.canLayAll0]
  | n :: r => by
    rw [List.map_cons, PyData.canLayAll0, can_ints r, PyData.canLay0]
    rfl
theorem shaped_ints (ns : List Int) : SeqAt.shaped (.list (ns.map PyData.int)) = true := by
  unfold SeqAt.shaped
  rw [PyData.canLay0, can_ints, PyData.depth]
  have := depthAll_ints ns
  rw [Bool.true_and]
  exact decide_eq_true (by omega)
theorem eqv_ints : ∀ ns ms : List Int, PyData.eqvAll (ns.map PyData.int) (ms.map PyData.int) = decide (ns = ms)
  | [], [] => by simp [PyData.eqvAll]
  | [], m :: r => by simp [PyData.eqvAll]
  | n :: r, [] => by simp [PyData.eqvAll]
  | n :: r, m :: q => by
    rw [List.map_cons, List.map_cons, PyData.eqvAll, eqv_ints r q, PyData.eqv]
    by_cases h : n = m
    · subst h
      by_cases h2 : r = q
      · subst h2; simp
      · simp [h2]
    · simp [h]
theorem rv_eqL {a b : Addr} {ns ms : List Int} (ha : SqL K H a (ns.map V.int)) (hb : SqL K H b (ms.map V.int)) : RV (rEqD K) (.ref a) (.ref b) H (.bl (decide (ns = ms))) := fun H1 e Q q =>
  ⟨_, _, dp_ints (ex_l e ha), dp_ints (ex_l e hb), shaped_ints ns, shaped_ints ms, by rw [PyData.eqv, eqv_ints]; exact q H1 (Ex.refl H1)⟩
theorem rv_neL {a b : Addr} {ns ms : List Int} (ha : SqL K H a (ns.map V.int)) (hb : SqL K H b (ms.map V.int)) : RV (rNeD K) (.ref a) (.ref b) H (.bl (!decide (ns = ms))) := fun H1 e Q q =>
  ⟨_, _, dp_ints (ex_l e ha), dp_ints (ex_l e hb), shaped_ints ns, shaped_ints ms, by rw [PyData.eqv, eqv_ints]; exact q H1 (Ex.refl H1)⟩
def optV : Option Int → V
  | none => .non
  | some v => .int v
/-- value or 0 -/
theorem ev_or0 {o : Option Int} (h : Ev te σ H (optV o)) : Ev (tOrT K te (tC (.int 0))) σ H (.int (o.getD 0)) := fun H1 e Q q =>
  h H1 e _ fun H2 e2 => by
    cases o with
    | none => exact ⟨false, rfl, by rw [if_neg Bool.false_ne_true]; exact q H2 e2⟩
    | some v =>
      refine ⟨v != 0, rfl, ?_⟩
      by_cases hv : v = 0
      · subst hv
        exact q H2 e2
      · rw [if_pos (by simpa using hv)]
        exact q H2 e2
def rNotNn : R2 := fun x y H Q => y = .non ∧ Q (.bl (!decide (x = .non))) H
theorem rv_notN {o : Option Int} : RV rNotNn (optV o) .non H (.bl o.isSome) := fun H1 _ _ q => ⟨rfl, by
  have e : (!decide (optV o = .non)) = o.isSome := by
    cases o with
    | none => rfl
    | some v => exact by simp [optV]
  rw [e]
  exact q H1 (Ex.refl H1)⟩
theorem ev_listN {xs : List V} {a : Addr} (h : Ev te σ H (.ref a)) (hx : SqL K H a xs) : EvL (tCB (rListS K) (tCons te tNil)) σ H xs := el_list h hx
/-- the truth of a list -/
theorem et_truL {a : Addr} {xs : List V} (h : Ev te σ H (.ref a)) (hx : SqL K H a xs) : EvT (fun σ H Q => te σ H fun x H' => ∃ k, TruV K x H' k ∧ Q k H') σ H (!xs.isEmpty) := fun H1 e Q q =>
  h H1 e _ fun H2 e2 => ⟨!xs.isEmpty, .inl ⟨xs, ex_l (e.trans e2) hx, rfl⟩, q H2 e2⟩
end

/-! ### digits read -/
def isDg (c : Int) : Bool := decide (48 ≤ c) && decide (c ≤ 57)
def rdStep (st : List Int × Option Int) (c : Int) : List Int × Option Int :=
  if isDg c = true then (st.1, some (10 * st.2.getD 0 + c - 48)) else match st.2 with
    | some v => (st.1 ++ [v], none)
    | none => st
def rdFin (st : List Int × Option Int) : List Int := match st.2 with
  | some v => st.1 ++ [v]
  | none => st.1
def nn (c : Int) : Bool := decide (0 ≤ c)
def rdGo (ns : List Int) : List Int × Option Int := ns.foldl rdStep ([], none)
def rd (ns : List Int) : List Int := rdFin (rdGo (ns.takeWhile nn))
theorem at_sh {xs : List Nat} {c o n : Int} (h0 : 0 ≤ c - o) (hn : c - o < n) (ho : 0 ≤ o) (tab : ∀ k < n.toNat, xs[k]? = some (k + o.toNat)) : atI xs (c - o) = some c.toNat := by
  have e : c - o = (((c - o).toNat : Nat) : Int) := by omega
  rw [e]
  refine atI_nat ?_
  rw [tab _ (by omega)]
  congr 1
  omega
theorem takeWhile_pos {α : Type} {f : α → Bool} {l : List α} (h : l.takeWhile f = l) : ∀ z ∈ l, f z = true := by
  have e : (l.takeWhile f).all f = true := List.all_takeWhile
  rw [h] at e
  exact List.all_eq_true.mp e
theorem tw_stop {l : List Int} {i : Nat} {c : Int} (h : l[i]? = some c) (hc : nn c = false) (ht : (l.take i).takeWhile nn = l.take i) : l.takeWhile nn = l.take i := by
  have hi := (List.getElem?_eq_some_iff.mp h).1
  have e : l = l.take i ++ c :: l.drop (i + 1) := by
    have q := List.take_append_drop i l
    rw [List.drop_eq_getElem_cons hi] at q
    have hg : l[i] = c := by rw [List.getElem?_eq_getElem hi] at h; exact Option.some.inj h
    rw [hg] at q
    exact q.symm
  have q := congrArg (List.takeWhile nn) e
  rw [List.takeWhile_append_of_pos (fun z hz => takeWhile_pos ht z hz), List.takeWhile_cons, hc] at q
  simpa using q
theorem tw_len (l : List Int) : (l.takeWhile nn).length ≤ l.length := (List.takeWhile_sublist _).length_le
theorem foldl_snoc {α β : Type} {f : β → α → β} {b : β} {l : List α} {i : Nat} {x : α} (h : l[i]? = some x) : (l.take (i + 1)).foldl f b = f ((l.take i).foldl f b) x := by
  rw [take_snoc h, List.foldl_append]
  rfl
theorem rdGo_snoc {l : List Int} {i : Nat} {x : Int} (h : l[i]? = some x) : rdGo (l.take (i + 1)) = rdStep (rdGo (l.take i)) x := foldl_snoc h
theorem rdGo_len : ∀ (l : List Int), (rdGo l).1.length ≤ l.length := by
  intro l
  have key : ∀ (l : List Int) (st : List Int × Option Int), (l.foldl rdStep st).1.length ≤ st.1.length + l.length := by
    intro l
    induction l with
    | nil => intro st; simp
    | cons c r ih =>
      intro st
      have h1 := ih (rdStep st c)
      have h2 : (rdStep st c).1.length ≤ st.1.length + 1 := by
        unfold rdStep
        split
        · simp
        · split <;> simp
      rw [List.foldl_cons, List.length_cons]
      omega
  have := key l ([], none)
  unfold rdGo
  simpa using this
end Gd
namespace Gd
open PySem PySem.Spec PyProof.Rows L2 Evl
section
variable {K : PySem.W.Frag} {H : Hp} {σ : L2.St} {ta tb te : TE} {D : Ends} {tz : TS}
theorem rc_isList {p : Addr} {xs : List V} (h : H p = some (.lst xs)) : RC (rIsi K) [.ref p, .ty "list"] H (.bl true) := fun H1 e _ q => ⟨_, _, _, _, true, rfl, .ty "list", .base (.lst (e _ _ h)), kit_ty (by decide +kernel), q H1 (Ex.refl H1)⟩
/-- xs.extend([..]) -/
theorem s_ext {l : Addr} {xs ys : List V} (hl : H l = some (.lst xs)) (ha : Ev ta σ H (.ref l)) (h : EvL te σ H ys) (hz : xs.length + ys.length ≤ 100000) (k : ∀ H1, Ex H H1 → D.nx σ (upd H1 l (.lst (xs ++ ys)))) :
    tDrop (tBM K "list" rExtend ta (tCons te tNil)) D σ H := ha H (Ex.refl H) _ fun H1 e1 =>
  ⟨Or.inl ⟨rfl, xs, sq_of (e1 l _ hl)⟩, h H1 e1 _ fun p H2 hp e2 h2 => ⟨l, p, xs, ys, rfl, rfl, e2 l _ (e1 l _ hl), h2, sz_of hz, k H2 (e1.trans e2)⟩⟩
theorem q_ext {l : Addr} {xs ys : List V} (hl : H l = some (.lst xs)) (ha : Ev ta σ H (.ref l)) (h : EvL te σ H ys) (hz : xs.length + ys.length ≤ 100000) (k : ∀ H1, Ex H H1 → tz D σ (upd H1 l (.lst (xs ++ ys)))) :
    tSeq (tDrop (tBM K "list" rExtend ta (tCons te tNil))) tz D σ H := s_ext (D := { D with nx := tz D }) hl ha h hz k
/-- xs.reverse() -/
theorem q_rev {l : Addr} {xs : List V} (hl : H l = some (.lst xs)) (ha : Ev ta σ H (.ref l)) (k : ∀ H1, Ex H H1 → tz D σ (upd H1 l (.lst xs.reverse))) : tSeq (tDrop (tBM0 K "list" rReverse ta)) tz D σ H :=
  ha H (Ex.refl H) _ fun H1 e1 => ⟨Or.inl ⟨rfl, xs, sq_of (e1 l _ hl)⟩, l, xs, rfl, rfl, e1 l _ hl, k H1 e1⟩
/-- a + b, both lists -/
theorem el_cat {a : Addr} {xs ys : List V} (ha : Ev ta σ H (.ref a)) (hx : H a = some (.lst xs)) (hb : EvL tb σ H ys) (hz : xs.length + ys.length ≤ 100000) : EvL (tOp rCat ta tb) σ H (xs ++ ys) := fun H1 e Q q =>
  ha H1 e _ fun H2 e2 => hb H2 (e.trans e2) _ fun b H3 _ e3 h3 => ⟨a, b, xs, ys, rfl, rfl, e3 _ _ (e2 _ _ (e _ _ hx)), h3, sz_of hz, fun p hp => q p _ (fresh_back (e2.trans e3) hp) ((e2.trans e3).trans (Ex.new hp)) upd_same⟩
def rIntS : List V → Hp → VK → Prop := fun xs H Q => ∃ a n, xs = [.str a] ∧ PySem.intText? a = some n ∧ a.length ≤ 640 ∧ Q (.int n) H
theorem rc_intS {z : Str} {n : Int} (h : PySem.intText? z = some n) (hz : z.length ≤ 640) : RC rIntS [.str z] H (.int n) := fun H1 _ _ q => ⟨z, n, rfl, h, hz, q H1 (Ex.refl H1)⟩
theorem but_mut {p q : Addr} {H H' : Hp} {o : HO} (b : But p H H') (h : q = p) : But p H (upd H' q o) := fun c u n e => by
  rw [h, upd_ne n]
  exact b c u n e
end
end Gd
namespace Gd
open PySem PySem.Spec PyProof.Rows L2 Evl
/-! ### values that are not told, but bounded: what draws give -/
def EvP (te : TE) (σ : L2.St) (H : Hp) (P : V → Hp → Prop) : Prop := ∀ Q : VK, (∀ v H', P v H' → Q v H') → te σ H Q
def EtP (tt : TT) (σ : L2.St) (H : Hp) (P : Bool → Hp → Prop) : Prop := ∀ Q : Bool → Hp → Prop, (∀ b H', P b H' → Q b H') → tt σ H Q
/-- a drawn int d that keeps C; the draws at p have turned, all else stands -/
def DP (p : Addr) (H : Hp) (C : Int → Prop) : V → Hp → Prop := fun v H' => ∃ d : Int, v = .int d ∧ C d ∧ Drw p H' ∧ But p H H'
section
variable {K : PySem.W.Frag} {H : Hp} {σ : L2.St} {ta tb te : TE} {tt t u : TT} {D : Ends} {tu tz : TS} {P P1 : V → Hp → Prop} {p : Addr} {C C1 : Int → Prop}
theorem EvP.imp {P' : V → Hp → Prop} (h : EvP te σ H P) (k : ∀ v H', P v H' → P' v H') : EvP te σ H P' := fun Q q => h Q fun v H' z => q v H' (k v H' z)
theorem ep_of {v : V} (h : Ev te σ H v) : EvP te σ H (fun v' H' => v' = v ∧ Ex H H') := fun Q q => h H (Ex.refl H) Q fun H2 e2 => q v H2 ⟨rfl, e2⟩
theorem q_asgP {i : Nat} (h : EvP te σ H P) (k : ∀ v H', P v H' → tz D (σ.set i (some v)) H') : tSeq (tAsg te (gName i)) tz D σ H := h _ k
theorem s_asgP {i : Nat} (h : EvP te σ H P) (k : ∀ v H', P v H' → D.nx (σ.set i (some v)) H') : tAsg te (gName i) D σ H := h _ k
theorem s_retP (h : EvP te σ H P) (k : ∀ v H', P v H' → D.rt v H') : tRet te D σ H := h _ k
theorem ep_op {r : R2} (ha : EvP ta σ H P1) (hb : ∀ x H1, P1 x H1 → EvP tb σ H1 (fun y H2 => ∀ Q : VK, (∀ v H', P v H' → Q v H') → r x y H2 Q)) : EvP (tOp r ta tb) σ H P := fun Q q =>
  ha _ fun x H1 p1 => hb x H1 p1 _ fun y H2 h2 => h2 Q q
/-- i op (a drawn one) -/
theorem ep_opD {r : R2} {x : V} {g : Int → Int} (ha : Ev ta σ H x) (hb : ∀ H1, Ex H H1 → EvP tb σ H1 (DP p H1 C)) (hr : ∀ d H2 (Q : VK), C d → Q (.int (g d)) H2 → r x (.int d) H2 Q) (hC : ∀ d, C d → C1 (g d)) : EvP (tOp r ta tb) σ H (DP p H C1) := fun Q q =>
  ha H (Ex.refl H) _ fun H1 e1 => hb H1 e1 _ fun y H2 ⟨d, hv, hc, hD, b⟩ => by
    subst hv
    exact hr d H2 Q hc (q _ H2 ⟨g d, rfl, hC d hc, hD, (ex_but e1).trans b⟩)
/-- (a drawn one) op j -/
theorem ep_opL {r : R2} {y : V} {g : Int → Int} (ha : EvP ta σ H (DP p H C)) (hb : ∀ H1, Ev tb σ H1 y) (hr : ∀ d H2 (Q : VK), C d → Q (.int (g d)) H2 → r (.int d) y H2 Q) (hC : ∀ d, C d → C1 (g d)) : EvP (tOp r ta tb) σ H (DP p H C1) := fun Q q =>
  ha _ fun x H1 ⟨d, hv, hc, hD, b⟩ => by
    subst hv
    exact hb H1 H1 (Ex.refl H1) _ fun H2 e2 => hr d H2 Q hc (q _ H2 ⟨g d, rfl, hC d hc, hD.ex e2, b.trans (ex_but e2)⟩)
/-- two drawn ones -/
theorem ep_opDD {r : R2} {C2 : Int → Prop} {g : Int → Int → Int} (ha : EvP ta σ H (DP p H C)) (hb : ∀ H1, Drw p H1 → EvP tb σ H1 (DP p H1 C2)) (hr : ∀ d e H2 (Q : VK), C d → C2 e → Q (.int (g d e)) H2 → r (.int d) (.int e) H2 Q) (hC : ∀ d e, C d → C2 e → C1 (g d e)) : EvP (tOp r ta tb) σ H (DP p H C1) := fun Q q =>
  ha _ fun x H1 ⟨d, hv, hc, hD, b⟩ => by
    subst hv
    exact hb H1 hD _ fun y H2 ⟨e, hv2, hc2, hD2, b2⟩ => by
      subst hv2
      exact hr d e H2 Q hc hc2 (q _ H2 ⟨g d e, rfl, hC d e hc hc2, hD2, b.trans b2⟩)
/-- for k in range(drawn) -/
theorem q_forRP {j : Nat} (h : EvP te σ H P) (k : ∀ v H1, P v H1 → ∃ n : Nat, v = .int (n : Int) ∧ n ≤ 100000 ∧ ∃ Pv : Nat → L2.St → Hp → Prop, Pv 0 σ H1 ∧
    (∀ (i : Nat) σ' H', i < n → Pv i σ' H' → tu { D with nx := Pv (i + 1), ct := Pv (i + 1), bk := tz D } (σ'.set j (some (.int (i : Int)))) H') ∧ ∀ σ' H', Pv n σ' H' → tz D σ' H') :
    tSeq (tFor (iRng1 (tCons te tNil)) (gName j) tu) tz D σ H := h _ fun v H1 hv => by
  obtain ⟨n, rfl, hn, Pv, h0, hs, hd⟩ := k v H1 hv
  refine ⟨(n : Int), rfl, by omega, by omega, for_range (D := { D with nx := tz D }) (lo := 0) (n := n) Pv h0 (fun i σ' H' hi q => ?_) hd⟩
  have e0 : (0 : Int) + (i : Int) = (i : Int) := Int.zero_add _
  show tu { D with nx := Pv (i + 1), ct := Pv (i + 1), bk := tz D } (σ'.set j (some (.int ((0 : Int) + (i : Int))))) H'
  rw [e0]
  exact hs i σ' H' hi q
/-- the same, at a body's end -/
theorem s_forRP {j : Nat} (h : EvP te σ H P) (k : ∀ v H1, P v H1 → ∃ n : Nat, v = .int (n : Int) ∧ n ≤ 100000 ∧ ∃ Pv : Nat → L2.St → Hp → Prop, Pv 0 σ H1 ∧
    (∀ (i : Nat) σ' H', i < n → Pv i σ' H' → tu { D with nx := Pv (i + 1), ct := Pv (i + 1), bk := D.nx } (σ'.set j (some (.int (i : Int)))) H') ∧ ∀ σ' H', Pv n σ' H' → D.nx σ' H') :
    tFor (iRng1 (tCons te tNil)) (gName j) tu D σ H := q_forRP (tz := fun D => D.nx) (D := D) h k
/-- l.append(drawn) -/
theorem s_appP {l : Addr} {xs : List V} (ha : Ev ta σ H (.ref l)) (hl : H l = some (.lst xs)) (hz : xs.length < 100000) (h : ∀ H1, Ex H H1 → EvP te σ H1 P) (k : ∀ v H1, P v H1 → H1 l = some (.lst xs) ∧ D.nx σ (upd H1 l (.lst (xs ++ [v])))) :
    tDrop (tBM K "list" rAppend ta (tCons te tNil)) D σ H := ha H (Ex.refl H) _ fun H1 e1 =>
  ⟨Or.inl ⟨rfl, xs, sq_of (e1 l _ hl)⟩, h H1 e1 _ fun v H2 hv => ⟨l, xs, v, rfl, rfl, (k v H2 hv).1, sz_lt hz, (k v H2 hv).2⟩⟩
/-- tests -/
theorem etp_of {b : Bool} (h : EvT tt σ H b) : EtP tt σ H (fun b' H' => b' = b ∧ Ex H H') := fun Q q => h H (Ex.refl H) Q fun H2 e2 => q b H2 ⟨rfl, e2⟩
theorem etp_cmpD {r : R2} {y : V} {P2 : Bool → Hp → Prop} (ha : EvP ta σ H (DP p H C)) (hb : ∀ H1, Ev tb σ H1 y) (hr : ∀ d H2 (Q : VK), C d → (∀ b, Q (.bl b) H2) → r (.int d) y H2 Q) (k : ∀ b H', Drw p H' → But p H H' → P2 b H') : EtP (tTest (tOp r ta tb)) σ H P2 := fun Q q =>
  ha _ fun x H1 ⟨d, hv, hc, hD, b⟩ => by
    subst hv
    exact hb H1 H1 (Ex.refl H1) _ fun H2 e2 => hr d H2 _ hc fun b' => ⟨b', rfl, q b' H2 (k b' H2 (hD.ex e2) (b.trans (ex_but e2)))⟩
theorem etp_and {P1 P2 : Bool → Hp → Prop} (h1 : EtP t σ H P1) (h2 : ∀ H', P1 true H' → EtP u σ H' P2) (h3 : ∀ H', P1 false H' → P2 false H') : EtP (tAnd t u) σ H P2 := fun Q q =>
  h1 _ fun b H' hb => by
    cases b with
    | true => exact h2 H' hb Q q
    | false => exact q false H' (h3 H' hb)
theorem s_whenP {P2 : Bool → Hp → Prop} (h : EtP t σ H P2) (h1 : ∀ H', P2 true H' → tu D σ H') (h2 : ∀ H', P2 false H' → D.nx σ H') : tIfS t tu tNext D σ H := h _ fun b H' hb => by
  cases b with
  | true => exact h1 H' hb
  | false => exact h2 H' hb
/-- l[drawn] = e, e drawn -/
theorem s_setP {l : Addr} {to ti : TE} {P2 : V → Hp → Prop} (h : EvP te σ H P1) (ho : ∀ H1, Ev to σ H1 (.ref l)) (hi : ∀ v H1, P1 v H1 → ∀ H2, Ex H1 H2 → EvP ti σ H2 (P2))
    (k : ∀ v H1 H2 i H3, P1 v H1 → Ex H1 H2 → P2 i H3 → ∃ xs n j, i = .int n ∧ H3 l = some (.lst xs) ∧ ixN xs.length n = some j ∧ D.nx σ (upd H3 l (.lst (xs.set j v)))) : tAsg te (gSub to ti rSetL) D σ H := h _ fun v H1 hv =>
  ho H1 H1 (Ex.refl H1) _ fun H2 e2 => hi v H1 hv H2 e2 _ fun i H3 hi3 => by
    obtain ⟨xs, n, j, rfl, hl, hj, q⟩ := k v H1 H2 i H3 hv e2 hi3
    exact ⟨l, xs, n, j, rfl, rfl, hl, hj, q⟩
theorem dp_bk {p : Addr} {H H1 : Hp} {C C1 : Int → Prop} {v : V} {H' : Hp} (h : DP p H1 C v H') (b : But p H H1) (hC : ∀ d, C d → C1 d) : DP p H C1 v H' := let ⟨d, hv, hc, hD, b2⟩ := h; ⟨d, hv, hC d hc, hD, b.trans b2⟩
theorem ixN_of {n : Nat} {d : Int} (h0 : 0 ≤ d) (h1 : d < (n : Int)) : ixN n d = some d.toNat := by
  have e : d = ((d.toNat : Nat) : Int) := by omega
  rw [e]
  exact ixN_nat (by omega)
end
end Gd

set_option Elab.async false
set_option linter.all false
set_option maxRecDepth 100000
set_option maxHeartbeats 4000000
/-! Of our own: attributes, methods and dicts, by what evaluates. -/
namespace Gd
open PySem PySem.Spec PyProof.Rows L2 Evl
section
variable {K : PySem.W.Frag} {H : Hp} {σ : L2.St} {ta tb te tv td ty : TE} {t : TA} {D : Ends} {tz : TS} {a C dx : Addr} {fs : List (Str × V)} {f m : Str} {x y v z : V}
theorem ev_fld (h : Ev ta σ H (.ref a)) (ho : H a = some (.ins C dx fs)) (hc : Cls K C) (hn : NoAttr K C f) (hl : fs.lookup f = some v) : Ev (tFld K ta f) σ H v := fun H1 e Q q =>
  h H1 e _ fun H2 e2 => ⟨a, C, dx, fs, v, rfl, e2 _ _ (e _ _ ho), hc, hn, hl, q H2 e2⟩
theorem s_fld (hv : Ev tv σ H y) (ha : Ev ta σ H (.ref a)) (ho : H a = some (.ins C dx fs)) (hc : Cls K C) (hn : NoAttr K C f) (hz : fs.length < 1000) (k : ∀ H1, Ex H H1 → D.nx σ (upd H1 a (.ins C dx (putF f y fs)))) : sFld K ta tv f D σ H :=
  hv H (Ex.refl H) _ fun H1 e1 => ha H1 e1 _ fun H2 e2 => ⟨a, C, dx, fs, rfl, e2 _ _ (e1 _ _ ho), hc, hn, hz, k H2 (e1.trans e2)⟩
theorem q_fld (hv : Ev tv σ H y) (ha : Ev ta σ H (.ref a)) (ho : H a = some (.ins C dx fs)) (hc : Cls K C) (hn : NoAttr K C f) (hz : fs.length < 1000) (k : ∀ H1, Ex H H1 → tz D σ (upd H1 a (.ins C dx (putF f y fs)))) : tSeq (sFld K ta tv f) tz D σ H :=
  s_fld (D := { D with nx := tz D }) hv ha ho hc hn hz k
/-- o.f = [..], a new list -/
theorem s_fldL {xs : List V} (hv : EvL tv σ H xs) (ha : Ev ta σ H (.ref a)) (ho : H a = some (.ins C dx fs)) (hc : Cls K C) (hn : NoAttr K C f) (hz : fs.length < 1000) (k : ∀ p H1, H p = none → Ex H H1 → H1 p = some (.lst xs) → D.nx σ (upd H1 a (.ins C dx (putF f (.ref p) fs)))) : sFld K ta tv f D σ H :=
  hv H (Ex.refl H) _ fun p H1 hp e1 h1 => ha H1 e1 _ fun H2 e2 => ⟨a, C, dx, fs, rfl, e2 _ _ (e1 _ _ ho), hc, hn, hz, k p H2 hp (e1.trans e2) (e2 _ _ h1)⟩
theorem q_fldL {xs : List V} (hv : EvL tv σ H xs) (ha : Ev ta σ H (.ref a)) (ho : H a = some (.ins C dx fs)) (hc : Cls K C) (hn : NoAttr K C f) (hz : fs.length < 1000) (k : ∀ p H1, H p = none → Ex H H1 → H1 p = some (.lst xs) → tz D σ (upd H1 a (.ins C dx (putF f (.ref p) fs)))) : tSeq (sFld K ta tv f) tz D σ H :=
  s_fldL (D := { D with nx := tz D }) hv ha ho hc hn hz k
/-- o.f += e, ints -/
theorem s_fldaug {i j : Int} (ha : Ev ta σ H (.ref a)) (ho : H a = some (.ins C dx fs)) (hc : Cls K C) (hn : NoAttr K C f) (hl : fs.lookup f = some (.int i)) (hv : ∀ H1, Ex H H1 → Ev tv σ H1 (.int j)) (hz : fs.length < 1000) (k : ∀ H1, Ex H H1 → D.nx σ (upd H1 a (.ins C dx (putF f (.int (i + j)) fs)))) : sFldAug K ta tv L2.rAdd f D σ H :=
  ha H (Ex.refl H) _ fun H1 e1 => ⟨a, C, dx, fs, .int i, rfl, e1 _ _ ho, hc, hn, hl, hv H1 e1 H1 (Ex.refl H1) _ fun H2 e2 => ⟨i, j, rfl, rfl, dx, fs, e2 _ _ (e1 _ _ ho), hz, k H2 (e1.trans e2)⟩⟩
theorem q_fldaug {i j : Int} (ha : Ev ta σ H (.ref a)) (ho : H a = some (.ins C dx fs)) (hc : Cls K C) (hn : NoAttr K C f) (hl : fs.lookup f = some (.int i)) (hv : ∀ H1, Ex H H1 → Ev tv σ H1 (.int j)) (hz : fs.length < 1000) (k : ∀ H1, Ex H H1 → tz D σ (upd H1 a (.ins C dx (putF f (.int (i + j)) fs)))) : tSeq (sFldAug K ta tv L2.rAdd f) tz D σ H :=
  s_fldaug (D := { D with nx := tz D }) ha ho hc hn hl hv hz k
/-- o.m(..) -/
theorem ep_meth {sp : Sp} {E : XK} {vs : List V} {P : V → Hp → Prop} (ha : Ev ta σ H (.ref a)) (ho : H a = some (.ins C dx fs)) (hl : fs.lookup m = none) (ht : EvA t σ H vs) (hs : ∀ H1, Ex H H1 → ∀ Q : VK, (∀ v H', P v H' → Q v H') → sp (.ref a :: (vs ++ [])) H1 Q E) : EvP (tMeth C m sp [] E ta t) σ H P := fun Q q =>
  ha H (Ex.refl H) _ fun H1 e1 => ⟨a, dx, fs, rfl, e1 _ _ ho, hl, ht H1 e1 _ fun H2 e2 => hs H2 (e1.trans e2) Q q⟩
theorem ep_call {sp : Sp} {E : XK} {vs dvs : List V} {P : V → Hp → Prop} (ht : EvA t σ H vs) (hs : ∀ H1, Ex H H1 → ∀ Q : VK, (∀ v H', P v H' → Q v H') → sp (vs ++ dvs) H1 Q E) : EvP (tCall sp dvs E t) σ H P := fun Q q => ht H (Ex.refl H) _ fun H1 e1 => hs H1 e1 Q q
theorem q_dropP {P : V → Hp → Prop} (h : EvP te σ H P) (k : ∀ v H', P v H' → tz D σ H') : tSeq (tDrop te) tz D σ H := h _ k
theorem s_dropP {P : V → Hp → Prop} (h : EvP te σ H P) (k : ∀ v H', P v H' → D.nx σ H') : tDrop te D σ H := h _ k
/-- the truth of a bool that is read as any value -/
theorem et_truB {b : Bool} (h : Ev te σ H (.bl b)) : EvT (fun σ H Q => te σ H fun x H' => ∃ k, TruV K x H' k ∧ Q k H') σ H b := fun H1 e Q q => h H1 e _ fun H2 e2 => ⟨b, rfl, q H2 e2⟩
/-- d[k], d[k] = v -/
theorem ev_dget {kvs : List (Key × V)} {k : Key} (h : Ev td σ H (.ref a)) (hk : Ev ty σ H (kV k)) (hd : H a = some (.dK kvs)) (hv : valV kvs k = some v) : Ev (tDGet td ty) σ H v := fun H1 e Q q =>
  h H1 e _ fun H2 e2 => hk H2 (e.trans e2) _ fun H3 e3 => ⟨a, v, rfl, by rw [← hv]; exact DGet.k (e3 _ _ (e2 _ _ (e _ _ hd))), q H3 (e2.trans e3)⟩
theorem s_dput {kvs : List (Key × V)} {k : Key} (hv : Ev tv σ H v) (h : Ev td σ H (.ref a)) (hk : Ev ty σ H (kV k)) (hd : H a = some (.dK kvs)) (hz : kvs.length < 1000) (q : ∀ H1, Ex H H1 → D.nx σ (upd H1 a (.dK (putK kvs k v)))) : sDPut td ty tv D σ H :=
  hv H (Ex.refl H) _ fun H1 e1 => h H1 e1 _ fun H2 e2 => hk H2 (e1.trans e2) _ fun H3 e3 => ⟨a, _, rfl, DPut.k (e3 _ _ (e2 _ _ (e1 _ _ hd))) (Nat.lt_of_lt_of_le hz (by decide)), q H3 ((e1.trans e2).trans e3)⟩
theorem q_dput {kvs : List (Key × V)} {k : Key} (hv : Ev tv σ H v) (h : Ev td σ H (.ref a)) (hk : Ev ty σ H (kV k)) (hd : H a = some (.dK kvs)) (hz : kvs.length < 1000) (q : ∀ H1, Ex H H1 → tz D σ (upd H1 a (.dK (putK kvs k v)))) : tSeq (sDPut td ty tv) tz D σ H :=
  s_dput (D := { D with nx := tz D }) hv h hk hd hz q
end
end Gd
namespace Gd
open PySem PySem.Spec PyProof.Rows L2 Evl
/-- [..][drawn] -/
theorem ep_ixD {K : PySem.W.Frag} {H : Hp} {σ : L2.St} {ta tb : TE} {p : Addr} {C1 : Int → Prop} {ms : List Int} (hl : EvL ta σ H (ms.map V.int)) (hD : Drw p H) (hb : ∀ H1, Ex H H1 → EvP tb σ H1 (DP p H1 fun d => 0 ≤ d ∧ d < (ms.length : Int))) (hC : ∀ m ∈ ms, C1 m) :
    EvP (tOp (rIxL K) ta tb) σ H (DP p H C1) := fun Q q =>
  hl H (Ex.refl H) _ fun l H1 hl0 e1 h1 => hb H1 e1 _ fun v H2 ⟨d, hv, hd, hD2, b⟩ => by
    subst hv
    have nlp : l ≠ p := fun e => by
      obtain ⟨ds, h, _⟩ := hD
      rw [e, h] at hl0
      cases hl0
    obtain ⟨j, rfl⟩ : ∃ j : Nat, d = (j : Int) := ⟨d.toNat, by omega⟩
    have hlt : j < ms.length := by omega
    refine ⟨l, ms.map V.int, (j : Int), .int ms[j], rfl, rfl, sq_of (b _ _ nlp h1), atI_nat ?_, q _ H2 ⟨_, rfl, hC _ (List.getElem_mem _), hD2, (ex_but e1).trans b⟩⟩
    rw [List.getElem?_map, List.getElem?_eq_getElem hlt]
    rfl
theorem s_retPL {K : PySem.W.Frag} {te : TE} {σ : L2.St} {H : Hp} {D : Ends} {P : V → Hp → Prop} (h : EvP te σ H P) (k : ∀ v H', P v H' → D.rt v H') : tRet te D σ H := h _ k
end Gd

set_option Elab.async false
set_option linter.all false
set_option maxRecDepth 100000
set_option maxHeartbeats 4000000
/-! Of our own: tests that change the heap, slices of int lists, lists of int lists. -/
namespace Gd
open PySem PySem.Spec PyProof.Rows L2 Evl
section
variable {K : PySem.W.Frag} {H : Hp} {σ : L2.St} {ta tb te : TE} {t u : TT} {D : Ends} {tz tu : TS}
theorem rc_isBool {b : Bool} : RC (rIsi K) [.bl b, .ty "bool"] H (.bl true) := fun H1 _ _ q => ⟨_, _, _, _, true, rfl, .ty "bool", .base (.bl b), kit_ty (by decide +kernel), q H1 (Ex.refl H1)⟩
theorem etp_or {P1 P2 : Bool → Hp → Prop} (h1 : EtP t σ H P1) (h3 : ∀ H', P1 true H' → P2 true H') (h2 : ∀ H', P1 false H' → EtP u σ H' P2) : EtP (tOr t u) σ H P2 := fun Q q =>
  h1 _ fun b H' hb => by
    cases b with
    | true => exact q true H' (h3 H' hb)
    | false => exact h2 H' hb Q q
theorem etp_op {r : R2} {P : V → Hp → Prop} {P2 : Bool → Hp → Prop} (ha : EvP ta σ H P) (hb : ∀ v H1, P v H1 → ∃ y b, Ev tb σ H1 y ∧ RV r v y H1 (.bl b) ∧ ∀ H', Ex H1 H' → P2 b H') : EtP (tTest (tOp r ta tb)) σ H P2 := fun Q q =>
  ha _ fun v H1 hv => by
    obtain ⟨y, b, h2, h3, h4⟩ := hb v H1 hv
    exact h2 H1 (Ex.refl H1) _ fun H2 e2 => h3 H2 e2 _ fun H3 e3 => ⟨b, rfl, q b H3 (h4 H3 (e2.trans e3))⟩
theorem etp_imp {P1 P2 : Bool → Hp → Prop} (h1 : EtP t σ H P1) (k : ∀ b H', P1 b H' → P2 b H') : EtP t σ H P2 := fun Q q => h1 Q fun b H' hb => q b H' (k b H' hb)
theorem etp_not {P1 P2 : Bool → Hp → Prop} (h1 : EtP t σ H P1) (k : ∀ b H', P1 b H' → P2 (!b) H') : EtP (tNot t) σ H P2 := fun Q q => h1 _ fun b H' hb => q (!b) H' (k b H' hb)
theorem etp_B {P : V → Hp → Prop} {P2 : Bool → Hp → Prop} (h : EvP te σ H P) (k : ∀ v H', P v H' → ∃ b, v = .bl b ∧ P2 b H') : EtP (tB te) σ H P2 := fun Q q => h _ fun v H' hv => by
  obtain ⟨b, rfl, hb⟩ := k v H' hv
  exact ⟨b, rfl, q b H' hb⟩
theorem q_whenP {P2 : Bool → Hp → Prop} (h : EtP t σ H P2) (h1 : ∀ H', P2 true H' → tu { D with nx := tz D } σ H') (h2 : ∀ H', P2 false H' → tz D σ H') : tSeq (tIfS t tu tNext) tz D σ H := s_whenP (D := { D with nx := tz D }) h h1 h2
theorem cut_ints (cs : List Int) (i j : Nat) : cutV (cs.map V.int) (some (i : Int)) (some (j : Int)) = ((cs.drop i).take (j - i)).map V.int := by
  unfold cutV
  rw [HT.sIx_nat, HT.sIx_nat, List.length_map, ← List.map_drop, ← List.map_take]
  congr 1
  rcases Nat.lt_or_ge cs.length i with h | h
  · rw [List.drop_eq_nil_of_le (by omega), List.drop_eq_nil_of_le (by omega), List.take_nil, List.take_nil]
  · rw [Nat.min_eq_left h]
    rcases Nat.lt_or_ge cs.length j with g | g
    · rw [Nat.min_eq_right (by omega), List.take_of_length_le (by rw [List.length_drop]; omega), List.take_of_length_le (by rw [List.length_drop]; omega)]
    · rw [Nat.min_eq_left g]
theorem cut_from (cs : List Int) (i : Nat) : cutV (cs.map V.int) (some (i : Int)) none = (cs.drop i).map V.int := by
  unfold cutV
  rw [HT.sIx_nat, HT.sIx_none, List.length_map, ← List.map_drop, ← List.map_take]
  congr 1
  rcases Nat.lt_or_ge cs.length i with h | h
  · rw [List.drop_eq_nil_of_le (by omega), List.drop_eq_nil_of_le (by omega), List.take_nil]
  · rw [Nat.min_eq_left h, List.take_of_length_le (by rw [List.length_drop]; omega)]
/-- lists of int lists -/
def Pcs (H : Hp) : List Addr → List (List Int) → Prop
  | [], [] => True
  | a :: as, l :: ls => H a = some (.lst (l.map V.int)) ∧ Pcs H as ls
  | _, _ => False
theorem Pcs.keep {H H' : Hp} : ∀ {as : List Addr} {ls : List (List Int)}, Pcs H as ls → (∀ a o, a ∈ as → H a = some o → H' a = some o) → Pcs H' as ls
  | [], [], _, _ => trivial
  | a :: as, l :: ls, h, k => ⟨k a _ (List.mem_cons_self) h.1, Pcs.keep h.2 fun b o m => k b o (List.mem_cons_of_mem _ m)⟩
  | [], _ :: _, h, _ => h.elim
  | _ :: _, [], h, _ => h.elim
theorem Pcs.ex {H H' : Hp} {as : List Addr} {ls : List (List Int)} (h : Pcs H as ls) (e : Ex H H') : Pcs H' as ls := h.keep fun a o _ => e a o
theorem Pcs.len {H : Hp} : ∀ {as : List Addr} {ls : List (List Int)}, Pcs H as ls → as.length = ls.length
  | [], [], _ => rfl
  | a :: as, l :: ls, h => by rw [List.length_cons, List.length_cons, h.2.len]
  | [], _ :: _, h => h.elim
  | _ :: _, [], h => h.elim
theorem Pcs.snoc {H : Hp} : ∀ {as : List Addr} {ls : List (List Int)} {a : Addr} {l : List Int}, Pcs H as ls → H a = some (.lst (l.map V.int)) → Pcs H (as ++ [a]) (ls ++ [l])
  | [], [], _, _, _, h => ⟨h, trivial⟩
  | b :: as, m :: ls, _, _, g, h => ⟨g.1, g.2.snoc h⟩
  | [], _ :: _, _, _, g, _ => g.elim
  | _ :: _, [], _, _, g, _ => g.elim
theorem Pcs.at {H : Hp} : ∀ {as : List Addr} {ls : List (List Int)}, Pcs H as ls → ∀ i, i < as.length → ∃ a l, as[i]? = some a ∧ ls[i]? = some l ∧ a ∈ as ∧ H a = some (.lst (l.map V.int))
  | [], [], _, i, h => absurd h (Nat.not_lt_zero i)
  | a :: as, l :: ls, h, 0, _ => ⟨a, l, rfl, rfl, List.mem_cons_self, h.1⟩
  | a :: as, l :: ls, h, i + 1, g => by
    obtain ⟨b, m, h1, h2, h3, h4⟩ := h.2.at i (by simpa using g)
    exact ⟨b, m, by rw [List.getElem?_cons_succ]; exact h1, by rw [List.getElem?_cons_succ]; exact h2, List.mem_cons_of_mem _ h3, h4⟩
  | [], _ :: _, h, _, _ => h.elim
  | _ :: _, [], h, _, _ => h.elim
theorem Pcs.some {H : Hp} : ∀ {as : List Addr} {ls : List (List Int)}, Pcs H as ls → ∀ a ∈ as, ∃ o, H a = some o
  | [], [], _, a, h => nomatch h
  | b :: as, l :: ls, h, a, m => by
    rcases List.mem_cons.mp m with rfl | m
    · exact ⟨_, h.1⟩
    · exact h.2.some a m
  | [], _ :: _, h, _, _ => h.elim
  | _ :: _, [], h, _, _ => h.elim
/-- all but the given addresses keep what they hold -/
def Bu (L : List Addr) (H H' : Hp) : Prop := ∀ b o, b ∉ L → H b = some o → H' b = some o
theorem Bu.refl {L : List Addr} {H : Hp} : Bu L H H := fun _ _ _ h => h
theorem Bu.trans {L : List Addr} {H H1 H2 : Hp} (a : Bu L H H1) (b : Bu L H1 H2) : Bu L H H2 := fun c o n h => b c o n (a c o n h)
theorem Bu.mono {L L' : List Addr} {H H' : Hp} (b : Bu L H H') (m : ∀ a ∈ L, a ∈ L') : Bu L' H H' := fun c o n h => b c o (fun g => n (m c g)) h
theorem ex_bu {L : List Addr} {H H' : Hp} (e : Ex H H') : Bu L H H' := fun b o _ h => e b o h
theorem Bu.upd {L : List Addr} {H H' : Hp} {a : Addr} {o : HO} (b : Bu L H H') (m : a ∈ L ∨ H a = none) : Bu L H (upd H' a o) := fun c u n h => by
  rcases m with m | m
  · rw [upd_ne (fun e => n (by rw [e]; exact m))]
    exact b c u n h
  · rw [upd_ne (ne_of_none h m)]
    exact b c u n h
theorem el_callL {sp : Sp} {dvs xs ys : List V} {E : XK} (h : EvL te σ H xs) (hs : ∀ p H1, H1 p = some (.lst xs) → Ex H H1 → SpL sp ([.ref p] ++ dvs) H1 ys) : EvL (tCall sp dvs E (tCons te tNil)) σ H ys := fun H0 e Q q =>
  h H0 e _ fun p H1 _ e1 hp => hs p H1 hp (e.trans e1) H1 (Ex.refl H1) Q (fun p' H2 hp' e2 h2 => q p' H2 (fresh_back e1 hp') (e1.trans e2) h2) E
theorem len_flat {α : Type} {ps : List (List α)} {i : Nat} {l : List α} (h : ps[i]? = some l) : l.length ≤ ps.flatten.length := by
  induction ps generalizing i with
  | nil => simp at h
  | cons a r ih =>
    rw [List.flatten_cons, List.length_append]
    cases i with
    | zero => simp at h; subst h; omega
    | succ i => have := ih (by simpa using h); omega
theorem len_take_flat {α : Type} (ps : List (List α)) (i : Nat) : (ps.take i).flatten.length ≤ ps.flatten.length := by
  have h := congrArg List.length (congrArg List.flatten (List.take_append_drop i ps))
  rw [List.flatten_append, List.length_append] at h
  omega
theorem take_snocF {α : Type} {ps : List (List α)} {i : Nat} {l : List α} (h : ps[i]? = some l) : (ps.take (i + 1)).flatten = (ps.take i).flatten ++ l := by
  rw [List.take_succ, h]
  simp
end
end Gd

set_option Elab.async false
set_option linter.all false
set_option maxRecDepth 100000
set_option maxHeartbeats 4000000
/-! Of our own: a dict of the top whose keys are ints; keyword-only parameters. -/
namespace Gd
open PySem PySem.Spec PyProof.Rows L2 Evl
/-- the pairs of a dict with int keys, where it is one -/
def ikeys : List DictEntry → Option (List (Int × Value))
  | [] => some []
  | e :: r => match e.key with
    | .int k _ => if e.hash == hashInt k then (ikeys r).map fun l => (k, e.val) :: l else none
    | _ => none
theorem ikeys_all : ∀ {es : List DictEntry} {tb : List (Int × Value)}, ikeys es = some tb → ∀ e ∈ es, ∃ k, Value.isInt k e.key = true ∧ e.hash = hashInt k
  | [], _, _, e, m => nomatch m
  | d :: r, tb, h, e, m => by
    unfold ikeys at h
    split at h
    · rename_i k t hk
      split at h
      · rename_i hh
        cases g : ikeys r with
        | none => rw [g] at h; cases h
        | some l =>
          rcases List.mem_cons.mp m with rfl | m
          · exact ⟨k, by rw [hk]; simp [Value.isInt], by simpa using hh⟩
          · exact ikeys_all g e m
      · cases h
    · cases h
theorem ikeys_find : ∀ {es : List DictEntry} {tb : List (Int × Value)}, ikeys es = some tb → ∀ i, (es.find? fun e => Value.isInt i e.key).map (·.val) = tb.lookup i
  | [], tb, h, i => by
    unfold ikeys at h
    cases h
    rfl
  | d :: r, tb, h, i => by
    unfold ikeys at h
    split at h
    · rename_i k t hk
      split at h
      · cases g : ikeys r with
        | none => rw [g] at h; cases h
        | some l =>
          rw [g] at h
          cases h
          rw [List.find?_cons, hk, List.lookup_cons]
          have ih := ikeys_find g i
          by_cases e : i = k
          · subst e
            simp [Value.isInt]
          · have e1 : Value.isInt i (.int k t) = false := by
              simp [Value.isInt]
              intro z
              exact e z.symm
            have e2 : (i == k) = false := by simpa using e
            rw [e1, e2]
            exact ih
      · cases h
    · cases h
/-- at d: a dict of the top with int keys -/
structure ITab (K : PySem.W.Frag) (d : Addr) (tb : List (Int × Value)) : Prop where
  ex : ∃ es n, K.lookup d = some ⟨.type "dict", none, .dict es n, #[]⟩ ∧ ikeys es.toList = some tb
  low : (d == sysModules) = false
section
variable {X : Cx} {d : Addr} {tb : List (Int × Value)}
theorem itab_map {pins : List (Addr × Obj)} {σ : L2.St} {H : Hp} {s : Shared} (D : ITab X.K d tb) (I : Inv X pins σ H s) : s.heap.MapOf (intKind X.prog X.w) d (fun k => tb.lookup k) := by
  obtain ⟨es, n, hl, hk⟩ := D.ex
  refine ⟨_, es, n, I.kIn _ _ hl, ⟨rfl, rfl, rfl⟩, rfl, fun e he => ?_, fun k => ?_⟩
  · obtain ⟨k, h1, h2⟩ := ikeys_all hk e (Array.mem_toList_iff.mpr he)
    exact ⟨k, h1, h2⟩
  · have := ikeys_find hk k
    obtain ⟨l⟩ := es
    show findBy Value.isInt _ k = tb.lookup k
    unfold findBy
    rw [List.find?_toArray]
    exact this
theorem op_in_it (D : ITab X.K d tb) : OpR X (compareOp .In) (fun x y H Q => ∃ i : Int, x = .int i ∧ y = .ref d ∧ Q (.bl (tb.lookup i).isSome) H) := by
  intro pins s σ H x y v u Q I rx ry h
  obtain ⟨i, rfl, rfl, q⟩ := h
  obtain ⟨t, rfl⟩ := rx
  cases ry
  refine wpAny_in_of (knd := intKind X.prog X.w) (k := i) (by simp [intKind, Value.isInt]) D.low (itab_map D I) ?_
  exact ⟨.bl (tb.lookup i).isSome, H, I.tok _, rfl, q⟩
theorem ix_it (D : ITab X.K d tb) : IxR X (fun x y H Q => ∃ (i : Int) (u : Value) (v : V), x = .ref d ∧ y = .int i ∧ tb.lookup i = some u ∧ RelV v u ∧ Q v H) := by
  intro value slice pins s σ H x y v u Q I rx ry h hs
  obtain ⟨i, u0, r, rfl, rfl, e, ru, q⟩ := h
  obtain rfl : v = Value.ref d := rx
  obtain ⟨t, rfl⟩ := ry
  have hm := itab_map D I
  exact tail_any hm.typeIs slot_dict_getitem.lookup (wpAny_getItem_of (knd := intKind X.prog X.w) (k := i) (by simp [intKind, Value.isInt]) hm e ⟨r, H, I.tok _, ru, q⟩) hs
end
section
variable {H : Hp} {d : Addr} {tb : List (Int × Value)} {c : Int}
theorem rv_it {u : Value} (h : tb.lookup c = some u) : RV (fun x y H Q => ∃ i : Int, x = .int i ∧ y = .ref d ∧ Q (.bl (tb.lookup i).isSome) H) (.int c) (.ref d) H (.bl true) := fun H1 _ _ q => ⟨c, rfl, rfl, by rw [h]; exact q H1 (Ex.refl H1)⟩
theorem rv_it0 (h : tb.lookup c = none) : RV (fun x y H Q => ∃ i : Int, x = .int i ∧ y = .ref d ∧ Q (.bl (tb.lookup i).isSome) H) (.int c) (.ref d) H (.bl false) := fun H1 _ _ q => ⟨c, rfl, rfl, by rw [h]; exact q H1 (Ex.refl H1)⟩
theorem rv_ix_it {a : Addr} (h : tb.lookup c = some (.ref a)) : RV (fun x y H Q => ∃ (i : Int) (u : Value) (v : V), x = .ref d ∧ y = .int i ∧ tb.lookup i = some u ∧ RelV v u ∧ Q v H) (.ref d) (.int c) H (.ref a) := fun H1 _ _ q => ⟨c, .ref a, .ref a, rfl, rfl, h, rfl, q H1 (Ex.refl H1)⟩
end
section
variable {K : PySem.W.Frag} {H : Hp} {σ : L2.St} {ta tv : TE} {D : Ends} {tz : TS} {a C dx : Addr} {fs : List (Str × V)} {f : Str}
/-- o.f = e, where e changes the heap -/
theorem s_fldP {P : V → Hp → Prop} (hv : EvP tv σ H P) (k : ∀ v H1, P v H1 → ∃ C dx fs, H1 a = some (.ins C dx fs) ∧ (∀ H2, Ex H1 H2 → Ev ta σ H2 (.ref a)) ∧ Cls K C ∧ NoAttr K C f ∧ fs.length < 1000 ∧ ∀ H2, Ex H1 H2 → D.nx σ (upd H2 a (.ins C dx (putF f v fs)))) : sFld K ta tv f D σ H :=
  hv _ fun v H1 h1 => by
    obtain ⟨C, dx, fs, ho, ha, hc, hn, hz, q⟩ := k v H1 h1
    exact ha H1 (Ex.refl H1) H1 (Ex.refl H1) _ fun H2 e2 => ⟨a, C, dx, fs, rfl, e2 _ _ ho, hc, hn, hz, q H2 e2⟩
theorem q_fldP {P : V → Hp → Prop} (hv : EvP tv σ H P) (k : ∀ v H1, P v H1 → ∃ C dx fs, H1 a = some (.ins C dx fs) ∧ (∀ H2, Ex H1 H2 → Ev ta σ H2 (.ref a)) ∧ Cls K C ∧ NoAttr K C f ∧ fs.length < 1000 ∧ ∀ H2, Ex H1 H2 → tz D σ (upd H2 a (.ins C dx (putF f v fs)))) : tSeq (sFld K ta tv f) tz D σ H :=
  s_fldP (D := { D with nx := tz D }) hv k
end
section
variable {H : Hp} {σ : L2.St} {td ty tv : TE} {D : Ends} {tz : TS} {a : Addr}
/-- d[k] = e, where e changes the heap -/
theorem s_dputP {P : V → Hp → Prop} {k : Key} (hv : EvP tv σ H P) (q : ∀ v H1, P v H1 → ∃ kvs, H1 a = some (.dK kvs) ∧ (∀ H2, Ex H1 H2 → Ev td σ H2 (.ref a)) ∧ (∀ H2, Ex H1 H2 → Ev ty σ H2 (kV k)) ∧ kvs.length < 1000 ∧ ∀ H2, Ex H1 H2 → D.nx σ (upd H2 a (.dK (putK kvs k v)))) : sDPut td ty tv D σ H :=
  hv _ fun v H1 h1 => by
    obtain ⟨kvs, hd, ha, hk, hz, g⟩ := q v H1 h1
    exact ha H1 (Ex.refl H1) H1 (Ex.refl H1) _ fun H2 e2 => hk H2 e2 H2 (Ex.refl H2) _ fun H3 e3 => ⟨a, _, rfl, DPut.k (e3 _ _ (e2 _ _ hd)) (Nat.lt_of_lt_of_le hz (by decide)), g H3 (e2.trans e3)⟩
theorem q_dputP {P : V → Hp → Prop} {k : Key} (hv : EvP tv σ H P) (q : ∀ v H1, P v H1 → ∃ kvs, H1 a = some (.dK kvs) ∧ (∀ H2, Ex H1 H2 → Ev td σ H2 (.ref a)) ∧ (∀ H2, Ex H1 H2 → Ev ty σ H2 (kV k)) ∧ kvs.length < 1000 ∧ ∀ H2, Ex H1 H2 → tz D σ (upd H2 a (.dK (putK kvs k v)))) : tSeq (sDPut td ty tv) tz D σ H :=
  s_dputP (D := { D with nx := tz D }) hv q
end
section
variable {K : PySem.W.Frag} {H : Hp} {σ : L2.St} {tl : TE} {tu tz : TS} {D : Ends} {a1 b1 a2 b2 : TE} {x1 y1 x2 y2 : V}
theorem q_forLP {P : V → Hp → Prop} {j : Nat} (h : EvP tl σ H P) (k : ∀ v H1, P v H1 → ∃ a xs, v = .ref a ∧ SqL K H1 a xs ∧ ∃ Pv : Nat → L2.St → Hp → Prop, Pv 0 σ H1 ∧ (∀ i σ' H', i ≤ xs.length → Pv i σ' H' → SqL K H' a xs) ∧
    (∀ i x σ' H', xs[i]? = some x → Pv i σ' H' → tu { D with nx := Pv (i + 1), ct := Pv (i + 1), bk := tz D } (σ'.set j (some x)) H') ∧ (∀ σ' H', Pv xs.length σ' H' → tz D σ' H')) : tSeq (tFor (iList K tl) (gName j) tu) tz D σ H :=
  h _ fun v H1 hv => by
    obtain ⟨a, xs, rfl, hx, Pv, h0, hl, hs, hd⟩ := k v H1 hv
    exact ⟨a, rfl, ⟨xs, hx⟩, for_list (g := gName j) (D := { D with nx := tz D }) Pv h0 hl hs hd⟩
theorem ep_two (h1 : EvL (tLst (tCons a1 (tCons b1 tNil))) σ H [x1, y1]) (h2 : EvL (tLst (tCons a2 (tCons b2 tNil))) σ H [x2, y2]) :
    EvP (tLst (tCons (tLst (tCons a1 (tCons b1 tNil))) (tCons (tLst (tCons a2 (tCons b2 tNil))) tNil))) σ H (fun v H' => ∃ p p1 p2, v = .ref p ∧ Ex H H' ∧ H' p = some (.lst [.ref p1, .ref p2]) ∧ H' p1 = some (.lst [x1, y1]) ∧ H' p2 = some (.lst [x2, y2])) := fun Q q => by
  show tLst (tCons a1 (tCons b1 tNil)) σ H fun x H1 => tLst (tCons a2 (tCons b2 tNil)) σ H1 fun y H2 => [x, y].length ≤ sizeLine ∧ ∀ p, H2 p = none → Q (.ref p) (upd H2 p (.lst [x, y]))
  exact h1 H (Ex.refl H) _ fun p1 H1 hp1 e1 d1 => h2 H1 e1 _ fun p2 H2 hp2 e2 d2 => ⟨sz_of (n := 2) (by decide), fun p hp => q _ _ ⟨p, p1, p2, rfl, (e1.trans e2).trans (Ex.new hp), upd_same, by rw [upd_ne (ne_of_none (e2 _ _ d1) hp)]; exact e2 _ _ d1, by rw [upd_ne (ne_of_none d2 hp)]; exact d2⟩⟩
end
theorem el_callN {sp : Sp} {gV : List V → List V → List V} {E : XK} {H : Hp} {σ : L2.St} {n m : Nat} {t tk : TA} {vs zs xs : List V} (h1 : EvA t σ H vs) (h2 : EvA tk σ H zs) (l1 : vs.length = n) (l2 : zs.length = m) (hs : SpL sp (gV vs zs) H xs) : EvL (tCallN n m sp gV E t tk) σ H xs := fun H0 e Q q =>
  h1 H0 e _ fun H1 e1 => h2 H1 (e.trans e1) _ fun H2 e2 => ⟨l1, l2, hs H2 ((e.trans e1).trans e2) Q (fun p H3 hp e3 h3 => q p H3 (fresh_back (e1.trans e2) hp) ((e1.trans e2).trans e3) h3) E⟩
theorem rv_isNon {H : Hp} {v : V} : RV (fun x y H Q => y = .non ∧ Q (.bl (decide (x = .non))) H) v .non H (.bl (decide (v = .non))) := fun H1 _ _ q => ⟨rfl, q H1 (Ex.refl H1)⟩
/-! ### keyword-only parameters -/
theorem fund_mk {K : PySem.W.Frag} {x qual : Str} {st : Stmt} {f kD : Addr} {kws : List (Str × V)} {oc : Value} {od an : Option Addr} {osl : Array (Option Value)} {doc pm cdv ct : Value}
    (l : K.lookup f = some ⟨oc, od, .func (PySem.W.fnOf x qual (defArgs st) (defBody st) (defScope st) .none (.ref kD) doc pm an cdv ct), osl⟩)
    (c : PySem.W.codeIn K cdv qual = true) (k : PySem.W.keepIn K (.ref f) = true) (hq : ∀ q ∈ kws, ∃ u, PySem.W.nsIn K kD q.1 = some (some u) ∧ RelV q.2 u) :
    FunD K x qual (defArgs st) (defBody st) (defScope st) [] kws f (PySem.W.fnOf x qual (defArgs st) (defBody st) (defScope st) .none (.ref kD) doc pm an cdv ct) :=
  ⟨⟨oc, od, .none, .ref kD, doc, pm, an, cdv, ct, osl, rfl, l, c, .inl ⟨rfl, rfl⟩, .inr ⟨kD, rfl, hq⟩⟩, k⟩
theorem hq2 {K : PySem.W.Frag} {D : Addr} {x y : Str} {i j : Int} {t u : Tok} (h1 : PySem.W.nsIn K D x = some (some (.int i t))) (h2 : PySem.W.nsIn K D y = some (some (.int j u))) : ∀ q ∈ [(x, V.int i), (y, V.int j)], ∃ u, PySem.W.nsIn K D q.1 = some (some u) ∧ RelV q.2 u := by
  intro q m
  rcases List.mem_cons.mp m with rfl | m
  · exact ⟨_, h1, t, rfl⟩
  · rw [List.mem_singleton.mp m]
    exact ⟨_, h2, u, rfl⟩
end Gd

set_option Elab.async false
set_option linter.all false
set_option maxRecDepth 100000
set_option maxHeartbeats 4000000
/-! Of our own: decimals. -/
namespace Gd
open PySem PySem.Spec PyProof.Rows L2 Evl
open PySem.NumText (AllDigits digitsVal)
def decL (n : Nat) : List Nat := (Nat.toDigits 10 n).map Char.toNat
def intL (i : Int) : List Nat := if i < 0 then 45 :: decL i.natAbs else decL i.natAbs
def decZ (n : Nat) : List Nat := if n = 0 then [] else decL n
theorem show_nat (n : Nat) : (PySem.Str.ofString (toString ((n : Nat) : Int))).cps.toList = decL n := PySem.W.KIN.signs_num n
theorem ofS_list (s : String) : (PySem.Str.ofString s).cps.toList = s.toList.map Char.toNat := by
  rw [PySem.Str.ofString_eq_toList]
theorem show_int (i : Int) : (PySem.Str.ofString (toString i)).cps.toList = intL i := by
  unfold intL
  by_cases h : i < 0
  · rw [if_pos h, PyProof.Rows.toString_neg h, ofS_list, String.toList_append, List.map_append, ← ofS_list]
    have e : (0 - i) = ((i.natAbs : Nat) : Int) := by omega
    rw [e, ← ofS_list, show_nat]
    rfl
  · rw [if_neg h]
    have e : i = ((i.natAbs : Nat) : Int) := by omega
    rw [← show_nat, ← e]
theorem dec_small {n : Nat} (h : n < 10) : decL n = [48 + n] := by
  unfold decL
  rw [Nat.toDigits_of_lt_base h]
  have : ∀ n < 10, [Nat.digitChar n].map Char.toNat = [48 + n] := by decide
  exact this n h
theorem dec_step {n : Nat} (h : 10 ≤ n) : decL n = decL (n / 10) ++ [48 + n % 10] := by
  have hm : n % 10 < 10 := Nat.mod_lt n (by decide)
  have t : Nat.toDigits 10 (n / 10) ++ Nat.toDigits 10 (n % 10) = Nat.toDigits 10 (10 * (n / 10) + n % 10) := Nat.toDigits_append_toDigits (by decide) (by omega) hm
  rw [Nat.div_add_mod] at t
  have s := dec_small hm
  unfold decL at *
  rw [← t, List.map_append, s]
theorem decZ_step {n : Nat} (h : n ≠ 0) : decZ n = decZ (n / 10) ++ [48 + n % 10] := by
  unfold decZ
  rw [if_neg h]
  by_cases g : n < 10
  · rw [if_pos (by omega), dec_small g, List.nil_append, Nat.mod_eq_of_lt g]
  · rw [if_neg (by omega), dec_step (by omega)]
theorem dec_head (n : Nat) (h : n ≠ 0) : ∃ c r, decL n = c :: r ∧ 49 ≤ c ∧ c ≤ 57 := by
  induction n using Nat.strongRecOn with
  | _ n ih =>
    by_cases g : n < 10
    · exact ⟨48 + n, [], dec_small g, by omega, by omega⟩
    · obtain ⟨c, r, e, h1, h2⟩ := ih (n / 10) (by omega) (by omega)
      exact ⟨c, r ++ [48 + n % 10], by rw [dec_step (by omega), e]; rfl, h1, h2⟩
theorem dec_all (n : Nat) : ∀ c ∈ decL n, 48 ≤ c ∧ c ≤ 57 := by
  induction n using Nat.strongRecOn with
  | _ n ih =>
    by_cases g : n < 10
    · rw [dec_small g]
      intro c m
      rw [List.mem_singleton.mp m]
      omega
    · rw [dec_step (by omega)]
      intro c m
      rcases List.mem_append.mp m with m | m
      · exact ih (n / 10) (by omega) c m
      · rw [List.mem_singleton.mp m]
        have := Nat.mod_lt n (show 0 < 10 by decide)
        omega
theorem dec_ne (n : Nat) : decL n ≠ [] := by
  by_cases h : n = 0
  · subst h
    rw [dec_small (by decide)]
    exact List.cons_ne_nil _ _
  · obtain ⟨c, r, e, _⟩ := dec_head n h
    rw [e]
    exact List.cons_ne_nil _ _
theorem dec_len_le : ∀ (k : Nat) {n : Nat}, n < 10 ^ (k + 1) → (decL n).length ≤ k + 1
  | 0, n, h => by rw [dec_small (by simpa using h)]; exact Nat.le_refl _
  | k + 1, n, h => by
    by_cases g : n < 10
    · rw [dec_small g]; simp
    · rw [dec_step (by omega), List.length_append]
      have := dec_len_le k (n := n / 10) (by rw [Nat.pow_succ] at h; omega)
      simp
      omega
theorem dec_len_gt : ∀ (k : Nat) {n : Nat}, 10 ^ k ≤ n → k < (decL n).length
  | 0, n, h => List.length_pos_iff.mpr (dec_ne n)
  | k + 1, n, h => by
    have hp : 0 < 10 ^ k := Nat.pow_pos (by decide)
    rw [Nat.pow_succ] at h
    rw [dec_step (by omega), List.length_append]
    have := dec_len_gt k (n := n / 10) (by omega)
    simp
    omega
theorem dec_val (n : Nat) : digitsVal (decL n) = n := PySem.W.KIN.val_back n
theorem int_text {x : Str} {i : Int} (h : x.cps.toList = intL i) (hl : x.length ≤ 4300) : PySem.intText? x = some i := by
  unfold intL at h
  by_cases g : i < 0
  · rw [if_pos g] at h
    rw [PySem.intText_neg h (dec_all _) (dec_ne _) hl, dec_val]
    congr 1
    omega
  · rw [if_neg g] at h
    rw [PySem.intText_digits (by rw [h]; exact dec_all _) (by rw [h]; exact dec_ne _) hl, h, dec_val]
    congr 1
    omega
theorem log_ok {n : Nat} (h : n < 10 ^ 500) : n.log2 < 1920 := by
  by_cases h0 : n = 0
  · subst h0; decide
  · exact (Nat.log2_lt h0).mpr (Nat.lt_trans h (by decide +kernel))
theorem op_rep_str {X : Cx} : OpR X (binaryOp .Mult) (fun x y H Q => ∃ z n, x = .str z ∧ y = .int n ∧ MulOk z n ∧ Q (.str (Txt.mul z n)) H) := by
  intro pins s σ H x y v u Q I rx ry h
  obtain ⟨z, n, rfl, rfl, hz, q⟩ := h
  obtain ⟨t, rfl⟩ := rx
  obtain ⟨t', rfl⟩ := ry
  exact PySem.SB.mul hz (fun t' k => ⟨.str (Txt.mul z n), H, I.tok _, ⟨_, rfl⟩, q⟩)
section
variable {K : PySem.W.Frag} {H : Hp} {σ : L2.St} {ta tb te to : TE}
theorem rv_repS {z : Str} {n : Int} (h : MulOk z n) : RV (fun x y H Q => ∃ z n, x = .str z ∧ y = .int n ∧ MulOk z n ∧ Q (.str (Txt.mul z n)) H) (.str z) (.int n) H (.str (Txt.mul z n)) := fun H1 _ _ q => ⟨z, n, rfl, rfl, h, q H1 (Ex.refl H1)⟩
theorem rv_notNon {v : V} : RV (fun x y H Q => y = .non ∧ Q (.bl (!decide (x = .non))) H) v .non H (.bl (!decide (v = .non))) := fun H1 _ _ q => ⟨rfl, q H1 (Ex.refl H1)⟩
theorem rc_abs {i : Int} : RC (fun xs H Q => ∃ i, xs = [.int i] ∧ Q (.int (if i < 0 then -i else i)) H) [.int i] H (.int (if i < 0 then -i else i)) := fun H1 _ _ q => ⟨i, rfl, q H1 (Ex.refl H1)⟩
theorem rc_strI {i : Int} (h : i.natAbs < 10 ^ 500) : RC (fun xs H Q => ∃ i, xs = [.int i] ∧ i.natAbs.log2 < 1920 ∧ Q (.str (toString i)) H) [.int i] H (.str (toString i)) := fun H1 _ _ q => ⟨i, rfl, log_ok h, q H1 (Ex.refl H1)⟩
theorem ev_starts {a b : Str} (ho : Ev to σ H (.str a)) (h : Ev te σ H (.str b)) : Ev (tM1 (fun x xs H Q => ∃ a b, x = .str a ∧ xs = [.str b] ∧ Q (.bl (Txt.startswith a b)) H) to te) σ H (.bl (Txt.startswith a b)) := fun H0 e Q q =>
  ho H0 e _ fun H1 e1 => ⟨⟨a, rfl⟩, h H1 (e.trans e1) _ fun H2 e2 => ⟨a, b, rfl, rfl, q H2 (e1.trans e2)⟩⟩
theorem rv_inSign {c : Nat} {z : Str} : RV (fun x y H Q => ∃ (c : Nat) (z : Str), x = .str ⟨#[c]⟩ ∧ y = .str z ∧ Q (.bl (decide (c ∈ z.cps.toList))) H) (.str ⟨#[c]⟩) (.str z) H (.bl (decide (c ∈ z.cps.toList))) := fun H1 _ _ q => ⟨c, z, rfl, rfl, q H1 (Ex.refl H1)⟩
theorem rc_all {p : Addr} {bs : List Bool} (h : SqL K H p (bs.map V.bl)) : RC (rAll K) [.ref p] H (.bl (bs.all id)) := fun H1 e _ q => ⟨p, bs, rfl, ex_l e h, q H1 (Ex.refl H1)⟩
theorem ev_cbL {r : List V → Hp → VK → Prop} {xs : List V} {z : V} (h : EvL te σ H xs) (hr : ∀ p H1, H1 p = some (.lst xs) → RC r [.ref p] H1 z) : Ev (tCB r (tCons te tNil)) σ H z := fun H0 e Q q =>
  h H0 e _ fun p H1 _ e1 hp => hr p H1 hp H1 (Ex.refl H1) Q fun H2 e2 => q H2 (e1.trans e2)
theorem starts_one {x : Str} {c : Nat} : Txt.startswith x ⟨#[c]⟩ = decide (x.cps.toList.head? = some c) := by
  unfold Txt.startswith
  rw [PySem.StrLaws.subAt_eq]
  have hl : x.length = x.cps.toList.length := rfl
  rw [hl]
  cases h : x.cps.toList with
  | nil => rfl
  | cons a r =>
    show (decide (0 + 1 ≤ r.length + 1) && ([a] == [c])) = decide (some a = some c)
    by_cases e : a = c
    · subst e; simp
    · simp [e]
theorem cut_one {x : Str} : (cutS x (some 1) none).cps.toList = x.cps.toList.drop 1 := by
  unfold cutS
  show (x.cps.toList.drop (HT.sIx x.length 0 (some ((1 : Nat) : Int)))).take (x.length - HT.sIx x.length 0 (some ((1 : Nat) : Int))) = _
  rw [HT.sIx_nat]
  have hl : x.length = x.cps.toList.length := rfl
  rw [hl]
  cases h : x.cps.toList with
  | nil => rfl
  | cons a r =>
    have e : min 1 (a :: r).length = 1 := by simp
    rw [e]
    show (r.take (r.length + 1 - 1)) = r
    simp
end
end Gd

set_option Elab.async false
set_option linter.all false
set_option maxRecDepth 100000
set_option maxHeartbeats 4000000
/-! Of our own: rules that hold within a comprehension (their relations name the top's part, not the context). -/
namespace Gd
open PySem PySem.Spec PyProof.Rows L2 Evl
section
variable {X : Cx} {K : PySem.W.Frag}
def rTupOf (K : PySem.W.Frag) : List V → Hp → VK → Prop := fun xs H Q => ∃ p ys, xs = [.ref p] ∧ ((SqL K H p ys ∧ ∀ l, H l = none → Q (.ref l) (upd H l (.tup ys))) ∨ (SqT K H p ys ∧ Q (.ref p) H))
def rLstOf (K : PySem.W.Frag) : List V → Hp → VK → Prop := fun xs H Q => ∃ p ys, xs = [.ref p] ∧ (SqL K H p ys ∨ SqT K H p ys) ∧ ∀ l, H l = none → Q (.ref l) (upd H l (.lst ys))
theorem sl_listK (e : X.K = K) : SlR X (rSlL K) := by subst e; exact sl_list
theorem sl_tupK (e : X.K = K) : SlR X (rSlT K) := by subst e; exact sl_tup
theorem ix_listK (e : X.K = K) : IxR X (rIxL K) := by subst e; exact ix_list
theorem ix_tupK (e : X.K = K) : IxR X (rIxT K) := by subst e; exact ix_tup
theorem call_tuple_ofK (e : X.K = K) : CallR X (.type "tuple") (rTupOf K) := by subst e; exact call_tuple_of
theorem call_list_ofK (e : X.K = K) : CallR X (.type "list") (rLstOf K) := by subst e; exact call_list_of
theorem call_len_seqK (e : X.K = K) : CallR X (.builtin "len") (rLenS K) := by subst e; exact call_len_seq
theorem pe_fldK {o : Expr} {pos : Pos} {n : Str} {te : TE} (e : X.K = K) (h : PE X o te) (hb : attributeBase o n X.env (eval o X.env) = eval o X.env) : PE X (.Attribute o n pos) (tFld K te n) := by subst e; exact pe_fld h hb
theorem pg_tupK {es : List Expr} {k : Nat} {pos : Pos} {t : TGs} {n : Nat} (e : X.K = K) (hc : X.calm = true) (h : PGs X es t)
    (hn : (assignEach es X.env).length = n := by rfl) (hst : (assignEach es X.env).findIdx? (·.1) = none := by rfl) : PG X (.Tuple es k pos) (gTup K n t) := by subst e; exact pg_tup hc h hn hst
end
end Gd

set_option Elab.async false
set_option linter.all false
set_option maxRecDepth 100000
set_option maxHeartbeats 4000000
/-! Of our own: values as data (Dp), dicts of ints, arguments that change the heap. -/
namespace Gd
open PySem PySem.Spec PyProof.Rows L2 Evl
/-! ### data under a heap that grows -/
section
variable {K : PySem.W.Frag} {H H' : Hp}
mutual
theorem dp_ex (e : Ex H H') : ∀ (d : PyData) (v : V), Dp K H v d → Dp K H' v d
  | .none, _, h => by cases h; exact .non
  | .bool _, _, h => by cases h; exact .bl _
  | .int _, _, h => by cases h; exact .int _
  | .str _, _, h => by cases h; exact .str _
  | .list ds, _, h => by cases h with | lst h1 h2 => exact .lst (ex_l e h1) (dpAll_ex e ds _ h2)
  | .tuple ds, _, h => by cases h with | tup h1 h2 => exact .tup (ex_t e h1) (dpAll_ex e ds _ h2)
  | .dict _, _, h => by cases h
theorem dpAll_ex (e : Ex H H') : ∀ (ds : List PyData) (vs : List V), DpAll K H vs ds → DpAll K H' vs ds
  | [], _, h => by cases h; exact .nil
  | d :: ds, _, h => by cases h with | cons a b => exact .cons (dp_ex e d _ a) (dpAll_ex e ds _ b)
end
theorem _root_.L2.Dp.ex {v : V} {d : PyData} (h : Dp K H v d) (e : Ex H H') : Dp K H' v d := dp_ex e d v h
theorem _root_.L2.DpAll.ex {vs : List V} {ds : List PyData} (h : DpAll K H vs ds) (e : Ex H H') : DpAll K H' vs ds := dpAll_ex e ds vs h
/-! data of tuples alone -/
mutual
def tupO : PyData → Bool
  | .none | .bool _ | .int _ | .str _ => true
  | .tuple ds => tupOs ds
  | .list _ | .dict _ => false
def tupOs : List PyData → Bool
  | [] => true
  | d :: r => tupO d && tupOs r
end
/-- no tuple, nor one that is locked -/
def NoTup (o : HO) : Prop := (∀ xs, o ≠ .tup xs) ∧ ∀ b xs, o ≠ .frz b (.tup xs)
theorem nt_lst {xs : List V} : NoTup (.lst xs) := ⟨fun _ h => (by cases h), fun _ _ h => (by cases h)⟩
theorem nt_dK {xs : List (Key × V)} : NoTup (.dK xs) := ⟨fun _ h => (by cases h), fun _ _ h => (by cases h)⟩
theorem nt_ins {C dx : Addr} {fs : List (Str × V)} : NoTup (.ins C dx fs) := ⟨fun _ h => (by cases h), fun _ _ h => (by cases h)⟩
theorem sqT_bu {L : List Addr} {a : Addr} {xs : List V} (b : Bu L H H') (n : ∀ c ∈ L, ∃ o, H c = some o ∧ NoTup o) (h : SqT K H a xs) : SqT K H' a xs := by
  have hn : ∀ o, H a = some o → ¬ NoTup o → H' a = some o := fun o ho hx => b a o (fun m => by
    obtain ⟨o2, h1, h2⟩ := n a m
    rw [ho] at h1
    cases h1
    exact hx h2) ho
  rcases h with (h | ⟨o, h⟩) | h
  · exact .inl (.inl (hn _ h fun z => z.1 _ rfl))
  · exact .inl (.inr ⟨o, hn _ h fun z => z.2 _ _ rfl⟩)
  · exact .inr h
mutual
theorem dp_bu {L : List Addr} (b : Bu L H H') (n : ∀ c ∈ L, ∃ o, H c = some o ∧ NoTup o) : ∀ (d : PyData) (v : V), tupO d = true → Dp K H v d → Dp K H' v d
  | .none, _, _, h => by cases h; exact .non
  | .bool _, _, _, h => by cases h; exact .bl _
  | .int _, _, _, h => by cases h; exact .int _
  | .str _, _, _, h => by cases h; exact .str _
  | .tuple ds, _, t, h => by cases h with | tup h1 h2 => exact .tup (sqT_bu b n h1) (dpAll_bu b n ds _ (by rw [tupO] at t; exact t) h2)
  | .list _, _, t, _ => by rw [tupO] at t; cases t
  | .dict _, _, t, _ => by rw [tupO] at t; cases t
theorem dpAll_bu {L : List Addr} (b : Bu L H H') (n : ∀ c ∈ L, ∃ o, H c = some o ∧ NoTup o) : ∀ (ds : List PyData) (vs : List V), tupOs ds = true → DpAll K H vs ds → DpAll K H' vs ds
  | [], _, _, h => by cases h; exact .nil
  | d :: ds, _, t, h => by
    rw [tupOs, Bool.and_eq_true] at t
    cases h with | cons x y => exact .cons (dp_bu b n d _ t.1 x) (dpAll_bu b n ds _ t.2 y)
end
/-- one object that is no tuple changes -/
theorem _root_.L2.Dp.upd {v : V} {d : PyData} {p : Addr} {o o' : HO} (h : Dp K H v d) (t : tupO d = true) (hp : H p = some o) (n : NoTup o) : Dp K (upd H p o') v d :=
  dp_bu (L := [p]) (fun a u m e => by rw [upd_ne (by simpa using m)]; exact e) (fun c m => by rw [List.mem_singleton.mp m]; exact ⟨o, hp, n⟩) d v t h
theorem _root_.L2.DpAll.upd {vs : List V} {ds : List PyData} {p : Addr} {o o' : HO} (h : DpAll K H vs ds) (t : tupOs ds = true) (hp : H p = some o) (n : NoTup o) : DpAll K (upd H p o') vs ds :=
  dpAll_bu (L := [p]) (fun a u m e => by rw [upd_ne (by simpa using m)]; exact e) (fun c m => by rw [List.mem_singleton.mp m]; exact ⟨o, hp, n⟩) ds vs t h
/-! ### what data stands for -/
theorem dpAll_ints_inv : ∀ {ns : List Int} {vs : List V}, DpAll K H vs (ns.map PyData.int) → vs = ns.map V.int
  | [], _, h => by cases h; rfl
  | n :: r, _, h => by cases h with | cons a b => cases a; rw [dpAll_ints_inv b]; rfl
theorem dp_ints_inv {v : V} {ns : List Int} (h : Dp K H v (.list (ns.map PyData.int))) : ∃ a, v = .ref a ∧ SqL K H a (ns.map V.int) := by
  cases h with | lst h1 h2 => rw [dpAll_ints_inv h2] at h1; exact ⟨_, rfl, h1⟩
theorem dp_intsT_inv {v : V} {ns : List Int} (h : Dp K H v (.tuple (ns.map PyData.int))) : ∃ a, v = .ref a ∧ SqT K H a (ns.map V.int) := by
  cases h with | tup h1 h2 => rw [dpAll_ints_inv h2] at h1; exact ⟨_, rfl, h1⟩
theorem dp_intsT {a : Addr} {ns : List Int} (h : SqT K H a (ns.map V.int)) : Dp K H (.ref a) (.tuple (ns.map PyData.int)) := .tup h (dpAll_ints ns)
theorem dp_tup_inv {v : V} {ds : List PyData} (h : Dp K H v (.tuple ds)) : ∃ a xs, v = .ref a ∧ SqT K H a xs ∧ DpAll K H xs ds := by
  cases h with | tup h1 h2 => exact ⟨_, _, rfl, h1, h2⟩
theorem dp_lst_inv {v : V} {ds : List PyData} (h : Dp K H v (.list ds)) : ∃ a xs, v = .ref a ∧ SqL K H a xs ∧ DpAll K H xs ds := by
  cases h with | lst h1 h2 => exact ⟨_, _, rfl, h1, h2⟩
theorem dp_int_inv {v : V} {i : Int} (h : Dp K H v (.int i)) : v = .int i := by cases h; rfl
theorem dpAll_len : ∀ {ds : List PyData} {vs : List V}, DpAll K H vs ds → vs.length = ds.length
  | [], _, h => by cases h; rfl
  | d :: r, _, h => by cases h with | cons a b => rw [List.length_cons, List.length_cons, dpAll_len b]
theorem dpAll_at : ∀ {ds : List PyData} {vs : List V} {i : Nat} {d : PyData}, DpAll K H vs ds → ds[i]? = some d → ∃ v, vs[i]? = some v ∧ Dp K H v d
  | [], _, _, _, _, e => by simp at e
  | d :: r, _, 0, _, h, e => by cases h with | cons a b => simp at e; subst e; exact ⟨_, rfl, a⟩
  | d :: r, _, i + 1, d', h, e => by
    cases h with
    | cons a b =>
      obtain ⟨w, h1, h2⟩ := dpAll_at (i := i) (d := d') b (by simpa using e)
      exact ⟨w, by simpa using h1, h2⟩
theorem _root_.L2.DpAll.app : ∀ {ds es : List PyData} {vs ws : List V}, DpAll K H vs ds → DpAll K H ws es → DpAll K H (vs ++ ws) (ds ++ es)
  | [], _, _, _, h, g => by cases h; exact g
  | d :: r, _, _, _, h, g => by cases h with | cons a b => exact .cons a (L2.DpAll.app b g)
theorem _root_.L2.DpAll.drop : ∀ {ds : List PyData} {vs : List V} (k : Nat), DpAll K H vs ds → DpAll K H (vs.drop k) (ds.drop k)
  | ds, vs, 0, h => h
  | [], _, k + 1, h => by cases h; exact .nil
  | d :: r, _, k + 1, h => by cases h with | cons a b => exact L2.DpAll.drop k b
theorem _root_.L2.DpAll.take : ∀ {ds : List PyData} {vs : List V} (k : Nat), DpAll K H vs ds → DpAll K H (vs.take k) (ds.take k)
  | ds, vs, 0, h => .nil
  | [], _, k + 1, h => by cases h; exact .nil
  | d :: r, _, k + 1, h => by cases h with | cons a b => exact .cons a (L2.DpAll.take k b)
def cutD (xs : List PyData) (lo hi : Option Int) : List PyData := (xs.drop (HT.sIx xs.length 0 lo)).take (HT.sIx xs.length xs.length hi - HT.sIx xs.length 0 lo)
theorem _root_.L2.DpAll.cut {ds : List PyData} {vs : List V} (h : DpAll K H vs ds) (lo hi : Option Int) : DpAll K H (cutV vs lo hi) (cutD ds lo hi) := by
  unfold cutV cutD
  rw [dpAll_len h]
  exact (h.drop _).take _
end
/-! ### what evaluates to data -/
def EvD (K : PySem.W.Frag) (te : TE) (σ : L2.St) (H : Hp) (d : PyData) : Prop := ∀ H1, Ex H H1 → ∀ Q : VK, (∀ v H2, Ex H1 H2 → Dp K H2 v d → Q v H2) → te σ H1 Q
def EvDA (K : PySem.W.Frag) (ta : TA) (σ : L2.St) (H : Hp) (ds : List PyData) : Prop := ∀ H1, Ex H H1 → ∀ Q : List V → Hp → Prop, (∀ vs H2, Ex H1 H2 → DpAll K H2 vs ds → Q vs H2) → ta σ H1 Q
/-- what a def that hands back data must be given -/
def RetD (K : PySem.W.Frag) (d : PyData) (H : Hp) (Q : VK) : Prop := ∀ v H2, Ex H H2 → Dp K H2 v d → Q v H2
section
variable {K : PySem.W.Frag} {H H1 H' : Hp} {σ : L2.St} {ta tb te : TE} {tt : TT} {t tr : TA} {D : Ends} {tz : TS} {d e : PyData} {v : V}
theorem EvD.mono (x : Ex H H') (h : EvD K te σ H d) : EvD K te σ H' d := fun H1 a Q q => h H1 (x.trans a) Q q
theorem ed_ev (h : Ev te σ H v) (hd : Dp K H v d) : EvD K te σ H d := fun H1 e Q q => h H1 e Q fun H2 e2 => q v H2 e2 (hd.ex (e.trans e2))
theorem ed_int {i : Int} (h : Ev te σ H (.int i)) : EvD K te σ H (.int i) := ed_ev h (.int i)
theorem ed_bl {b : Bool} (h : Ev te σ H (.bl b)) : EvD K te σ H (.bool b) := ed_ev h (.bl b)
theorem ed_non (h : Ev te σ H .non) : EvD K te σ H .none := ed_ev h .non
theorem ev_di {i : Int} (h : EvD K te σ H (.int i)) : Ev te σ H (.int i) := fun H1 e Q q => h H1 e Q fun v H2 e2 hd => by cases hd; exact q H2 e2
theorem ev_db {b : Bool} (h : EvD K te σ H (.bool b)) : Ev te σ H (.bl b) := fun H1 e Q q => h H1 e Q fun v H2 e2 hd => by cases hd; exact q H2 e2
theorem ed_L {xs : List V} {ds : List PyData} (h : EvL te σ H xs) (hd : DpAll K H xs ds) : EvD K te σ H (.list ds) := fun H1 e Q q => h H1 e Q fun p H2 _ e2 hp => q _ H2 e2 (.lst (sq_of hp) (hd.ex (e.trans e2)))
theorem ed_U {xs : List V} {ds : List PyData} (h : EvU te σ H xs) (hd : DpAll K H xs ds) : EvD K te σ H (.tuple ds) := fun H1 e Q q => h H1 e Q fun p H2 _ e2 hp => q _ H2 e2 (.tup (st_of hp) (hd.ex (e.trans e2)))
theorem eda_nil : EvDA K tNil σ H [] := fun H1 _ _ q => q [] H1 (Ex.refl H1) .nil
theorem eda_cons {ds : List PyData} (h : EvD K te σ H d) (hr : EvDA K tr σ H ds) : EvDA K (tCons te tr) σ H (d :: ds) := fun H1 e _ q =>
  h H1 e _ fun v H2 e2 hd => hr H2 (e.trans e2) _ fun vs H3 e3 hds => q _ H3 (e2.trans e3) (.cons (hd.ex e3) hds)
theorem ed_tup {ds : List PyData} (h : EvDA K t σ H ds) (hl : ds.length ≤ 100000) : EvD K (tTup t) σ H (.tuple ds) := fun H1 e _ q =>
  h H1 e _ fun vs H2 e2 hds => ⟨by rw [dpAll_len hds]; exact sz_of hl, fun p hp => q _ _ (e2.trans (Ex.new hp)) (.tup (st_of upd_same) (hds.ex (Ex.new hp)))⟩
theorem ed_lst {ds : List PyData} (h : EvDA K t σ H ds) (hl : ds.length ≤ 100000) : EvD K (tLst t) σ H (.list ds) := fun H1 e _ q =>
  h H1 e _ fun vs H2 e2 hds => ⟨by rw [dpAll_len hds]; exact sz_of hl, fun p hp => q _ _ (e2.trans (Ex.new hp)) (.lst (sq_of upd_same) (hds.ex (Ex.new hp)))⟩
theorem q_asgD {i : Nat} (h : EvD K te σ H d) (k : ∀ v H1, Ex H H1 → Dp K H1 v d → tz D (σ.set i (some v)) H1) : tSeq (tAsg te (gName i)) tz D σ H := h H (Ex.refl H) _ k
theorem s_asgD {i : Nat} (h : EvD K te σ H d) (k : ∀ v H1, Ex H H1 → Dp K H1 v d → D.nx (σ.set i (some v)) H1) : tAsg te (gName i) D σ H := h H (Ex.refl H) _ k
theorem s_retD (h : EvD K te σ H d) (k : RetD K d H D.rt) : tRet te D σ H := h H (Ex.refl H) _ k
theorem ed_call {sp : Sp} {dvs vs : List V} {E : XK} (h : EvA t σ H vs) (hs : ∀ H1, Ex H H1 → ∀ Q : VK, RetD K d H1 Q → sp (vs ++ dvs) H1 Q E) : EvD K (tCall sp dvs E t) σ H d := fun H1 e Q q =>
  h H1 e _ fun H2 e2 => hs H2 (e.trans e2) Q fun v H3 e3 hd => q v H3 (e2.trans e3) hd
theorem ed_callD {sp : Sp} {dvs : List V} {ds : List PyData} {E : XK} (h : EvDA K t σ H ds) (hs : ∀ vs H1, Ex H H1 → DpAll K H1 vs ds → ∀ Q : VK, RetD K d H1 Q → sp (vs ++ dvs) H1 Q E) : EvD K (tCall sp dvs E t) σ H d := fun H1 e Q q =>
  h H1 e _ fun vs H2 e2 hds => hs vs H2 (e.trans e2) hds Q fun v H3 e3 hd => q v H3 (e2.trans e3) hd
theorem ed_ixT {ds : List PyData} {i : Nat} (h : EvD K ta σ H (.tuple ds)) (hb : Ev tb σ H (.int (i : Int))) (hi : ds[i]? = some d) : EvD K (tOp (rIxT K) ta tb) σ H d := fun H1 e Q q =>
  h H1 e _ fun v H2 e2 hd => hb H2 (e.trans e2) _ fun H3 e3 => by
    obtain ⟨a, xs, rfl, h1, h2⟩ := dp_tup_inv hd
    obtain ⟨w, hw, hdw⟩ := dpAll_at h2 hi
    exact ⟨a, xs, (i : Int), w, rfl, rfl, ex_t e3 h1, atI_nat hw, q w H3 (e2.trans e3) (hdw.ex e3)⟩
theorem ed_ixL {ds : List PyData} {i : Nat} (h : EvD K ta σ H (.list ds)) (hb : Ev tb σ H (.int (i : Int))) (hi : ds[i]? = some d) : EvD K (tOp (rIxL K) ta tb) σ H d := fun H1 e Q q =>
  h H1 e _ fun v H2 e2 hd => hb H2 (e.trans e2) _ fun H3 e3 => by
    obtain ⟨a, xs, rfl, h1, h2⟩ := dp_lst_inv hd
    obtain ⟨w, hw, hdw⟩ := dpAll_at h2 hi
    exact ⟨a, xs, (i : Int), w, rfl, rfl, ex_l e3 h1, atI_nat hw, q w H3 (e2.trans e3) (hdw.ex e3)⟩
theorem atI_last {xs : List V} {w : V} (h : xs[xs.length - 1]? = some w) : atI xs (-1) = some w := by
  have hl : xs.length - 1 < xs.length := (List.getElem?_eq_some_iff.mp h).1
  show (ixN xs.length (-1)).bind (xs[·]?) = some w
  have e : ixN xs.length (-1) = some (xs.length - 1) := by
    unfold ixN
    split
    · omega
    · split
      · congr 1; omega
      · omega
  rw [e]
  exact h
theorem ed_lastL {ds : List PyData} (h : EvD K ta σ H (.list ds)) (hb : Ev tb σ H (.int (-1))) (hi : ds[ds.length - 1]? = some d) : EvD K (tOp (rIxL K) ta tb) σ H d := fun H1 e Q q =>
  h H1 e _ fun v H2 e2 hd => hb H2 (e.trans e2) _ fun H3 e3 => by
    obtain ⟨a, xs, rfl, h1, h2⟩ := dp_lst_inv hd
    obtain ⟨w, hw, hdw⟩ := dpAll_at h2 hi
    exact ⟨a, xs, -1, w, rfl, rfl, ex_l e3 h1, atI_last (by rw [dpAll_len h2]; exact hw), q w H3 (e2.trans e3) (hdw.ex e3)⟩
theorem ev_lenT {ds : List PyData} (h : EvD K ta σ H (.tuple ds)) : Ev (tCB (rLenS K) (tCons ta tNil)) σ H (.int (ds.length : Int)) := fun H1 e Q q =>
  h H1 e _ fun v H2 e2 hd => by
    obtain ⟨a, xs, rfl, h1, h2⟩ := dp_tup_inv hd
    refine ⟨a, xs, rfl, .inr h1, ?_⟩
    rw [dpAll_len h2]
    exact q H2 e2
theorem ev_lenLD {ds : List PyData} (h : EvD K ta σ H (.list ds)) : Ev (tCB (rLenS K) (tCons ta tNil)) σ H (.int (ds.length : Int)) := fun H1 e Q q =>
  h H1 e _ fun v H2 e2 hd => by
    obtain ⟨a, xs, rfl, h1, h2⟩ := dp_lst_inv hd
    refine ⟨a, xs, rfl, .inl h1, ?_⟩
    rw [dpAll_len h2]
    exact q H2 e2
theorem ed_slT {tl th : TO} {ds : List PyData} {lo hi : Option Int} (hn : ¬(HT.sIx ds.length 0 lo = 0 ∧ HT.sIx ds.length ds.length hi = ds.length)) (h : EvD K te σ H (.tuple ds)) (h1 : EvO tl σ H lo) (h2 : EvO th σ H hi) : EvD K (tSl (rSlT K) te tl th) σ H (.tuple (cutD ds lo hi)) := fun H1 e _ q =>
  h H1 e _ fun v H2 e2 hd => h1 H2 (e.trans e2) _ fun H3 e3 => h2 H3 ((e.trans e2).trans e3) _ fun H4 e4 => by
    obtain ⟨a, xs, rfl, g1, g2⟩ := dp_tup_inv hd
    exact ⟨a, xs, rfl, ex_t (e3.trans e4) g1, by rw [dpAll_len g2]; exact hn, fun p hp => q _ _ (((e2.trans e3).trans e4).trans (Ex.new hp)) (.tup (st_of upd_same) ((g2.ex (e3.trans e4)).cut lo hi |>.ex (Ex.new hp)))⟩
theorem ed_slL {tl th : TO} {ds : List PyData} {lo hi : Option Int} (h : EvD K te σ H (.list ds)) (h1 : EvO tl σ H lo) (h2 : EvO th σ H hi) : EvD K (tSl (rSlL K) te tl th) σ H (.list (cutD ds lo hi)) := fun H1 e _ q =>
  h H1 e _ fun v H2 e2 hd => h1 H2 (e.trans e2) _ fun H3 e3 => h2 H3 ((e.trans e2).trans e3) _ fun H4 e4 => by
    obtain ⟨a, xs, rfl, g1, g2⟩ := dp_lst_inv hd
    exact ⟨a, xs, rfl, ex_l (e3.trans e4) g1, fun p hp => q _ _ (((e2.trans e3).trans e4).trans (Ex.new hp)) (.lst (sq_of upd_same) ((g2.ex (e3.trans e4)).cut lo hi |>.ex (Ex.new hp)))⟩
/-- tuple(..) -/
theorem ed_tupOfT (h : EvD K te σ H (.tuple ds)) : EvD K (tCB (rTupOf K) (tCons te tNil)) σ H (.tuple ds) := fun H1 e _ q =>
  h H1 e _ fun v H2 e2 hd => by
    obtain ⟨a, xs, rfl, g1, g2⟩ := dp_tup_inv hd
    exact ⟨a, xs, rfl, .inr ⟨g1, q _ H2 e2 (.tup g1 g2)⟩⟩
theorem ed_tupOfL {ds : List PyData} (h : EvD K te σ H (.list ds)) : EvD K (tCB (rTupOf K) (tCons te tNil)) σ H (.tuple ds) := fun H1 e _ q =>
  h H1 e _ fun v H2 e2 hd => by
    obtain ⟨a, xs, rfl, g1, g2⟩ := dp_lst_inv hd
    exact ⟨a, xs, rfl, .inl ⟨g1, fun l hl => q _ _ (e2.trans (Ex.new hl)) (.tup (st_of upd_same) (g2.ex (Ex.new hl)))⟩⟩
theorem ed_lstOfT {ds : List PyData} (h : EvD K te σ H (.tuple ds)) : EvD K (tCB (rLstOf K) (tCons te tNil)) σ H (.list ds) := fun H1 e _ q =>
  h H1 e _ fun v H2 e2 hd => by
    obtain ⟨a, xs, rfl, g1, g2⟩ := dp_tup_inv hd
    exact ⟨a, xs, rfl, .inr g1, fun l hl => q _ _ (e2.trans (Ex.new hl)) (.lst (sq_of upd_same) (g2.ex (Ex.new hl)))⟩
/-- a new list of a tuple of ints -/
theorem el_lstOfT {ns : List Int} (h : EvD K te σ H (.tuple (ns.map PyData.int))) : EvL (tCB (rLstOf K) (tCons te tNil)) σ H (ns.map V.int) := fun H1 e _ q =>
  h H1 e _ fun v H2 e2 hd => by
    obtain ⟨a, rfl, g1⟩ := dp_intsT_inv hd
    exact ⟨a, _, rfl, .inr g1, fun l hl => q l _ (fresh_back e2 hl) (e2.trans (Ex.new hl)) upd_same⟩
/-! ### equality and repr of data -/
theorem eqv_refl_ints (ns ms : List Int) : PyData.eqv (.list (ns.map PyData.int)) (.list (ms.map PyData.int)) = decide (ns = ms) := by rw [PyData.eqv, eqv_ints]
theorem ev_eqD {d e : PyData} (ha : EvD K ta σ H d) (hb : EvD K tb σ H e) (hd : SeqAt.shaped d = true) (he : SeqAt.shaped e = true) : Ev (tOp (rEqD K) ta tb) σ H (.bl (PyData.eqv d e)) := fun H1 x Q q =>
  ha H1 x _ fun v H2 e2 h1 => hb H2 (x.trans e2) _ fun w H3 e3 h2 => ⟨d, e, h1.ex e3, h2, hd, he, q H3 (e2.trans e3)⟩
theorem ev_neD {d e : PyData} (ha : EvD K ta σ H d) (hb : EvD K tb σ H e) (hd : SeqAt.shaped d = true) (he : SeqAt.shaped e = true) : Ev (tOp (rNeD K) ta tb) σ H (.bl (!PyData.eqv d e)) := fun H1 x Q q =>
  ha H1 x _ fun v H2 e2 h1 => hb H2 (x.trans e2) _ fun w H3 e3 h2 => ⟨d, e, h1.ex e3, h2, hd, he, q H3 (e2.trans e3)⟩
/-- what repr may be asked of -/
structure Nice (d : PyData) : Prop where
  sh : d.showable = true
  nd : d.hasDict = false
  dp : d.depth ≤ 40
  ln : d.shown.length ≤ sizeLine
theorem ev_reprD {d : PyData} (h : EvD K te σ H d) (n : Nice d) : Ev (tCB (rRepr K) (tCons te tNil)) σ H (.str d.shown) := fun H1 e Q q =>
  h H1 e _ fun v H2 e2 hd => ⟨v, d, rfl, hd, n.sh, n.nd, n.dp, n.ln, q H2 e2⟩
end
/-! small data: ints below 10 ^ 100, no texts, no dicts -/
mutual
def smD : PyData → Bool
  | .none | .bool _ => true
  | .int i => decide (i.natAbs < 10 ^ 100)
  | .list ds | .tuple ds => smDs ds
  | .str _ | .dict _ => false
def smDs : List PyData → Bool
  | [] => true
  | d :: r => smD d && smDs r
end
theorem int_short {n : Int} (h : n.natAbs < 10 ^ 100) : (PyData.int n).leavesShort 101 = true := by
  rw [PyData.leavesShort]
  refine decide_eq_true ?_
  unfold PyData.shown
  have h := int_text_length_le10 (k := 100) (by decide) h
  have e : (Str.ofString (toString n)).length = (toString n).length := PySem.ofString_length _
  show (Str.ofString (toString n)).length ≤ 101
  rw [e]
  exact h
mutual
theorem sm_short : ∀ d : PyData, smD d = true → d.leavesShort 101 = true
  | .none, _ => by simp [PyData.leavesShort]
  | .bool _, _ => by simp [PyData.leavesShort]
  | .int i, h => int_short (by rw [smD] at h; exact of_decide_eq_true h)
  | .str _, h => by rw [smD] at h; cases h
  | .list ds, h => by rw [PyData.leavesShort]; exact sm_shorts ds (by rw [smD] at h; exact h)
  | .tuple ds, h => by rw [PyData.leavesShort]; exact sm_shorts ds (by rw [smD] at h; exact h)
  | .dict _, h => by rw [smD] at h; cases h
theorem sm_shorts : ∀ ds : List PyData, smDs ds = true → PyData.leavesShortAll 101 ds = true
  | [], _ => by simp [PyData.leavesShortAll]
  | d :: r, h => by
    rw [smDs, Bool.and_eq_true] at h
    rw [PyData.leavesShortAll, sm_short d h.1, sm_shorts r h.2]
    rfl
end
mutual
theorem sm_show : ∀ d : PyData, smD d = true → d.showable = true
  | .none, _ => by simp [PyData.showable]
  | .bool _, _ => by simp [PyData.showable]
  | .int i, h => by rw [PyData.showable]; exact decide_eq_true (log_lt (by rw [smD] at h; exact of_decide_eq_true h))
  | .str _, h => by rw [smD] at h; cases h
  | .list ds, h => by rw [PyData.showable]; exact sm_shows ds (by rw [smD] at h; exact h)
  | .tuple ds, h => by rw [PyData.showable]; exact sm_shows ds (by rw [smD] at h; exact h)
  | .dict _, h => by rw [smD] at h; cases h
theorem sm_shows : ∀ ds : List PyData, smDs ds = true → PyData.showableAll ds = true
  | [], _ => by simp [PyData.showableAll]
  | d :: r, h => by
    rw [smDs, Bool.and_eq_true] at h
    rw [PyData.showableAll, sm_show d h.1, sm_shows r h.2]
    rfl
end
mutual
theorem sm_dict : ∀ d : PyData, smD d = true → d.hasDict = false
  | .none, _ => by simp [PyData.hasDict]
  | .bool _, _ => by simp [PyData.hasDict]
  | .int i, h => by simp [PyData.hasDict]
  | .str _, h => by rw [smD] at h; cases h
  | .list ds, h => by rw [PyData.hasDict]; exact sm_dicts ds (by rw [smD] at h; exact h)
  | .tuple ds, h => by rw [PyData.hasDict]; exact sm_dicts ds (by rw [smD] at h; exact h)
  | .dict _, h => by rw [smD] at h; cases h
theorem sm_dicts : ∀ ds : List PyData, smDs ds = true → PyData.hasDictAll ds = false
  | [], _ => by simp [PyData.hasDictAll]
  | d :: r, h => by
    rw [smDs, Bool.and_eq_true] at h
    rw [PyData.hasDictAll, sm_dict d h.1, sm_dicts r h.2]
    rfl
end
theorem nice_sm {d : PyData} (h : smD d = true) (hd : d.depth ≤ 40) (hb : d.bulk ≤ 100000) : Nice d := by
  refine ⟨sm_show d h, sm_dict d h, hd, ?_⟩
  have hk := PyData.shown_le_bulk 101 (by decide) _ (sm_short d h)
  rw [sizeLine_eq]
  omega
theorem smDs_ints {ns : List Int} (h : ∀ n ∈ ns, n.natAbs < 10 ^ 100) : smDs (ns.map PyData.int) = true := by
  induction ns with
  | nil => simp [smDs]
  | cons n r ih =>
    rw [List.map_cons, smDs, smD, decide_eq_true (h n List.mem_cons_self), ih fun m hm => h m (List.mem_cons_of_mem _ hm)]
    rfl
theorem bulk_ints (ns : List Int) : PyData.bulkAll (ns.map PyData.int) = ns.length := by
  induction ns with
  | nil => simp [PyData.bulkAll]
  | cons n r ih => rw [List.map_cons, PyData.bulkAll, PyData.bulk, ih, List.length_cons]; omega
/-! ### dicts from ints to ints -/
def kvI (sd : List (Int × Int)) : List (Key × V) := sd.map fun p => (Sum.inl p.1, V.int p.2)
def getI : List (Int × Int) → Int → Option Int
  | [], _ => none
  | p :: r, k => if p.1 = k then some p.2 else getI r k
def putI (sd : List (Int × Int)) (k v : Int) : List (Int × Int) := if (sd.any fun p => decide (p.1 = k)) = true then sd.map (fun p => if p.1 = k then (p.1, v) else p) else sd ++ [(k, v)]
theorem kvI_get (sd : List (Int × Int)) (k : Int) : valV (kvI sd) (Sum.inl k) = (getI sd k).map V.int := by
  induction sd with
  | nil => rfl
  | cons p r ih =>
    unfold getI
    by_cases h : p.1 = k
    · rw [if_pos h]
      exact valV_pos (p := (Sum.inl p.1, V.int p.2)) (by rw [h])
    · rw [if_neg h, ← ih]
      exact valV_neg (p := (Sum.inl p.1, V.int p.2)) (fun z => h (Sum.inl.inj z))
theorem kvI_put (sd : List (Int × Int)) (k v : Int) : putK (kvI sd) (Sum.inl k) (V.int v) = kvI (putI sd k v) := by
  have ha : ((kvI sd).any fun kv => decide (kv.1 = Sum.inl k)) = sd.any fun p => decide (p.1 = k) := by
    unfold kvI
    rw [List.any_map]
    congr 1
    funext p
    show decide ((Sum.inl p.1 : Key) = Sum.inl k) = decide (p.1 = k)
    by_cases h : p.1 = k
    · rw [h]; simp
    · rw [decide_eq_false h, decide_eq_false (fun z => h (Sum.inl.inj z))]
  unfold putK putI
  rw [ha]
  by_cases a : (sd.any fun p => decide (p.1 = k)) = true
  · rw [if_pos a, if_pos a]
    unfold kvI
    rw [List.map_map, List.map_map]
    congr 1
    funext p
    show (if (Sum.inl p.1 : Key) = Sum.inl k then (Sum.inl p.1, V.int v) else (Sum.inl p.1, V.int p.2)) = (fun p : Int × Int => ((Sum.inl p.1 : Key), V.int p.2)) (if p.1 = k then (p.1, v) else p)
    by_cases h : p.1 = k
    · rw [if_pos (by rw [h]), if_pos h]
    · rw [if_neg (fun z => h (Sum.inl.inj z)), if_neg h]
  · rw [if_neg a, if_neg a]
    unfold kvI
    rw [List.map_append]
    rfl
theorem getI_put (sd : List (Int × Int)) (k j v : Int) : getI (putI sd k v) j = if j = k then some v else getI sd j := by
  have h := valV_put (kvI sd) (Sum.inl k) (Sum.inl j) (V.int v)
  rw [kvI_put, kvI_get, kvI_get] at h
  by_cases e : j = k
  · rw [if_pos e]
    rw [if_pos (by rw [e])] at h
    cases q : getI (putI sd k v) j with
    | none => rw [q] at h; cases h
    | some w => rw [q] at h; cases h; rfl
  · rw [if_neg e]
    rw [if_neg (fun z => e (Sum.inl.inj z))] at h
    cases q : getI (putI sd k v) j with
    | none => rw [q] at h; cases r : getI sd j with
      | none => rfl
      | some w => rw [r] at h; cases h
    | some w => rw [q] at h; cases r : getI sd j with
      | none => rw [r] at h; cases h
      | some u => rw [r] at h; cases h; rfl
theorem putI_len (sd : List (Int × Int)) (k v : Int) : (putI sd k v).length ≤ sd.length + 1 := by
  unfold putI
  split
  · rw [List.length_map]; omega
  · rw [List.length_append]; exact Nat.le_refl _
theorem kvI_len (sd : List (Int × Int)) : (kvI sd).length = sd.length := by unfold kvI; rw [List.length_map]
theorem kvI_keys (sd : List (Int × Int)) : (kvI sd).map (·.1) = (sd.map (·.1)).map Sum.inl := by unfold kvI; rw [List.map_map, List.map_map]; rfl
section
variable {K : PySem.W.Frag} {H H1 H' : Hp} {σ : L2.St} {ta tb te td ty tx tv : TE} {tt : TT} {t tr : TA} {D : Ends} {tz : TS} {a : Addr}
/-- d.get(k, x) -/
theorem ev_dget2 {kvs : List (Key × V)} {k : Key} {z : V} (h : Ev td σ H (.ref a)) (hd : H a = some (.dK kvs)) (hk : Ev ty σ H (kV k)) (hx : Ev tx σ H z) : Ev (tDGet2 td ty tx) σ H ((valV kvs k).getD z) := fun H1 e Q q =>
  h H1 e _ fun H2 e2 => ⟨a, rfl, .inl ⟨kvs, .inl (e2 _ _ (e _ _ hd))⟩, hk H2 (e.trans e2) _ fun H3 e3 => hx H3 ((e.trans e2).trans e3) _ fun H4 e4 => ⟨_, DGet.k (e4 _ _ (e3 _ _ (e2 _ _ (e _ _ hd)))), q H4 ((e2.trans e3).trans e4)⟩⟩
theorem ev_dget1 {kvs : List (Key × V)} {k : Key} (h : Ev td σ H (.ref a)) (hd : H a = some (.dK kvs)) (hk : Ev ty σ H (kV k)) : Ev (tDGet1 td ty) σ H ((valV kvs k).getD .non) := fun H1 e Q q =>
  h H1 e _ fun H2 e2 => ⟨a, rfl, .inl ⟨kvs, .inl (e2 _ _ (e _ _ hd))⟩, hk H2 (e.trans e2) _ fun H3 e3 => ⟨_, DGet.k (e3 _ _ (e2 _ _ (e _ _ hd))), q H3 (e2.trans e3)⟩⟩
theorem ev_getI {sd : List (Int × Int)} {k : Int} (h : Ev td σ H (.ref a)) (hd : H a = some (.dK (kvI sd))) (hk : Ev ty σ H (.int k)) (hx : Ev tx σ H (.int 0)) : Ev (tDGet2 td ty tx) σ H (.int ((getI sd k).getD 0)) := by
  have e := ev_dget2 (k := Sum.inl k) h hd hk hx
  rw [kvI_get] at e
  cases q : getI sd k with
  | none => rw [q] at e; exact e
  | some v => rw [q] at e; exact e
theorem ev_ixI {sd : List (Int × Int)} {k v : Int} (h : Ev td σ H (.ref a)) (hk : Ev ty σ H (.int k)) (hd : H a = some (.dK (kvI sd))) (hv : getI sd k = some v) : Ev (tDGet td ty) σ H (.int v) :=
  ev_dget (k := Sum.inl k) h hk hd (by rw [kvI_get, hv]; rfl)
theorem ev_inI {kvs : List (Key × V)} {k : Int} (hk : Ev ty σ H (.int k)) (h : Ev td σ H (.ref a)) (hd : H a = some (.dK kvs)) : Ev (tDIn ty td) σ H (.bl (valV kvs (Sum.inl k)).isSome) := fun H1 e Q q =>
  hk H1 e _ fun H2 e2 => h H2 (e.trans e2) _ fun H3 e3 => ⟨a, _, rfl, DGet.k (k := Sum.inl k) (e3 _ _ (e2 _ _ (e _ _ hd))), q H3 (e2.trans e3)⟩
theorem ev_niI {kvs : List (Key × V)} {k : Int} (hk : Ev ty σ H (.int k)) (h : Ev td σ H (.ref a)) (hd : H a = some (.dK kvs)) : Ev (tDNotIn ty td) σ H (.bl (!(valV kvs (Sum.inl k)).isSome)) := fun H1 e Q q =>
  hk H1 e _ fun H2 e2 => h H2 (e.trans e2) _ fun H3 e3 => ⟨a, _, rfl, DGet.k (k := Sum.inl k) (e3 _ _ (e2 _ _ (e _ _ hd))), q H3 (e2.trans e3)⟩
/-- d[k] = v, ints, within 100000 pairs; the value may change the heap -/
theorem s_dputI {P : V → Hp → Prop} {k : Int} (hv : EvP tv σ H P) (q : ∀ v H1, P v H1 → ∃ kvs, H1 a = some (.dK kvs) ∧ (∀ H2, Ex H1 H2 → Ev td σ H2 (.ref a)) ∧ (∀ H2, Ex H1 H2 → Ev ty σ H2 (.int k)) ∧ kvs.length < 100000 ∧ ∀ H2, Ex H1 H2 → D.nx σ (upd H2 a (.dK (putK kvs (Sum.inl k) v)))) : sDPut td ty tv D σ H :=
  hv _ fun v H1 h1 => by
    obtain ⟨kvs, hd, ha, hk, hz, g⟩ := q v H1 h1
    exact ha H1 (Ex.refl H1) H1 (Ex.refl H1) _ fun H2 e2 => hk H2 e2 H2 (Ex.refl H2) _ fun H3 e3 => ⟨a, _, rfl, DPut.k (k := Sum.inl k) (e3 _ _ (e2 _ _ hd)) (sz_lt hz), g H3 (e2.trans e3)⟩
theorem q_dputI {P : V → Hp → Prop} {k : Int} (hv : EvP tv σ H P) (q : ∀ v H1, P v H1 → ∃ kvs, H1 a = some (.dK kvs) ∧ (∀ H2, Ex H1 H2 → Ev td σ H2 (.ref a)) ∧ (∀ H2, Ex H1 H2 → Ev ty σ H2 (.int k)) ∧ kvs.length < 100000 ∧ ∀ H2, Ex H1 H2 → tz D σ (upd H2 a (.dK (putK kvs (Sum.inl k) v)))) : tSeq (sDPut td ty tv) tz D σ H :=
  s_dputI (D := { D with nx := tz D }) hv q
/-! ### arguments that change the heap -/
def EvAP (ta : TA) (σ : L2.St) (H : Hp) (PA : List V → Hp → Prop) : Prop := ∀ Q : List V → Hp → Prop, (∀ vs H', PA vs H' → Q vs H') → ta σ H Q
theorem eap_one {P : V → Hp → Prop} (h : EvP te σ H P) : EvAP (tCons te tNil) σ H (fun vs H' => ∃ v, vs = [v] ∧ P v H') := fun Q q => h _ fun v H1 h1 => q [v] H1 ⟨v, rfl, h1⟩
theorem ep_methP {sp : Sp} {E : XK} {PA : List V → Hp → Prop} {P : V → Hp → Prop} {C dx : Addr} {fs : List (Str × V)} {m : Str} (ha : Ev ta σ H (.ref a)) (ho : H a = some (.ins C dx fs)) (hl : fs.lookup m = none) (ht : ∀ H1, Ex H H1 → EvAP t σ H1 PA)
    (hs : ∀ vs H1, PA vs H1 → ∀ Q : VK, (∀ v H', P v H' → Q v H') → sp (.ref a :: (vs ++ [])) H1 Q E) : EvP (tMeth C m sp [] E ta t) σ H P := fun Q q =>
  ha H (Ex.refl H) _ fun H1 e1 => ⟨a, dx, fs, rfl, e1 _ _ ho, hl, ht H1 e1 _ fun vs H2 h2 => hs vs H2 h2 Q q⟩
/-- xs.append(e), e may change the heap -/
theorem s_appR {P : V → Hp → Prop} {xs : List V} (ha : Ev ta σ H (.ref a)) (hl : H a = some (.lst xs)) (h : ∀ H1, Ex H H1 → EvP te σ H1 P) (k : ∀ v H1, P v H1 → ∃ ys, H1 a = some (.lst ys) ∧ ys.length < 100000 ∧ D.nx σ (upd H1 a (.lst (ys ++ [v])))) :
    tDrop (tBM K "list" rAppend ta (tCons te tNil)) D σ H := ha H (Ex.refl H) _ fun H1 e1 =>
  ⟨.inl ⟨rfl, xs, sq_of (e1 a _ hl)⟩, h H1 e1 _ fun v H2 hv => by
    obtain ⟨ys, h1, h2, h3⟩ := k v H2 hv
    exact ⟨a, ys, v, rfl, rfl, h1, sz_lt h2, h3⟩⟩
theorem q_appR {P : V → Hp → Prop} {xs : List V} (ha : Ev ta σ H (.ref a)) (hl : H a = some (.lst xs)) (h : ∀ H1, Ex H H1 → EvP te σ H1 P) (k : ∀ v H1, P v H1 → ∃ ys, H1 a = some (.lst ys) ∧ ys.length < 100000 ∧ tz D σ (upd H1 a (.lst (ys ++ [v])))) :
    tSeq (tDrop (tBM K "list" rAppend ta (tCons te tNil))) tz D σ H := s_appR (D := { D with nx := tz D }) ha hl h k
theorem ep_opR {r : R2} {y : V} {P1 P : V → Hp → Prop} (ha : EvP ta σ H P1) (hb : ∀ v H1, P1 v H1 → Ev tb σ H1 y) (hr : ∀ v H1, P1 v H1 → ∀ H2, Ex H1 H2 → ∀ Q : VK, (∀ z H', P z H' → Q z H') → r v y H2 Q) : EvP (tOp r ta tb) σ H P := fun Q q =>
  ha _ fun v H1 h1 => hb v H1 h1 H1 (Ex.refl H1) _ fun H2 e2 => hr v H1 h1 H2 e2 Q q
theorem etp_val {P : V → Hp → Prop} {P2 : Bool → Hp → Prop} (h : EvP te σ H P) (k : ∀ v H1, P v H1 → ∃ b, v = .bl b ∧ P2 b H1) : EtP (tTest te) σ H P2 := fun Q q => h _ fun v H1 h1 => by
  obtain ⟨b, rfl, h2⟩ := k v H1 h1
  exact ⟨b, rfl, q b H1 h2⟩
end
section
variable {K : PySem.W.Frag} {H : Hp} {σ : L2.St} {te : TE} {tt : TT} {ta : TA} {d : PyData} {v : V} {Q : VK}
theorem go_ev (h : Ev te σ H v) (k : ∀ H1, Ex H H1 → Q v H1) : te σ H Q := h H (Ex.refl H) Q k
theorem go_ed (h : EvD K te σ H d) (k : ∀ v H1, Ex H H1 → Dp K H1 v d → Q v H1) : te σ H Q := h H (Ex.refl H) Q k
theorem go_et {b : Bool} {Q : Bool → Hp → Prop} (h : EvT tt σ H b) (k : ∀ H1, Ex H H1 → Q b H1) : tt σ H Q := h H (Ex.refl H) Q k
theorem go_ea {vs : List V} {Q : List V → Hp → Prop} (h : EvA ta σ H vs) (k : ∀ H1, Ex H H1 → Q vs H1) : ta σ H Q := h H (Ex.refl H) Q k
end
/-! ### sorted ints -/
def srt (ks : List Int) : List Int := ks.mergeSort (fun a b => decide (a ≤ b))
theorem srt_perm (ks : List Int) : (srt ks).Perm ks := List.mergeSort_perm ks _
theorem srt_sorted (ks : List Int) : (srt ks).Pairwise (· ≤ ·) := by
  have h := List.pairwise_mergeSort (le := fun a b : Int => decide (a ≤ b)) (fun a b c h1 h2 => by simp at *; omega) (fun a b => by simp; omega) ks
  exact h.imp fun h => by simpa using h
theorem srt_uniq {ks ns : List Int} (h : ns.Perm ks) (s : ns.Pairwise (· ≤ ·)) : ns = srt ks := PySem.W.ksm_same (h.trans (srt_perm ks).symm) s (srt_sorted ks)
end Gd

set_option Elab.async false
set_option linter.all false
set_option maxRecDepth 100000
set_option maxHeartbeats 4000000
/-! Of our own: comprehensions that give data; dict comprehensions; ranges by fours; tuples taken apart. -/
namespace Gd
open PySem PySem.Spec PyProof.Rows L2 Evl
/-- a new list of data -/
def EvLD (K : PySem.W.Frag) (te : TE) (σ : L2.St) (H : Hp) (ds : List PyData) : Prop := ∀ H1, Ex H H1 → ∀ Q : VK, (∀ p xs H2, H1 p = none → Ex H1 H2 → H2 p = some (.lst xs) → DpAll K H2 xs ds → Q (.ref p) H2) → te σ H1 Q
def givD (n : Nat) (b : Nat → Bool) (g : Nat → PyData) : List PyData := ((List.range n).filter b).map g
theorem givD_yes {n : Nat} {f : Nat → Bool} {v : Nat → PyData} (h : f n = true) : givD (n + 1) f v = givD n f v ++ [v n] := by
  unfold givD
  rw [List.range_succ, List.filter_append, List.map_append, List.filter_cons, if_pos h] <;> rfl
theorem givD_no {n : Nat} {f : Nat → Bool} {v : Nat → PyData} (h : f n = false) : givD (n + 1) f v = givD n f v := by
  unfold givD
  rw [List.range_succ, List.filter_append, List.map_append, List.filter_cons, if_neg (by rw [h]; decide)]
  show _ ++ [] = _
  rw [List.append_nil]
theorem givD_len (n : Nat) (f : Nat → Bool) (v : Nat → PyData) : (givD n f v).length ≤ n := by
  unfold givD
  rw [List.length_map]
  have h := List.length_filter_le f (List.range n)
  rw [List.length_range] at h
  exact h
theorem tupOs_at : ∀ {ds : List PyData}, (∀ d ∈ ds, tupO d = true) → tupOs ds = true
  | [], _ => by simp [tupOs]
  | d :: r, h => by rw [tupOs, h d List.mem_cons_self, tupOs_at fun e m => h e (List.mem_cons_of_mem _ m)]; rfl
theorem givD_tup {n : Nat} {b : Nat → Bool} {g : Nat → PyData} (h : ∀ i, i < n → tupO (g i) = true) : tupOs (givD n b g) = true := tupOs_at fun d m => by
  unfold givD at m
  obtain ⟨i, hi, rfl⟩ := List.mem_map.mp m
  exact h i (by have := (List.mem_filter.mp hi).1; simpa using this)
/-- what xs.map with a test gives, by places -/
theorem filter_range_map {α : Type} (l : List α) (p : α → Bool) (g : α → PyData) (z : α) : givD l.length (fun i => p (l.getD i z)) (fun i => g (l.getD i z)) = (l.filter p).map g := by
  have key : ∀ k, k ≤ l.length → givD k (fun i => p (l.getD i z)) (fun i => g (l.getD i z)) = ((l.take k).filter p).map g := by
    intro k
    induction k with
    | zero => intro _; rfl
    | succ k ih =>
      intro hk
      have hlt : k < l.length := by omega
      have hg : l[k]? = some l[k] := List.getElem?_eq_getElem hlt
      have hd : l.getD k z = l[k] := by rw [List.getD_eq_getElem?_getD, hg]; rfl
      rw [take_snoc hg, List.filter_append, List.map_append]
      cases hp : p l[k] with
      | true =>
        rw [givD_yes (by rw [hd]; exact hp), ih (by omega), hd]
        simp [hp]
      | false =>
        rw [givD_no (by rw [hd]; exact hp), ih (by omega)]
        simp [hp]
  have := key l.length (Nat.le_refl _)
  rw [List.take_length] at this
  exact this
section
variable {K : PySem.W.Frag} {σ : L2.St} {H H1 H' : Hp} {ta tb te tl tk tv : TE} {tt t u : TT} {D : Ends} {tz tu : TS} {vs : List Nat} {j : Nat}
theorem ed_LD {ds : List PyData} (h : EvLD K te σ H ds) : EvD K te σ H (.list ds) := fun H1 e Q q => h H1 e Q fun p xs H2 _ e2 hp hd => q _ H2 e2 (.lst (sq_of hp) hd)
theorem et_yes : EvT tYes σ H true := fun H1 _ _ q => q H1 (Ex.refl H1)
theorem q_asgLD {i : Nat} {ds : List PyData} (h : EvLD K te σ H ds) (k : ∀ p xs H1, H p = none → Ex H H1 → H1 p = some (.lst xs) → DpAll K H1 xs ds → tz D (σ.set i (some (.ref p))) H1) : tSeq (tAsg te (gName i)) tz D σ H := h H (Ex.refl H) _ k
theorem s_retLD {ds : List PyData} (h : EvLD K te σ H ds) (k : ∀ p xs H1, H p = none → Ex H H1 → H1 p = some (.lst xs) → DpAll K H1 xs ds → D.rt (.ref p) H1) : tRet te D σ H := h H (Ex.refl H) _ k
theorem eld_L {xs : List V} {ds : List PyData} (h : EvL te σ H xs) (hd : DpAll K H xs ds) : EvLD K te σ H ds := fun H1 e Q q => h H1 e Q fun p H2 hp e2 h2 => q p xs H2 hp e2 h2 (hd.ex (e.trans e2))
/-- EvLD of ints is EvL -/
theorem el_ints {ns : List Int} (h : EvLD K te σ H (ns.map PyData.int)) : EvL te σ H (ns.map V.int) := fun H1 e Q q => h H1 e Q fun p xs H2 hp e2 h2 hd => q p H2 hp e2 (by rw [← dpAll_ints_inv hd]; exact h2)
theorem lc_data {J : It} {n : Nat} {G : Hp → Prop} {Y : Nat → Hp → V → Hp → Prop} {b : Nat → Bool} {g : Nat → PyData} {Dl : Addr} {Qd : Hp → Prop} (w : Walk J n G Y) (xi : Nat → V) (hY : ∀ i H x H', i < n → Y i H x H' → H' = H ∧ x = xi i) (hz : n ≤ 90000)
    (hw : ∀ x, wipe ((wipe σ vs).set j (some x)) vs = wipe σ vs) (hG : ∀ H', Ex H1 H' → G H') (ht : ∀ i, i < n → tupO (g i) = true)
    (hb : ∀ i, i < n → ∀ H', Ex H1 H' → EvT tt ((wipe σ vs).set j (some (xi i))) H' (b i)) (he : ∀ i, i < n → b i = true → ∀ H', Ex H1 H' → EvD K te ((wipe σ vs).set j (some (xi i))) H' (g i)) (hD : H1 Dl = none)
    (k : ∀ xs H', Ex H1 H' → H' Dl = some (.lst xs) → DpAll K H' xs (givD n b g) → Qd H') :
    ∃ W : Nat → Nat → Hp → Prop, (∃ m, W 0 m (upd H1 Dl (.lst []))) ∧ ∀ i m H, W i m H →
      (J.stop i H ∧ Qd H) ∨ (J.go i H ∧ ∃ Nx : Hp → Prop, (∀ H', Nx H' → ∃ m', m' < m ∧ W (i + 1) m' H') ∧ ∀ x H', J.yld i H x H' → gName j x (wipe σ vs) H' fun σ2 H2 => wipe σ2 vs = wipe σ vs ∧ tt σ2 H2 fun b H3 =>
        if b = true then te σ2 H3 fun y H4 => ∃ acc, H4 Dl = some (.lst acc) ∧ acc.length < sizeLine ∧ Nx (upd H4 Dl (.lst (acc ++ [y]))) else Nx H3) := by
  refine lc_it w (fun i H' => Ex H1 H' ∧ ∃ xs, H' Dl = some (.lst xs) ∧ DpAll K H' xs (givD i b g)) ⟨Ex.new hD, [], upd_same, .nil⟩ (fun i H' _ p => hG H' p.1) ?_ (fun H' p => let ⟨xs, h1, h2⟩ := p.2; k xs H' p.1 h1 h2)
  intro i x H2 H3 hi p y
  obtain ⟨e, hx⟩ := hY i H2 x H3 hi y
  subst e hx
  obtain ⟨p1, xs, p2, p3⟩ := p
  refine ⟨hw _, hb i hi H3 p1 H3 (Ex.refl H3) _ fun H4 e4 => ?_⟩
  cases hbi : b i with
  | true =>
    rw [if_pos rfl]
    refine he i hi hbi H4 (p1.trans e4) H4 (Ex.refl H4) _ fun v H5 e5 hd => ⟨xs, e5 _ _ (e4 _ _ p2), sz_lt (by rw [dpAll_len p3]; have := givD_len i b g; omega), Ex.mut (p1.trans (e4.trans e5)) hD, _, upd_same, ?_⟩
    rw [givD_yes hbi]
    refine DpAll.app ((p3.ex (e4.trans e5)).upd (givD_tup fun m hm => ht m (by omega)) (e5 _ _ (e4 _ _ p2)) nt_lst) ?_
    exact .cons (hd.upd (ht i hi) (e5 _ _ (e4 _ _ p2)) nt_lst) .nil
  | false =>
    rw [if_neg Bool.false_ne_true]
    exact ⟨p1.trans e4, xs, e4 _ _ p2, by rw [givD_no hbi]; exact p3.ex e4⟩
/-- [e for x in range(i, j, c) if t] -/
theorem eld_lcC {tr : TA} {i0 j0 c0 : Int} {n : Nat} {b : Nat → Bool} {g : Nat → PyData} (h : EvA tr σ H [.int i0, .int j0, .int c0]) (hr : RgC i0 j0 c0 n) (hz : n ≤ 90000) (hw : ∀ x, wipe ((wipe σ vs).set j (some x)) vs = wipe σ vs) (ht : ∀ i, i < n → tupO (g i) = true)
    (hb : ∀ i, i < n → ∀ H', Ex H H' → EvT tt ((wipe σ vs).set j (some (.int (i0 + (i : Nat) * c0)))) H' (b i)) (he : ∀ i, i < n → b i = true → ∀ H', Ex H H' → EvD K te ((wipe σ vs).set j (some (.int (i0 + (i : Nat) * c0)))) H' (g i)) :
    EvLD K (tLc (iRng3 tr) (gName j) tt te vs) σ H (givD n b g) := fun H0 e Q q => h H0 e _ fun H1 e1 => ⟨i0, j0, c0, n, rfl, hr, fun Dl hD =>
  lc_data walk_rangeC (fun i => .int (i0 + (i : Nat) * c0)) (fun _ _ _ _ _ y => y) hz hw (fun _ _ => trivial) ht (fun i hi H' e' => hb i hi H' ((e.trans e1).trans e')) (fun i hi hbi H' e' => he i hi hbi H' ((e.trans e1).trans e')) hD
    (fun xs H' e' h1 h2 => q Dl xs H' (fresh_back e1 hD) (e1.trans e') h1 h2)⟩
/-- [e for x in range(n) if t] -/
theorem eld_lcR1 {tr : TA} {n : Nat} {b : Nat → Bool} {g : Nat → PyData} (h : EvA tr σ H [.int (n : Int)]) (hz : n ≤ 90000) (hw : ∀ x, wipe ((wipe σ vs).set j (some x)) vs = wipe σ vs) (ht : ∀ i, i < n → tupO (g i) = true)
    (hb : ∀ i, i < n → ∀ H', Ex H H' → EvT tt ((wipe σ vs).set j (some (.int (i : Int)))) H' (b i)) (he : ∀ i, i < n → b i = true → ∀ H', Ex H H' → EvD K te ((wipe σ vs).set j (some (.int (i : Int)))) H' (g i)) :
    EvLD K (tLc (iRng1 tr) (gName j) tt te vs) σ H (givD n b g) := fun H0 e Q q => h H0 e _ fun H1 e1 => ⟨(n : Int), rfl, by omega, by omega, fun Dl hD => by
  have z : ∀ i : Nat, (0 : Int) + (i : Int) = (i : Int) := fun i => Int.zero_add _
  exact lc_data (walk_range (lo := 0) (n := n)) (fun i => .int (i : Int)) (fun i H x H' _ y => by obtain ⟨y1, y2⟩ := y; exact ⟨y1, by rw [y2]; show V.int ((0 : Int) + (i : Int)) = _; rw [z]⟩) hz hw (fun _ _ => trivial) ht (fun i hi H' e' => hb i hi H' ((e.trans e1).trans e')) (fun i hi hbi H' e' => he i hi hbi H' ((e.trans e1).trans e')) hD
    (fun xs H' e' h1 h2 => q Dl xs H' (fresh_back e1 hD) (e1.trans e') h1 h2)⟩
/-- [e for x in l if t], l a list that stays -/
theorem eld_lcL {a : Addr} {xs : List V} {b : Nat → Bool} {g : Nat → PyData} (h : Ev tl σ H (.ref a)) (hx : SqL K H a xs) (hz : xs.length ≤ 90000) (hw : ∀ x, wipe ((wipe σ vs).set j (some x)) vs = wipe σ vs) (ht : ∀ i, i < xs.length → tupO (g i) = true)
    (hb : ∀ i x, xs[i]? = some x → ∀ H', Ex H H' → EvT tt ((wipe σ vs).set j (some x)) H' (b i)) (he : ∀ i x, xs[i]? = some x → b i = true → ∀ H', Ex H H' → EvD K te ((wipe σ vs).set j (some x)) H' (g i)) :
    EvLD K (tLc (iList K tl) (gName j) tt te vs) σ H (givD xs.length b g) := fun H0 e Q q => h H0 e _ fun H1 e1 => ⟨a, rfl, ⟨xs, ex_l (e.trans e1) hx⟩, fun Dl hD =>
  have g0 : ∀ i, i < xs.length → xs[i]? = some (xs.getD i .non) := fun i hi => by rw [List.getD_eq_getElem?_getD, List.getElem?_eq_getElem hi]; rfl
  lc_data walk_list (fun i => xs.getD i .non) (fun i H x H' hi y => ⟨y.1, Option.some.inj (y.2.symm.trans (g0 i hi))⟩) hz hw (fun H' e' => ex_l ((e.trans e1).trans e') hx) ht (fun i hi H' e' => hb i _ (g0 i hi) H' ((e.trans e1).trans e')) (fun i hi hbi H' e' => he i _ (g0 i hi) hbi H' ((e.trans e1).trans e')) hD
    (fun xs H' e' h1 h2 => q Dl xs H' (fresh_back e1 hD) (e1.trans e') h1 h2)⟩
/-- .. l a list made on the way -/
theorem eld_lcNL {xs : List V} {b : Nat → Bool} {g : Nat → PyData} (h : EvL tl σ H xs) (hz : xs.length ≤ 90000) (hw : ∀ x, wipe ((wipe σ vs).set j (some x)) vs = wipe σ vs) (ht : ∀ i, i < xs.length → tupO (g i) = true)
    (hb : ∀ i x, xs[i]? = some x → ∀ H', Ex H H' → EvT tt ((wipe σ vs).set j (some x)) H' (b i)) (he : ∀ i x, xs[i]? = some x → b i = true → ∀ H', Ex H H' → EvD K te ((wipe σ vs).set j (some x)) H' (g i)) :
    EvLD K (tLc (iList K tl) (gName j) tt te vs) σ H (givD xs.length b g) := fun H0 e Q q => h H0 e _ fun a H1 ha e1 h1 => ⟨a, rfl, ⟨xs, sq_of h1⟩, fun Dl hD =>
  have g0 : ∀ i, i < xs.length → xs[i]? = some (xs.getD i .non) := fun i hi => by rw [List.getD_eq_getElem?_getD, List.getElem?_eq_getElem hi]; rfl
  lc_data walk_list (fun i => xs.getD i .non) (fun i H x H' hi y => ⟨y.1, Option.some.inj (y.2.symm.trans (g0 i hi))⟩) hz hw (fun H' e' => sq_of (e' _ _ h1)) ht (fun i hi H' e' => hb i _ (g0 i hi) H' ((e.trans e1).trans e')) (fun i hi hbi H' e' => he i _ (g0 i hi) hbi H' ((e.trans e1).trans e')) hD
    (fun xs H' e' h1 h2 => q Dl xs H' (fresh_back e1 hD) (e1.trans e') h1 h2)⟩
/-- {k: v for x in ..}, by a word of the turn and the heap -/
theorem dc_it {J : It} {n : Nat} {G : Hp → Prop} {Y : Nat → Hp → V → Hp → Prop} (w : Walk J n G Y) {g : TG} {Dl : Addr} {Qd : Hp → Prop} (Pv : Nat → Hp → Prop) (h0 : Pv 0 (upd H1 Dl (.dK []))) (hG : ∀ i H, i ≤ n → Pv i H → G H)
    (hs : ∀ i x H H', i < n → Pv i H → Y i H x H' → g x (wipe σ vs) H' fun σ2 H2 => wipe σ2 vs = wipe σ vs ∧ tt σ2 H2 fun b H3 =>
      if b = true then tk σ2 H3 fun y H4 => tv σ2 H4 fun z H5 => ∃ kvs k, y = kV k ∧ H5 Dl = some (.dK kvs) ∧ kvs.length < sizeLine ∧ Pv (i + 1) (upd H5 Dl (.dK (putK kvs k z))) else Pv (i + 1) H3) (hd : ∀ H, Pv n H → Qd H) :
    ∃ W : Nat → Nat → Hp → Prop, (∃ m, W 0 m (upd H1 Dl (.dK []))) ∧ ∀ i m H, W i m H →
      (J.stop i H ∧ Qd H) ∨ (J.go i H ∧ ∃ Nx : Hp → Prop, (∀ H', Nx H' → ∃ m', m' < m ∧ W (i + 1) m' H') ∧ ∀ x H', J.yld i H x H' → g x (wipe σ vs) H' fun σ2 H2 => wipe σ2 vs = wipe σ vs ∧ tt σ2 H2 fun b H3 =>
        if b = true then tk σ2 H3 fun y H4 => tv σ2 H4 fun z H5 => ∃ kvs k, y = kV k ∧ H5 Dl = some (.dK kvs) ∧ kvs.length < sizeLine ∧ Nx (upd H5 Dl (.dK (putK kvs k z))) else Nx H3) := by
  refine ⟨fun i m H => m = n - i ∧ i ≤ n ∧ Pv i H, ⟨n, by simp, Nat.zero_le _, h0⟩, ?_⟩
  rintro i m H ⟨rfl, hi, p⟩
  have q := hG i H hi p
  by_cases hlt : i < n
  · exact .inr ⟨w.goes i H hlt q, Pv (i + 1), fun H' p' => ⟨n - (i + 1), by omega, rfl, hlt, p'⟩, fun x H' y => hs i x H H' hlt p (w.yields i H x H' hlt q y)⟩
  · have e : i = n := by omega
    subst e
    exact .inl ⟨w.stops H q, hd H p⟩
end
section
variable {K : PySem.W.Frag} {σ : L2.St} {H : Hp} {ta tv : TE} {D : Ends} {tz : TS} {a C dx : Addr} {fs : List (Str × V)} {f : Str}
theorem s_fldLD {ds : List PyData} (hv : EvLD K tv σ H ds) (ha : Ev ta σ H (.ref a)) (ho : H a = some (.ins C dx fs)) (hc : Cls K C) (hn : NoAttr K C f) (hz : fs.length < 1000) (k : ∀ p xs H1, H p = none → Ex H H1 → H1 p = some (.lst xs) → DpAll K H1 xs ds → D.nx σ (upd H1 a (.ins C dx (putF f (.ref p) fs)))) : sFld K ta tv f D σ H :=
  hv H (Ex.refl H) _ fun p xs H1 hp e1 h1 hd => ha H1 e1 _ fun H2 e2 => ⟨a, C, dx, fs, rfl, e2 _ _ (e1 _ _ ho), hc, hn, hz, k p xs H2 hp (e1.trans e2) (e2 _ _ h1) (hd.ex e2)⟩
theorem q_fldLD {ds : List PyData} (hv : EvLD K tv σ H ds) (ha : Ev ta σ H (.ref a)) (ho : H a = some (.ins C dx fs)) (hc : Cls K C) (hn : NoAttr K C f) (hz : fs.length < 1000) (k : ∀ p xs H1, H p = none → Ex H H1 → H1 p = some (.lst xs) → DpAll K H1 xs ds → tz D σ (upd H1 a (.ins C dx (putF f (.ref p) fs)))) : tSeq (sFld K ta tv f) tz D σ H :=
  s_fldLD (D := { D with nx := tz D }) hv ha ho hc hn hz k
end
section
variable {K : PySem.W.Frag} {σ : L2.St} {H : Hp} {tl tk tv : TE} {tt : TT} {g : TG} {vs : List Nat} {P : V → Hp → Prop} {a : Addr} {xs : List V}
/-- what one turn of a dict comprehension is asked -/
def DcTurn (g : TG) (tt : TT) (tk tv : TE) (vs : List Nat) (σ : L2.St) (Dt : Addr) (N : Hp → Prop) (x : V) (H : Hp) : Prop := g x (wipe σ vs) H fun σ2 H2 => wipe σ2 vs = wipe σ vs ∧ tt σ2 H2 fun b H3 =>
      if b = true then tk σ2 H3 fun y H4 => tv σ2 H4 fun z H5 => ∃ kvs k, y = kV k ∧ H5 Dt = some (.dK kvs) ∧ kvs.length < sizeLine ∧ N (upd H5 Dt (.dK (putK kvs k z))) else N H3
theorem ep_dcL (h : Ev tl σ H (.ref a)) (hx : SqL K H a xs) (k : ∀ H4, Ex H H4 → ∀ Dt, H4 Dt = none → ∃ Pv : Nat → Hp → Prop, Pv 0 (upd H4 Dt (.dK [])) ∧ (∀ i H', i ≤ xs.length → Pv i H' → SqL K H' a xs) ∧
    (∀ i x H', xs[i]? = some x → Pv i H' → DcTurn g tt tk tv vs σ Dt (Pv (i + 1)) x H') ∧ ∀ H', Pv xs.length H' → P (.ref Dt) H') : EvP (tDc (iList K tl) g tt tk tv vs) σ H P := fun Q q =>
  h H (Ex.refl H) _ fun H4 e4 => ⟨a, rfl, ⟨xs, ex_l e4 hx⟩, fun Dt nDt => by
    obtain ⟨Pv, h0, hG, hs, hd⟩ := k H4 e4 Dt nDt
    exact dc_it (walk_list (xs := xs)) Pv h0 hG (fun i x H5 H6 hi p y => by
      obtain ⟨e, hv⟩ := y
      subst e
      exact hs i x _ hv p) (fun H' p => q _ H' (hd H' p))⟩
theorem ep_dcT (h : Ev tl σ H (.ref a)) (hx : SqT K H a xs) (k : ∀ H4, Ex H H4 → ∀ Dt, H4 Dt = none → ∃ Pv : Nat → Hp → Prop, Pv 0 (upd H4 Dt (.dK [])) ∧ (∀ i H', i ≤ xs.length → Pv i H' → SqT K H' a xs) ∧
    (∀ i x H', xs[i]? = some x → Pv i H' → DcTurn g tt tk tv vs σ Dt (Pv (i + 1)) x H') ∧ ∀ H', Pv xs.length H' → P (.ref Dt) H') : EvP (tDc (iTup K tl) g tt tk tv vs) σ H P := fun Q q =>
  h H (Ex.refl H) _ fun H4 e4 => ⟨a, rfl, ⟨xs, ex_t e4 hx⟩, fun Dt nDt => by
    obtain ⟨Pv, h0, hG, hs, hd⟩ := k H4 e4 Dt nDt
    exact dc_it (walk_tup (xs := xs)) Pv h0 hG (fun i x H5 H6 hi p y => by
      obtain ⟨e, hv⟩ := y
      subst e
      exact hs i x _ hv p) (fun H' p => q _ H' (hd H' p))⟩
end
theorem filter_all {α : Type} (l : List α) : l.filter (fun _ => true) = l := by induction l with
  | nil => rfl
  | cons a r ih => rw [List.filter_cons, if_pos rfl, ih]
/-! ### range(0, len - 3, 4) -/
theorem rgC4 (L : Nat) (h : L ≤ 100000) : RgC 0 ((L : Int) - 3) 4 (L / 4) := by
  have hs : Builtin.Range.rangeSize 0 ((L : Int) - 3) 4 = ((L / 4 : Nat) : Int) := by
    unfold Builtin.Range.rangeSize
    simp only [show (4 : Int) > 0 by decide, if_true]
    split
    · omega
    · omega
  refine ⟨by decide, by decide, ?_, hs⟩
  unfold Builtin.Range.small
  rw [hs]
  simp only [Builtin.Range.rangeFitsLong, Bool.and_eq_true, Bool.or_eq_true, decide_eq_true_eq, beq_iff_eq, show (4 : Int) > 0 by decide, if_true]
  omega
/-! ### a tuple of two ints taken apart -/
theorem g_tup2 {K : PySem.W.Frag} {σ : L2.St} {H : Hp} {a : Addr} {x y : V} {i j : Nat} {Q : L2.St → Hp → Prop} (h : SqT K H a [x, y]) (q : Q ((σ.set i (some x)).set j (some y)) H) : gTup K 2 (gCons (gName i) (gCons (gName j) gNil)) (.ref a) σ H Q :=
  ⟨a, [x, y], rfl, h, rfl, x, [y], rfl, y, [], rfl, rfl, q⟩
end Gd

set_option Elab.async false
set_option linter.all false
set_option maxRecDepth 100000
set_option maxHeartbeats 4000000
/-! Of our own: the machine, mirrored; what holds of its objects. -/
namespace Gd
open PySem PySem.Spec PyProof.Rows L2 Evl
/-! ### nodes of an image -/
abbrev Nd := Int × Int × Int
def rowsOf : List Int → List (Int × Nd)
  | a :: b :: c :: d :: r => (a, b, c, d) :: rowsOf r
  | _ => []
def pickR (k : Int) (acc : Option Nd) (r : Int × Nd) : Option Nd := if r.1 = k then some r.2 else acc
def nodeIn (rows : List (Int × Nd)) (k : Int) : Option Nd := rows.foldl (pickR k) none
def nodeAt (im : List Int) (k : Int) : Option Nd := nodeIn (rowsOf im) k
def rowL (r : Int × Nd) : List Int := [r.1, r.2.1, r.2.2.1, r.2.2.2]
def ndL (n : Nd) : List Int := [n.1, n.2.1, n.2.2]
def rowD (r : Int × Nd) : PyData := .tuple ((rowL r).map PyData.int)
theorem rows_len : ∀ im : List Int, (rowsOf im).length = im.length / 4
  | [] => rfl
  | [_] => by simp [rowsOf]
  | [_, _] => by simp [rowsOf]
  | [_, _, _] => by simp [rowsOf]
  | a :: b :: c :: d :: r => by
    rw [rowsOf, List.length_cons, rows_len r]
    simp only [List.length_cons]
    omega
theorem rows_at : ∀ (im : List Int) (i : Nat) (r : Int × Nd), (rowsOf im)[i]? = some r → (im.drop (4 * i)).take 4 = rowL r
  | [], _, _, h => by simp [rowsOf] at h
  | [_], _, _, h => by simp [rowsOf] at h
  | [_, _], _, _, h => by simp [rowsOf] at h
  | [_, _, _], _, _, h => by simp [rowsOf] at h
  | a :: b :: c :: d :: t, 0, r, h => by
    rw [rowsOf] at h
    simp at h
    subst h
    rfl
  | a :: b :: c :: d :: t, i + 1, r, h => by
    rw [rowsOf, List.getElem?_cons_succ] at h
    have e : 4 * (i + 1) = 4 * i + 1 + 1 + 1 + 1 := by omega
    rw [e]
    exact rows_at t i r h
/-- a dict that holds nodes by their numbers: tuples or lists of three -/
def TabT (K : PySem.W.Frag) (H : Hp) (kvs : List (Key × V)) (f : Int → Option Nd) : Prop := ∀ k, match f k with
  | none => valV kvs (Sum.inl k) = none
  | some n => ∃ p, valV kvs (Sum.inl k) = some (.ref p) ∧ SqT K H p ((ndL n).map V.int)
def TabL (K : PySem.W.Frag) (H : Hp) (kvs : List (Key × V)) (f : Int → Option Nd) : Prop := ∀ k, match f k with
  | none => valV kvs (Sum.inl k) = none
  | some n => ∃ p, valV kvs (Sum.inl k) = some (.ref p) ∧ H p = some (.lst ((ndL n).map V.int))
theorem TabT.ex {K : PySem.W.Frag} {H H' : Hp} {kvs : List (Key × V)} {f : Int → Option Nd} (h : TabT K H kvs f) (e : Ex H H') : TabT K H' kvs f := fun k => by
  have := h k
  cases q : f k with
  | none => rw [q] at this; exact this
  | some n => rw [q] at this; obtain ⟨p, h1, h2⟩ := this; exact ⟨p, h1, ex_t e h2⟩
theorem TabL.ex {K : PySem.W.Frag} {H H' : Hp} {kvs : List (Key × V)} {f : Int → Option Nd} (h : TabL K H kvs f) (e : ∀ a xs, H a = some (.lst xs) → H' a = some (.lst xs)) : TabL K H' kvs f := fun k => by
  have := h k
  cases q : f k with
  | none => rw [q] at this; exact this
  | some n => rw [q] at this; obtain ⟨p, h1, h2⟩ := this; exact ⟨p, h1, e _ _ h2⟩
/-- one of the image's cells, or 0 -/
def cellAt (im : List Int) (i : Int) : Int := (atI im i).getD 0
/-! ### the machine -/
structure MS where
  a : Int
  st : List Int
  sd : List (Int × Int)
  bk : List Int
  p : Int
  ou : List Int
  n : Int
def ms0 : MS := ⟨0, [], [], [], 0, [], 0⟩
def topM (s : MS) : Int := s.st.getLast?.getD 0
def popM (s : MS) : MS := { s with st := s.st.dropLast }
def pushM (s : MS) (v : Int) : MS := { s with st := s.st ++ [v] }
def lookM (s : MS) (k : Int) : Int := (getI s.sd k).getD 0
def putM (s : MS) (k v : Int) : MS := { s with sd := putI s.sd k v }
def callM (s : MS) (k : Int) : MS := { s with bk := s.bk ++ [s.a], a := k }
def combI (op x y : Int) : Int := if op = 43 then x + y else if op = 45 then x - y else if op = 42 then 10 * x + y else if op = 60 then (if x < y then 1 else 0) else (if x = y then 1 else 0)
abbrev ActF := List Int → List Int → Nd → MS → MS
def aPush : ActF := fun _ _ n s => pushM s n.2.1
def aComb : ActF := fun _ _ n s => pushM (popM (popM s)) (combI n.1 (topM (popM s)) (topM s))
def aGet : ActF := fun _ _ _ s => pushM (popM s) (lookM s (topM s))
def aPut : ActF := fun _ _ _ s => putM (popM (popM s)) (topM s) (topM (popM s))
def aSet : ActF := fun _ _ n s => putM (popM s) n.2.1 (topM s)
def aTake : ActF := fun _ nums _ s => if s.p < nums.length then { (pushM s ((atI nums s.p).getD 0)) with p := s.p + 1 } else pushM s (-1)
def aRew : ActF := fun _ _ _ s => { s with p := 0 }
def aWrite : ActF := fun _ _ _ s => { (popM s) with ou := s.ou ++ [topM s] }
def aCell : ActF := fun im _ _ s => pushM (popM s) (cellAt im (topM s))
def aDrop : ActF := fun _ _ _ s => popM s
def aDouble : ActF := fun _ _ _ s => pushM (pushM (popM s) (topM s)) (topM s)
def aExch : ActF := fun _ _ _ s => pushM (pushM (popM (popM s)) (topM s)) (topM (popM s))
def aBranch : ActF := fun _ _ n s => if topM s = 0 then { (popM s) with a := n.2.1 } else popM s
def aCallP : ActF := fun _ _ _ s => callM (popM s) (topM s)
def canC (im : List Int) (k : Int) : Bool := (decide (1 ≤ k) && decide (k ≤ 199)) && (nodeAt im k).isSome
def aCallD : ActF := fun im _ _ s => if canC im (topM s) = true then callM (popM s) (topM s) else pushM (popM s) (topM s)
def aRet : ActF := fun _ _ _ s => match s.bk.getLast? with
  | none => s
  | some b => { s with bk := s.bk.dropLast, a := b }
def isSm (c : Int) : Bool := decide (97 ≤ c) && decide (c ≤ 122)
def isCp (c : Int) : Bool := decide (65 ≤ c) && decide (c ≤ 90)
def ACTS : List (Int × ActF) := [(35, aPush), (43, aComb), (45, aComb), (42, aComb), (60, aComb), (126, aComb), (64, aGet), (33, aPut), (61, aSet), (44, aTake), (94, aRew), (46, aWrite), (38, aCell), (95, aDrop), (34, aDouble), (92, aExch), (63, aBranch), (40, aCallP), (36, aCallD), (41, aRet)]
def perfM : ActF := fun im nums n s => match ACTS.lookup n.1 with
  | some f => f im nums n s
  | none => if isSm n.1 = true then pushM s (lookM s n.1) else if isCp n.1 = true then callM s n.1 else s
def goM (s : MS) (n : Nd) : MS := { s with a := n.2.2, n := s.n + 1 }
def stepM (im nums : List Int) (s : MS) : Option MS := (nodeAt im s.a).map fun n => perfM im nums n (goM s n)
/-! ### plain forms -/
structure PS where
  a : Int
  st : List Int
  pr : List (Int × Int)
  bk : List Int
  p : Int
  ou : List Int
def pairsOf (sd : List (Int × Int)) : List (Int × Int) := ((srt (sd.map (·.1))).filter fun k => (getI sd k).getD 0 ≠ 0).map fun k => (k, (getI sd k).getD 0)
def plainM (s : MS) : PS := ⟨s.a, s.st, pairsOf s.sd, s.bk, s.p, s.ou⟩
def ofPlain (t : PS) : MS := ⟨t.a, t.st, t.pr.foldl (fun sd q => putI sd q.1 q.2) [], t.bk, t.p, t.ou, 0⟩
def pairD (q : Int × Int) : PyData := .tuple ([q.1, q.2].map PyData.int)
def plainD (t : PS) : PyData := .tuple [.int t.a, .tuple (t.st.map PyData.int), .tuple (t.pr.map pairD), .tuple (t.bk.map PyData.int), .int t.p, .tuple (t.ou.map PyData.int)]
def optD (o : Option PS) : PyData := match o with
  | none => .none
  | some t => plainD t
def lstepM (im nums : List Int) (t : PS) : Option PS := (stepM im nums (ofPlain t)).map plainM
/-! ### sizes -/
structure Sz (B : Nat) (s : MS) : Prop where
  st : s.st.length ≤ B
  sd : s.sd.length ≤ B
  bk : s.bk.length ≤ B
  ou : s.ou.length ≤ B
theorem Sz.mono {B B' : Nat} {s : MS} (h : Sz B s) (hb : B ≤ B') : Sz B' s := ⟨by have := h.st; omega, by have := h.sd; omega, by have := h.bk; omega, by have := h.ou; omega⟩
theorem Sz.pop {B : Nat} {s : MS} (h : Sz B s) : Sz B (popM s) := ⟨by have := h.st; show s.st.dropLast.length ≤ B; rw [List.length_dropLast]; omega, h.sd, h.bk, h.ou⟩
theorem Sz.push {B : Nat} {s : MS} {v : Int} (h : Sz B s) : Sz (B + 1) (pushM s v) := ⟨by have := h.st; show (s.st ++ [v]).length ≤ B + 1; rw [List.length_append]; simp; omega, by have := h.sd; show s.sd.length ≤ _; omega, by have := h.bk; show s.bk.length ≤ _; omega, by have := h.ou; show s.ou.length ≤ _; omega⟩
theorem Sz.put {B : Nat} {s : MS} {k v : Int} (h : Sz B s) : Sz (B + 1) (putM s k v) := ⟨by have := h.st; show s.st.length ≤ _; omega, by have := h.sd; have := putI_len s.sd k v; show (putI s.sd k v).length ≤ _; omega, by have := h.bk; show s.bk.length ≤ _; omega, by have := h.ou; show s.ou.length ≤ _; omega⟩
theorem Sz.call {B : Nat} {s : MS} {k : Int} (h : Sz B s) : Sz (B + 1) (callM s k) := ⟨by have := h.st; show s.st.length ≤ _; omega, by have := h.sd; show s.sd.length ≤ _; omega, by have := h.bk; show (s.bk ++ [s.a]).length ≤ _; rw [List.length_append]; simp; omega, by have := h.ou; show s.ou.length ≤ _; omega⟩
theorem Sz.go {B : Nat} {s : MS} {n : Nd} (h : Sz B s) : Sz B (goM s n) := ⟨h.st, h.sd, h.bk, h.ou⟩
theorem pop_len (s : MS) : (popM s).st.length = s.st.length - 1 := List.length_dropLast

theorem act_cases {P : ActF → Prop} {c : Int} {f : ActF} (h : ACTS.lookup c = some f) (hP : ∀ e ∈ ACTS, P e.2) : P f := by
  have : (c, f) ∈ ACTS := by
    revert h
    generalize ACTS = L
    induction L with
    | nil => intro h; cases h
    | cons e r ih =>
      obtain ⟨k, g⟩ := e
      intro h
      rw [List.lookup_cons] at h
      by_cases q : c = k
      · subst q
        rw [beq_self_eq_true] at h
        cases h
        exact List.mem_cons_self
      · rw [show (c == k) = false by simpa using q] at h
        exact List.mem_cons_of_mem _ (ih h)
  exact hP _ this
theorem Sz.act {B : Nat} {s : MS} {c : Int} {f : ActF} {im nums : List Int} {n : Nd} (h : Sz B s) (hf : ACTS.lookup c = some f) : Sz (B + 2) (f im nums n s) := by
  have h1 := h.mono (Nat.le_succ B)
  have h2 := h1.mono (Nat.le_succ (B + 1))
  have hp := h.pop
  have hpp := hp.pop
  refine act_cases (P := fun f => Sz (B + 2) (f im nums n s)) hf ?_
  unfold ACTS
  simp only [List.mem_cons, List.not_mem_nil, or_false, forall_eq_or_imp, forall_eq]
  refine ⟨?_, ?_, ?_, ?_, ?_, ?_, ?_, ?_, ?_, ?_, ?_, ?_, ?_, ?_, ?_, ?_, ?_, ?_, ?_, ?_⟩
  · exact h.push.mono (by omega)
  iterate 5 exact hpp.push.mono (by omega)
  · exact hp.push.mono (by omega)
  · exact hpp.put.mono (by omega)
  · exact hp.put.mono (by omega)
  · unfold aTake
    split
    · exact ⟨(h.push (v := _)).mono (Nat.le_succ (B + 1)) |>.st, h2.sd, h2.bk, h2.ou⟩
    · exact h.push.mono (by omega)
  · exact ⟨h2.st, h2.sd, h2.bk, h2.ou⟩
  · refine ⟨(hp.mono (by omega : B ≤ B + 2)).st, h2.sd, h2.bk, ?_⟩
    have := h.ou
    show (s.ou ++ [topM s]).length ≤ _
    rw [List.length_append]
    simp
    omega
  · exact hp.push.mono (by omega)
  · exact hp.mono (by omega)
  · exact hp.push.push.mono (by omega)
  · exact hpp.push.push.mono (by omega)
  · unfold aBranch
    split
    · exact ⟨(hp.mono (by omega : B ≤ B + 2)).st, h2.sd, h2.bk, h2.ou⟩
    · exact hp.mono (by omega)
  · exact hp.call.mono (by omega)
  · unfold aCallD
    split
    · exact hp.call.mono (by omega)
    · exact hp.push.mono (by omega)
  · unfold aRet
    split
    · exact h2
    · refine ⟨h2.st, h2.sd, ?_, h2.ou⟩
      have := h.bk
      show s.bk.dropLast.length ≤ _
      rw [List.length_dropLast]
      omega
theorem Sz.perf {B : Nat} {s : MS} {im nums : List Int} {n : Nd} (h : Sz B s) : Sz (B + 2) (perfM im nums n s) := by
  unfold perfM
  split
  · rename_i f hf
    exact h.act hf
  · split
    · exact h.push.mono (by omega)
    · split
      · exact h.call.mono (by omega)
      · exact h.mono (by omega)
theorem Sz.step {B : Nat} {s s' : MS} {im nums : List Int} (h : Sz B s) (e : stepM im nums s = some s') : Sz (B + 2) s' := by
  unfold stepM at e
  cases q : nodeAt im s.a with
  | none => rw [q] at e; cases e
  | some n => rw [q] at e; cases e; exact h.go.perf
/-! ### the objects of a state -/
structure AM where
  x : Addr
  dx : Addr
  n : Addr
  qn : Addr
  qs : Addr
  qd : Addr
  qb : Addr
  qo : Addr
def AM.L (A : AM) : List Addr := [A.x, A.qs, A.qd, A.qb, A.qo]
def FM (s : MS) (A : AM) : List (Str × V) := [("nodes", .ref A.n), ("numbers", .ref A.qn), ("at", .int s.a), ("stack", .ref A.qs), ("store", .ref A.qd), ("back", .ref A.qb), ("place", .int s.p), ("output", .ref A.qo), ("steps", .int s.n)]
structure NodesAt (K : PySem.W.Frag) (CN : Addr) (F : Hp) (n : Addr) (im : List Int) : Prop where
  ex : ∃ (dn qc qr qt : Addr) (kvs : List (Key × V)), F n = some (.ins CN dn [("_cells", .ref qc), ("_rows", .ref qr), ("_table", .ref qt)]) ∧ SqL K F qc (im.map V.int) ∧ Dp K F (.ref qr) (.list ((rowsOf im).map rowD)) ∧ F qt = some (.dK kvs) ∧ TabT K F kvs (nodeAt im)
  len : im.length ≤ 60000
theorem NodesAt.mono {K : PySem.W.Frag} {CN : Addr} {F H : Hp} {n : Addr} {im : List Int} (h : NodesAt K CN F n im) (e : Ex F H) : NodesAt K CN H n im := by
  obtain ⟨dn, qc, qr, qt, kvs, h1, h2, h3, h4, h5⟩ := h.ex
  exact ⟨⟨dn, qc, qr, qt, kvs, e _ _ h1, ex_l e h2, h3.ex e, e _ _ h4, h5.ex e⟩, h.len⟩
structure RM (K : PySem.W.Frag) (C CN : Addr) (F H : Hp) (A : AM) (im nums : List Int) (s : MS) : Prop where
  fr : Ex F H
  fx : F A.x = none
  fs : F A.qs = none
  fd : F A.qd = none
  fb : F A.qb = none
  fo : F A.qo = none
  ox : H A.x = some (.ins C A.dx (FM s A))
  os : H A.qs = some (.lst (s.st.map V.int))
  od : H A.qd = some (.dK (kvI s.sd))
  ob : H A.qb = some (.lst (s.bk.map V.int))
  oo : H A.qo = some (.lst (s.ou.map V.int))
  n1 : A.qs ≠ A.qb
  n2 : A.qs ≠ A.qo
  n3 : A.qb ≠ A.qo
  nd : NodesAt K CN F A.n im
  nu : SqL K F A.qn (nums.map V.int)
  pp : 0 ≤ s.p
section
variable {K : PySem.W.Frag} {C CN : Addr} {F H H' : Hp} {A : AM} {im nums : List Int} {s : MS}
theorem RM.ex (h : RM K C CN F H A im nums s) (e : Ex H H') : RM K C CN F H' A im nums s :=
  { h with fr := h.fr.trans e, ox := e _ _ h.ox, os := e _ _ h.os, od := e _ _ h.od, ob := e _ _ h.ob, oo := e _ _ h.oo }
theorem RM.ndH (h : RM K C CN F H A im nums s) : NodesAt K CN H A.n im := h.nd.mono h.fr
theorem RM.nuH (h : RM K C CN F H A im nums s) : SqL K H A.qn (nums.map V.int) := ex_l h.fr h.nu
theorem ne_of2 {H : Hp} {a b : Addr} {o u : HO} (h : H a = some o) (g : H b = some u) (n : o ≠ u) : a ≠ b := fun e => by
  subst e
  rw [h] at g
  exact n (Option.some.inj g)
theorem RM.stk (h : RM K C CN F H A im nums s) (l : List Int) : RM K C CN F (upd H A.qs (.lst (l.map V.int))) A im nums { s with st := l } :=
  { h with
    fr := h.fr.mut h.fs
    ox := by rw [upd_ne (ne_of2 h.ox h.os (by intro z; cases z))]; exact h.ox
    os := upd_same
    od := by rw [upd_ne (ne_of2 h.od h.os (by intro z; cases z))]; exact h.od
    ob := by rw [upd_ne h.n1.symm]; exact h.ob
    oo := by rw [upd_ne h.n2.symm]; exact h.oo }
theorem RM.bck (h : RM K C CN F H A im nums s) (l : List Int) : RM K C CN F (upd H A.qb (.lst (l.map V.int))) A im nums { s with bk := l } :=
  { h with
    fr := h.fr.mut h.fb
    ox := by rw [upd_ne (ne_of2 h.ox h.ob (by intro z; cases z))]; exact h.ox
    os := by rw [upd_ne h.n1]; exact h.os
    od := by rw [upd_ne (ne_of2 h.od h.ob (by intro z; cases z))]; exact h.od
    ob := upd_same
    oo := by rw [upd_ne h.n3.symm]; exact h.oo }
theorem RM.out (h : RM K C CN F H A im nums s) (l : List Int) : RM K C CN F (upd H A.qo (.lst (l.map V.int))) A im nums { s with ou := l } :=
  { h with
    fr := h.fr.mut h.fo
    ox := by rw [upd_ne (ne_of2 h.ox h.oo (by intro z; cases z))]; exact h.ox
    os := by rw [upd_ne h.n2]; exact h.os
    od := by rw [upd_ne (ne_of2 h.od h.oo (by intro z; cases z))]; exact h.od
    ob := by rw [upd_ne h.n3]; exact h.ob
    oo := upd_same }
theorem RM.sto (h : RM K C CN F H A im nums s) (l : List (Int × Int)) : RM K C CN F (upd H A.qd (.dK (kvI l))) A im nums { s with sd := l } :=
  { h with
    fr := h.fr.mut h.fd
    ox := by rw [upd_ne (ne_of2 h.ox h.od (by intro z; cases z))]; exact h.ox
    os := by rw [upd_ne (ne_of2 h.os h.od (by intro z; cases z))]; exact h.os
    od := upd_same
    ob := by rw [upd_ne (ne_of2 h.ob h.od (by intro z; cases z))]; exact h.ob
    oo := by rw [upd_ne (ne_of2 h.oo h.od (by intro z; cases z))]; exact h.oo }
theorem RM.fld (h : RM K C CN F H A im nums s) (s' : MS) (hp : 0 ≤ s'.p) (e1 : s'.st = s.st) (e2 : s'.sd = s.sd) (e3 : s'.bk = s.bk) (e4 : s'.ou = s.ou) : RM K C CN F (upd H A.x (.ins C A.dx (FM s' A))) A im nums s' :=
  { h with
    fr := h.fr.mut h.fx
    ox := upd_same
    os := by rw [upd_ne (ne_of2 h.os h.ox (by intro z; cases z)), e1]; exact h.os
    od := by rw [upd_ne (ne_of2 h.od h.ox (by intro z; cases z)), e2]; exact h.od
    ob := by rw [upd_ne (ne_of2 h.ob h.ox (by intro z; cases z)), e3]; exact h.ob
    oo := by rw [upd_ne (ne_of2 h.oo h.ox (by intro z; cases z)), e4]; exact h.oo
    pp := hp }
theorem RM.noT (h : RM K C CN F H A im nums s) : ∀ c ∈ A.L, ∃ o, H c = some o ∧ NoTup o := by
  intro c m
  simp only [AM.L, List.mem_cons, List.not_mem_nil, or_false] at m
  rcases m with rfl | rfl | rfl | rfl | rfl
  · exact ⟨_, h.ox, nt_ins⟩
  · exact ⟨_, h.os, nt_lst⟩
  · exact ⟨_, h.od, nt_dK⟩
  · exact ⟨_, h.ob, nt_lst⟩
  · exact ⟨_, h.oo, nt_lst⟩
theorem bm_x {o : HO} (b : Bu A.L H H') : Bu A.L H (upd H' A.x o) := b.upd (.inl (by simp [AM.L]))
theorem bm_s {o : HO} (b : Bu A.L H H') : Bu A.L H (upd H' A.qs o) := b.upd (.inl (by simp [AM.L]))
theorem bm_d {o : HO} (b : Bu A.L H H') : Bu A.L H (upd H' A.qd o) := b.upd (.inl (by simp [AM.L]))
theorem bm_b {o : HO} (b : Bu A.L H H') : Bu A.L H (upd H' A.qb o) := b.upd (.inl (by simp [AM.L]))
theorem bm_o {o : HO} (b : Bu A.L H H') : Bu A.L H (upd H' A.qo o) := b.upd (.inl (by simp [AM.L]))
theorem fm_at {s : MS} {v : Int} : putF "at" (.int v) (FM s A) = FM { s with a := v } A := rfl
theorem fm_place {s : MS} {v : Int} : putF "place" (.int v) (FM s A) = FM { s with p := v } A := rfl
theorem fm_steps {s : MS} {v : Int} : putF "steps" (.int v) (FM s A) = FM { s with n := v } A := rfl
theorem fm_len {s : MS} : (FM s A).length < 1000 := by show 9 < 1000; decide
end
/-! ### the promises' shape -/
/-- a method, or an action, of a state: s becomes f s, r s comes back -/
def spM (K : PySem.W.Frag) (C CN : Addr) (B : Nat) {α : Type} (arg : α → List V) (pre : List Int → List Int → Hp → α → Prop) (f : List Int → List Int → α → MS → MS) (r : List Int → List Int → α → MS → V) : Sp := fun vs H Q _ =>
  ∃ (F : Hp) (A : AM) (im nums : List Int) (s : MS) (a : α), vs = .ref A.x :: arg a ∧ RM K C CN F H A im nums s ∧ Sz B s ∧ pre im nums H a ∧ ∀ H', RM K C CN F H' A im nums (f im nums a s) → Bu A.L H H' → Q (r im nums a s) H'
/-- what it leaves -/
def LM (K : PySem.W.Frag) (C CN : Addr) (F H : Hp) (A : AM) (im nums : List Int) (s' : MS) (v : V) : V → Hp → Prop := fun v' H' => v' = v ∧ RM K C CN F H' A im nums s' ∧ Bu A.L H H'
section
variable {K : PySem.W.Frag} {C CN : Addr} {F H H' : Hp} {A : AM} {im nums : List Int} {s : MS} {σ : L2.St} {to te : TE} {t : TA} {B : Nat} {α : Type} {arg : α → List V} {pre : List Int → List Int → Hp → α → Prop} {f : List Int → List Int → α → MS → MS} {r : List Int → List Int → α → MS → V} {m : Str} {E : XK} {dvs : List V}
theorem ep_M (a : α) (ho : Ev to σ H (.ref A.x)) (hR : RM K C CN F H A im nums s) (hm : (FM s A).lookup m = none) (hz : Sz B s) (ht : EvA t σ H (arg a)) (hp : ∀ H1, Ex H H1 → pre im nums H1 a) :
    EvP (tMeth C m (spM K C CN B arg pre f r) [] E to t) σ H (LM K C CN F H A im nums (f im nums a s) (r im nums a s)) :=
  ep_meth ho hR.ox hm ht fun H1 e1 Q k => ⟨F, A, im, nums, s, a, by rw [List.append_nil], hR.ex e1, hz, hp H1 e1, fun H' h b => k _ H' ⟨rfl, h, (ex_bu e1).trans b⟩⟩
/-- one argument, an int that a method of the same state hands back -/
theorem ep_M1 {s1 : MS} {i : Int} (arg : Int → List V) (harg : arg i = [.int i]) {pre : List Int → List Int → Hp → Int → Prop} {f : List Int → List Int → Int → MS → MS} {r : List Int → List Int → Int → MS → V} (ho : Ev to σ H (.ref A.x)) (hR : RM K C CN F H A im nums s) (hm : (FM s A).lookup m = none)
    (ht : ∀ H1, Ex H H1 → EvP te σ H1 (LM K C CN F H1 A im nums s1 (.int i))) (hz : Sz B s1) (hp : ∀ H1, pre im nums H1 i) :
    EvP (tMeth C m (spM K C CN B arg pre f r) [] E to (tCons te tNil)) σ H (LM K C CN F H A im nums (f im nums i s1) (r im nums i s1)) :=
  ep_methP (PA := fun vs H1 => vs = [.int i] ∧ RM K C CN F H1 A im nums s1 ∧ Bu A.L H H1) ho hR.ox hm (fun H1 e1 Q q => eap_one (ht H1 e1) Q fun vs H2 h2 => by
    obtain ⟨v, rfl, rfl, h3, h4⟩ := h2
    exact q _ H2 ⟨rfl, h3, (ex_bu e1).trans h4⟩) fun vs H1 h1 Q k => by
      obtain ⟨rfl, h3, h4⟩ := h1
      exact ⟨F, A, im, nums, s1, i, by rw [harg]; rfl, h3, hz, hp H1, fun H' h b => k _ H' ⟨rfl, h, h4.trans b⟩⟩
theorem lm_bk {v v0 : V} {s' : MS} {H1 : Hp} (h : LM K C CN F H1 A im nums s' v v0 H') (b : Bu A.L H H1) : LM K C CN F H A im nums s' v v0 H' := ⟨h.1, h.2.1, b.trans h.2.2⟩
end

/-- xs.pop() of a list of ints that is not empty -/
theorem ep_pop {K : PySem.W.Frag} {σ : L2.St} {H : Hp} {ta : TE} {l : Addr} {ns : List Int} (ha : Ev ta σ H (.ref l)) (hl : H l = some (.lst (ns.map V.int))) (hn : ns ≠ []) :
    EvP (tBM0 K "list" rPop ta) σ H (fun v H' => v = .int (ns.getLast?.getD 0) ∧ ∃ H1, Ex H H1 ∧ H' = upd H1 l (.lst (ns.dropLast.map V.int))) := fun Q q =>
  ha H (Ex.refl H) _ fun H1 e1 => by
    have h2 := e1 _ _ hl
    have hd : ns = ns.dropLast ++ [ns.getLast?.getD 0] := by
      rw [List.getLast?_eq_some_getLast hn]
      exact (List.dropLast_concat_getLast hn).symm
    have hm := congrArg (List.map V.int) hd
    rw [List.map_append] at hm
    refine ⟨.inl ⟨rfl, _, sq_of h2⟩, l, ns.map V.int, .int (ns.getLast?.getD 0), rfl, rfl, h2, ?_, q _ _ ⟨rfl, H1, e1, ?_⟩⟩
    · rw [hm, List.length_append]
      simp
    · congr 2
      rw [hm, List.map_cons, List.map_nil, List.dropLast_concat]
end Gd

set_option Elab.async false
set_option linter.all false
set_option maxRecDepth 100000
set_option maxHeartbeats 4000000
/-! Of our own: the machine's objects made and remade. -/
namespace Gd
open PySem PySem.Spec PyProof.Rows L2 Evl
/-- a heap without one object -/
def rmH (x : Addr) (H : Hp) : Hp := fun a => if a = x then none else H a
theorem rm_at {x a : Addr} {H : Hp} (n : a ≠ x) : rmH x H a = H a := if_neg n
theorem rm_x {x : Addr} {H : Hp} : rmH x H x = none := if_pos rfl
theorem rm_ex {x : Addr} {H : Hp} : Ex (rmH x H) H := fun a o h => by
  unfold rmH at h
  split at h
  · cases h
  · exact h
theorem ex_rm {x : Addr} {G H : Hp} (e : Ex G H) (n : G x = none) : Ex G (rmH x H) := fun a o h => by
  rw [rm_at (ne_of_none h n)]
  exact e a o h
section
variable {K : PySem.W.Frag} {H : Hp} {x C dx : Addr} {fs : List (Str × V)}
theorem sqL_rm (hx : H x = some (.ins C dx fs)) {a : Addr} {xs : List V} (h : SqL K H a xs) : SqL K (rmH x H) a xs := by
  rcases h with (h | ⟨o, h⟩) | h
  · exact .inl (.inl (by rw [rm_at (ne_of2 h hx (by intro z; cases z))]; exact h))
  · exact .inl (.inr ⟨o, by rw [rm_at (ne_of2 h hx (by intro z; cases z))]; exact h⟩)
  · exact .inr h
theorem sqT_rm (hx : H x = some (.ins C dx fs)) {a : Addr} {xs : List V} (h : SqT K H a xs) : SqT K (rmH x H) a xs := by
  rcases h with (h | ⟨o, h⟩) | h
  · exact .inl (.inl (by rw [rm_at (ne_of2 h hx (by intro z; cases z))]; exact h))
  · exact .inl (.inr ⟨o, by rw [rm_at (ne_of2 h hx (by intro z; cases z))]; exact h⟩)
  · exact .inr h
mutual
theorem dp_rm (hx : H x = some (.ins C dx fs)) : ∀ (d : PyData) (v : V), Dp K H v d → Dp K (rmH x H) v d
  | .none, _, h => by cases h; exact .non
  | .bool _, _, h => by cases h; exact .bl _
  | .int _, _, h => by cases h; exact .int _
  | .str _, _, h => by cases h; exact .str _
  | .list ds, _, h => by cases h with | lst h1 h2 => exact .lst (sqL_rm hx h1) (dpAll_rm hx ds _ h2)
  | .tuple ds, _, h => by cases h with | tup h1 h2 => exact .tup (sqT_rm hx h1) (dpAll_rm hx ds _ h2)
  | .dict _, _, h => by cases h
theorem dpAll_rm (hx : H x = some (.ins C dx fs)) : ∀ (ds : List PyData) (vs : List V), DpAll K H vs ds → DpAll K (rmH x H) vs ds
  | [], _, h => by cases h; exact .nil
  | d :: ds, _, h => by cases h with | cons a b => exact .cons (dp_rm hx d _ a) (dpAll_rm hx ds _ b)
end
theorem NodesAt.rm {CN n : Addr} {im : List Int} (h : NodesAt K CN H n im) (hx : H x = some (.ins C dx fs)) (hn : n ≠ x) : NodesAt K CN (rmH x H) n im := by
  obtain ⟨dn, qc, qr, qt, kvs, h1, h2, h3, h4, h5⟩ := h.ex
  refine ⟨⟨dn, qc, qr, qt, kvs, by rw [rm_at hn]; exact h1, sqL_rm hx h2, dp_rm hx _ _ h3, by rw [rm_at (ne_of2 h4 hx (by intro z; cases z))]; exact h4, fun k => ?_⟩, h.len⟩
  have := h5 k
  cases q : nodeAt im k with
  | none => rw [q] at this; exact this
  | some n => rw [q] at this; obtain ⟨p, g1, g2⟩ := this; exact ⟨p, g1, sqT_rm hx g2⟩
end
section
variable {K : PySem.W.Frag} {C CN : Addr} {F H H1 : Hp} {A : AM} {im nums : List Int} {s : MS} {q : Addr}
theorem RM.newS (h : RM K C CN F H A im nums s) (hq : H q = none) (e : Ex H H1) (l : List Int) (h1 : H1 q = some (.lst (l.map V.int))) : RM K C CN F (upd H1 A.x (.ins C A.dx (FM { s with st := l } { A with qs := q }))) { A with qs := q } im nums { s with st := l } :=
  have nx : q ≠ A.x := fun z => by rw [z, h.ox] at hq; cases hq
  { fr := (h.fr.trans e).mut h.fx
    fx := h.fx
    fs := by cases z : F q with
      | none => rfl
      | some o => rw [h.fr _ _ z] at hq; cases hq
    fd := h.fd
    fb := h.fb
    fo := h.fo
    ox := upd_same
    os := by show upd H1 A.x _ q = _; rw [upd_ne nx]; exact h1
    od := by show upd H1 A.x _ A.qd = _; rw [upd_ne (ne_of2 h.od h.ox (by intro z; cases z))]; exact e _ _ h.od
    ob := by show upd H1 A.x _ A.qb = _; rw [upd_ne (ne_of2 h.ob h.ox (by intro z; cases z))]; exact e _ _ h.ob
    oo := by show upd H1 A.x _ A.qo = _; rw [upd_ne (ne_of2 h.oo h.ox (by intro z; cases z))]; exact e _ _ h.oo
    n1 := fun z => by have z : q = A.qb := z; rw [z, h.ob] at hq; cases hq
    n2 := fun z => by have z : q = A.qo := z; rw [z, h.oo] at hq; cases hq
    n3 := h.n3
    nd := h.nd
    nu := h.nu
    pp := h.pp }
theorem RM.newB (h : RM K C CN F H A im nums s) (hq : H q = none) (e : Ex H H1) (l : List Int) (h1 : H1 q = some (.lst (l.map V.int))) : RM K C CN F (upd H1 A.x (.ins C A.dx (FM { s with bk := l } { A with qb := q }))) { A with qb := q } im nums { s with bk := l } :=
  have nx : q ≠ A.x := fun z => by rw [z, h.ox] at hq; cases hq
  { fr := (h.fr.trans e).mut h.fx
    fx := h.fx
    fb := by cases z : F q with
      | none => rfl
      | some o => rw [h.fr _ _ z] at hq; cases hq
    fd := h.fd
    fs := h.fs
    fo := h.fo
    ox := upd_same
    ob := by show upd H1 A.x _ q = _; rw [upd_ne nx]; exact h1
    od := by show upd H1 A.x _ A.qd = _; rw [upd_ne (ne_of2 h.od h.ox (by intro z; cases z))]; exact e _ _ h.od
    os := by show upd H1 A.x _ A.qs = _; rw [upd_ne (ne_of2 h.os h.ox (by intro z; cases z))]; exact e _ _ h.os
    oo := by show upd H1 A.x _ A.qo = _; rw [upd_ne (ne_of2 h.oo h.ox (by intro z; cases z))]; exact e _ _ h.oo
    n1 := fun z => by have z : A.qs = q := z; rw [← z, h.os] at hq; cases hq
    n3 := fun z => by have z : q = A.qo := z; rw [z, h.oo] at hq; cases hq
    n2 := h.n2
    nd := h.nd
    nu := h.nu
    pp := h.pp }
theorem RM.newO (h : RM K C CN F H A im nums s) (hq : H q = none) (e : Ex H H1) (l : List Int) (h1 : H1 q = some (.lst (l.map V.int))) : RM K C CN F (upd H1 A.x (.ins C A.dx (FM { s with ou := l } { A with qo := q }))) { A with qo := q } im nums { s with ou := l } :=
  have nx : q ≠ A.x := fun z => by rw [z, h.ox] at hq; cases hq
  { fr := (h.fr.trans e).mut h.fx
    fx := h.fx
    fo := by cases z : F q with
      | none => rfl
      | some o => rw [h.fr _ _ z] at hq; cases hq
    fd := h.fd
    fs := h.fs
    fb := h.fb
    ox := upd_same
    oo := by show upd H1 A.x _ q = _; rw [upd_ne nx]; exact h1
    od := by show upd H1 A.x _ A.qd = _; rw [upd_ne (ne_of2 h.od h.ox (by intro z; cases z))]; exact e _ _ h.od
    os := by show upd H1 A.x _ A.qs = _; rw [upd_ne (ne_of2 h.os h.ox (by intro z; cases z))]; exact e _ _ h.os
    ob := by show upd H1 A.x _ A.qb = _; rw [upd_ne (ne_of2 h.ob h.ox (by intro z; cases z))]; exact e _ _ h.ob
    n2 := fun z => by have z : A.qs = q := z; rw [← z, h.os] at hq; cases hq
    n3 := fun z => by have z : A.qb = q := z; rw [← z, h.ob] at hq; cases hq
    n1 := h.n1
    nd := h.nd
    nu := h.nu
    pp := h.pp }
theorem RM.newD (h : RM K C CN F H A im nums s) (hq : H q = none) (e : Ex H H1) (l : List (Int × Int)) (h1 : H1 q = some (.dK (kvI l))) : RM K C CN F (upd H1 A.x (.ins C A.dx (FM { s with sd := l } { A with qd := q }))) { A with qd := q } im nums { s with sd := l } :=
  have nx : q ≠ A.x := fun z => by rw [z, h.ox] at hq; cases hq
  { fr := (h.fr.trans e).mut h.fx
    fx := h.fx
    fd := by cases z : F q with
      | none => rfl
      | some o => rw [h.fr _ _ z] at hq; cases hq
    fo := h.fo
    fs := h.fs
    fb := h.fb
    ox := upd_same
    od := by show upd H1 A.x _ q = _; rw [upd_ne nx]; exact h1
    oo := by show upd H1 A.x _ A.qo = _; rw [upd_ne (ne_of2 h.oo h.ox (by intro z; cases z))]; exact e _ _ h.oo
    os := by show upd H1 A.x _ A.qs = _; rw [upd_ne (ne_of2 h.os h.ox (by intro z; cases z))]; exact e _ _ h.os
    ob := by show upd H1 A.x _ A.qb = _; rw [upd_ne (ne_of2 h.ob h.ox (by intro z; cases z))]; exact e _ _ h.ob
    n2 := h.n2
    n3 := h.n3
    n1 := h.n1
    nd := h.nd
    nu := h.nu
    pp := h.pp }
end
/-! ### a table by codes -/
theorem lookup_map {α β : Type} (L : List (Int × α)) (g : α → β) (c : Int) : (L.map fun e => (e.1, g e.2)).lookup c = (L.lookup c).map g := by
  induction L with
  | nil => rfl
  | cons e r ih =>
    rw [List.map_cons, List.lookup_cons, List.lookup_cons, ih]
    cases (c == e.1) <;> rfl
theorem mem_lookup {κ β : Type} [BEq κ] [LawfulBEq κ] {L : List (κ × β)} {c : κ} {b : β} (h : L.lookup c = some b) : (c, b) ∈ L := by
  induction L with
  | nil => cases h
  | cons e r ih =>
    obtain ⟨k, g⟩ := e
    rw [List.lookup_cons] at h
    by_cases q : c = k
    · subst q
      rw [beq_self_eq_true] at h
      cases h
      exact List.mem_cons_self
    · rw [show (c == k) = false by simpa using q] at h
      exact List.mem_cons_of_mem _ (ih h)
theorem lookup_mem {κ β : Type} [BEq κ] [LawfulBEq κ] {L : List (κ × β)} {c : κ} {b : β} (h : (c, b) ∈ L) (nd : (L.map (·.1)).Nodup) : L.lookup c = some b := by
  induction L with
  | nil => cases h
  | cons e r ih =>
    obtain ⟨k, g⟩ := e
    rw [List.map_cons, List.nodup_cons] at nd
    rw [List.lookup_cons]
    rcases List.mem_cons.mp h with q | q
    · cases q
      rw [beq_self_eq_true]
    · have : c ≠ k := fun z => nd.1 (by rw [← z]; exact List.mem_map.mpr ⟨_, q, rfl⟩)
      rw [show (c == k) = false by simpa using this]
      exact ih q nd.2
end Gd
namespace Gd
open PySem PySem.Spec PyProof.Rows L2 Evl
/-! ### plain forms, made and read -/
theorem getI_mem : ∀ {sd : List (Int × Int)} {k : Int}, k ∈ sd.map (·.1) → ∃ v, getI sd k = some v
  | [], _, h => by cases h
  | p :: r, k, h => by
    unfold getI
    by_cases q : p.1 = k
    · rw [if_pos q]; exact ⟨_, rfl⟩
    · rw [if_neg q]
      rw [List.map_cons] at h
      rcases List.mem_cons.mp h with h | h
      · exact absurd h.symm q
      · exact getI_mem h
def rSrtDI : List V → Hp → VK → Prop := fun xs H Q => ∃ (a : Addr) (kvs : List (Key × V)) (ks : List Int), xs = [.ref a] ∧ Rd H a (.dK kvs) ∧ kvs.map (·.1) = ks.map Sum.inl ∧ ks.length < 64 ∧ ∀ (ys : List Int) (p : Addr), ys.Perm ks → ys.Pairwise (· ≤ ·) → H p = none → Q (.ref p) (upd H p (.lst (ys.map V.int)))
theorem el_sortedDI {te : TE} {σ : L2.St} {H : Hp} {a : Addr} {sd : List (Int × Int)} (h : Ev te σ H (.ref a)) (hd : H a = some (.dK (kvI sd))) (hl : sd.length < 64) : EvL (tCB rSrtDI (tCons te tNil)) σ H ((srt (sd.map (·.1))).map V.int) := fun H1 e Q q =>
  h H1 e _ fun H2 e2 => ⟨a, kvI sd, sd.map (·.1), rfl, .inl (e2 _ _ (e _ _ hd)), kvI_keys sd, by rw [List.length_map]; exact hl, fun ys p hp hs hn => by
    rw [srt_uniq hp hs]
    exact q p _ (fresh_back e2 hn) (e2.trans (Ex.new hn)) upd_same⟩
theorem srt_len (ks : List Int) : (srt ks).length = ks.length := (srt_perm ks).length_eq
theorem pairD_tup (q : Int × Int) : tupO (pairD q) = true := by simp [pairD, tupO, tupOs]
theorem plain_inv {K : PySem.W.Frag} {H : Hp} {v : V} {t : PS} (h : Dp K H v (plainD t)) : ∃ (r p1 p2 p3 p5 : Addr) (ps : List V), v = .ref r ∧ SqT K H r [.int t.a, .ref p1, .ref p2, .ref p3, .int t.p, .ref p5] ∧ SqT K H p1 (t.st.map V.int) ∧ SqT K H p2 ps ∧ DpAll K H ps (t.pr.map pairD) ∧ SqT K H p3 (t.bk.map V.int) ∧ SqT K H p5 (t.ou.map V.int) := by
  obtain ⟨r, xs, rfl, h1, h2⟩ := dp_tup_inv h
  cases h2 with | cons a1 h2 => cases h2 with | cons a2 h2 => cases h2 with | cons a3 h2 => cases h2 with | cons a4 h2 => cases h2 with | cons a5 h2 => cases h2 with | cons a6 h2 =>
    cases h2
    cases a1
    cases a5
    obtain ⟨p1, rfl, g1⟩ := dp_intsT_inv a2
    obtain ⟨p2, ps, rfl, g2, g2'⟩ := dp_tup_inv a3
    obtain ⟨p3, rfl, g3⟩ := dp_intsT_inv a4
    obtain ⟨p5, rfl, g5⟩ := dp_intsT_inv a6
    exact ⟨r, p1, p2, p3, p5, ps, rfl, h1, g1, g2, g2', g3, g5⟩
theorem plainD_tup (t : PS) : tupO (plainD t) = true := by
  have hi : ∀ l : List Int, tupOs (l.map PyData.int) = true := fun l => tupOs_at fun d m => by
    obtain ⟨z, _, rfl⟩ := List.mem_map.mp m
    simp [tupO]
  have hp : tupOs (t.pr.map pairD) = true := tupOs_at fun d m => by
    obtain ⟨z, _, rfl⟩ := List.mem_map.mp m
    exact pairD_tup z
  simp [plainD, tupO, tupOs, hi, hp]
theorem optD_tup (o : Option PS) : tupO (optD o) = true := by
  cases o with
  | none => simp [optD, tupO]
  | some t => exact plainD_tup t
def stoF (pr : List (Int × Int)) : List (Int × Int) := pr.foldl (fun sd q => putI sd q.1 q.2) []
theorem stoF_len (pr : List (Int × Int)) : (stoF pr).length ≤ pr.length := by
  have key : ∀ (l : List (Int × Int)) (sd : List (Int × Int)), (l.foldl (fun sd q => putI sd q.1 q.2) sd).length ≤ sd.length + l.length := by
    intro l
    induction l with
    | nil => intro sd; exact Nat.le_refl _
    | cons q r ih =>
      intro sd
      have h1 := ih (putI sd q.1 q.2)
      have h2 := putI_len sd q.1 q.2
      rw [List.foldl_cons, List.length_cons]
      omega
  have := key pr []
  unfold stoF
  simpa using this
theorem sd_act {s : MS} {c : Int} {f : ActF} {im nums : List Int} {n : Nd} (hf : ACTS.lookup c = some f) : (f im nums n s).sd.length ≤ s.sd.length + 1 := by
  refine act_cases (P := fun f => (f im nums n s).sd.length ≤ s.sd.length + 1) hf ?_
  unfold ACTS
  simp only [List.mem_cons, List.not_mem_nil, or_false, forall_eq_or_imp, forall_eq]
  have h0 : s.sd.length ≤ s.sd.length + 1 := Nat.le_succ _
  refine ⟨h0, h0, h0, h0, h0, h0, h0, putI_len _ _ _, putI_len _ _ _, ?_, h0, h0, h0, h0, h0, h0, ?_, h0, ?_, ?_⟩
  · unfold aTake; split <;> exact h0
  · unfold aBranch; split <;> exact h0
  · unfold aCallD; split <;> exact h0
  · unfold aRet; split <;> exact h0
theorem sd_step {s s' : MS} {im nums : List Int} (e : stepM im nums s = some s') : s'.sd.length ≤ s.sd.length + 1 := by
  unfold stepM at e
  cases q : nodeAt im s.a with
  | none => rw [q] at e; cases e
  | some n =>
    rw [q] at e
    cases e
    show (perfM im nums n (goM s n)).sd.length ≤ _
    unfold perfM
    split
    · rename_i f hf
      exact sd_act hf
    · split
      · exact Nat.le_succ _
      · split <;> exact Nat.le_succ _
end Gd

set_option Elab.async false
set_option linter.all false
set_option maxRecDepth 100000
set_option maxHeartbeats 4000000
/-! Of our own: a step as the laws compute it. -/
namespace Gd
open PySem PySem.Spec PyProof.Rows L2 Evl
def tp (l : List Int) : Int := l.getLast?.getD 0
def inStk (op : Int) : Bool := decide (op = 43 ∨ op = 45 ∨ op = 42 ∨ op = 60 ∨ op = 126 ∨ op = 95 ∨ op = 34 ∨ op = 92)
def lsS (op arg : Int) (st : List Int) : List Int :=
  if op = 35 then st ++ [arg]
  else if inStk op = true then
    if op = 95 then st.dropLast
    else if op = 34 then st.dropLast ++ [tp st] ++ [tp st]
    else if op = 92 then st.dropLast.dropLast ++ [tp st] ++ [tp st.dropLast]
    else st.dropLast.dropLast ++ [combI op (tp st.dropLast) (tp st)]
  else st
def lsT (op arg : Int) (st : List Int) (sd : List (Int × Int)) : List Int × List (Int × Int) :=
  if op = 64 then (st.dropLast ++ [(getI sd (tp st)).getD 0], sd)
  else if op = 33 then (st.dropLast.dropLast, putI sd (tp st) (tp st.dropLast))
  else if op = 61 then (st.dropLast, putI sd arg (tp st))
  else if (decide (97 ≤ op) && decide (op ≤ 122)) = true then (st ++ [(getI sd op).getD 0], sd)
  else (st, sd)
def lsP (im nums : List Int) (op : Int) (st : List Int) (p : Int) (ou : List Int) : List Int × Int × List Int :=
  if op = 44 then (if p < nums.length then (st ++ [(atI nums p).getD 0], p + 1, ou) else (st ++ [-1], p, ou))
  else if op = 94 then (st, 0, ou)
  else if op = 46 then (st.dropLast, p, ou ++ [tp st])
  else if op = 38 then (st.dropLast ++ [cellAt im (tp st)], p, ou)
  else (st, p, ou)
def lsC (im : List Int) (op arg su : Int) (st bk : List Int) : List Int × List Int × Int :=
  if op = 63 then (st.dropLast, bk, if tp st = 0 then arg else su)
  else if (decide (65 ≤ op) && decide (op ≤ 90)) = true then (st, bk ++ [su], op)
  else if op = 40 then (st.dropLast, bk ++ [su], tp st)
  else if op = 36 then (if canC im (tp st) = true then (st.dropLast, bk ++ [su], tp st) else (st.dropLast ++ [tp st], bk, su))
  else if op = 41 then (match bk.getLast? with
    | none => (st, bk, su)
    | some b => (st, bk.dropLast, b))
  else (st, bk, su)
def lawM (im nums : List Int) (n : Nd) (s : MS) : MS :=
  let st1 := lsS n.1 n.2.1 s.st
  let t2 := lsT n.1 n.2.1 st1 s.sd
  let t3 := lsP im nums n.1 t2.1 s.p s.ou
  let t4 := lsC im n.1 n.2.1 n.2.2 t3.1 s.bk
  { a := t4.2.2, st := t4.1, sd := t2.2, bk := t4.2.1, p := t3.2.1, ou := t3.2.2, n := s.n }
theorem law_perf (im nums : List Int) (n : Nd) (s : MS) (ha : s.a = n.2.2) : perfM im nums n s = lawM im nums n s := by
  obtain ⟨op, arg, su⟩ := n
  obtain ⟨a, st, sd, bk, p, ou, k⟩ := s
  have ha : a = su := ha
  subst ha
  by_cases h35 : op = 35
  · subst h35
    rfl
  by_cases h43 : op = 43
  · subst h43
    rfl
  by_cases h45 : op = 45
  · subst h45
    rfl
  by_cases h42 : op = 42
  · subst h42
    rfl
  by_cases h60 : op = 60
  · subst h60
    rfl
  by_cases h126 : op = 126
  · subst h126
    rfl
  by_cases h64 : op = 64
  · subst h64
    rfl
  by_cases h33 : op = 33
  · subst h33
    rfl
  by_cases h61 : op = 61
  · subst h61
    rfl
  by_cases h44 : op = 44
  · subst h44
    show aTake im nums (44, arg, a) ⟨a, st, sd, bk, p, ou, k⟩ = _
    unfold aTake lawM lsS lsT lsP lsC
    simp only [inStk]
    by_cases h : p < (nums.length : Int)
    · simp [h, pushM]
    · simp [h, pushM]
  by_cases h94 : op = 94
  · subst h94
    rfl
  by_cases h46 : op = 46
  · subst h46
    rfl
  by_cases h38 : op = 38
  · subst h38
    rfl
  by_cases h95 : op = 95
  · subst h95
    rfl
  by_cases h34 : op = 34
  · subst h34
    rfl
  by_cases h92 : op = 92
  · subst h92
    rfl
  by_cases h63 : op = 63
  · subst h63
    show aBranch im nums (63, arg, a) ⟨a, st, sd, bk, p, ou, k⟩ = _
    unfold aBranch lawM lsS lsT lsP lsC
    simp only [inStk]
    have : topM ⟨a, st, sd, bk, p, ou, k⟩ = tp st := rfl
    rw [this]
    by_cases h : tp st = 0
    · simp [h, popM]
    · simp [h, popM]
  by_cases h40 : op = 40
  · subst h40
    rfl
  by_cases h36 : op = 36
  · subst h36
    show aCallD im nums (36, arg, a) ⟨a, st, sd, bk, p, ou, k⟩ = _
    unfold aCallD lawM lsS lsT lsP lsC
    simp only [inStk]
    have : topM ⟨a, st, sd, bk, p, ou, k⟩ = tp st := rfl
    rw [this]
    by_cases h : canC im (tp st) = true
    · simp [h, popM, callM]
    · simp [h, popM, pushM]
  by_cases h41 : op = 41
  · subst h41
    show aRet im nums (41, arg, a) ⟨a, st, sd, bk, p, ou, k⟩ = _
    unfold aRet lawM lsS lsT lsP lsC
    simp only [inStk]
    cases h : bk.getLast? with
    | none => simp [h]
    | some b => simp [h]
  have hl : ACTS.lookup op = none := by
    unfold ACTS
    have b : ∀ {i j : Int}, ¬ i = j → (i == j) = false := fun h => by simpa using h
    simp only [List.lookup_cons, b h35, b h43, b h45, b h42, b h60, b h126, b h64, b h33, b h61, b h44, b h94, b h46, b h38, b h95, b h34, b h92, b h63, b h40, b h36, b h41, List.lookup_nil]
  unfold perfM lawM lsS lsT lsP lsC
  simp only [inStk, hl, h35, h43, h45, h42, h60, h126, h64, h33, h61, h44, h94, h46, h38, h95, h34, h92, h63, h40, h36, h41, if_false, or_self, decide_false]
  have e1 : isSm op = (decide (97 ≤ op) && decide (op ≤ 122)) := rfl
  have e2 : isCp op = (decide (65 ≤ op) && decide (op ≤ 90)) := rfl
  rw [e1, e2]
  by_cases hs : (decide (97 ≤ op) && decide (op ≤ 122)) = true
  · have hc : ¬ (decide (65 ≤ op) && decide (op ≤ 90)) = true := by simp at hs ⊢; omega
    simp [hs, hc, pushM, lookM]
  · by_cases hc : (decide (65 ≤ op) && decide (op ≤ 90)) = true
    · simp [hs, hc, callM]
    · simp [hs, hc]
/-! ### the laws' draws of numbers -/
def numL : List Int := [0, 1, 2, 3, 4, 5, 65, 70, 90, 97, 199, 200, -1, -2, 64, 91]
def smallL : List Int := [0, 1, -1, 2, 3, 5, 7, 65, 97, 122, 199, 200, -2, -3, 4, 12]
def pick16 (l : List Int) (v : Int) : Int := l.getD (v.fmod 16).toNat 0
theorem pick_at {l : List Int} (hl : l.length = 16) (v : Int) : atI l (v.fmod 16) = some (pick16 l v) := by
  have h := fmod_in v (show (0 : Int) < 16 by decide)
  have e : v.fmod 16 = (((v.fmod 16).toNat : Nat) : Int) := by omega
  have hlt : (v.fmod 16).toNat < l.length := by omega
  rw [e]
  refine atI_nat ?_
  unfold pick16
  rw [List.getD_eq_getElem?_getD, List.getElem?_eq_getElem hlt]
  rfl
theorem pick_in {l : List Int} (hl : l.length = 16) (v : Int) : pick16 l v ∈ l := by
  have h := fmod_in v (show (0 : Int) < 16 by decide)
  have hlt : (v.fmod 16).toNat < l.length := by omega
  unfold pick16
  rw [List.getD_eq_getElem?_getD, List.getElem?_eq_getElem hlt]
  exact List.getElem_mem _
theorem numL_le (v : Int) : (pick16 numL v).natAbs ≤ 200 := by
  have h : ∀ x ∈ numL, x.natAbs ≤ 200 := by decide
  exact h _ (pick_in rfl v)
theorem smallL_le (v : Int) : (pick16 smallL v).natAbs ≤ 200 := by
  have h : ∀ x ∈ smallL, x.natAbs ≤ 200 := by decide
  exact h _ (pick_in rfl v)
def smallBig (v : Int) : Int := if (v.fdiv 16).fmod 5 = 0 then pick16 smallL v * 10 ^ 9 + v else pick16 smallL v
/-! ### bounds of a step's ints -/
structure Bd (B : Nat) (s : MS) : Prop where
  st : ∀ x ∈ s.st, x.natAbs ≤ B
  sd : ∀ q ∈ s.sd, q.1.natAbs ≤ B ∧ q.2.natAbs ≤ B
  bk : ∀ x ∈ s.bk, x.natAbs ≤ B
  ou : ∀ x ∈ s.ou, x.natAbs ≤ B
  a : s.a.natAbs ≤ B
  p : s.p.natAbs ≤ B
theorem smallBig_le {v : Int} (h : 0 ≤ v ∧ v < 997) : (smallBig v).natAbs ≤ 10 ^ 12 := by
  have := smallL_le v
  unfold smallBig
  split <;> omega
structure PBd (B : Nat) (t : PS) : Prop where
  st : ∀ x ∈ t.st, x.natAbs ≤ B
  pr : ∀ q ∈ t.pr, q.1.natAbs ≤ B ∧ q.2.natAbs ≤ B
  bk : ∀ x ∈ t.bk, x.natAbs ≤ B
  ou : ∀ x ∈ t.ou, x.natAbs ≤ B
  a : t.a.natAbs ≤ B
  p : t.p.natAbs ≤ B
/-- a slice of ints -/
def cutZ (xs : List Int) (lo hi : Option Int) : List Int := (xs.drop (HT.sIx xs.length 0 lo)).take (HT.sIx xs.length xs.length hi - HT.sIx xs.length 0 lo)
theorem cutZ_map (xs : List Int) (lo hi : Option Int) : cutV (xs.map V.int) lo hi = (cutZ xs lo hi).map V.int := by
  unfold cutV cutZ
  rw [List.length_map, ← List.map_drop, ← List.map_take]
theorem cutZ_mem {xs : List Int} {lo hi : Option Int} {x : Int} (h : x ∈ cutZ xs lo hi) : x ∈ xs := List.mem_of_mem_drop (List.mem_of_mem_take h)
theorem cutZ_len (xs : List Int) (lo hi : Option Int) : (cutZ xs lo hi).length ≤ xs.length := by
  unfold cutZ
  rw [List.length_take, List.length_drop]
  omega
section
variable {K : PySem.W.Frag} {H : Hp} {σ : L2.St} {te tv : TE} {lo hi : TO} {vs : List Nat} {j : Nat}
theorem el_slI {a : Addr} {l : List Int} {i k : Option Int} (h : Ev te σ H (.ref a)) (hS : SqL K H a (l.map V.int)) (h1 : EvO lo σ H i) (h2 : EvO hi σ H k) : EvL (tSl (rSlL K) te lo hi) σ H ((cutZ l i k).map V.int) := by
  rw [← cutZ_map]
  exact el_sl h h1 h2 hS
/-- [f(v) for v in a new list of ints] -/
theorem el_mapI {l : List Int} (g : Int → Int) (h : EvL te σ H (l.map V.int)) (hz : l.length ≤ 90000) (hw : ∀ x, wipe ((wipe σ vs).set j (some x)) vs = wipe σ vs) (he : ∀ c ∈ l, ∀ H1, Ex H H1 → Ev tv ((wipe σ vs).set j (some (.int c))) H1 (.int (g c))) : EvL (tLc (iList K te) (gName j) tYes tv vs) σ H ((l.map g).map V.int) := by
  let f : V → V := fun v => match v with | .int c => .int (g c) | _ => .non
  have e : (l.map V.int).map f = (l.map g).map V.int := by rw [List.map_map, List.map_map]; rfl
  rw [← e]
  exact el_mapNL f h (by rw [List.length_map]; exact hz) hw fun x hx H1 e1 => by
    obtain ⟨c, hc, rfl⟩ := List.mem_map.mp hx
    exact he c hc H1 e1
/-- .. over a list that stays -/
theorem el_mapIL {a : Addr} {l : List Int} (g : Int → Int) (h : Ev te σ H (.ref a)) (hS : SqL K H a (l.map V.int)) (hz : l.length ≤ 90000) (hw : ∀ x, wipe ((wipe σ vs).set j (some x)) vs = wipe σ vs) (he : ∀ c ∈ l, ∀ H1, Ex H H1 → Ev tv ((wipe σ vs).set j (some (.int c))) H1 (.int (g c))) : EvL (tLc (iList K te) (gName j) tYes tv vs) σ H ((l.map g).map V.int) := by
  let f : V → V := fun v => match v with | .int c => .int (g c) | _ => .non
  have e : (l.map V.int).map f = (l.map g).map V.int := by rw [List.map_map, List.map_map]; rfl
  rw [← e]
  exact el_mapL f h hS (by rw [List.length_map]; exact hz) hw fun x hx H1 e1 => by
    obtain ⟨c, hc, rfl⟩ := List.mem_map.mp hx
    exact he c hc H1 e1
end
theorem putI_bd {sd : List (Int × Int)} {k v : Int} {B : Nat} (h : ∀ q ∈ sd, q.1.natAbs ≤ B ∧ q.2.natAbs ≤ B) (hk : k.natAbs ≤ B) (hv : v.natAbs ≤ B) : ∀ q ∈ putI sd k v, q.1.natAbs ≤ B ∧ q.2.natAbs ≤ B := by
  unfold putI
  split
  · intro q hq
    obtain ⟨r, hr, rfl⟩ := List.mem_map.mp hq
    split
    · exact ⟨(h r hr).1, hv⟩
    · exact h r hr
  · intro q hq
    rcases List.mem_append.mp hq with hq | hq
    · exact h q hq
    · rw [List.mem_singleton.mp hq]
      exact ⟨hk, hv⟩
theorem getI_bd {sd : List (Int × Int)} {k : Int} {B : Nat} (h : ∀ q ∈ sd, q.1.natAbs ≤ B ∧ q.2.natAbs ≤ B) : ((getI sd k).getD 0).natAbs ≤ B := by
  induction sd with
  | nil => exact Nat.zero_le _
  | cons p r ih =>
    unfold getI
    split
    · exact (h p List.mem_cons_self).2
    · exact ih fun q hq => h q (List.mem_cons_of_mem _ hq)
theorem pairsOf_bd {sd : List (Int × Int)} {B : Nat} (h : ∀ q ∈ sd, q.1.natAbs ≤ B ∧ q.2.natAbs ≤ B) : ∀ q ∈ Gd.pairsOf sd, q.1.natAbs ≤ B ∧ q.2.natAbs ≤ B := by
  intro q hq
  unfold Gd.pairsOf at hq
  obtain ⟨k, hk, rfl⟩ := List.mem_map.mp hq
  have hk := (srt_perm _).mem_iff.mp (List.mem_filter.mp hk).1
  obtain ⟨r, hr, rfl⟩ := List.mem_map.mp hk
  exact ⟨(h r hr).1, getI_bd h⟩
theorem pairsOf_len (sd : List (Int × Int)) : (Gd.pairsOf sd).length ≤ sd.length := by
  unfold Gd.pairsOf
  rw [List.length_map]
  refine Nat.le_trans (List.length_filter_le _ _) ?_
  rw [srt_len, List.length_map]
  exact Nat.le_refl _
theorem due_get (op x y : Int) : (valV (mergeK [] [((Sum.inl 43 : Key), V.int (x + y)), (Sum.inl 45, .int (x - y)), (Sum.inl 42, .int (10 * x + y)), (Sum.inl 60, .int (if decide (x < y) = true then 1 else 0))]) (Sum.inl op)).getD (.int (if x = y then 1 else 0)) = .int (combI op x y) := by
  unfold mergeK combI
  simp only [List.foldl_cons, List.foldl_nil, valV_put]
  have si : ∀ i j : Int, ((Sum.inl i : Key) = Sum.inl j) = (i = j) := fun i j => propext ⟨Sum.inl.inj, fun h => by rw [h]⟩
  simp only [si]
  have vn : valV ([] : List (Key × V)) (Sum.inl op) = none := rfl
  rw [vn]
  by_cases c1 : op = 60
  · subst c1; simp
  by_cases c2 : op = 42
  · subst c2; simp
  by_cases c3 : op = 45
  · subst c3; simp
  by_cases c4 : op = 43
  · subst c4; simp
  simp [c1, c2, c3, c4]
end Gd

set_option Elab.async false
set_option linter.all false
set_option maxRecDepth 100000
set_option maxHeartbeats 4000000
set_option exponentiation.threshold 600
/-! Of our own: an exception's __init__ that begins with super().__init__(..), the class below ValueError by classes of the program. -/
namespace Gd
open PySem PySem.Spec PyProof.Rows L2 Evl NdefX
class ProgOk (P : Program) : Prop where
  file : ((P.main.file : Str) == "/claim/cut.py") = true
  top : (P.main.scope.names.lookup ("super" : Str)).isSome = false
/-- what the written part tells of an __init__ at f, of the class at C -/
structure SupF (K : PySem.W.Frag) (C f cc cda : Addr) (qual : Str) (st : Stmt) (fd : FuncData) : Prop where
  ex : ∃ (oc ct kV doc pm ccl cl : Value) (od an cdd cld : Option Addr) (osl ccs csl : Array (Option Value)) (vs : Array Value) (tf : Tok), fd = PySem.W.ksFn "__init__" qual (defArgs st) (defBody st) (defScope st) .none kV doc pm an (.ref cda) ct cc ∧ K.lookup f = some ⟨oc, od, .func fd, osl⟩ ∧
    K.lookup cda = some ⟨ccl, cdd, .fields vs, ccs⟩ ∧ vs[2]? = some (.str "/claim/cut.py" tf) ∧ K.lookup cc = some ⟨cl, cld, .cell (some (.ref C)), csl⟩
  cd : PySem.W.codeIn K (.ref cda) qual = true
  kp : PySem.W.keepIn K (.ref f) = true
  sub : PySem.W.mroIn K C (.ref C) = some true
  ks : PySem.W.ks_superIn K C C "__init__" = some (some (.builtin "ValueError.__init__"))
  ve : PySem.W.subIn K (.ref C) (.type "ValueError") = some true
  op : PySem.W.nsIn K cStatics "thirdparty.any" = some none
abbrev supN (qual : Str) (st : Stmt) (cc cda : Addr) : NF := ⟨"__init__", qual, defArgs st, defBody st, defScope st, [("__class__", cc)], cda⟩
abbrev supX (CX : CXT) (P : Program) (w : World) (K : PySem.W.Frag) (mg : Str → Option Value) (base : Heap) (N : List Str) (qual : Str) (st : Stmt) (cc cda f : Addr) (A : Around) (outer : List Env) (s : Shared) (H : Hp) (E : XK) : Cx :=
  ncx CX P w K mg base N (supN qual st cc cda) f A outer s H E
section
variable {prog : Program} {w : World} {A : Around} {E : Value → Shared → Prop} {h : Heap} {g : Array GenState} {d : Drawn} {t : Nat} {os : OsState}
variable {nm q : Str} {C N : Addr} {bs bm : List Value} {hdct : Bool} {sn : List Str} {sub : List Value} {ab : Bool} {col : Option Bool} {dd : Option Addr} {k0 k1 k2 k3 k5 : Option Value}
/-- the built-in __init__ bound to the object, called -/
theorem call_mw {u e t0 : Addr} {rest : List Value} {Q : Value → Shared → Prop} (hbm : PySem.HandSPX.refsVE bm = true)
    (hC : h.get? C = some (excClassObj nm q C N bs bm hdct sn sub ab col dd k0 k1 k2 k3 k5 "ValueError.__new__")) (he : h.get? e = some (PySem.HandSPX.excO C t0)) (hu : h.get? u = some (PySem.W.kxs_mw "ValueError.__init__" e)) (hrest : rest.length ≤ sizeLine)
    (hq : ∀ h' t1, (∀ b o, b ≠ e → h.get? b = some o → h'.get? b = some o) → h'.get? e = some (PySem.HandSPX.excO C t1) → Q .none ⟨h', g, d, t, os⟩) :
    wpAny (model prog w) A (call (.ref u) rest) Q E ⟨h, g, d, t, os⟩ := by
  refine wpAny_call (codeAny_of_tree ?_)
  show wpAny _ A.in1 (callAny (.ref u) ⟨rest, []⟩) _ _ _
  simp only [callAny]
  refine wpAny_bind (wpAny_load hu ?_)
  simp only [PySem.W.kxs_mw, show (Value.type "method-wrapper" == Value.type "method" || Value.type "method-wrapper" == Value.type "builtin_function_or_method" || Value.type "method-wrapper" == Value.type "method-wrapper") = true by decide, if_true]
  refine PySem.W.KFB.if_so (by decide) ?_
  refine wpAny_bind (PySem.ESX.check_bound F.excBase_ValueError hC he rfl ?_)
  refine wpAny_bind (wpAny_pure (wpAny_pure ?_))
  refine ⟨Code.quiet_builtin _ (by decide +kernel), codeAny_builtin F.excBase_ValueError.initEntry ?_⟩
  rw [Around.under_plainId F.excBase_ValueError.init.plain _]
  wp_walk
  refine hq _ h.objs.size (fun b o hb ho => ?_) ?_
  · rw [Heap.get?_update_other _ _ (Ne.symm hb)]
    exact Heap.get?_push_of_some _ ho
  · rw [Heap.get?_update_self _ (Heap.get?_push_of_some _ he) rfl]
    rfl
end
section
variable {CX : CXT} {P : Program} {w : World} {K : PySem.W.Frag} {mg : Str → Option Value} {base : Heap} {N ps : List Str} {C f cc cda : Addr} {qual : Str} {st st2 : Stmt} {fd : FuncData} {k : Nat} {sp : Sp} {e : Expr} {p0 p1 p2 p3 p4 : Pos} {slf : Str}
theorem sup_ok [PO : ProgOk P] (F : SupF K C f cc cda qual st fd) (T : OexC K C) (hsup : mg "super" = none) (S : NScope N (slf :: ps) ["__class__"] (defScope st)) (hp : ((defArgs st).posonlyargs ++ (defArgs st).args).head?.map (·.arg) = some slf)
    (hks : (defScope st).names.lookup ("super" : Str) = some .globalImplicit)
    (hbody : defBody st = [.Expr (.Call (.Attribute (.Call (.Name "super" p0) [] [] p1) "__init__" p2) [e] [] p3) p4, st2])
    (hI : ∀ L, interactive (envF (supN qual st cc cda) f L) = false) (hSw : ∀ L, swapsWith (.Call (.Attribute (.Call (.Name "super" p0) [] [] p1) "__init__" p2) [e] [] p3) none p4.line (envF (supN qual st cc cda) f L) = pure false)
    (hSt : ∀ L, starEach [e] (envF (supN qual st cc cda) f L) = (false, eval e (envF (supN qual st cc cda) f L)) :: starEach [] (envF (supN qual st cc cda) f L))
    (hE : ∀ L, ∃ pl : Sem Bool, eval (.Call (.Attribute (.Call (.Name "super" p0) [] [] p1) "__init__" p2) [e] [] p3) (envF (supN qual st cc cda) f L) = (do
      let ov ← attributeBase (.Call (.Name "super" p0) [] [] p1) "__init__" (envF (supN qual st cc cda) f L) (eval (.Call (.Name "super" p0) [] [] p1) (envF (supN qual st cc cda) f L))
      standAt p2.atName
      let (f', first) ← holding [ov] (getMethod ov "__init__" pl)
      callWith p3 f' first (backTo p3 (starEach [e] (envF (supN qual st cc cda) f L))) []))
    (len : ∀ vs H Q E, sp vs H Q E → vs.length = (slf :: ps).length)
    (hb : ∀ (A : Around) (outer : List Env) (s : Shared) (H : Hp) (vs : List V) (Q : VK) (E : XK), Room k (A.deeper (envF (supN qual st cc cda) f s.heap.objs.size)) → sp vs H Q E →
      ∃ (a : Addr) (r : List V) (te : TE) (ts : TS), vs = .ref a :: r ∧ H a = some (exo a C none) ∧ PE (supX CX P w K mg base N qual st cc cda f A outer s H E) e te ∧ L2.PS (supX CX P w K mg base N qual st cc cda f A outer s H E) st2 ts ∧
        te (startF N vs [none]) H fun y H1 => H1 a = some (exo a C none) ∧ ts { nx := fun _ H' => Q .non H', rt := Q } (startF N vs [none]) H1) :
    FnOk P w K mg base CX (k + 1) f fd (slf :: ps) sp := by
  refine ⟨len, fun A outer s H args us vs Q E hr e0 hbd r hsp => ?_⟩
  obtain ⟨oc, ct, kV, doc, pm, ccl, cl, od, an, cdd, cld, osl, ccs, csl, vs2, tf, rfl, lk, lc, hvs, lcc⟩ := F.ex
  have hl := len _ _ _ _ hsp
  have KX : K.In s.heap := e0.mod.kin.keeps fun b o e => (e0.bs b o e).1
  have lim : s.heap.NoLimit := e0.mod.nolimit.keeps fun b o e => (e0.bs b o e).1
  obtain ⟨a, rv, te, ts, rfl, ha, hte, hts, hrun⟩ := hb A outer s H vs Q E (hr.deeper _) hsp
  have hcellH : H cc = none := (e0.bs cc _ (e0.mod.kin _ _ lcc)).2
  have C0 : CellsAt (supN qual st cc cda).cl ["__class__"] [none] s.heap H := by
    have one : ∀ {y : Str} {c : Addr}, List.lookup y [(("__class__" : Str), cc)] = some c → y = "__class__" ∧ c = cc := fun {y c} z => by
      rw [List.lookup_cons] at z
      cases h : (y == ("__class__" : Str)) with
      | true =>
        rw [h] at z
        exact ⟨by simpa using h, (Option.some.inj z).symm⟩
      | false =>
        rw [h] at z
        cases z
    refine ⟨rfl, fun y c z => ?_, fun x y c z1 z2 => ?_, fun i y z => ?_⟩
    · obtain ⟨rfl, rfl⟩ := one z
      exact ⟨hcellH, _, _, KX _ _ lcc, rfl⟩
    · rw [(one z1).1, (one z2).1]
    · match i, z with
      | 0, z =>
        obtain rfl : ("__class__" : Str) = y := by simpa using z
        exact ⟨cc, rfl, fun v z => nomatch z⟩
  refine PySem.ks_codeAny_call_defAt (fd := PySem.W.ksFn "__init__" qual (defArgs st) (defBody st) (defScope st) .none kV doc pm an (.ref cda) ct cc) (body := defBody st) (binds := (slf :: ps).zip us) hr.depth (KX _ _ lk) rfl lim (PySem.W.codeRec_of KX F.cd) rfl hbd (fun x hx => S.nocell x hx) (fun ⟨n, _⟩ hy => S.par n (List.of_mem_zip hy).1) (fun h₁ hns kp => ?_) S.co S.gen S.kind
  have I : Inv (supX CX P w K mg base N qual st cc cda f A outer s H E) [] (startF N (.ref a :: rv) [none]) H { s with heap := h₁, toks := s.toks + ((slf :: ps).zip us).length } := inv_startN S hr.hd e0 hl r C0 hns kp
  obtain ⟨nm, q, N0, bs, bm, sn, sub, ab, col, dd, k0, k1, k2, k3, k5, hC, hbm⟩ := T.cls
  have hcl : PySem.W.clsIn K C = some { name := nm, bases := bs, mro := .ref C :: bm, ns := N0, qualname := q, hasDict := true, slotNames := sn, subclasses := sub, abstract := ab, collection := col, hasDel := false } := by unfold PySem.W.clsIn; rw [hC] <;> rfl
  obtain ⟨ar, har, rfl⟩ : ∃ ar : Arg, ((defArgs st).posonlyargs ++ (defArgs st).args).head? = some ar ∧ ar.arg = slf := by
    cases z : ((defArgs st).posonlyargs ++ (defArgs st).args).head? with
    | none => rw [z] at hp; cases hp
    | some ar => rw [z] at hp; exact ⟨ar, rfl, Option.some.inj hp⟩
  have hex : ∀ env : Env, execs (defBody st) env = execs [.Expr (.Call (.Attribute (.Call (.Name "super" p0) [] [] p1) "__init__" p2) [e] [] p3) p4, st2] env := fun env => by rw [hbody]
  show _root_.PySem.wpAt _ (A.deeper (envF (supN qual st cc cda) f s.heap.objs.size)) (.func (defBody st) (envF (supN qual st cc cda) f s.heap.objs.size)) (execs (defBody st) (envF (supN qual st cc cda) f s.heap.objs.size)) _ _ _
  rw [hex]
  have hkc : (envF (supN qual st cc cda) f s.heap.objs.size).kindOf "__class__" = some .free := S.frk _ (List.mem_singleton.mpr rfl)
  have hks' : (envF (supN qual st cc cda) f s.heap.objs.size).kindOf "super" = some .globalImplicit := hks
  obtain ⟨pl, hE⟩ := hE s.heap.objs.size
  refine PySem.ks_wpAt_execs_cons (PySem.ks_wpAt_Expr_any (PySem.ks_wpAt_MethodCall (pl := pl) (PySem.ks_wpAt_super_base (f := f) (cc := cda) hks' hkc (by decide) rfl (I.kIn _ _ lk) rfl har rfl (I.kIn _ _ lc) rfl hvs PO.file PO.top ?_) hE) (hI _) (hSw _))
  obtain ⟨mb, hb1, hb2⟩ := I.mod.blt
  refine PySem.W.ks_loadName_global S.kind hks' (Calls.loadGlobal_builtin (env := envF (supN qual st cc cda) f s.heap.objs.size) (I.mod.glob.keeps I.bk) hsup (hb1.keeps I.bk) ((hb2 "super" (by decide)).trans PyProof.Rows.Boot.«super») ⟨rfl, ?_⟩)
  refine wpAny_loadName_free S.kind hkc rfl ⟨_, I.kIn _ _ lcc, rfl⟩ ?_
  cases r with
  | @cons _ u0 _ ur ra rw' =>
  obtain rfl : u0 = Value.ref a := ra
  have ndP : (ar.arg :: ps).Nodup := by
    have q := S.nd.sublist (List.take_sublist ((ar.arg :: ps).length + [("__class__" : Str)].length) N)
    rw [S.pre] at q
    exact (List.nodup_append.mp q).1
  refine wpAny_loadName_local S.kind (S.par _ List.mem_cons_self) hns (zip_look (i := 0) ndP rfl rfl) ?_
  have XI := I.kIn
  refine PySem.ks_wpAny_isType_cls (XI _ _ hC) rfl ⟨rfl, ?_⟩
  obtain ⟨t1, ho⟩ := exo_at I.hok ha
  refine PySem.ks_wpAny_call_super (XI _ _ hC) rfl ho rfl (fun c z => nomatch z) (PySem.W.looks_mroIn XI F.sub) (fun h2 hso kso => ?_)
  have I2 : Inv (supX CX P w K mg base N qual st cc cda f A outer s H E) [] (startF N (.ref a :: rv) [none]) H { s with heap := h2, toks := s.toks + ((ar.arg :: ps).zip (Value.ref a :: ur)).length } := I.kept kso
  have X2 := I2.kIn
  obtain ⟨t2, ho2⟩ := exo_at I2.hok ha
  have J2 : PySem.W.InstAt h2 a { cls := .ref C, dict := none, data := .fields #[.ref t2, .none, .none, .none, .bool false, .none] } C none := ⟨ho2, rfl, rfl, trivial⟩
  have hks2 := F.ks
  unfold PySem.W.ks_superIn at hks2
  rw [hcl] at hks2
  refine PySem.W.kxs_getMethod PySem.W.kxs_ValueError hso (PySem.W.looks_opaque X2 F.op) (l₀ := .ref C :: bm) (fun A Q E s k q => wpAny_bind ((PySem.W.looks_clsIn X2 hcl) A _ E s k (wpAny_pure q))) rfl X2 hks2 (J2.type.andThen (PySem.W.looks_subIn X2 F.ve)) (PySem.W.ks_ne X2 J2 hcl) (by decide) ?_
  have I3 : Inv (supX CX P w K mg base N qual st cc cda f A outer s H E) [(h2.objs.size, PySem.W.kxs_mw "ValueError.__init__" a)] (startF N (.ref a :: rv) [none]) H { s with heap := h2.push (PySem.W.kxs_mw "ValueError.__init__" a), toks := s.toks + ((ar.arg :: ps).zip (Value.ref a :: ur)).length + 1 } :=
    ClX.pin_new (s := { s with heap := h2, toks := s.toks + ((ar.arg :: ps).zip (Value.ref a :: ur)).length }) I2 (fun b u z => Heap.get?_push_of_some _ z) (Nat.le_refl _) (Heap.get?_push_at rfl rfl) (fun v z => nomatch z)
  show wpAny _ _ (callWith p3 (.ref h2.objs.size) [] (backTo p3 (starEach [e] (envF (supN qual st cc cda) f s.heap.objs.size))) []) _ _ _
  have hStL := hSt s.heap.objs.size
  have hpa : PA (supX CX P w K mg base N qual st cc cda f A outer s H E) [e] (tCons te tNil) := pa_cons hte pa_nil (by exact hStL)
  have hr3 := hpa.run p3 _ _ _ _ (fun xs H1 => match xs with | [_] => H1 a = some (exo a C none) ∧ ts { nx := fun _ H' => Q .non H', rt := Q } (startF N (.ref a :: rv) [none]) H1 | _ => False) I3 hrun
  rw [show starEach [e] (supX CX P w K mg base N qual st cc cda f A outer s H E).env = (false, eval e (envF (supN qual st cc cda) f s.heap.objs.size)) :: starEach [] (envF (supN qual st cc cda) f s.heap.objs.size) from hStL] at hr3
  rw [hStL]
  refine PySem.W.kxs_callWith (i := "ValueError.__init__") (x := a) (by rfl) (PySem.Calls.evalArgs_plain ?_)
  refine wpAny_mono hr3 (fun us2 s4 hh => ?_) (fun e s' hs => hs)
  obtain ⟨xs, H1, I4, r4, hq4⟩ := hh
  match xs, r4, hq4 with
  | [y], r4, hq4 =>
  obtain ⟨ha4, hts4⟩ := hq4
  have hu := ClX.pin_at I4
  refine ⟨hu, ?_⟩
  obtain ⟨t4, ho4⟩ := exo_at I4.hok ha4
  obtain ⟨h4, g4, d4, tk4, os4⟩ := s4
  have hus : us2.length ≤ sizeLine := by
    rw [← r4.length, sizeLine_eq]
    show 1 ≤ _
    omega
  refine call_mw hbm (I4.kIn _ _ hC) ho4 hu hus (fun h5 t5 k5' hx5 => ?_)
  have J := I4.write (t' := tk4) (x := a) (e := a) (o := exo a C none) (by rw [ha4]; exact True.intro) (.inl rfl) k5' ⟨_, hx5⟩ (exo_ok hx5)
  have eu : upd H1 a (exo a C none) = H1 := by
    funext b
    by_cases hb : b = a
    · rw [hb, upd_same, ha4]
    · rw [upd_ne hb]
  rw [eu] at J
  refine PySem.wpAt_of_wpAny ?_
  refine wpAny_mono ((pss_one hts).run _ _ _ _ _ J hts4) (fun fl s' hs => ?_) (fun e s' hs => hs)
  have fin : ∀ {σ' : L2.St} {H' : Hp} {v : V} {u : Value} {pn : List (Addr × Obj)}, Inv (supX CX P w K mg base N qual st cc cda f A outer s H E) pn σ' H' s' → L2.RelV v u → Q v H' → CE outer P w H s Q u s' :=
    fun {σ' H' v u pn} J rv q => ⟨v, H', J.os, J.bare, J.base, J.hok, rv, q⟩
  cases fl with
  | ret u =>
    obtain ⟨v, σ', H', J, rv, q⟩ := hs
    exact fin J rv q
  | next =>
    obtain ⟨σ', H', J, q⟩ := hs
    exact fin J (v := .non) rfl q
  | brk => exact (let ⟨_, _, _, q⟩ := hs; False.elim q)
  | cont => exact (let ⟨_, _, _, q⟩ := hs; False.elim q)
end
section
variable {P : Program} {w : World} {K : PySem.W.Frag} {C f cc cda : Addr} {qual : Str} {st : Stmt} {fd : FuncData} {ps : List Str}
theorem SupF.binds (F : SupF K C f cc cda qual st fd) (h : ∀ (kV doc pm : Value) (an : Option Addr) (ct : Value) (us : List Value), us.length = ps.length → bindArgs (PySem.W.ksFn "__init__" qual (defArgs st) (defBody st) (defScope st) .none kV doc pm an (.ref cda) ct cc) ⟨us, []⟩ = pure (ps.zip us)) : Binds K fd ps [] := by
  obtain ⟨oc, ct, kV, doc, pm, ccl, cl, od, an, cdd, cld, osl, ccs, csl, vs2, tf, rfl, lk, lc, hvs, lcc⟩ := F.ex
  exact .all (h kV doc pm an ct)
/-- the promise of such an __init__: one field -/
def OkY (y : V) : Prop := (∃ i : Int, y = .int i ∧ i.natAbs < 10 ^ 200) ∨ ∃ s : Str, y = .str s ∧ s.length ≤ 1000
def spXI (C : Addr) (fn : Str) : Sp := fun vs H Q _ => ∃ (a : Addr) (y : V), vs = [.ref a, y] ∧ OkY y ∧ H a = some (exo a C none) ∧ ∀ H1 dx, Ex H H1 → H1 dx = none → dx ≠ a → Q .non (upd (upd H1 dx (exd dx [(fn, y)])) a (exo a C (some dx)))
/-- the message: texts and the argument -/
theorem int_len {i : Int} (h : i.natAbs < 10 ^ 200) : (PySem.Str.ofString (toString i)).length ≤ 501 := by
  show (PySem.Str.ofString (toString i)).cps.size ≤ 501
  rw [← Array.length_toList, show_int i]
  have := dec_len_le 199 h
  unfold intL
  split
  · rw [List.length_cons]; omega
  · omega
theorem app_ln (a z : Str) : (a ++ z).length = a.length + z.length := by
  show (a ++ z).cps.size = a.cps.size + z.cps.size
  exact Array.size_append
theorem js_y {acc : Str} {n : Nat} {y : V} {te : TE} {ts : List TE} {σ : L2.St} {H : Hp} {Q : Str → Hp → Prop} (hy : OkY y) (h : Ev te σ H y) (ha : acc.length ≤ n) (hn : n ≤ 20000) (k : ∀ z H1, Ex H H1 → (acc ++ z).length ≤ n + 1000 → tJs ts (acc ++ z) σ H1 Q) : tJs (tFmt te :: ts) acc σ H Q :=
  h H (Ex.refl H) _ fun H1 e1 => by
    rcases hy with ⟨i, rfl, hi⟩ | ⟨s, rfl, hs⟩
    · have := int_len hi
      have hl : (acc ++ PySem.Str.ofString (toString i)).length ≤ n + 1000 := by rw [app_ln]; omega
      exact .inr ⟨i, rfl, log_ok (Nat.lt_of_lt_of_le hi (Nat.pow_le_pow_right (by decide) (by decide))), _, rfl, by rw [sizeLine_eq]; exact Nat.le_trans hl (by omega), k _ H1 e1 hl⟩
    · have hl : (acc ++ s).length ≤ n + 1000 := by rw [app_ln]; omega
      exact .inl ⟨s, rfl, by rw [sizeLine_eq]; omega, s, rfl, by rw [sizeLine_eq]; omega, k s H1 e1 hl⟩
theorem js_c {acc z : Str} {n : Nat} {ts : List TE} {σ : L2.St} {H : Hp} {Q : Str → Hp → Prop} (ha : acc.length ≤ n) (hn : n ≤ 20000) (hz : z.length ≤ 1000) (h : (acc ++ z).length ≤ n + 1000 → tJs ts (acc ++ z) σ H Q) : tJs (tC (.str z) :: ts) acc σ H Q := by
  have hl : (acc ++ z).length ≤ n + 1000 := by rw [app_ln]; omega
  exact ⟨z, rfl, by rw [sizeLine_eq]; omega, h hl⟩
end
section
variable {K : PySem.W.Frag} {σ : L2.St} {H : Hp}
/-- isinstance of the error that a suite holds, with a dict or without -/
def rIsXD (K : PySem.W.Frag) (D a : Addr) (cls : Value) (d : Option Addr) : List V → Hp → VK → Prop := fun xs H Q => cls = .ref D ∧ (d = none ∨ ∃ dd fs, d = some dd ∧ H dd = some (.xd fs)) ∧ rIsE K D a xs H Q
theorem call_isXD {X : Cx} {a D : Addr} {oe : Obj} {pn : List (Addr × Obj)} {cls : Value} {d : Option Addr} (C : ExcC X.K D) (hz : Zc cls d oe) (hf : ∃ vs, oe.data = .fields vs) : CallR (X.suite a ((a, oe) :: pn)) (.builtin "isinstance") (rIsXD X.K D a cls d) := by
  intro pins s σ H xs us Q I r h
  obtain ⟨rfl, hd, h⟩ := h
  rcases hd with rfl | ⟨dd, fs, rfl, hdd⟩
  · exact call_isE C hz hf pins s σ H xs us Q I r h
  obtain ⟨c, cv, b, rfl, hcv, e, q⟩ := h
  cases r with
  | cons rx rr =>
    cases rr with
    | cons rt rr =>
      cases rr
      cases rx
      have ec := hcv _ rt
      subst ec
      obtain ⟨hget, _⟩ := I.pin (a, oe) (List.mem_append.mpr (.inl List.mem_cons_self))
      obtain ⟨vs, hv⟩ := hf
      have hx : ObjOk X.prog X.w H s.heap dd (.xd fs) := I.hok dd _ hdd
      obtain ⟨mA, hns, hr⟩ := hx
      obtain ⟨od, ho, hl⟩ := lookIn_ns hns
      have J : PySem.W.InstAt s.heap a oe D (some od) := ⟨hget, hz.1, by unfold PySem.W.notCls; rw [hv] <;> rfl, by rw [hz.2]; exact ho⟩
      obtain ⟨cdD, hcD, _⟩ := PySem.W.any_some C.hd
      exact PySem.W.kia_one (PySem.W.kitx_exc (by rw [hcD]; rfl) C.hg C.hk C.hs C.ha C.hn C.ht C.hm) I.kIn J e (fun z => nomatch z) fun tk => ⟨.bl b, H, I.kept (t' := tk) fun _ _ z => z, rfl, q⟩
theorem rc_isXD {D a dd : Addr} {fs : List (Str × V)} {c : V} {cv : Value} {b : Bool} (hd : H dd = some (.xd fs)) (hc : ∀ u, RelV c u → u = cv) (hk : PySem.W.kitOne K (.ref D) cv = some b) : RC (rIsXD K D a (.ref D) (some dd)) [.ref a, c] H (.bl b) := fun H1 e _ q => ⟨rfl, .inr ⟨dd, fs, rfl, e _ _ hd⟩, c, cv, b, rfl, hc, hk, q H1 (Ex.refl H1)⟩
theorem rc_isX0 {D a : Addr} {c : V} {cv : Value} {b : Bool} (hc : ∀ u, RelV c u → u = cv) (hk : PySem.W.kitOne K (.ref D) cv = some b) : RC (rIsXD K D a (.ref D) none) [.ref a, c] H (.bl b) := fun H1 e _ q => ⟨rfl, .inl rfl, c, cv, b, rfl, hc, hk, q H1 (Ex.refl H1)⟩
/-- e.f -/
theorem ev_xf {a C dd : Addr} {f : Str} {fs : List (Str × V)} {v : V} {te : TE} (h : Ev te σ H (.ref a)) (hd : H dd = some (.xd fs)) (hl : fs.lookup f = some v) : Ev (tXf a (.ref C) (some dd) C f te) σ H v := fun H1 e Q q =>
  h H1 e _ fun H2 e2 => ⟨rfl, rfl, dd, fs, v, rfl, (e.trans e2) _ _ hd, hl, q H2 e2⟩
/-- raise C(e) -/
theorem mk_xi {C : Addr} {fn : Str} {y : V} {ta : TA} {Q : XK} (h : EvA ta σ H [y]) (hy : OkY y) (k : ∀ d H2, Ex H H2 → H2 d = some (.xd [(fn, y)]) → Q (.ref C) (some d) H2) : tMkO C (spXI C fn) [] ta σ H Q :=
  h H (Ex.refl H) _ fun H1 e1 => ⟨by show 1 ≤ 1000; decide, fun a na => ⟨a, y, rfl, hy, upd_same, fun H3 dx e3 ndx dne => by
    have ndx1 : H1 dx = none := by
      have := fresh_back e3 ndx
      rw [upd_ne dne] at this
      exact this
    refine ⟨rfl, dx, [(fn, y)], upd_same, by rw [upd_ne dne]; exact upd_same, ndx1, k dx _ (fun b o hb => ?_) upd_same⟩
    have h1 := e1 _ _ hb
    have nb : b ≠ a := ne_of_none h1 na
    have nx : b ≠ dx := ne_of_none h1 ndx1
    rw [upd_ne nx, del_ne nb, upd_ne nb, upd_ne nx]
    exact e3 _ _ (by rw [upd_ne nb]; exact h1)⟩⟩
/-- self.f = e, in such an __init__ -/
theorem s_ost {C a : Addr} {fn : Str} {y : V} {to te : TE} {D : Ends} (T : OexC K C) (hno : PySem.W.findIn K (.ref C) fn = some none) (ha : H a = some (exo a C none)) (ho : ∀ H1, Ev to σ H1 (.ref a)) (he : Ev te σ H y) (k : ∀ H1 dx, Ex H H1 → H1 dx = none → dx ≠ a → D.nx σ (upd (upd H1 dx (exd dx [(fn, y)])) a (exo a C (some dx)))) : tOst K fn to te D σ H :=
  he H (Ex.refl H) _ fun H1 e1 => ho H1 H1 (Ex.refl H1) _ fun H2 e2 => ⟨a, C, rfl, T, hno, .inl ⟨(e1.trans e2) _ _ ha, fun dx nd ne => k H2 dx (e1.trans e2) nd ne⟩⟩
end
end Gd

set_option Elab.async false
set_option linter.all false
set_option maxRecDepth 100000
set_option maxHeartbeats 4000000
/-! Of our own: a list comprehension an element of which may raise: the exception leaves the block, then the def. -/
namespace Gd
open PySem PySem.Spec PyProof.Rows L2 Evl
/-- what is wanted behind a block that may raise; F: the frame that runs -/
def postX (M : Model) (A : Around) (E : Value → Shared → Prop) (F : Option Addr) (use : Option (Value → Sem Unit)) (Q : Value → Shared → Prop) (acc : Value) (C : Addr) (r : Result) (t : Shared) : Prop :=
  match r, use with
  | .ok _, none => ∃ m, t.heap.Ns C m ∧ ∀ g, Heap.SameBut C t.heap g → Q acc { t with heap := g }
  | .ok _, some u => wpAny M A (u acc) (fun _ t2 => ∃ m, t2.heap.Ns C m ∧ ∀ g, Heap.SameBut C t2.heap g → Q .none { t2 with heap := g }) E t
  | .error x, _ => ∃ m, t.heap.Ns C m ∧ ∀ g, Heap.SameBut C t.heap g → ∀ ce : Env, ce.frame = F → wpAny M A (passOn "comprehension.variables-let-go" x ce : Sem Value) (fun _ _ => False) E { t with heap := g }
section
variable {M : Model} {A : Around} {E : Value → Shared → Prop} {s : Shared} {env : Env}
theorem comp_freeX {e : Expr} {scope : Scope} {pos : Pos} {acc0 first : Sem Value} {g : Comprehension} {gs : List Comprehension} {cl : List (Str × Addr)} {use : Option (Value → Sem Unit)} {Q : Value → Shared → Prop}
    (hcl : clausesOf e = g :: gs) (hs : ∀ x, foldedSetIterable g.iter env x = pure x) (hclos : closureFor scope env = pure cl)
    (hk : scope.kind = .function) (hn : ∀ x ∈ scope.names, x.2 = .local → scope.names.lookup x.1 = some .local)
    (h : wpAny M A first (fun x s₁ => wpAny M A (pyIter x) (fun it s₂ => wpAny M A acc0 (fun acc s₃ =>
      wpAny M A (newFunctionEnv scope env.globals cl [] env.qual none .none (some env)) (fun cv s₄ => cv.frame = env.frame ∧
        codeAny M A (.compStart e 0 it acc { cv with scope := relabel scope env }) (postX M A E env.frame use Q acc cv.locals) s₄) E s₃) E s₂) E s₁) E s) :
    wpAny M A (comprehension e scope env pos acc0 false first use) Q E s := by
  unfold comprehension
  rw [hclos, hcl]
  have idE : ∀ {x : Value} {t : Shared}, E x t → E x t := fun h => h
  refine wpAny_bind (wpAny_mono h (fun x s₁ h₁ => wpAny_bind (wpAny_standAt (wpAny_bind (wpAny_of_eq (hs x) (wpAny_bind (wpAny_holding ?_)))))) fun _ _ => idE)
  refine wpAny_mono h₁ (fun it s₂ h₂ => wpAny_standIf (wpAny_bind ?_)) fun _ _ => idE
  refine wpAny_mono h₂ (fun acc s₃ h₃ => wpAny_bind (wpAny_pure (wpAny_bind ?_))) fun _ _ => idE
  refine wpAny_mono h₃ (fun cv s₄ h₄ => ?_) fun _ _ => idE
  obtain ⟨hF, h₄⟩ := h₄
  dsimp only
  generalize hvs : (scope.names.filter fun x => (x.2 == .local || x.2 == .cell) && x.1 != (".0" : Str)).reverse = vs
  have kind : ∀ x ∈ vs, x.2 = .local → Env.kindOf { cv with scope := relabel scope env } x.1 = some .local := fun x hx hl => by
    rw [← hvs] at hx
    exact lookup_relabel_local (hn x (List.mem_filter.mp (List.mem_reverse.mp hx)).1 hl)
  have kind2 : ∀ x ∈ vs.drop 1 ++ vs.take 1, x.2 = .local → Env.kindOf { cv with scope := relabel scope env } x.1 = some .local := fun x hx hl =>
    (List.mem_append.mp hx).elim (fun m => kind x (List.mem_of_mem_drop m) hl) fun m => kind x (List.mem_of_mem_take m) hl
  refine wpAny_holding (wpAny_bind (wpAny_attempt (wpAny_holding (wpAny_run (codeAny_mono h₄ fun r t hr => ?_)))))
  cases r with
  | ok f =>
    cases use with
    | none =>
      obtain ⟨m, hm, hr⟩ := hr
      refine wpAny_bind (wpAny_holding ?_)
      exact wpAny_comp_letGo (cenv := { cv with scope := relabel scope env }) hk vs t m kind hm fun g _ _ sb => wpAny_pure (hr g sb)
    | some u =>
      refine wpAny_bind (wpAny_rule (wpAny_bind (wpAny_holding (wpAny_mono hr (fun _ t2 hr2 => ?_) fun _ _ => idE))))
      obtain ⟨m, hm, hr2⟩ := hr2
      exact wpAny_bind (wpAny_comp_letGo (cenv := { cv with scope := relabel scope env }) hk _ t2 m kind2 hm fun g _ _ sb => wpAny_pure (hr2 g sb))
  | error x =>
    have hr2 : ∃ m, t.heap.Ns cv.locals m ∧ ∀ g, Heap.SameBut cv.locals t.heap g → ∀ ce : Env, ce.frame = env.frame → wpAny M A (passOn "comprehension.variables-let-go" x ce : Sem Value) (fun _ _ => False) E { t with heap := g } := by
      cases use <;> exact hr
    obtain ⟨m, hm, hr3⟩ := hr2
    refine wpAny_bind (wpAny_holding ?_)
    exact wpAny_comp_letGo (cenv := { cv with scope := relabel scope env }) hk vs t m kind hm fun g _ _ sb => wpAny_mono (hr3 g sb _ hF) (fun _ _ z => z.elim) fun _ _ => idE
end
section
variable {M : Model} {A : Around} {E : Value → Shared → Prop} {s : Shared} {env : Env} {outer : List Env} {B : Heap} {a L L2 : Addr} {Z : Obj → Prop}
/-- an exception that another frame's record noted last is noted by this one -/
theorem look_over {Q : Unit → Shared → Prop} (hZ : HandSPX.Steady Z) (hfr : A.frames = some (env :: outer)) (hf : env.frame = some L) (x : HandSPX.HeldZ B (env :: outer) a Z L2 s.heap)
    (hQ : ∀ g, HandSPX.HeldZ B (env :: outer) a Z L g → s.heap.UpToSlots g → Q () { s with heap := g }) : wpAny M A (noteFrame (.ref a) env) Q E s := by
  obtain ⟨hB, hn, hl, tr⟩ := x
  by_cases same : L2 = L
  · subst same
    exact HandSPX.againZ hf tr (hQ s.heap ⟨hB, hn, hl, tr⟩ (Heap.UpToSlots.refl _))
  obtain ⟨oe, us, T, oT, ts, he, hz, hd, h1, nT, Ta, hT, dT, h3⟩ := tr
  unfold noteFrame
  simp only [hf]
  refine wpAny_bind (wpAny_field he hd h1 ?_)
  rw [if_pos (show (Value.ref T != Value.none) = true from by simp)]
  refine wpAny_bind (wpAny_field hT dT h3 ?_)
  rw [if_neg (show ¬ ((rawInt L2 == rawInt L) = true) from by simp only [rawInt, beq_iff_eq, Value.int.injEq]; exact fun e => same (Int.ofNat.inj e.1))]
  refine wpAny_bind (wpAny_setField hT dT (Array.getElem?_eq_some_iff.mp h3).1 ?_)
  have but : ∀ b, b ≠ T → (s.heap.update T (Obj.mapFields (·.setIfInBounds 3 Value.none))).get? b = s.heap.get? b := fun b hb => Heap.get?_update_other _ _ (Ne.symm hb)
  have nrec : ∀ b o, s.heap.get? b = some o → (∀ ws, o.data ≠ .fields ws) → b ≠ T := fun b o hb hw q => by
    subst q
    rw [hT] at hb
    cases hb
    exact hw ts dT
  refine HandSPX.wpAny_entryZ hZ hfr (hl.of_keeps fun b o hb hw => ⟨o, (but b (nrec b o hb hw)).trans hb, rfl⟩) hf ((but a (Ne.symm Ta)).trans he)
    (fun b o hb => (but b fun q => by rw [q, nT] at hb; cases hb).trans (hB b o hb)) hn hd (Array.getElem?_eq_some_iff.mp h1).1 hz fun g hN => ?_
  obtain ⟨y1, y2, y3, y4⟩ := hN
  exact hQ g ⟨y1, hn, y2, y3⟩ fun b o hb hw => y4 b o ((but b (nrec b o hb hw)).trans hb) hw
/-- in the air, however: noted -/
theorem sky_note {Q : Unit → Shared → Prop} (hZ : HandSPX.Steady Z) (hfr : A.frames = some (env :: outer)) (hf : env.frame = some L) (x : Sky B (env :: outer) a Z L2 s.heap)
    (hQ : ∀ g, HandSPX.HeldZ B (env :: outer) a Z L g → s.heap.UpToSlots g → Q () { s with heap := g }) : wpAny M A (noteFrame (.ref a) env) Q E s := by
  rcases x with ⟨hB, hn, hl, oe, us, he, hz, hd, h1⟩ | fl | hh
  · exact HandSPX.look_newZ hZ hfr hl hf he hB hn hd h1 hz hQ
  · exact HandSPX.looks_onZ hZ hfr hf fl hQ
  · exact look_over hZ hfr hf hh hQ
end
section
variable {X : Cx} {pins : List (Addr × Obj)} {σ : L2.St} {H H' : Hp} {s t : Shared} {B : Heap}
/-- an exception of a block that started at s is in the air of the def; fp: what the block has walked -/
theorem XE.of_blk {fp : List Addr} {a : Addr} {cls : Value} {d : Option Addr} {W : WX} (I : Inv X pins σ H s)
    (hch : ∀ b ∈ fp, (b ∈ X.ex ∨ X.s_0.heap.objs.size ≤ b) ∧ b ≠ X.env.locals ∧ (∀ x c, X.env.cells.lookup x = some c → c ≠ b) ∧ ∀ p ∈ X.pn ++ pins, p.1 ≠ b)
    (hh : HandSPX.HeldZ B X.stack a (Zc cls d) X.env.locals t.heap) (hok : HOk X.prog X.w H' B)
    (k1 : ∀ b o, s.heap.get? b = some o → H b = none → b ∉ frs X.stack → b ∉ fp → B.get? b = some o)
    (k2 : ∀ b o, s.heap.get? b = some o → b ∈ frs X.stack → b ∉ fp → ∃ sl, t.heap.get? b = some { o with slots := sl })
    (k3 : ∀ b o, s.heap.get? b = some o → H b = none → b ∉ fp → H' b = none)
    (k4 : ∀ b o, s.heap.get? b = some o → b ∉ frs X.stack → b ∉ fp → ∃ o', B.get? b = some o')
    (k5 : ∀ b xs, H b = some (.tup xs) → H' b = some (.tup xs)) (k6 : ∀ b o u, H b = some (.frz o u) → H' b = some (.frz o u)) (k7 : ∀ b ps, H b = some (.tbl ps) → ∃ more, H' b = some (.tbl (ps ++ more)))
    (na : H' a = none) (os : t.os = s.os) (ag : AllBare t.gens) (w : W cls d σ H') : XE X W (.ref a) t := by
  obtain ⟨G, g1, g2⟩ := restrict t.heap fun b => decide (b ∈ frs X.stack) || (B.get? b).isSome
  have st := hh.1
  have up : ∀ b o, B.get? b = some o → G.get? b = some o := fun b o q => by
    have : (decide (b ∈ frs X.stack) || (B.get? b).isSome) = true := by rw [q]; simp
    rw [g1 b this]
    exact st b o q
  have fr : ∀ b, b ∈ frs X.stack → G.get? b = t.heap.get? b := fun b m => g1 b (by rw [decide_eq_true m]; rfl)
  have dn : ∀ b o, G.get? b = some o → t.heap.get? b = some o ∧ (b ∈ frs X.stack ∨ (B.get? b).isSome = true) := fun b o q => by
    by_cases y : (decide (b ∈ frs X.stack) || (B.get? b).isSome) = true
    · rw [g1 b y] at q
      exact ⟨q, by simpa using y⟩
    · rw [g2 b (by simpa using y)] at q
      cases q
  refine ⟨a, B, { s with heap := G, gens := t.gens, drawn := t.drawn, toks := t.toks }, pins, σ, H', cls, d, rfl, ?_, fun b o q nb => ?_, Heap.UpToSlots.of_keeps fun b o q => (dn b o q).1, .inr (.inr hh), na, os, ag, w⟩
  · refine I.call (ch := fp) ⟨fun b o q n nb nf => up b o (k1 b o q n nb nf), fun b o q n hb nf => ?_, fun b o q n nf => k3 b o q n nf, fun b o q nf => ?_, k5, k6, k7⟩ (hok.kept up) ag hch
    · obtain ⟨sl, y⟩ := k2 b o q hb nf
      exact ⟨sl, (fr b hb).trans y⟩
    · by_cases hb : b ∈ frs X.stack
      · obtain ⟨sl, y⟩ := k2 b o q hb nf
        exact ⟨_, (fr b hb).trans y⟩
      · obtain ⟨o', y⟩ := k4 b o q hb nf
        exact ⟨o', up b o' y⟩
  · obtain ⟨q1, q2⟩ := dn b o q
    have q2 := q2.resolve_left nb
    obtain ⟨o', y⟩ := Option.isSome_iff_exists.mp q2
    have := st b o' y
    rw [q1] at this
    cases this
    exact y
/-- the block's own air, however its wish was named -/
theorem XE.ofTr {pn : List (Addr × Obj)} {xe : Value → Shared → Prop} {W : WX} {u : Value} (x : XE (X.tr (X.pn ++ pn) xe) W u t) : XE X W u t := by
  obtain ⟨a, B, sI, ps, σ, H, cls, d, e, I, nb, up, sky, na, os, ag, w⟩ := x
  exact ⟨a, B, sI, pn, σ, H, cls, d, e, I.ofTry I.ok.ofTry, nb, up, sky, na, os, ag, w⟩
theorem funs_at {h h' base : Heap} : ∀ {l : List Env}, h.FunFrames base l → (∀ b ∈ frs l, h'.get? b = h.get? b) → h'.FunFrames base l
  | [], x, _ => x
  | e :: r, x, k => by
    obtain ⟨x0, ⟨L, o, hf, hn, ho, hd⟩, x2⟩ := x
    have kr : ∀ b ∈ frs r, h'.get? b = h.get? b := fun b m => k b (by
      unfold frs at m ⊢
      rw [List.filterMap_cons]
      cases e.frame with
      | none => exact m
      | some L => exact List.mem_cons_of_mem _ m)
    have hL : L ∈ frs (e :: r) := by
      unfold frs
      rw [List.filterMap_cons, hf]
      exact List.mem_cons_self ..
    exact ⟨x0, ⟨L, o, hf, hn, (k L hL).trans ho, hd⟩, funs_at x2 kr⟩
/-- what leaves a block is taken where what leaves the def is -/
theorem err_out {scope : Scope} {ce : Env} {fp : List Addr} {E1 : XK} {u : Value} {Eo : Value → Shared → Prop} {use : Option (Value → Sem Unit)} {Qf : Value → Shared → Prop} {acc : Value}
    (hs : X.stack = X.env :: X.outer) (hf : X.env.frame = some X.env.locals) (I3 : Inv X pins σ H s) (f3 : ∀ b ∈ fp, FpOk X pins H b ∧ b < s.heap.objs.size)
    (cL : ce.locals = s.heap.objs.size) (cF : ce.frame = X.env.frame) (tk : Takes X fun cls d _ G => E1 cls d G)
    (hx : XE (X.blk s H scope ce fp) (fun cls d _ G => E1 cls d G) u t) :
    wpAny (model X.prog X.w) X.A (noteFrame u ce) (fun _ t2 => postX (model X.prog X.w) X.A X.xe X.env.frame use Qf acc s.heap.objs.size (.error u) t2) Eo t := by
  obtain ⟨a, B, sI, ps, τ, H', cls, d, rfl, I, nb, up, sky, na, os, ag, w⟩ := hx
  have I0 := I
  have en : noteFrame (.ref a) ce = noteFrame (.ref a) X.env := by
    unfold noteFrame PySem.frameOf
    rw [cF]
  rw [en]
  have hfr : X.A.frames = some (X.env :: X.outer) := by rw [I3.ok.frames, hs]
  have sky' : Sky B (X.env :: X.outer) a (Zc cls d) ce.locals t.heap := by rw [← hs]; exact sky
  refine sky_note Zc.steady hfr hf sky' fun g hh upg => ?_
  generalize hC : s.heap.objs.size = C at *
  have hCn : C ∉ frs X.stack := fun m => by
    obtain ⟨_, o, ho, _⟩ := I3.stack.mem m
    have := Heap.lt_size ho
    rw [hC] at this
    exact Nat.lt_irrefl _ this
  obtain ⟨m, hns, _⟩ := I.loc
  have hns : sI.heap.Ns ce.locals m := hns
  rw [cL] at hns
  have hg : ∀ o, sI.heap.get? C = some o → g.get? C = some o := fun o q => hh.1 C o (nb C o q hCn)
  refine ⟨m, hns.at hg, fun g2 sb ce1 cF1 => ?_⟩
  -- the ground without the block's names
  obtain ⟨B2, r1, r2⟩ := restrict B fun b => decide (b ≠ C)
  have hB2 : ∀ b o, B2.get? b = some o → B.get? b = some o ∧ b ≠ C := fun b o q => by
    by_cases e : b = C
    · rw [r2 b (by rw [e]; simp)] at q
      cases q
    · rw [r1 b (by simp [e])] at q
      exact ⟨q, e⟩
  have hB3 : ∀ b o, b ≠ C → B.get? b = some o → B2.get? b = some o := fun b o e q => by rw [r1 b (by simp [e])]; exact q
  obtain ⟨oe, us, T, oT, ts, he, hz, hd, h1, nT, Ta, hT, dT, h3⟩ := hh.2.2.2
  obtain ⟨oC, ho, hdict⟩ : ∃ o, g.get? C = some o ∧ ∀ ws, o.data ≠ .fields ws := by
    obtain ⟨o, es, ep, q, e, _⟩ := hns.at hg
    exact ⟨o, q, fun ws z => by simp [z] at e⟩
  have aC : a ≠ C := fun e => by rw [e, ho] at he; cases he; exact hdict us hd
  have TC : T ≠ C := fun e => by rw [e, ho] at hT; cases hT; exact hdict ts dT
  have gk : ∀ b o, b ≠ C → g.get? b = some o → g2.get? b = some o := fun b o e q => (sb.2 b e).trans q
  have hh2 : HandSPX.HeldZ B2 (X.env :: X.outer) a (Zc cls d) X.env.locals g2 := by
    refine ⟨fun b o q => gk b o (hB2 b o q).2 (hh.1 b o (hB2 b o q).1), ?_, ?_, oe, us, T, oT, ts, gk _ _ aC he, hz, hd, h1, ?_, Ta, gk _ _ TC hT, dT, h3⟩
    · rw [r1 a (by simp [aC])]
      exact hh.2.1
    · have fz := hh.2.2.1
      have fz2 : g2.FunFrames B (X.env :: X.outer) := by
        rw [← hs] at fz ⊢
        exact funs_at fz fun b hb => sb.2 b fun e => hCn (e ▸ hb)
      rw [← hs] at fz2 ⊢
      exact funFrames_none fz2 fun b hb => by
        cases q : B2.get? b with
        | none => rfl
        | some o =>
          have := (fz2.mem hb).1
          rw [(hB2 b o q).1] at this
          cases this
    · rw [r1 T (by simp [TC])]
      exact nT
  have fields : ∀ {α : Type} (f : Value → Sem α) {Q : α → Shared → Prop}, wpAny (model X.prog X.w) X.A (f (.ref T)) Q X.xe { t with heap := g2 } → wpAny (model X.prog X.w) X.A (field (.ref a) 1 >>= f) Q X.xe { t with heap := g2 } := fun f Q h => wpAny_bind (wpAny_field (gk _ _ aC he) hd h1 h)
  unfold PySem.passOn
  refine fields _ ?_
  rw [if_neg (show ¬ ((Value.ref T == Value.none) = true) from by simp)]
  rw [cF1, hf]
  refine wpAny_bind (HandSPX.setFlight_onZ (s := { t with heap := g2 }) hh2 fun g3 hh3 up3 => ?_)
  refine wpAny_throw (tk _ _ ?_)
  -- in the air of the def
  have hokB : HOk X.prog X.w H' B := I.inGround nb
  have nC : H' C = none := by
    have z : H' ce.locals = none := I.free
    rwa [cL] at z
  have hok2 : HOk X.prog X.w H' B2 := fun b o q => (hokB b o q).stay (fun c v hc z => hB3 c v (fun e => by
    subst e
    rcases hc with rfl | hc
    · rw [nC] at q; cases q
    · rw [nC] at hc; cases hc) z) (fun _ z => z) fun _ _ z => z
  have nCs : ∀ b o, s.heap.get? b = some o → b ≠ C := fun b o q e => by
    have := Heap.lt_size q
    rw [hC, e] at this
    exact Nat.lt_irrefl _ this
  have bs : Un (frs X.stack) fp H H' s.heap sI.heap := I.base
  refine XE.of_blk (B := B2) (H' := H') (fp := fp) (t := { t with heap := g3 }) I3 (fun b hb => ⟨(f3 b hb).1.2.2.2.1, (f3 b hb).1.2.1, (f3 b hb).1.2.2.2.2.1, (f3 b hb).1.2.2.2.2.2⟩) (by rw [hs]; exact hh3) hok2 (fun b o q n n1 n2 => hB3 b o (nCs b o q) (nb b o (bs.keep b o q n n1 n2) n1)) (fun b o q hb n2 => ?_) (fun b o q n n2 => bs.free b o q n n2) (fun b o q n1 n2 => ?_) bs.tups bs.frzs bs.tbls na (os.trans I.os) ag w
  · obtain ⟨sl, y⟩ := bs.slot b o q (I3.stkFree b hb) hb n2
    obtain ⟨_, o0, y0, nf⟩ := I3.stack.mem hb
    rw [q] at y0
    cases y0
    obtain ⟨sl2, y2⟩ := up b _ y nf
    obtain ⟨sl3, y3⟩ := upg b _ y2 nf
    obtain ⟨sl4, y4⟩ := up3 b _ (gk b _ (nCs b o q) y3) nf
    exact ⟨sl4, y4⟩
  · obtain ⟨o', y⟩ := bs.there b o q n2
    exact ⟨o', hB3 b o' (nCs b o q) (nb b o' y n1)⟩
end
section
variable {X : Cx}
/-- the context of a block whose elements may raise -/
abbrev _root_.L2.Cx.blkX (X : Cx) (s : Shared) (H : Hp) (scope : Scope) (cenv : Env) (fp : List Addr) (pn : List (Addr × Obj)) (xe : Value → Shared → Prop) : Cx := (X.blk s H scope cenv fp).tr pn xe
theorem lcX_core {pins : List (Addr × Obj)} {s : Shared} {σ : L2.St} {H : Hp} {Q : VK} {elt tg iter : Expr} {ifs : List Expr} {scope : Scope} {own : List (Str × Nat)} {pos pos' : Pos} {wi : TI} {g : TG} {tt : TT} {te : TE} {E1 : XK} {use : Option (Value → Sem Unit)} {Qf : Value → Shared → Prop}
    (hc : X.calm = true) (hN : X.N.Nodup) (hst : X.stack = X.env :: X.outer) (hfl : X.env.frame = some X.env.locals) (tk : Takes X fun cls d _ G => E1 cls d G) (I : Inv X pins σ H s) (hi : PI X tg iter wi) (ok : BlkOk X.N X.env.scope scope own)
    (hg : ∀ (s : Shared) (H : Hp) (C : Addr) (cl : List (Str × Addr)) (fp : List Addr), PG (X.blk s H scope (compEnvC scope cl C X.env) fp) tg g)
    (ht : ∀ (s : Shared) (H : Hp) (C : Addr) (cl : List (Str × Addr)) (fp : List Addr), PTs (X.blk s H scope (compEnvC scope cl C X.env) fp) ifs tt)
    (he : ∀ (s : Shared) (H : Hp) (C : Addr) (cl : List (Str × Addr)) (fp : List Addr) (pn : List (Addr × Obj)) (xe : Value → Shared → Prop), Takes (X.blkX s H scope (compEnvC scope cl C X.env) fp pn xe) (fun cls d _ G => E1 cls d G) → PE (X.blkX s H scope (compEnvC scope cl C X.env) fp pn xe) elt te)
    (hs : ∀ x, foldedSetIterable iter X.env x = pure x) (h : tLc wi g tt te (own.map (·.2)) σ H Q)
    (hRR : ∀ D C t m H', Inv X pins σ H' t → Q (.ref D) H' → t.heap.Ns C m → FpOk X pins H' C → postX (model X.prog X.w) X.A X.xe X.env.frame use Qf (.ref D) C (.ok .next) t) :
    wpAny (model X.prog X.w) X.A (comprehension (.ListComp elt [⟨tg, iter, ifs, 0⟩] scope pos) scope X.env pos' (newList []) false (eval iter X.env) use) Qf X.xe s := by
  have hfree : ∀ y ∈ scope.names, y.2 = .free → ∃ c, X.env.cells.lookup y.1 = some c := fun y hy e => by
    rcases ok.free y hy e with k | k
    · exact I.ok.has _ (.inl k)
    · exact I.ok.has _ (.inr k)
  refine comp_freeX (use := use) rfl hs (closure_ok hfree) ok.kind (fun y hy e => by rw [ok.uniq y hy, e]) ?_
  refine thn (hi.run pins s σ H _ I h) fun xv s1 hx => thn hx fun itv s2 h2 => ?_
  obtain ⟨it, fp, tn, J, H2, e, I2, T, st2, f2, q⟩ := h2
  subst e
  refine wpAny_newObj_type (newEnv_comp ⟨rfl, ?_⟩) (by show 0 ≤ sizeLine; decide)
  generalize hD : s2.heap.objs.size = D
  have hDn : H2 D = none := I2.hok.fresh (Nat.le_of_eq hD)
  obtain ⟨W, ⟨m0, w0⟩, turn⟩ := q D hDn
  generalize hs3 : ({ s2 with heap := s2.heap.push { cls := .type "list", data := .seq ([] : List Value).toArray } } : Shared) = s3
  have I3 : Inv X pins σ (upd H2 D (.lst [])) s3 := by
    rw [← hs3]
    refine I2.laid (t' := s2.toks) (fun _ _ q => Heap.get?_push_of_some _ q) (Nat.le_of_eq hD) ⟨Nat.zero_le _, [], 0, .nil, ?_⟩
    rw [← hD]
    exact Heap.get?_push_size _ rfl
  have h3 : s3.heap = s2.heap.push { cls := .type "list", data := .seq ([] : List Value).toArray } := by rw [← hs3]
  have below : ∀ b ∈ fp, b < s2.heap.objs.size := fun b hb => by
    obtain ⟨o, q, _⟩ := T.obj _ _ st2 b hb
    exact Heap.lt_size q
  have f3 : ∀ b ∈ fp, FpOk X pins (upd H2 D (.lst [])) b ∧ b < s3.heap.objs.size := fun b hb => by
    have hlt := below b hb
    have hne : b ≠ D := by rw [← hD]; exact Nat.ne_of_lt hlt
    exact ⟨⟨by rw [upd_ne hne]; exact (f2 b hb).1, (f2 b hb).2⟩, by rw [h3, Heap.size_push]; exact Nat.lt_succ_of_lt hlt⟩
  have st3 : tn 0 s3.heap := T.keep _ _ _ st2 fun _ _ _ q => by rw [h3]; exact Heap.get?_push_of_some _ q
  have I4 := block_start I3 ok hN f3
  generalize hcl : cellsFrom (s3.heap.objs.size + 1) scope.names (cloFrom X.env.cells scope.names []) = cl at I4
  have pg := hg s3 (upd H2 D (.lst [])) s3.heap.objs.size cl fp
  have pt := ht s3 (upd H2 D (.lst [])) s3.heap.objs.size cl fp
  have pe := he s3 (upd H2 D (.lst [])) s3.heap.objs.size cl fp
  show codeAny _ _ (.compStart (.ListComp elt [⟨tg, iter, ifs, 0⟩] scope pos) 0 (.ref it) (.ref D) (compEnvC scope cl s3.heap.objs.size X.env)) (postX (model X.prog X.w) X.A X.xe X.env.frame use Qf (.ref D) s3.heap.objs.size) { s3 with heap := pushCells (s3.heap.push { cls := .type "dict", data := .dict #[] }) scope.names }
  have nfp : ∀ b ∈ fp, (upd H2 D (.lst [])) b = none := fun b hb => (f3 b hb).1.1
  generalize hce : compEnvC scope cl s3.heap.objs.size X.env = ce at I4 pg pt pe ⊢
  have cL : ce.locals = s3.heap.objs.size := by subst hce; rfl
  have cF : ce.frame = X.env.frame := by subst hce; rfl
  generalize hH3 : upd H2 D (.lst []) = H3 at I3 I4 pg pt pe w0 nfp f3
  generalize hs4 : ({ s3 with heap := pushCells (s3.heap.push { cls := .type "dict", data := .dict #[] }) scope.names } : Shared) = s4 at I4 ⊢
  have st4 : tn 0 s4.heap := T.keep _ _ _ st3 fun _ _ _ q => by rw [← hs4]; exact pushCells_keeps _ _ _ _ (Heap.get?_push_of_some _ q)
  have stat : ∀ {τ : L2.St} {G : Hp} {t : Shared}, Inv (X.blk s3 H3 scope ce fp) [] τ G t → (∀ b ∈ fp, G b = none) → ∀ b ∈ fp, FpOk (X.blk s3 H3 scope ce fp) [] G b := fun {τ G t} J hn b hb =>
    ⟨hn b hb, (J.ok.exf b hb).1, J.ok.exfs b hb, .inl hb, fun x c e => (J.ok.exf b hb).2 x c e, fun p hp => nomatch (show p ∈ ([] : List (Addr × Obj)) from hp)⟩
  -- what an element lets out
  have out : ∀ {u : Value} {t : Shared}, XE (X.blk s3 H3 scope ce fp) (fun cls d _ G => E1 cls d G) u t → notedBy (model X.prog X.w) X.A ce (fun x t => postX (model X.prog X.w) X.A X.xe X.env.frame use Qf (.ref D) s3.heap.objs.size (.error x) t) u t := fun {u t} hx =>
    err_out hst hfl I3 f3 cL cF tk hx
  have none' : ∀ {u : Value} {t : Shared}, False → notedBy (model X.prog X.w) X.A ce (fun x t => postX (model X.prog X.w) X.A X.xe X.env.frame use Qf (.ref D) s3.heap.objs.size (.error x) t) u t := fun h => h.elim
  have loop : codeAny (model X.prog X.w) X.A (.compLoop (.ListComp elt [⟨tg, iter, ifs, 0⟩] scope pos) 0 (.ref it) (.ref D) ce) (postX (model X.prog X.w) X.A X.xe X.env.frame use Qf (.ref D) s3.heap.objs.size) s4 := by
    refine compLoop_any (fun n t => ∃ i G, Inv (X.blk s3 H3 scope ce fp) [] (wipe σ (own.map (·.2))) G t ∧ tn i t.heap ∧ (∀ b ∈ fp, G b = none) ∧ W i n G) ?_ m0 ⟨0, H3, I4, st4, nfp, w0⟩
    rintro n s5 ⟨i, H5, I5, st5, n5, w5⟩
    rcases turn i n H5 w5 with ⟨stop, qq⟩ | ⟨go, Nx, hNx, step⟩
    · refine thnF (T.done (X.blk s3 H3 scope ce fp) rfl rfl rfl hc i [] s5 _ H5 (fun _ _ => False) I5 (stat I5 n5) st5 stop) fun r s6 hr6 => ?_
      obtain ⟨hr, I6⟩ := hr6
      subst hr
      have I7 : Inv X pins σ H5 s6 := by
        refine I3.call' (ch := fp) I6.os I6.base I6.hok I6.bare fun b hb => ?_
        obtain ⟨_, y1, _, y2, y3, y4⟩ := (f3 b hb).1
        exact ⟨y2, y1, y3, y4⟩
      have nC : H5 s3.heap.objs.size = none := by
        have z : H5 ce.locals = none := I6.free
        rwa [cL] at z
      obtain ⟨m, hn, _⟩ := I6.loc
      have hn : s6.heap.Ns ce.locals m := hn
      rw [cL] at hn
      exact hRR D s3.heap.objs.size s6 m H5 I7 qq hn (I3.fpOk (Nat.le_refl _) nC)
    · refine thnF (T.item (X.blk s3 H3 scope ce fp) rfl rfl rfl hc i [] s5 _ H5 (fun _ _ => False) I5 (stat I5 n5) st5 go) fun r s6 hr6 => ?_
      obtain ⟨u, hr, h6⟩ := hr6
      subst hr
      refine thnF h6 fun _ s7 h7 => ?_
      obtain ⟨x, H7, I7, r7, y7, st7, n7⟩ := h7
      have I7' := I7.pinned (stat I7 n7) (T.obj _ _ st7)
      refine thnF (pg.run _ s7 _ H7 x u _ I7' r7 (step x H7 y7)) fun _ s8 h8 => ?_
      obtain ⟨τ, H8, I8, hw8, q8⟩ := h8
      refine thnF (pt.run _ s8 τ H8 _ I8 q8) fun b s9 h9 => ?_
      obtain ⟨H9, I9, q9⟩ := h9
      have fin : ∀ {t : Shared} {G : Hp}, Inv (X.blk s3 H3 scope ce fp) ([] ++ pinsAt fp s7.heap) τ G t → Nx G → ∃ m, m < n ∧ ∃ i G, Inv (X.blk s3 H3 scope ce fp) [] (wipe σ (own.map (·.2))) G t ∧ tn i t.heap ∧ (∀ b ∈ fp, G b = none) ∧ W i m G := fun {t G} J nx => by
        obtain ⟨m', hm, w'⟩ := hNx G nx
        have held : ∀ b ∈ fp, ∀ o, s7.heap.get? b = some o → t.heap.get? b = some o ∧ G b = none := fun b hb o q => by
          obtain ⟨y1, y2, _⟩ := J.pin (b, o) (List.mem_append_right _ (List.mem_append_right _ (mem_pinsAt hb q)))
          exact ⟨y1, y2⟩
        have hl : (wipe σ (own.map (·.2))).length = τ.length := by rw [← hw8, wipe_length]
        refine ⟨m', hm, i + 1, G, (J.unpinned (pins := [])).weak hl (fun j v q => by rw [← hw8] at q; exact (wipe_some q).1), T.keep _ _ _ st7 fun b hb o q => (held b hb o q).1, fun b hb => ?_, w'⟩
        obtain ⟨o, q, _⟩ := T.obj _ _ st7 b hb
        exact (held b hb o q).2
      cases b with
      | false =>
        simp only [Bool.false_eq_true, if_false] at q9 ⊢
        exact fin I9 q9
      | true =>
        simp only [if_true] at q9 ⊢
        have pe' := pe ((X.blk s3 H3 scope ce fp).pn ++ ([] ++ pinsAt fp s7.heap)) (fun u t => XE (X.blk s3 H3 scope ce fp) (fun cls d _ G => E1 cls d G) u t) fun u t hx => XE.ofTr hx
        refine wpAny_mono (pe'.run _ s9 τ H9 _ (I9.toTry _) q9) (fun z s10 h10 => ?_) fun u t hx => out hx
        obtain ⟨yv, H10, I10, r10, acc, hD10, hz10, nx⟩ := h10
        exact app_ok (X := X.blk s3 H3 scope ce fp) (I10.ofTry I9.ok) hD10 hz10 r10 fun s11 I11 => fin I11 nx
  exact codeAny_compStart_list loop (T.self X.A 0 _ _ _ st4 loop)
/-- as a value -/
theorem pe_lcX {elt tg iter : Expr} {ifs : List Expr} {scope : Scope} {own : List (Str × Nat)} {pos : Pos} {wi : TI} {g : TG} {tt : TT} {te : TE} {E1 : XK} (tk : Takes X fun cls d _ G => E1 cls d G) (hst : X.stack = X.env :: X.outer) (hfl : X.env.frame = some X.env.locals) (hc : X.calm = true) (hN : X.N.Nodup) (hi : PI X tg iter wi) (ok : BlkOk X.N X.env.scope scope own)
    (hg : ∀ (s : Shared) (H : Hp) (C : Addr) (cl : List (Str × Addr)) (fp : List Addr), PG (X.blk s H scope (compEnvC scope cl C X.env) fp) tg g)
    (ht : ∀ (s : Shared) (H : Hp) (C : Addr) (cl : List (Str × Addr)) (fp : List Addr), PTs (X.blk s H scope (compEnvC scope cl C X.env) fp) ifs tt)
    (he : ∀ (s : Shared) (H : Hp) (C : Addr) (cl : List (Str × Addr)) (fp : List Addr) (pn : List (Addr × Obj)) (xe : Value → Shared → Prop), Takes (X.blkX s H scope (compEnvC scope cl C X.env) fp pn xe) (fun cls d _ G => E1 cls d G) → PE (X.blkX s H scope (compEnvC scope cl C X.env) fp pn xe) elt te)
    (hs : ∀ x, foldedSetIterable iter X.env x = pure x := by intro _; rfl) :
    PE X (.ListComp elt [⟨tg, iter, ifs, 0⟩] scope pos) (tLc wi g tt te (own.map (·.2))) := by
  refine ⟨fun pins s σ H Q I h => ?_⟩
  rw [eval_ListComp]
  refine lcX_core hc hN hst hfl tk I hi ok hg ht he hs h fun D C t m G J q hn f => ⟨m, hn, fun g2 sb => ?_⟩
  obtain ⟨f0, f1, f2, f3, f4, f5⟩ := f
  exact ⟨.ref D, G, J.turned (t' := t.toks) (fun b o hb e => (sb.2 b hb).trans e) f0 f1 f3 f4 f5, rfl, q⟩
/-- name = [..] on one line, the name a local -/
theorem ps_setLcX {i : Nat} {y : Str} {py : Pos} {elt tg iter : Expr} {ifs : List Expr} {scope : Scope} {own : List (Str × Nat)} {pos spos : Pos} {wi : TI} {g : TG} {tt : TT} {te : TE} {E1 : XK} (tk : Takes X fun cls d _ G => E1 cls d G) (hst : X.stack = X.env :: X.outer) (hfl : X.env.frame = some X.env.locals) (hc : X.calm = true) (hN : X.N.Nodup) (hy : X.N[i]? = some y) (hyl : X.env.scope.names.lookup y = some .local)
    (hsw : swapsWith (.ListComp elt [⟨tg, iter, ifs, 0⟩] scope pos) (some (.Name y py)) spos.line X.env = pure true) (hi : PI X tg iter wi) (ok : BlkOk X.N X.env.scope scope own)
    (hg : ∀ (s : Shared) (H : Hp) (C : Addr) (cl : List (Str × Addr)) (fp : List Addr), PG (X.blk s H scope (compEnvC scope cl C X.env) fp) tg g)
    (ht : ∀ (s : Shared) (H : Hp) (C : Addr) (cl : List (Str × Addr)) (fp : List Addr), PTs (X.blk s H scope (compEnvC scope cl C X.env) fp) ifs tt)
    (he : ∀ (s : Shared) (H : Hp) (C : Addr) (cl : List (Str × Addr)) (fp : List Addr) (pn : List (Addr × Obj)) (xe : Value → Shared → Prop), Takes (X.blkX s H scope (compEnvC scope cl C X.env) fp pn xe) (fun cls d _ G => E1 cls d G) → PE (X.blkX s H scope (compEnvC scope cl C X.env) fp pn xe) elt te)
    (hs : ∀ x, foldedSetIterable iter X.env x = pure x := by intro _; rfl) :
    L2.PS X (.Assign [.Name y py] (.ListComp elt [⟨tg, iter, ifs, 0⟩] scope pos) spos) (tAsg (tLc wi g tt te (own.map (·.2))) (gName i)) := by
  refine ⟨fun pins s σ H D I h => ?_⟩
  rw [exec_Assign_Name_used _ _ _ _ hsw]
  refine wpAny_bind (wpAny_standAt (wpAny_bind ?_))
  have h : tLc wi g tt te (own.map (·.2)) σ H (fun x H1 => gName i x σ H1 D.nx) := h
  have core := lcX_core (pos := pos) (pos' := firstIterPos [⟨tg, iter, ifs, 0⟩] pos) (use := some (assign (.Name y py) X.env)) (Qf := fun _ t => SP X pins D .next t) hc hN hst hfl tk I hi ok hg ht he hs h fun L C t m G J q hn f => by
    show wpAny _ _ (assign (.Name y py) X.env (.ref L)) _ _ _
    refine wpAny_assign_Name (store_ok2 (v := V.ref L) J hN hy (.inl hyl) rfl (fun t2 J2 hx => ?_) (.inr hyl))
    obtain ⟨a, sb, ha⟩ := hx
    obtain ⟨f0, f1, f2, f3, f4, f5⟩ := f
    have haC : C ≠ a := by
      rcases ha with z | z
      · rw [z]; exact f1
      · exact fun e => f4 y a z e.symm
    refine ⟨m, hn.sameBut sb haC, fun g3 sb3 => ?_⟩
    exact ⟨_, G, J2.turned (t' := t2.toks) (fun b o hb e => (sb3.2 b hb).trans e) f0 f1 f3 f4 f5, q⟩
  exact wpAny_bind (thn core fun _ _ hq => wpAny_pure (wpAny_pure hq))
end
section
variable {K : PySem.W.Frag} {σ : L2.St} {H H1 : Hp} {tl te : TE} {tt : TT} {vs : List Nat} {j : Nat}
/-- some elements are left out -/
theorem lc_filt {J : It} {G : Hp → Prop} {Y : Nat → Hp → V → Hp → Prop} {xs : List V} {D : Addr} {Qd : Hp → Prop} (w : Walk J xs.length G Y) (hY : ∀ i H x H', i < xs.length → Y i H x H' → H' = H ∧ xs[i]? = some x)
    (hz : xs.length ≤ 90000) (hw : ∀ x, wipe ((wipe σ vs).set j (some x)) vs = wipe σ vs) (p : V → Bool) (f : V → V) (hG : ∀ H', Ex H1 H' → G H') (ht : ∀ x ∈ xs, ∀ H', Ex H1 H' → EvT tt ((wipe σ vs).set j (some x)) H' (p x))
    (he : ∀ x ∈ xs, p x = true → ∀ H', Ex H1 H' → Ev te ((wipe σ vs).set j (some x)) H' (f x)) (hD : H1 D = none) (k : ∀ H', Ex H1 H' → H' D = some (.lst ((xs.filter p).map f)) → Qd H') :
    ∃ W : Nat → Nat → Hp → Prop, (∃ m, W 0 m (upd H1 D (.lst []))) ∧ ∀ i m H, W i m H →
      (J.stop i H ∧ Qd H) ∨ (J.go i H ∧ ∃ Nx : Hp → Prop, (∀ H', Nx H' → ∃ m', m' < m ∧ W (i + 1) m' H') ∧ ∀ x H', J.yld i H x H' → gName j x (wipe σ vs) H' fun σ2 H2 => wipe σ2 vs = wipe σ vs ∧ tt σ2 H2 fun b H3 =>
        if b = true then te σ2 H3 fun y H4 => ∃ acc, H4 D = some (.lst acc) ∧ acc.length < sizeLine ∧ Nx (upd H4 D (.lst (acc ++ [y]))) else Nx H3) := by
  refine lc_it w (fun i H' => Ex H1 H' ∧ H' D = some (.lst (((xs.take i).filter p).map f))) ⟨Ex.new hD, upd_same⟩ (fun i H' _ q => hG H' q.1) ?_ (fun H' q => k H' q.1 (by rw [q.2, List.take_length]))
  intro i x H2 H3 hi q y
  obtain ⟨e, hx⟩ := hY i H2 x H3 hi y
  subst e
  obtain ⟨q1, q2⟩ := q
  have m := List.mem_of_getElem? hx
  refine ⟨hw x, ht x m H3 q1 H3 (Ex.refl H3) _ fun H5 e5 => ?_⟩
  have hfl : ((xs.take i).filter p).length ≤ 90000 := Nat.le_trans (List.length_filter_le _ _) (by rw [List.length_take]; omega)
  cases c : p x with
  | true =>
    rw [if_pos rfl]
    refine he x m c H5 (q1.trans e5) H5 (Ex.refl H5) _ fun H4 e4 => ⟨((xs.take i).filter p).map f, e4 D _ (e5 D _ q2), sz_lt (by rw [List.length_map]; omega), Ex.mut (q1.trans (e5.trans e4)) hD, ?_⟩
    rw [upd_same, take_snoc hx, List.filter_append, List.map_append, List.filter_cons, if_pos c]
    rfl
  | false =>
    rw [if_neg Bool.false_ne_true]
    refine ⟨q1.trans e5, ?_⟩
    rw [e5 D _ q2, take_snoc hx, List.filter_append, List.filter_cons, if_neg (by rw [c]; exact Bool.false_ne_true)]
    show _ = some (HO.lst (((xs.take i).filter p ++ []).map f))
    rw [List.append_nil]
theorem el_filtS {z : Str} (p : V → Bool) (f : V → V) (h : Ev tl σ H (.str z)) (hz : z.cps.size ≤ 90000) (hw : ∀ x, wipe ((wipe σ vs).set j (some x)) vs = wipe σ vs)
    (ht : ∀ c ∈ z.cps.toList, ∀ H1, Ex H H1 → EvT tt ((wipe σ vs).set j (some (.str ⟨#[c]⟩))) H1 (p (.str ⟨#[c]⟩)))
    (he : ∀ c ∈ z.cps.toList, p (.str ⟨#[c]⟩) = true → ∀ H1, Ex H H1 → Ev te ((wipe σ vs).set j (some (.str ⟨#[c]⟩))) H1 (f (.str ⟨#[c]⟩))) : EvL (tLc (iStr tl) (gName j) tt te vs) σ H (((sgns z).filter p).map f) := fun H0 e Q q =>
  h H0 e _ fun H1 e1 => ⟨z, rfl, fun D hD => lc_filt (walk_signs z) (fun _ _ _ _ _ y => y) (by rw [sgns_len]; exact hz) hw p f (fun _ _ => trivial) (fun x m H' e' => by
    obtain ⟨c, hc, rfl⟩ := List.mem_map.mp m
    exact ht c hc H' ((e.trans e1).trans e')) (fun x m hp H' e' => by
    obtain ⟨c, hc, rfl⟩ := List.mem_map.mp m
    exact he c hc hp H' ((e.trans e1).trans e')) hD (fun H' e' hd => q D H' (fresh_back e1 hD) (e1.trans e') hd)⟩
/-- over a list, the element at n lets an exception out -/
theorem lc_leaves {J : It} {G : Hp → Prop} {Y : Nat → Hp → V → Hp → Prop} {xs : List V} {D : Addr} {Qd : Hp → Prop} {n : Nat} {x : V} (w : Walk J xs.length G Y) (hY : ∀ i H x H', i < xs.length → Y i H x H' → H' = H ∧ xs[i]? = some x)
    (hz : xs.length ≤ 90000) (hw : ∀ x, wipe ((wipe σ vs).set j (some x)) vs = wipe σ vs) (f : V → V) (hG : ∀ H', Ex H1 H' → G H') (hn : xs[n]? = some x) (he : ∀ i y, i < n → xs[i]? = some y → ∀ H', Ex H1 H' → Ev te ((wipe σ vs).set j (some y)) H' (f y))
    (hx : ∀ H', Ex H1 H' → ∀ Q : VK, te ((wipe σ vs).set j (some x)) H' Q) (hD : H1 D = none) :
    ∃ W : Nat → Nat → Hp → Prop, (∃ m, W 0 m (upd H1 D (.lst []))) ∧ ∀ i m H, W i m H →
      (J.stop i H ∧ Qd H) ∨ (J.go i H ∧ ∃ Nx : Hp → Prop, (∀ H', Nx H' → ∃ m', m' < m ∧ W (i + 1) m' H') ∧ ∀ x H', J.yld i H x H' → gName j x (wipe σ vs) H' fun σ2 H2 => wipe σ2 vs = wipe σ vs ∧ tYes σ2 H2 fun b H3 =>
        if b = true then te σ2 H3 fun y H4 => ∃ acc, H4 D = some (.lst acc) ∧ acc.length < sizeLine ∧ Nx (upd H4 D (.lst (acc ++ [y]))) else Nx H3) := by
  have hnl := (List.getElem?_eq_some_iff.mp hn).1
  refine lc_it w (fun i H' => i ≤ n ∧ Ex H1 H' ∧ H' D = some (.lst ((xs.take i).map f))) ⟨Nat.zero_le _, Ex.new hD, upd_same⟩ (fun i H' _ q => hG H' q.2.1) ?_ (fun H' q => by
    have := q.1
    omega)
  intro i y H2 H3 hi q yy
  obtain ⟨e, hy⟩ := hY i H2 y H3 hi yy
  subst e
  obtain ⟨q0, q1, q2⟩ := q
  refine ⟨hw y, ?_⟩
  dsimp only [tYes]
  rw [if_pos rfl]
  by_cases c : i = n
  · subst c
    rw [hn] at hy
    cases hy
    exact hx H3 q1 _
  · refine he i y (by omega) hy H3 q1 H3 (Ex.refl H3) _ fun H4 e4 => ⟨(xs.take i).map f, e4 D _ q2, sz_lt (by rw [List.length_map, List.length_take]; omega), by omega, Ex.mut (q1.trans e4) hD, ?_⟩
    rw [upd_same, take_snoc hy, List.map_append]
    rfl
theorem ex_lcL {a : Addr} {xs : List V} {n : Nat} {x : V} (f : V → V) (h : Ev tl σ H (.ref a)) (hS : SqL K H a xs) (hz : xs.length ≤ 90000) (hw : ∀ x, wipe ((wipe σ vs).set j (some x)) vs = wipe σ vs) (hn : xs[n]? = some x)
    (he : ∀ i y, i < n → xs[i]? = some y → ∀ H', Ex H H' → Ev te ((wipe σ vs).set j (some y)) H' (f y)) (hx : ∀ H', Ex H H' → ∀ Q : VK, te ((wipe σ vs).set j (some x)) H' Q) (Q : VK) : tLc (iList K tl) (gName j) tYes te vs σ H Q :=
  h H (Ex.refl H) _ fun H1 e1 => ⟨a, rfl, ⟨xs, ex_l e1 hS⟩, fun D hD => lc_leaves walk_list (fun _ _ _ _ _ y => y) hz hw f (fun H' e' => ex_l (e1.trans e') hS) hn (fun i y hi hy H' e' => he i y hi hy H' (e1.trans e')) (fun H' e' => hx H' (e1.trans e')) hD⟩
end
end Gd

set_option Elab.async false
set_option linter.all false
set_option maxRecDepth 100000
set_option maxHeartbeats 4000000
set_option exponentiation.threshold 600
namespace K02
open PySem PySem.Spec PyProof.Rows L2 Evl Gd
/-! ### the text -/
def topS (i : Nat) : Stmt := PySem.Challenge.pw_plinth_k02_texts_of_codes_and_readable_p.main.body.getD i (.Pass ⟨0, 0, 0, 0⟩)
abbrev s_is_character : Stmt := topS 7
abbrev N_is_character : List Str := ["code"]
theorem sc_is_character : FnScope N_is_character ["code"] (defScope s_is_character) := ⟨rfl, rfl, rfl, by decide +kernel, rfl, by decide +kernel, by decide +kernel⟩
abbrev s_character : Stmt := topS 8
abbrev N_character : List Str := ["code"]
theorem sc_character : FnScope N_character ["code"] (defScope s_character) := ⟨rfl, rfl, rfl, by decide +kernel, rfl, by decide +kernel, by decide +kernel⟩
abbrev s_text_of : Stmt := topS 9
abbrev N_text_of : List Str := ["codes", "code"]
theorem sc_text_of : FnScope N_text_of ["codes"] (defScope s_text_of) := ⟨rfl, rfl, rfl, by decide +kernel, rfl, by decide +kernel, by decide +kernel⟩
abbrev s_readable : Stmt := topS 10
abbrev N_readable : List Str := ["codes", "part", "code"]
theorem sc_readable : FnScope N_readable ["codes"] (defScope s_readable) := ⟨rfl, rfl, rfl, by decide +kernel, rfl, by decide +kernel, by decide +kernel⟩
abbrev s_law_cell : Stmt := topS 12
abbrev N_law_cell : List Str := ["script", "k"]
theorem sc_law_cell : FnScope N_law_cell ["script", "k"] (defScope s_law_cell) := ⟨rfl, rfl, rfl, by decide +kernel, rfl, by decide +kernel, by decide +kernel⟩
abbrev s_law_values : Stmt := topS 13
abbrev N_law_values : List Str := ["cell", "count", "size", "values", "rest", "k", "mixed"]
theorem sc_law_values : FnScope N_law_values ["cell", "count", "size"] (defScope s_law_values) := ⟨rfl, rfl, rfl, by decide +kernel, rfl, by decide +kernel, by decide +kernel⟩
abbrev s_law_chars : Stmt := topS 14
abbrev N_law_chars : List Str := ["chars"]
theorem sc_law_chars : FnScope N_law_chars [] (defScope s_law_chars) := ⟨rfl, rfl, rfl, by decide +kernel, rfl, by decide +kernel, by decide +kernel⟩
abbrev s_law_code : Stmt := topS 15
abbrev N_law_code : List Str := ["char", "chars", "at"]
theorem sc_law_code : FnScope N_law_code ["char"] (defScope s_law_code) := ⟨rfl, rfl, rfl, by decide +kernel, rfl, by decide +kernel, by decide +kernel⟩
abbrev s_law_text_or_none : Stmt := topS 16
abbrev N_law_text_or_none : List Str := ["codes", "e"]
theorem sc_law_text_or_none : FnScope N_law_text_or_none ["codes"] (defScope s_law_text_or_none) := ⟨rfl, rfl, rfl, by decide +kernel, rfl, by decide +kernel, by decide +kernel⟩
abbrev s_law_due : Stmt := topS 17
abbrev N_law_due : List Str := ["codes", "chars", "text", "code", "found", "char"]
theorem sc_law_due : FnScope N_law_due ["codes"] (defScope s_law_due) := ⟨rfl, rfl, rfl, by decide +kernel, rfl, by decide +kernel, by decide +kernel⟩
abbrev s_law : Stmt := topS 18
abbrev N_law : List Str := ["script", "chars", "values", "codes", "value", "choice", "odd", "at", "given", "text", "due", "part", "wanted", "code"]
theorem sc_law : FnScope N_law ["script"] (defScope s_law) := ⟨rfl, rfl, rfl, by decide +kernel, rfl, by decide +kernel, by decide +kernel⟩
abbrev str_FROM_AMPERSAND : Str := "&'()*+,-./0123456789:;<=>?@ABCDEFGHIJKLMNOPQRSTUVWXYZ[\\]^_`abcdefghijklmnopqrstuvwxyz{|}~"
abbrev str_FROM_SPACE : Str := " !\"#$"
/-! ### what the top has written -/
structure Txt (K : PySem.W.Frag) (mg : Str → Option Value) where
  f_is_character : Addr
  d_is_character : FuncData
  F_is_character : Fun K "is_character" "is_character" s_is_character f_is_character d_is_character
  b_is_character : Binds K d_is_character ["code"] []
  g_is_character : mg "is_character" = some (.ref f_is_character)
  f_character : Addr
  d_character : FuncData
  F_character : Fun K "_character" "_character" s_character f_character d_character
  b_character : Binds K d_character ["code"] []
  g_character : mg "_character" = some (.ref f_character)
  f_text_of : Addr
  d_text_of : FuncData
  F_text_of : Fun K "text_of" "text_of" s_text_of f_text_of d_text_of
  b_text_of : Binds K d_text_of ["codes"] []
  g_text_of : mg "text_of" = some (.ref f_text_of)
  f_readable : Addr
  d_readable : FuncData
  F_readable : Fun K "readable" "readable" s_readable f_readable d_readable
  b_readable : Binds K d_readable ["codes"] []
  g_readable : mg "readable" = some (.ref f_readable)
  f_law_cell : Addr
  d_law_cell : FuncData
  F_law_cell : Fun K "_law_cell" "_law_cell" s_law_cell f_law_cell d_law_cell
  b_law_cell : Binds K d_law_cell ["script", "k"] []
  g_law_cell : mg "_law_cell" = some (.ref f_law_cell)
  f_law_values : Addr
  d_law_values : FuncData
  F_law_values : Fun K "_law_values" "_law_values" s_law_values f_law_values d_law_values
  b_law_values : Binds K d_law_values ["cell", "count", "size"] []
  g_law_values : mg "_law_values" = some (.ref f_law_values)
  f_law_chars : Addr
  d_law_chars : FuncData
  F_law_chars : Fun K "_law_chars" "_law_chars" s_law_chars f_law_chars d_law_chars
  b_law_chars : Binds K d_law_chars [] []
  g_law_chars : mg "_law_chars" = some (.ref f_law_chars)
  f_law_code : Addr
  d_law_code : FuncData
  F_law_code : Fun K "_law_code" "_law_code" s_law_code f_law_code d_law_code
  b_law_code : Binds K d_law_code ["char"] []
  g_law_code : mg "_law_code" = some (.ref f_law_code)
  f_law_text_or_none : Addr
  d_law_text_or_none : FuncData
  F_law_text_or_none : Fun K "_law_text_or_none" "_law_text_or_none" s_law_text_or_none f_law_text_or_none d_law_text_or_none
  b_law_text_or_none : Binds K d_law_text_or_none ["codes"] []
  g_law_text_or_none : mg "_law_text_or_none" = some (.ref f_law_text_or_none)
  f_law_due : Addr
  d_law_due : FuncData
  F_law_due : Fun K "_law_due" "_law_due" s_law_due f_law_due d_law_due
  b_law_due : Binds K d_law_due ["codes"] []
  g_law_due : mg "_law_due" = some (.ref f_law_due)
  f_law : Addr
  d_law : FuncData
  F_law : Fun K "law" "law" s_law f_law d_law
  b_law : Binds K d_law ["script"] []
  g_law : mg "law" = some (.ref f_law)
  h_law : ∀ (s : Shared) (v : Value), BindsTo s d_law ⟨[v], []⟩ [("script", v)]
  C_PlinthError : Addr
  g_PlinthError : mg "PlinthError" = some (.ref C_PlinthError)
  k_PlinthError : PySem.W.keepIn K (.ref C_PlinthError) = true
  x_PlinthError : PySem.W.excIn K C_PlinthError [.type "ValueError", .type "Exception", .type "BaseException", .type "object"] "ValueError.__new__" = true
  b_PlinthError : PySem.W.subIn K (.ref C_PlinthError) (.type "BaseException") = some true
  t_PlinthError : PySem.W.typeIn K (.ref C_PlinthError) = some (.type "type")
  hd_PlinthError : PySem.W.hasDictIn K C_PlinthError = true
  s_PlinthError : PySem.W.subIn K (.ref C_PlinthError) (.ref C_PlinthError) = some true
  i_PlinthError : PySem.W.isClsIn K C_PlinthError = true
  C_NotText : Addr
  g_NotText : mg "NotText" = some (.ref C_NotText)
  k_NotText : PySem.W.keepIn K (.ref C_NotText) = true
  x_NotText : PySem.W.excIn K C_NotText [.type "ValueError", .type "Exception", .type "BaseException", .type "object"] "ValueError.__new__" = true
  b_NotText : PySem.W.subIn K (.ref C_NotText) (.type "BaseException") = some true
  t_NotText : PySem.W.typeIn K (.ref C_NotText) = some (.type "type")
  hd_NotText : PySem.W.hasDictIn K C_NotText = true
  s_NotText : PySem.W.subIn K (.ref C_NotText) (.ref C_NotText) = some true
  i_NotText : PySem.W.isClsIn K C_NotText = true
  ga_NotText : PySem.W.findIn K (.ref C_NotText) "__getattribute__" = some (some (.builtin "BaseException.__getattribute__"))
  gg_NotText : PySem.W.findIn K (.ref C_NotText) "__getattr__" = some none
  gc_NotText : PySem.W.findIn K (.ref C_NotText) "__class__" = some (some (.builtin "object.__class__"))
  gs_NotText : PySem.W.specialIn K (.builtin "object.__class__") "__get__" = some (some (.builtin "getset_descriptor.__get__"))
  gt_NotText : PySem.W.takesIn K (.builtin "object.__class__") = some true
  gm_NotText : PySem.W.mroIn K C_NotText (.type "object") = some true
  sub_NotText_PlinthError : PySem.W.subIn K (.ref C_NotText) (.ref C_PlinthError) = some true
  kit_NotText_PlinthError : PySem.W.kitOne K (.ref C_NotText) (.ref C_PlinthError) = some true
  t_NEWLINE : Tok
  c_NEWLINE : mg "NEWLINE" = some (.int 10 t_NEWLINE)
  t_FROM_AMPERSAND : Tok
  c_FROM_AMPERSAND : mg "_FROM_AMPERSAND" = some (.str str_FROM_AMPERSAND t_FROM_AMPERSAND)
  t_FROM_SPACE : Tok
  c_FROM_SPACE : mg "_FROM_SPACE" = some (.str str_FROM_SPACE t_FROM_SPACE)
  n_int : mg "int" = none
  n_isinstance : mg "isinstance" = none
  n_len : mg "len" = none
  n_list : mg "list" = none
  n_range : mg "range" = none
  n_repr : mg "repr" = none
  n_str : mg "str" = none

end K02

set_option Elab.async false
set_option linter.all false
set_option maxRecDepth 100000
set_option maxHeartbeats 4000000
set_option exponentiation.threshold 600
namespace K02
open PySem PySem.Spec PyProof.Rows L2 Evl Gd
/-! ### how expressions are evaluated, without a word of ours -/
local macro_rules | `(tactic| walk_at "ev") => `(tactic| exact ev_c)
local macro_rules | `(tactic| walk_at "ev") => `(tactic| exact ev_var rfl)
local macro_rules | `(tactic| walk_at "ev") => `(tactic| (refine' ev_op ?k1 ?k2 ?k3; (case k1 => walk_at "ev"); (case k2 => walk_at "ev"); (case k3 => walk_at "rv")))
local macro_rules | `(tactic| walk_at "ev") => `(tactic| (refine' ev_cb ?k1 ?k2; (case k1 => walk_at "ea"); (case k2 => walk_at "rc")))
local macro_rules | `(tactic| walk_at "ev") => `(tactic| (refine' ev_call ?k1 ?k2; (case k1 => walk_at "ea"); (case k2 => walk_at "sp")))
local macro_rules | `(tactic| walk_at "ev") => `(tactic| (refine' ev_chain ?k1 ?k2 ?k3 (fun _ => ?k4) (fun _ => ?k5); (case k1 => walk_at "ev"); (case k2 => walk_at "ev"); (case k3 => walk_at "rv"); (case k4 => walk_at "ev"); (case k5 => walk_at "rv")))
local macro_rules | `(tactic| walk_at "ev") => `(tactic| (refine' ev_orV ?k1 (fun _ => ?k2); (case k1 => walk_at "ev"); (case k2 => walk_at "ev")))
local macro_rules | `(tactic| walk_at "ev") => `(tactic| (refine' ev_andV ?k1 (fun _ => ?k2); (case k1 => walk_at "ev"); (case k2 => walk_at "ev")))
local macro_rules | `(tactic| walk_at "ev") => `(tactic| (refine' ev_notV ?k1; (case k1 => walk_at "ev")))
local macro_rules | `(tactic| walk_at "ea") => `(tactic| exact ea_nil)
local macro_rules | `(tactic| walk_at "ea") => `(tactic| (refine' ea_cons ?k1 ?k2; (case k1 => walk_at "ev"); (case k2 => walk_at "ea")))
local macro_rules | `(tactic| walk_at "rv") => `(tactic| exact rv_I0)
local macro_rules | `(tactic| walk_at "rv") => `(tactic| exact rv_eqI)
local macro_rules | `(tactic| walk_at "rv") => `(tactic| exact rv_neI)
local macro_rules | `(tactic| walk_at "rv") => `(tactic| exact rv_eqS)
local macro_rules | `(tactic| walk_at "rv") => `(tactic| exact rv_neS)
local macro_rules | `(tactic| walk_at "rv") => `(tactic| exact rv_mod (by decide))
local macro_rules | `(tactic| walk_at "rv") => `(tactic| exact rv_fdiv (by decide) (by decide))
local macro_rules | `(tactic| walk_at "rv") => `(tactic| exact rv_mulR (by decide))
local macro_rules | `(tactic| walk_at "rv") => `(tactic| exact rv_pow (by decide))
local macro_rules | `(tactic| walk_at "rc") => `(tactic| exact rc_int)
local macro_rules | `(tactic| walk_at "rc") => `(tactic| exact rc_ord)
local macro_rules | `(tactic| walk_at "et") => `(tactic| (refine' et_test ?k1; (case k1 => walk_at "ev")))
local macro_rules | `(tactic| walk_at "et") => `(tactic| (refine' et_B ?k1; (case k1 => walk_at "ev")))
local macro_rules | `(tactic| walk_at "et") => `(tactic| (refine' et_not ?k1; (case k1 => walk_at "et")))
local macro_rules | `(tactic| walk_at "et") => `(tactic| (refine' et_or ?k1 (fun _ => ?k2); (case k1 => walk_at "et"); (case k2 => walk_at "et")))
local macro_rules | `(tactic| walk_at "et") => `(tactic| (refine' et_and ?k1 (fun _ => ?k2); (case k1 => walk_at "et"); (case k2 => walk_at "et")))
section
variable {P : Program} {w : World} {K : PySem.W.Frag} {mg : Str → Option Value} {base : Heap}
/-! ### characters -/
def isCh (c : Int) : Bool := decide (c = 10) || (decide (32 ≤ c) && decide (c ≤ 36) || decide (38 ≤ c) && decide (c ≤ 126))
def sp_is_character (K : PySem.W.Frag) : Sp := fun vs H Q _ => ∃ c : Int, vs = [.int c] ∧ RetV (.bl (isCh c)) H Q
theorem v_is_character {c : Int} {H : Hp} : SpV (sp_is_character K) [.int c] H (.bl (isCh c)) := fun _ _ _ q _ => ⟨c, rfl, q⟩
local macro_rules | `(tactic| walk_at "sp") => `(tactic| exact v_is_character)
theorem ok_is_character (T : Txt K mg) : FnOk P w K mg base CX0 1 T.f_is_character T.d_is_character ["code"] (sp_is_character K) := by
  refine T.F_is_character.ok sc_is_character (fun vs H Q E h => ?_) (fun cdv A outer s H vs Q E hr h => ?_)
  · obtain ⟨c, rfl, _⟩ := h
    rfl
  · obtain ⟨c, rfl, k⟩ := h
    refine ⟨_, (pss_one (ps_ret (pe_or (pe_cmpR op_eq (pv 0) (pe_glob (v := .int 10) (by rfl) T.c_NEWLINE ⟨_, rfl⟩) (nomark _)) (pe_or (pe_chain op_le op_le pe_int (pv 0) pe_int) (pe_one (pe_chain op_le op_le pe_int (pv 0) pe_int)))))), ?_⟩
    exact s_ret (v := .bl (isCh c)) (by walk_at "ev") k
def sp_character (K : PySem.W.Frag) (C : Addr) : Sp := fun vs H Q E => ∃ c : Int, vs = [.int c] ∧ (isCh c = true → RetV (.str ⟨#[c.toNat]⟩) H Q) ∧ (isCh c = false → ∀ H2, Ex H H2 → E (.ref C) none H2)
theorem v_character {C : Addr} {c : Int} {H : Hp} (h : isCh c = true) : SpV (sp_character K C) [.int c] H (.str ⟨#[c.toNat]⟩) := fun _ _ _ q _ => ⟨c, rfl, fun _ => q, fun z => by rw [h] at z; cases z⟩
theorem sp_tab : ∀ k < 5, str_FROM_SPACE.cps.toList[k]? = some (k + 32) := by decide +kernel
theorem amp_tab : ∀ k < 89, str_FROM_AMPERSAND.cps.toList[k]? = some (k + 38) := by decide +kernel
theorem at_off {xs : List Nat} {c o n : Int} (h0 : 0 ≤ c - o) (hn : c - o < n) (ho : 0 ≤ o) (tab : ∀ k < n.toNat, xs[k]? = some (k + o.toNat)) : atI xs (c - o) = some c.toNat := by
  have e : c - o = (((c - o).toNat : Nat) : Int) := by omega
  rw [e]
  refine atI_nat ?_
  rw [tab _ (by omega)]
  congr 1
  omega
theorem ok_character (T : Txt K mg) : FnOk P w K mg base (L2.CX P w) 2 T.f_character T.d_character ["code"] (sp_character K T.C_NotText) := by
  refine T.F_character.okX sc_character (fun vs H Q E h => ?_) (fun cdv A outer s H vs Q E hr h => ?_)
  · obtain ⟨c, rfl, _⟩ := h
    rfl
  · obtain ⟨c, rfl, kG, kB⟩ := h
    refine ⟨_, (pss_cons (ps_if (pt_not (pt_val (pe_call (ok_is_character T) (hr.mono (by decide)) (by rfl) T.g_is_character T.F_is_character.kp T.b_is_character .nil pass0 (pa_cons (pv 0) pa_nil)))) (pss_one (ps_raise rfl (takes_of rfl rfl rfl rfl) (pmk_own PySem.F.excBase_ValueError T.x_NotText T.g_NotText T.k_NotText (raises_own T.b_NotText T.t_NotText) (by rfl)))) pss_nil)
        (pss_cons (ps_if (pt_cmpR op_eq (pv 0) (pe_glob (v := .int 10) (by rfl) T.c_NEWLINE ⟨_, rfl⟩) (nomark _)) (pss_one (ps_ret pe_str)) pss_nil)
        (pss_cons (ps_if (pt_cmpR op_le (pv 0) pe_int (nomark _)) (pss_one (ps_ret (pe_ix ix_str (pe_glob (v := .str str_FROM_SPACE) (by rfl) T.c_FROM_SPACE ⟨_, rfl⟩) (pe_op op_sub (pv 0) pe_int) (fun _ _ => rfl)))) pss_nil)
        (pss_one (ps_ret (pe_ix ix_str (pe_glob (v := .str str_FROM_AMPERSAND) (by rfl) T.c_FROM_AMPERSAND ⟨_, rfl⟩) (pe_op op_sub (pv 0) pe_int) (fun _ _ => rfl))))))), ?_⟩
    refine q_when (b := !isCh c) (by walk_at "et") (fun hb H1 e1 => kB (by simpa using hb) H1 e1) (fun hb H1 e1 => ?_)
    have hc : isCh c = true := by simpa using hb
    have kG := kG hc
    refine q_when (b := decide (c = 10)) (by walk_at "et") (fun hb H2 e2 => ?_) (fun hb H2 e2 => ?_)
    · have e : c = 10 := of_decide_eq_true hb
      subst e
      exact s_ret ev_c fun H3 e3 => kG H3 (e1.trans (e2.trans e3))
    have n10 : c ≠ 10 := of_decide_eq_false hb
    unfold isCh at hc
    simp only [decide_eq_false n10, Bool.false_or, Bool.or_eq_true, Bool.and_eq_true, decide_eq_true_eq] at hc
    refine q_when (b := decide (c ≤ 36)) (by walk_at "et") (fun hb H3 e3 => ?_) (fun hb H3 e3 => ?_)
    · have h36 : c ≤ 36 := of_decide_eq_true hb
      refine s_ret (v := .str ⟨#[c.toNat]⟩) (ev_op ev_c (by walk_at "ev") (rv_ixS (by decide) (at_off (n := 5) (o := 32) (by omega) (by omega) (by decide) sp_tab))) fun H4 e4 => kG H4 (e1.trans (e2.trans (e3.trans e4)))
    · have h36 : ¬ c ≤ 36 := of_decide_eq_false hb
      refine s_ret (v := .str ⟨#[c.toNat]⟩) (ev_op ev_c (by walk_at "ev") (rv_ixS (by decide) (at_off (n := 89) (o := 38) (by omega) (by omega) (by decide) amp_tab))) fun H4 e4 => kG H4 (e1.trans (e2.trans (e3.trans e4)))
def textOf (ns : List Int) : Str := ⟨(ns.map Int.toNat).toArray⟩

/-! ### the law's own helpers -/
def sp_law_cell (K : PySem.W.Frag) : Sp := fun vs H Q _ => ∃ (a : Addr) (ns : List Int) (k : Nat), vs = [.ref a, .int (k : Int)] ∧ SqL K H a (ns.map V.int) ∧ RetV (.int (cellN ns k)) H Q
theorem v_law_cell {a : Addr} {ns : List Int} {H : Hp} (k : Nat) (h : SqL K H a (ns.map V.int)) : SpV (sp_law_cell K) [.ref a, .int (k : Int)] H (.int (cellN ns k)) := fun _ e _ q _ => ⟨a, ns, k, rfl, ex_l e h, q⟩
theorem ok_law_cell (T : Txt K mg) : FnOk P w K mg base CX0 1 T.f_law_cell T.d_law_cell ["script", "k"] (sp_law_cell K) := by
  refine T.F_law_cell.ok sc_law_cell (fun vs H Q E h => ?_) (fun cdv A outer s H vs Q E hr h => ?_)
  · obtain ⟨a, ns, k, rfl, _⟩ := h
    rfl
  · obtain ⟨a, ns, k, rfl, hS, q⟩ := h
    refine ⟨_, (pss_cons (ps_if (pt_cmpR op_lt (pv 1) (pe_callB call_len_seq (by rfl) T.n_len (by decide +kernel) (pa_cons (pv 0) pa_nil)) (nomark _)) (pss_one (ps_ret (pe_ix ix_list (pv 0) (pv 1) (fun _ _ => rfl)))) pss_nil)
        (pss_one (ps_ret pe_int))), ?_⟩
    have hlen : Ev (tCB (rLenS K) (tCons (tVar 0) tNil)) (L2.start N_law_cell [.ref a, .int (k : Int)]) H (.int ((ns.map V.int).length : Int)) := ev_len (ev_var rfl) hS
    refine q_when (b := decide ((k : Int) < ((ns.map V.int).length : Int))) (et_test (ev_op (ev_var rfl) hlen rv_I0)) (fun hb H1 e1 => ?_) (fun hb H1 e1 => ?_)
    · have hk : k < ns.length := by have := of_decide_eq_true hb; rw [List.length_map] at this; omega
      have hg : ns[k]? = some (cellN ns k) := by
        unfold cellN
        rw [List.getElem?_eq_getElem hk, List.getD_eq_getElem?_getD, List.getElem?_eq_getElem hk]
        rfl
      exact s_ret (ev_op (ev_var rfl) (ev_var rfl) (rv_ixL (ex_l e1 hS) (atI_nat (by rw [List.getElem?_map, hg]; rfl)))) fun H2 e2 => q H2 (e1.trans e2)
    · have hk : ¬ k < ns.length := by have := of_decide_eq_false hb; rw [List.length_map] at this; omega
      have hg : cellN ns k = 0 := by
        unfold cellN
        rw [List.getD_eq_getElem?_getD, List.getElem?_eq_none (by omega)]
        rfl
      rw [hg] at q
      exact s_ret ev_c fun H2 e2 => q H2 (e1.trans e2)
def sp_law_values (K : PySem.W.Frag) : Sp := fun vs H Q _ => ∃ (cell size : Int) (n : Nat), vs = [.int cell, .int (n : Int), .int size] ∧ n ≤ 1000 ∧ 0 < size ∧ size < 100000 ∧ RetL ((lvals cell n size).map V.int) H Q
theorem l_law_values {cell size : Int} {n : Nat} {H : Hp} (hn : n ≤ 1000) (h0 : 0 < size) (h1 : size < 100000) : SpL (sp_law_values K) [.int cell, .int (n : Int), .int size] H ((lvals cell n size).map V.int) := fun _ _ _ q _ => ⟨cell, size, n, rfl, hn, h0, h1, q⟩
theorem ok_law_values (T : Txt K mg) : FnOk P w K mg base CX0 1 T.f_law_values T.d_law_values ["cell", "count", "size"] (sp_law_values K) := by
  refine T.F_law_values.ok sc_law_values (fun vs H Q E h => ?_) (fun cdv A outer s H vs Q E hr h => ?_)
  · obtain ⟨cell, size, n, rfl, _⟩ := h
    rfl
  · obtain ⟨cell, size, n, rfl, hn, h0, h1, k⟩ := h
    refine ⟨_, (pss_cons (ps_set (i := 3) sc_law_values.nd rfl (Or.inl rfl) (pe_lst pa_nil))
        (pss_cons (ps_set (i := 4) sc_law_values.nd rfl (Or.inl rfl) (pv 0))
        (pss_cons (ps_for PassesOwn.never rfl (pi_range1 (by rfl) T.n_range (pa_cons (pv 1) pa_nil)) (pg_name (i := 5) sc_law_values.nd rfl (Or.inl rfl)) (pss_one (ps_if (pt_cmpR op_ge (pv 4) (pe_op op_pow pe_int pe_int) (nomark _)) (pss_cons (ps_expr (pe_bm PySem.F.plainAttrs_list PySem.F.slot_list_append PySem.F.type_list_append mt_append (pv 3) (pa_cons (pe_op op_modN (pe_callTy call_int1 (by rfl) T.n_int (by decide +kernel) (pa_cons (pv 4) pa_nil)) (pv 2)) pa_nil)))
        (pss_one (ps_set (i := 4) sc_law_values.nd rfl (Or.inl rfl) (pe_op op_fdivN (pv 4) (pv 2))))) (pss_cons (ps_set (i := 6) sc_law_values.nd rfl (Or.inl rfl) (pe_op op_modN (pe_op op_add (pe_op op_add (pe_op op_mul (pe_op op_modN (pe_callTy call_int1 (by rfl) T.n_int (by decide +kernel) (pa_cons (pv 0) pa_nil)) pe_int) pe_int) (pe_op op_mul (pv 5) pe_int)) pe_int) pe_int))
        (pss_one (ps_expr (pe_bm PySem.F.plainAttrs_list PySem.F.slot_list_append PySem.F.type_list_append mt_append (pv 3) (pa_cons (pe_op op_modN (pe_op op_modN (pe_op op_mul (pv 6) pe_int) pe_int) (pv 2)) pa_nil))))))))
        (pss_one (ps_ret (pv 3)))))), ?_⟩
    refine q_asgL (el_lst ea_nil (by decide)) (fun p H1 hp e1 d1 => ?_)
    refine q_asg (ev_var rfl) (fun H2 e2 => ?_)
    refine q_forR1 (n := (n : Int)) (ea_cons (ev_var rfl) ea_nil) (by omega) (fun i σ' H' => Ex H H' ∧ H' p = some (.lst ((lvGo cell size i).2.map V.int)) ∧
      ∃ y z, σ' = [some (.int cell), some (.int (n : Int)), some (.int size), some (.ref p), some (.int (lvGo cell size i).1), y, z]) ?_ ?_ ?_
    · intro H3 e3
      exact ⟨e1.trans (e2.trans e3), e3 _ _ (e2 _ _ d1), none, none, rfl⟩
    · rintro i σ' H' hi ⟨e3, hd, y, z, rfl⟩
      have hlen : ((lvGo cell size i).2.map V.int).length < 100000 := by
        have := lvals_len cell i size
        unfold lvals at this
        rw [List.length_map]
        omega
      refine s_if (b := decide ((10 : Int) ^ 12 ≤ (lvGo cell size i).1)) (et_test (ev_op (ev_var rfl) (ev_op ev_c ev_c (rv_pow (by decide))) rv_I0)) (fun hb H4 e4 => ?_) (fun hb H4 e4 => ?_)
      · have hc : (lvGo cell size i).1 ≥ 10 ^ 12 := of_decide_eq_true hb
        refine q_app (e4 _ _ hd) (ev_var rfl) (ev_op (ev_cb (ea_cons (ev_var rfl) ea_nil) rc_int) (ev_var rfl) (rv_mod (by omega))) hlen (fun H5 e5 => ?_)
        refine s_asg (ev_op (ev_var rfl) (ev_var rfl) (rv_fdiv (by omega) (by omega))) (fun H6 e6 => ?_)
        refine ⟨fun b o q => e6 _ _ (by rw [upd_ne (ne_of_none q hp)]; exact e5 _ _ (e4 _ _ (e3 _ _ q))), ?_, some (.int (i : Int)), z, ?_⟩
        · rw [lvGo_succ]
          unfold lvStep
          rw [if_pos hc, List.map_append]
          exact e6 _ _ upd_same
        · rw [lvGo_succ]
          unfold lvStep
          rw [if_pos hc]
          rfl
      · have hc : ¬ (lvGo cell size i).1 ≥ 10 ^ 12 := of_decide_eq_false hb
        refine q_asg (v := .int (((cell.fmod 2147483647) * 48271 + (i : Int) * 69621 + 7).fmod 2147483647)) (ev_op (ev_op (ev_op (ev_op (ev_op (ev_cb (ea_cons (ev_var rfl) ea_nil) rc_int) ev_c (rv_mod (by decide))) ev_c (rv_mulR (by decide))) (ev_op (ev_var rfl) ev_c (rv_mulR (by decide))) rv_I0) ev_c rv_I0) ev_c (rv_mod (by decide))) (fun H5 e5 => ?_)
        refine s_app (e5 _ _ (e4 _ _ hd)) (ev_var rfl) (v := .int (lvMix cell size i)) (ev_op (ev_op (ev_op (ev_var rfl) ev_c (rv_mulR (by decide))) ev_c (rv_mod (by decide))) (ev_var rfl) (rv_mod (by omega))) hlen (fun H6 e6 => ?_)
        refine ⟨fun b o q => by rw [upd_ne (ne_of_none q hp)]; exact e6 _ _ (e5 _ _ (e4 _ _ (e3 _ _ q))), ?_, some (.int (i : Int)), some (.int (((cell.fmod 2147483647) * 48271 + (i : Int) * 69621 + 7).fmod 2147483647)), ?_⟩
        · rw [lvGo_succ]
          unfold lvStep
          rw [if_neg hc, List.map_append]
          exact upd_same
        · rw [lvGo_succ]
          unfold lvStep
          rw [if_neg hc]
          rfl
    · rintro σ' H' ⟨e3, hd, y, z, rfl⟩
      exact s_ret (ev_var rfl) fun H4 e4 => k p H4 hp (e3.trans e4) (e4 _ _ hd)
def charsS : Str := " !\"#$&'()*+,-./0123456789:;<=>?@ABCDEFGHIJKLMNOPQRSTUVWXYZ[\\]^_`" ++ "abcdefghijklmnopqrstuvwxyz{|}~\n"
def sp_law_chars (K : PySem.W.Frag) : Sp := fun vs H Q _ => vs = [] ∧ RetV (.str charsS) H Q
theorem v_law_chars {H : Hp} : SpV (sp_law_chars K) [] H (.str charsS) := fun _ _ _ q _ => ⟨rfl, q⟩
theorem ok_law_chars (T : Txt K mg) : FnOk P w K mg base CX0 1 T.f_law_chars T.d_law_chars [] (sp_law_chars K) := by
  refine T.F_law_chars.ok sc_law_chars (fun vs H Q E h => ?_) (fun cdv A outer s H vs Q E hr h => ?_)
  · obtain ⟨rfl, _⟩ := h
    rfl
  · obtain ⟨rfl, k⟩ := h
    refine ⟨_, (pss_cons (ps_set (i := 0) sc_law_chars.nd rfl (Or.inl rfl) pe_str)
        (pss_one (ps_ret (pe_op op_add_str (pv 0) pe_str)))), ?_⟩
    refine q_asg ev_c (fun H1 e1 => ?_)
    exact s_ret (v := .str charsS) (ev_op (ev_var rfl) ev_c (rv_addS (by decide))) fun H2 e2 => k H2 (e1.trans e2)
def occ1 (c : Nat) : List Nat := Builtin.Str.occurrences charsS ⟨#[c]⟩ 0 charsS.length 1
def codeAt (i : Nat) : Nat := if i = 94 then 10 else if i < 5 then 32 + i else 33 + i
theorem occ_tab : charsS.cps.toList.all (fun c => match occ1 c with | i :: _ => codeAt i == c | [] => false) = true := by decide +kernel
theorem occ_of {c : Nat} (h : c ∈ charsS.cps.toList) : ∃ i rest, occ1 c = i :: rest ∧ codeAt i = c := by
  have := List.all_eq_true.mp occ_tab c h
  cases e : occ1 c with
  | nil => rw [e] at this; cases this
  | cons i rest =>
    rw [e] at this
    exact ⟨i, rest, rfl, by simpa using this⟩
def sp_law_code (K : PySem.W.Frag) : Sp := fun vs H Q _ => ∃ c : Nat, vs = [.str ⟨#[c]⟩] ∧ c ∈ charsS.cps.toList ∧ RetV (.int (c : Int)) H Q
theorem v_law_code {c : Nat} {H : Hp} (h : c ∈ charsS.cps.toList) : SpV (sp_law_code K) [.str ⟨#[c]⟩] H (.int (c : Int)) := fun _ _ _ q _ => ⟨c, rfl, h, q⟩
local macro_rules | `(tactic| walk_at "sp") => `(tactic| exact v_law_chars)
theorem ok_law_code (T : Txt K mg) : FnOk P w K mg base CX0 2 T.f_law_code T.d_law_code ["char"] (sp_law_code K) := by
  refine T.F_law_code.ok sc_law_code (fun vs H Q E h => ?_) (fun cdv A outer s H vs Q E hr h => ?_)
  · obtain ⟨c, rfl, _⟩ := h
    rfl
  · obtain ⟨c, rfl, hc, k⟩ := h
    refine ⟨_, (pss_cons (ps_set (i := 1) sc_law_code.nd rfl (Or.inl rfl) (pe_call0 (ok_law_chars T) (hr.mono (by decide)) (by rfl) T.g_law_chars T.F_law_chars.kp T.b_law_chars .nil pass0))
        (pss_cons (ps_set (i := 2) sc_law_code.nd rfl (Or.inl rfl) (pe_bm PySem.F.plainAttrs_str PySem.F.slot_str_index PySem.F.type_str_index mt_sindex (pv 1) (pa_cons (pv 0) pa_nil)))
        (pss_cons (ps_if (pt_cmpR op_eq (pv 2) (pe_op op_sub pe_int pe_int) (nomark _)) (pss_one (ps_ret pe_int)) pss_nil)
        (pss_cons (ps_if (pt_cmpR op_lt (pv 2) pe_int (nomark _)) (pss_one (ps_ret (pe_op op_add pe_int (pv 2)))) pss_nil)
        (pss_one (ps_ret (pe_op op_add pe_int (pv 2)))))))), ?_⟩
    obtain ⟨i, rest, ho, hi⟩ := occ_of hc
    refine q_asg (by walk_at "ev") (fun H1 e1 => ?_)
    refine q_asg (v := .int (i : Int)) (fun H2 e2 Q q => ⟨.str charsS, rfl, rfl, .str ⟨#[c]⟩, rfl, charsS, ⟨#[c]⟩, i, rest, rfl, rfl, ho, q H2 (Ex.refl H2)⟩) (fun H2 e2 => ?_)
    refine q_when (b := decide ((i : Int) = 94)) (by walk_at "et") (fun hb H3 e3 => ?_) (fun hb H3 e3 => ?_)
    · have e : i = 94 := by have := of_decide_eq_true hb; omega
      subst e
      subst hi
      exact s_ret ev_c fun H4 e4 => k H4 (e1.trans (e2.trans (e3.trans e4)))
    have n94 : ¬ i = 94 := by have := of_decide_eq_false hb; omega
    refine q_when (b := decide ((i : Int) < 5)) (by walk_at "et") (fun hb H4 e4 => ?_) (fun hb H4 e4 => ?_)
    · have h5 : i < 5 := by have := of_decide_eq_true hb; omega
      have e : (c : Int) = 32 + (i : Int) := by rw [← hi]; unfold codeAt; rw [if_neg n94, if_pos h5]; omega
      rw [e] at k
      exact s_ret (by walk_at "ev") fun H5 e5 => k H5 (e1.trans (e2.trans (e3.trans (e4.trans e5))))
    · have h5 : ¬ i < 5 := by have := of_decide_eq_false hb; omega
      have e : (c : Int) = 33 + (i : Int) := by rw [← hi]; unfold codeAt; rw [if_neg n94, if_neg h5]; omega
      rw [e] at k
      exact s_ret (by walk_at "ev") fun H5 e5 => k H5 (e1.trans (e2.trans (e3.trans (e4.trans e5))))

def sp_readable (K : PySem.W.Frag) : Sp := fun vs H Q _ => ∃ (a : Addr) (ns : List Int), vs = [.ref a] ∧ SqL K H a (ns.map V.int) ∧ ns.length ≤ 5000 ∧ RetL ((ns.takeWhile nn).map V.int) H Q
theorem l_readable {a : Addr} {ns : List Int} {H : Hp} (h : SqL K H a (ns.map V.int)) (hl : ns.length ≤ 5000) : SpL (sp_readable K) [.ref a] H ((ns.takeWhile nn).map V.int) := fun _ e _ q _ => ⟨a, ns, rfl, ex_l e h, hl, q⟩
theorem ok_readable (T : Txt K mg) : FnOk P w K mg base CX0 1 T.f_readable T.d_readable ["codes"] (sp_readable K) := by
  refine T.F_readable.ok sc_readable (fun vs H Q E h => ?_) (fun cdv A outer s H vs Q E hr h => ?_)
  · obtain ⟨a, ns, rfl, _⟩ := h
    rfl
  · obtain ⟨a, ns, rfl, hS, hl, k⟩ := h
    refine ⟨_, (pss_cons (ps_set (i := 1) sc_readable.nd rfl (Or.inl rfl) (pe_lst pa_nil))
        (pss_cons (ps_for PassesOwn.never rfl (pi_list (pv 0)) (pg_name (i := 2) sc_readable.nd rfl (Or.inl rfl)) (pss_cons (ps_if (pt_cmpR op_lt (pv 2) pe_int (nomark _)) (pss_one ps_break) pss_nil)
        (pss_one (ps_expr (pe_bm PySem.F.plainAttrs_list PySem.F.slot_list_append PySem.F.type_list_append mt_append (pv 1) (pa_cons (pv 2) pa_nil))))))
        (pss_one (ps_ret (pv 1))))), ?_⟩
    refine q_asgL (el_lst ea_nil (by decide)) (fun p H1 hp e1 d1 => ?_)
    refine q_forLn (ev_var rfl) (ex_l e1 hS) (fun i σ' H' => Ex H H' ∧ (ns.take i).takeWhile nn = ns.take i ∧ H' p = some (.lst ((ns.take i).map V.int)) ∧ ∃ y, σ' = [some (.ref a), some (.ref p), y]) ?_ ?_ ?_ ?_
    · intro H2 e2
      exact ⟨e1.trans e2, rfl, e2 _ _ d1, none, rfl⟩
    · rintro i σ' H' _ ⟨e2, _⟩
      exact ex_l e2 hS
    · rintro i x σ' H' hx ⟨e2, ht, hd, y, rfl⟩
      obtain ⟨c, hc, rfl⟩ := map_at hx
      have hi := (List.getElem?_eq_some_iff.mp hc).1
      refine q_when (b := decide (c < 0)) (by walk_at "et") (fun hb H3 e3 => ?_) (fun hb H3 e3 => ?_)
      · have e : ns.takeWhile nn = ns.take i := tw_stop hc (by unfold nn; have := of_decide_eq_true hb; exact decide_eq_false (by omega)) ht
        rw [e] at k
        exact s_ret (ev_var rfl) fun H4 e4 => k p H4 hp (e2.trans (e3.trans e4)) (e4 _ _ (e3 _ _ hd))
      · have h0 : nn c = true := by unfold nn; have := of_decide_eq_false hb; exact decide_eq_true (by omega)
        refine s_app (e3 _ _ hd) (ev_var rfl) (ev_var rfl) (by rw [List.length_map, List.length_take]; omega) (fun H4 e4 => ?_)
        refine ⟨Ex.mut ((e2.trans e3).trans e4) hp, ?_, ?_, _, rfl⟩
        · rw [take_snoc hc, List.takeWhile_append_of_pos (fun z hz => takeWhile_pos ht z hz), List.takeWhile_cons, h0]
          rfl
        · rw [take_snoc hc, List.map_append]
          exact upd_same
    · rintro σ' H' ⟨e2, ht, hd, y, rfl⟩
      rw [List.length_map, List.take_length] at ht hd
      rw [ht] at k
      exact s_ret (ev_var rfl) fun H4 e4 => k p H4 hp (e2.trans e4) (e4 _ _ hd)


end
end K02

set_option Elab.async false
set_option linter.all false
set_option maxRecDepth 100000
set_option maxHeartbeats 4000000
set_option exponentiation.threshold 600
namespace K02
open PySem PySem.Spec PyProof.Rows L2 Evl Gd
/-! ### how expressions are evaluated, without a word of ours -/
local macro_rules | `(tactic| walk_at "ev") => `(tactic| exact ev_c)
local macro_rules | `(tactic| walk_at "ev") => `(tactic| exact ev_var rfl)
local macro_rules | `(tactic| walk_at "ev") => `(tactic| (refine' ev_op ?k1 ?k2 ?k3; (case k1 => walk_at "ev"); (case k2 => walk_at "ev"); (case k3 => walk_at "rv")))
local macro_rules | `(tactic| walk_at "ev") => `(tactic| (refine' ev_cb ?k1 ?k2; (case k1 => walk_at "ea"); (case k2 => walk_at "rc")))
local macro_rules | `(tactic| walk_at "ev") => `(tactic| (refine' ev_call ?k1 ?k2; (case k1 => walk_at "ea"); (case k2 => walk_at "sp")))
local macro_rules | `(tactic| walk_at "ev") => `(tactic| (refine' ev_chain ?k1 ?k2 ?k3 (fun _ => ?k4) (fun _ => ?k5); (case k1 => walk_at "ev"); (case k2 => walk_at "ev"); (case k3 => walk_at "rv"); (case k4 => walk_at "ev"); (case k5 => walk_at "rv")))
local macro_rules | `(tactic| walk_at "ev") => `(tactic| (refine' ev_orV ?k1 (fun _ => ?k2); (case k1 => walk_at "ev"); (case k2 => walk_at "ev")))
local macro_rules | `(tactic| walk_at "ev") => `(tactic| (refine' ev_andV ?k1 (fun _ => ?k2); (case k1 => walk_at "ev"); (case k2 => walk_at "ev")))
local macro_rules | `(tactic| walk_at "ev") => `(tactic| (refine' ev_notV ?k1; (case k1 => walk_at "ev")))
local macro_rules | `(tactic| walk_at "ea") => `(tactic| exact ea_nil)
local macro_rules | `(tactic| walk_at "ea") => `(tactic| (refine' ea_cons ?k1 ?k2; (case k1 => walk_at "ev"); (case k2 => walk_at "ea")))
local macro_rules | `(tactic| walk_at "rv") => `(tactic| exact rv_I0)
local macro_rules | `(tactic| walk_at "rv") => `(tactic| exact rv_eqI)
local macro_rules | `(tactic| walk_at "rv") => `(tactic| exact rv_neI)
local macro_rules | `(tactic| walk_at "rv") => `(tactic| exact rv_eqS)
local macro_rules | `(tactic| walk_at "rv") => `(tactic| exact rv_neS)
local macro_rules | `(tactic| walk_at "rv") => `(tactic| exact rv_mod (by decide))
local macro_rules | `(tactic| walk_at "rv") => `(tactic| exact rv_fdiv (by decide) (by decide))
local macro_rules | `(tactic| walk_at "rv") => `(tactic| exact rv_mulR (by decide))
local macro_rules | `(tactic| walk_at "rv") => `(tactic| exact rv_pow (by decide))
local macro_rules | `(tactic| walk_at "rc") => `(tactic| exact rc_int)
local macro_rules | `(tactic| walk_at "rc") => `(tactic| exact rc_ord)
local macro_rules | `(tactic| walk_at "et") => `(tactic| (refine' et_test ?k1; (case k1 => walk_at "ev")))
local macro_rules | `(tactic| walk_at "et") => `(tactic| (refine' et_B ?k1; (case k1 => walk_at "ev")))
local macro_rules | `(tactic| walk_at "et") => `(tactic| (refine' et_not ?k1; (case k1 => walk_at "et")))
local macro_rules | `(tactic| walk_at "et") => `(tactic| (refine' et_or ?k1 (fun _ => ?k2); (case k1 => walk_at "et"); (case k2 => walk_at "et")))
local macro_rules | `(tactic| walk_at "et") => `(tactic| (refine' et_and ?k1 (fun _ => ?k2); (case k1 => walk_at "et"); (case k2 => walk_at "et")))
section
variable {P : Program} {w : World} {K : PySem.W.Frag} {mg : Str → Option Value} {base : Heap}
theorem bad_at : ∀ (ns : List Int), ns.all isCh = false → ∃ n c, ns[n]? = some c ∧ isCh c = false ∧ (ns.take n).all isCh = true
  | [], h => by cases h
  | c :: r, h => by
    by_cases q : isCh c = true
    · rw [List.all_cons, q, Bool.true_and] at h
      obtain ⟨n, c', h1, h2, h3⟩ := bad_at r h
      exact ⟨n + 1, c', h1, h2, by rw [List.take_succ_cons, List.all_cons, q, h3]; rfl⟩
    · exact ⟨0, c, rfl, by simpa using q, rfl⟩
def sp_text_of (K : PySem.W.Frag) (C : Addr) : Sp := fun vs H Q E => ∃ (a : Addr) (ns : List Int), vs = [.ref a] ∧ SqL K H a (ns.map V.int) ∧ ns.length ≤ 1000 ∧ (ns.all isCh = true → RetV (.str (textOf ns)) H Q) ∧ (ns.all isCh = false → ∀ H2, Ex H H2 → E (.ref C) none H2)
theorem ok_text_of (T : Txt K mg) : FnOk P w K mg base (L2.CX P w) 3 T.f_text_of T.d_text_of ["codes"] (sp_text_of K T.C_NotText) := by
  refine T.F_text_of.okX sc_text_of (fun vs H Q E h => ?_) (fun cdv A outer s H vs Q E hr h => ?_)
  · obtain ⟨a, ns, rfl, _⟩ := h
    rfl
  · obtain ⟨a, ns, rfl, hS, hl, k, kB⟩ := h
    refine ⟨_, (pss_one (ps_ret (pe_join pe_str (Gd.pe_lcX (takes_of rfl rfl rfl rfl) rfl rfl (own := [("code", 1)]) (by rfl) sc_text_of.nd (pi_list (pv 0)) (blkOk_by (own := [("code", 1)]) (N := N_text_of) (sc := defScope s_text_of) (by decide +kernel)) (fun _ _ _ _ _ => pg_name (i := 1) sc_text_of.nd rfl (Or.inl rfl)) (fun _ _ _ _ _ => pts_nil) (fun _ _ _ _ _ pn xe tk => (pe_callS (ok_character T) (hr.mono (by decide)) (by rfl) T.g_character T.F_character.kp T.b_character (fun σ => passAt tk σ) (by exact (pa_cons (pv 1) pa_nil)))))))), ?_⟩
    let f : V → V := fun v => match v with | .int c => .str ⟨#[c.toNat]⟩ | _ => .non
    cases hall : ns.all isCh with
    | false =>
      obtain ⟨n, c, h1, h2, h3⟩ := bad_at ns hall
      unfold tRet tM1 tC
      dsimp only
      refine ⟨⟨_, rfl⟩, ?_⟩
      refine ex_lcL (K := K) (a := a) (xs := ns.map V.int) (tl := tVar 0) (te := tCallS (sp_character K T.C_NotText) (WE fun cls d x G => E cls d G) (tCons (tVar 1) tNil)) (σ := L2.start N_text_of [.ref a]) (n := n) (x := .int c) (j := 1) (vs := [1]) f (ev_var rfl) hS (by rw [List.length_map]; omega) (fun _ => rfl) (by rw [List.getElem?_map, h1]; rfl) (fun i y hi hy H1 e1 => ?_) (fun H1 e1 Q' => ?_) _
      · obtain ⟨c', hc', rfl⟩ := map_at hy
        have hg : isCh c' = true := List.all_eq_true.mp h3 c' (List.mem_of_getElem? (by rw [List.getElem?_take, if_pos hi]; exact hc'))
        exact fun H2 e2 Q' q => ⟨_, rfl, c', rfl, fun _ => q, fun z => by rw [hg] at z; cases z⟩
      · exact ⟨_, rfl, c, rfl, (fun z => by rw [h2] at z; cases z), fun _ H2 e2 => kB hall H2 (e1.trans e2)⟩
    | true =>
      have k1 := k hall
      clear k
      have hE : EvL _ (L2.start N_text_of [.ref a]) H ((ns.map V.int).map f) := el_mapL (K := K) (σ := L2.start N_text_of [.ref a]) (H := H) (te := tCallS (sp_character K T.C_NotText) (WE fun cls d x G => E cls d G) (tCons (tVar 1) tNil)) (tl := tVar 0) (j := 1) (vs := [1]) f (ev_var rfl) hS (by rw [List.length_map]; omega) (fun _ => rfl) (fun x hx H1 _ => by
        obtain ⟨c, hcm, rfl⟩ := List.mem_map.mp hx
        have hg := List.all_eq_true.mp hall c hcm
        exact fun H2 e2 Q' q => ⟨_, rfl, c, rfl, fun _ => q, fun z => by rw [hg] at z; cases z⟩)
      have hm : (ns.map V.int).map f = (ns.map fun c => (⟨#[c.toNat]⟩ : Str)).map V.str := by
        rw [List.map_map, List.map_map]
        rfl
      rw [hm] at hE
      have ht : Txt.join "" (ns.map fun c => (⟨#[c.toNat]⟩ : Str)) = textOf ns := by
        refine str_ext ?_
        rw [joinE, List.map_map]
        unfold textOf
        show (ns.map fun c => [c.toNat]).flatten = ns.map Int.toNat
        clear hS hl k1 kB hE hm hall
        induction ns with
        | nil => rfl
        | cons c r ih => rw [List.map_cons, List.flatten_cons, ih]; rfl
      rw [← ht] at k1
      refine s_ret (ev_joinL ev_c hE ?_) k1
      have hs : ((ns.map fun c => (⟨#[c.toNat]⟩ : Str)).map (·.length)).sum = ns.length := by
        clear hS hl k1 kB hE hm ht hall
        induction ns with
        | nil => rfl
        | cons c r ih => rw [List.map_cons, List.map_cons, List.sum_cons, ih, List.length_cons]; show 1 + r.length = r.length + 1; omega
      rw [hs, List.length_map]
      show ns.length + ns.length * 0 ≤ 16777216
      omega
def txO (ns : List Int) : V := if ns.all isCh = true then .str (textOf ns) else .non
def sp_law_text_or_none (K : PySem.W.Frag) : Sp := fun vs H Q _ => ∃ (a : Addr) (ns : List Int), vs = [.ref a] ∧ SqL K H a (ns.map V.int) ∧ ns.length ≤ 1000 ∧ RetV (txO ns) H Q
theorem v_law_text_or_none {a : Addr} {ns : List Int} {H : Hp} (h : SqL K H a (ns.map V.int)) (hl : ns.length ≤ 1000) : SpV (sp_law_text_or_none K) [.ref a] H (txO ns) := fun _ e _ q _ => ⟨a, ns, rfl, ex_l e h, hl, q⟩
theorem ok_law_text_or_none (T : Txt K mg) : FnOk P w K mg base CX0 4 T.f_law_text_or_none T.d_law_text_or_none ["codes"] (sp_law_text_or_none K) := by
  refine T.F_law_text_or_none.ok sc_law_text_or_none (fun vs H Q E h => ?_) (fun cdv A outer s H vs Q E hr h => ?_)
  · obtain ⟨a, ns, rfl, _⟩ := h
    rfl
  · obtain ⟨a, ns, rfl, hS, hl, k⟩ := h
    refine ⟨_, (pss_cons (ps_try_as (i := 1) rfl rfl sc_law_text_or_none.nd rfl rfl ⟨(by rfl), by decide, .inl T.g_NotText⟩ takes0 (fun W pn xe tk own => (pss_one (ps_ret (pe_callS (ok_text_of T) (hr.mono (by decide)) (by rfl) T.g_text_of T.F_text_of.kp T.b_text_of (fun σ => passAt tk σ) (by exact (pa_cons (pv 0) pa_nil)))))) (fun a oe cls d pn hz hf => (pss_one (ps_if (pt_not (pt_val (pe_callB (call_isX ⟨T.ga_NotText, T.gg_NotText, T.b_NotText, T.hd_NotText, T.gc_NotText, T.gs_NotText, T.gt_NotText, T.gm_NotText⟩ hz hf) (by rfl) T.n_isinstance (by decide +kernel) (pa_cons (pv 1) (pa_cons (pe_glob (v := .ref T.C_PlinthError) (by rfl) T.g_PlinthError rfl) pa_nil))))) (pss_one (ps_ret pe_int)) pss_nil))))
        (pss_one (ps_ret pe_non))), ?_⟩
    unfold txO at k
    refine ⟨_, rfl, a, ns, rfl, hS, hl, fun hall => ?_, fun hall H2 e2 => ?_⟩
    · rw [if_pos hall] at k
      exact k
    · rw [if_neg (by rw [hall]; exact Bool.false_ne_true)] at k
      refine ⟨true, PySem.W.exm_ref T.b_NotText T.hd_NotText T.t_NotText T.s_NotText, fun _ ae hae => ?_, fun q => nomatch q⟩
      refine s_when (b := false) (et_is (et_not (et_B (ev_cb (ea_cons (ev_var rfl) (ea_cons ev_c ea_nil)) (rc_isX (fun u h => h) T.kit_NotText_PlinthError)))) rfl) (fun hb => nomatch hb) (fun _ H3 e3 => ?_)
      show tRet (tC .non) { nx := fun x H' => Q V.non H', rt := Q } (((L2.start N_law_text_or_none [.ref a]).set 1 (some (.ref ae))).set 1 none) H3
      exact s_ret (v := .non) ev_c fun H4 e4 => k H4 (e2.trans (e3.trans e4))
theorem code_tab : (List.range 127).all (fun c : Nat => decide (charsS.cps.toList.filter (fun x : Nat => decide (x = c)) = if isCh ((c : Nat) : Int) = true then [c] else [])) = true := by decide +kernel
theorem chars_lt : charsS.cps.toList.all (fun x => decide (x < 127)) = true := by decide +kernel
theorem found_of (c : Int) : charsS.cps.toList.filter (fun x : Nat => decide ((x : Int) = c)) = if isCh c = true then [c.toNat] else [] := by
  by_cases h : 0 ≤ c ∧ c < 127
  · have e : c = ((c.toNat : Nat) : Int) := by omega
    have := List.all_eq_true.mp code_tab c.toNat (List.mem_range.mpr (by omega))
    rw [← e] at this
    rw [← of_decide_eq_true this]
    refine List.filter_congr fun x _ => ?_
    by_cases q : x = c.toNat
    · rw [decide_eq_true (show (x : Int) = c by omega), decide_eq_true q]
    · rw [decide_eq_false (show ¬ (x : Int) = c by omega), decide_eq_false q]
  · have hn : isCh c = false := by
      unfold isCh
      simp only [Bool.or_eq_false_iff, Bool.and_eq_false_iff, decide_eq_false_iff_not]
      omega
    rw [if_neg (by rw [hn]; exact Bool.false_ne_true)]
    refine List.filter_eq_nil_iff.mpr fun x hx q => ?_
    have h1 := of_decide_eq_true (List.all_eq_true.mp chars_lt x hx)
    have h2 := of_decide_eq_true q
    omega
theorem textOf_snoc (ns : List Int) (c : Int) : textOf (ns ++ [c]) = textOf ns ++ ⟨#[c.toNat]⟩ := by
  refine str_ext ?_
  rw [app_toList]
  unfold textOf
  show (List.map Int.toNat (ns ++ [c])) = List.map Int.toNat ns ++ [c.toNat]
  rw [List.map_append]
  rfl
theorem textOf_len (ns : List Int) : (textOf ns).length = ns.length := by
  rw [len_size]
  unfold textOf
  show (List.map Int.toNat ns).length = _
  rw [List.length_map]
def sp_law_due (K : PySem.W.Frag) : Sp := fun vs H Q _ => ∃ (a : Addr) (ns : List Int), vs = [.ref a] ∧ SqL K H a (ns.map V.int) ∧ ns.length ≤ 1000 ∧ RetV (txO ns) H Q
theorem v_law_due {a : Addr} {ns : List Int} {H : Hp} (h : SqL K H a (ns.map V.int)) (hl : ns.length ≤ 1000) : SpV (sp_law_due K) [.ref a] H (txO ns) := fun _ e _ q _ => ⟨a, ns, rfl, ex_l e h, hl, q⟩
theorem ok_law_due (T : Txt K mg) : FnOk P w K mg base CX0 3 T.f_law_due T.d_law_due ["codes"] (sp_law_due K) := by
  refine T.F_law_due.ok sc_law_due (fun vs H Q E h => ?_) (fun cdv A outer s H vs Q E hr h => ?_)
  · obtain ⟨a, ns, rfl, _⟩ := h
    rfl
  · obtain ⟨a, ns, rfl, hS, hl, k⟩ := h
    refine ⟨_, (pss_cons (ps_set (i := 1) sc_law_due.nd rfl (Or.inl rfl) (pe_call0 (ok_law_chars T) (hr.mono (by decide)) (by rfl) T.g_law_chars T.F_law_chars.kp T.b_law_chars .nil pass0))
        (pss_cons (ps_set (i := 2) sc_law_due.nd rfl (Or.inl rfl) pe_str)
        (pss_cons (ps_for PassesOwn.never rfl (pi_list (pv 0)) (pg_name (i := 3) sc_law_due.nd rfl (Or.inr rfl)) (pss_cons (ps_setLc (i := 4) (own := [("char", 5)]) (by rfl) sc_law_due.nd rfl rfl (sw_true rfl rfl rfl (by decide +kernel)) (pi_str (pv 1)) (blkOk_by (own := [("char", 5)]) (N := N_law_due) (sc := defScope s_law_due) (by decide +kernel)) (fun _ _ _ _ _ => pg_name (i := 5) sc_law_due.nd rfl (Or.inl rfl)) (fun _ _ _ _ _ => (pts_one (pt_cmpR op_eq (pe_call (ok_law_code T) (hr.mono (by decide)) (by rfl) T.g_law_code T.F_law_code.kp T.b_law_code .nil pass0 (pa_cons (pv 5) pa_nil)) (pv 3) (nomark _)))) (fun _ _ _ _ _ => (pv 5)))
        (pss_cons (ps_if (pt_cmpR op_ne (pe_callB call_len_seq (by rfl) T.n_len (by decide +kernel) (pa_cons (pv 4) pa_nil)) pe_int (nomark _)) (pss_one (ps_ret pe_non)) pss_nil)
        (pss_one (ps_set (i := 2) sc_law_due.nd rfl (Or.inl rfl) (pe_op op_add_str (pv 2) (pe_ix ix_list (pv 4) pe_int (fun _ _ => rfl))))))))
        (pss_one (ps_ret (pv 2)))))), ?_⟩
    refine q_asg (ev_call ea_nil v_law_chars) (fun H1 e1 => ?_)
    refine q_asg (v := .str "") ev_c (fun H2 e2 => ?_)
    have e12 := e1.trans e2
    refine q_forLn (ev_var rfl) (ex_l e12 hS) (fun i σ' H' => Ex H H' ∧ (ns.take i).all isCh = true ∧ ∃ y z, σ' = [some (.ref a), some (.str charsS), some (.str (textOf (ns.take i))), y, z, none]) ?_ ?_ ?_ ?_
    · exact fun H3 e3 => ⟨e12.trans e3, rfl, none, none, rfl⟩
    · exact fun i σ' H' _ h => ex_l h.1 hS
    · rintro i x σ' H' hx ⟨eH, hall, y, z, rfl⟩
      obtain ⟨c, hc, rfl⟩ := map_at hx
      have hi := (List.getElem?_eq_some_iff.mp hc).1
      let p : V → Bool := fun v => match v with | .str x => decide (((x.cps.getD 0 0 : Nat) : Int) = c) | _ => false
      have hf : ((sgns charsS).filter p).map id = (if isCh c = true then [V.str ⟨#[c.toNat]⟩] else []) := by
        rw [List.map_id]
        unfold sgns
        rw [List.filter_map]
        have : (p ∘ fun c => V.str ⟨#[c]⟩) = fun x : Nat => decide ((x : Int) = c) := rfl
        rw [this, found_of]
        by_cases q : isCh c = true
        · rw [if_pos q, if_pos q]; rfl
        · rw [if_neg q, if_neg q]; rfl
      have hL := el_filtS (σ := [some (.ref a), some (.str charsS), some (.str (textOf (ns.take i))), some (.int c), z, none]) (H := H') (tl := tVar 1) (te := tVar 5) (tt := tTest (tOp rEq (tCall (sp_law_code K) [] E0 (tCons (tVar 5) tNil)) (tVar 3))) (z := charsS) (j := 5) (vs := [5]) p id (ev_var rfl) (by decide +kernel) (fun _ => rfl) (fun ch hch H1 _ => et_test (ev_op (ev_call (ea_cons (ev_var rfl) ea_nil) (v_law_code hch)) (ev_var rfl) rv_eqI)) (fun ch hch _ H1 _ => ev_var rfl)
      rw [hf] at hL
      refine q_asgL hL (fun fo H3 nf e3 hfo => ?_)
      have hlen := ev_len (K := K) (H := H3) (ta := tVar 4) (σ := [some (.ref a), some (.str charsS), some (.str (textOf (ns.take i))), some (.int c), some (.ref fo), none]) (ev_var rfl) (sq_of hfo)
      cases q : isCh c with
      | true =>
        rw [if_pos q] at hfo hlen
        refine q_when (b := false) (et_is (et_test (ev_op hlen ev_c rv_neI)) rfl) (fun hb => nomatch hb) (fun _ H4 e4 => ?_)
        have htl : (textOf (ns.take i)).length ≤ 1000 := by rw [textOf_len, List.length_take]; omega
        refine s_asg (v := .str (textOf (ns.take i) ++ (⟨#[c.toNat]⟩ : Str))) (ev_op (ev_var rfl) (ev_op (ev_var rfl) ev_c (rv_ixL (sq_of (e4 _ _ hfo)) rfl)) (rv_addS (i := textOf (ns.take i)) (j := ⟨#[c.toNat]⟩) (by show (textOf (ns.take i)).length + 1 ≤ 100000; omega))) (fun H5 e5 => ?_)
        refine ⟨eH.trans (e3.trans (e4.trans e5)), ?_, some (.int c), some (.ref fo), ?_⟩
        · rw [take_snoc hc, List.all_append, hall, List.all_cons, q]
          rfl
        · rw [take_snoc hc, textOf_snoc]
          rfl
      | false =>
        rw [if_neg (by rw [q]; exact Bool.false_ne_true)] at hfo hlen
        refine q_when (b := true) (et_is (et_test (ev_op hlen ev_c rv_neI)) rfl) (fun _ H4 e4 => ?_) (fun hb => nomatch hb)
        have hno : ¬ ns.all isCh = true := fun h => by
          have := List.all_eq_true.mp h c (List.mem_of_getElem? hc)
          rw [q] at this
          cases this
        unfold txO at k
        rw [if_neg hno] at k
        exact s_ret ev_c fun H5 e5 => k H5 (eH.trans (e3.trans (e4.trans e5)))
    · rintro σ' H3 ⟨eH, hall, y, z, rfl⟩
      rw [List.length_map, List.take_length] at hall
      unfold txO at k
      rw [if_pos hall] at k
      rw [List.length_map, List.take_length]
      exact s_ret (ev_var rfl) fun H4 e4 => k H4 (eH.trans e4)
theorem textOf_ok (ns : List Int) : True := trivial
/-! ### the law -/
theorem chars_len : charsS.cps.toList.length = 95 := by decide +kernel
def ODD : List Int := [9, 11, 31, 37, 127, -1, 10 ^ 20 + 65, -(10 ^ 20), 0]
theorem odd_small : ∀ i, i < 9 → (ODD.getD i 0).natAbs < 10 ^ 100 := by decide +kernel
def cV (v : Int) : Int := ((charsS.cps.toList.getD v.toNat 0 : Nat) : Int)
theorem cV_small {v : Int} (h : 0 ≤ v ∧ v < 95) : (cV v).natAbs < 10 ^ 100 := by
  unfold cV
  rw [List.getD_eq_getElem?_getD, List.getElem?_eq_getElem (by rw [chars_len]; omega)]
  have := of_decide_eq_true (List.all_eq_true.mp chars_lt _ (List.getElem_mem (h := by rw [chars_len]; omega) : charsS.cps.toList[v.toNat]'(by rw [chars_len]; omega) ∈ _))
  exact Nat.lt_of_lt_of_le (show (((charsS.cps.toList[v.toNat]'(by rw [chars_len]; omega) : Nat) : Int)).natAbs < 127 by omega) (by decide)
theorem txO_cases (ns : List Int) : txO ns = .non ∨ ∃ z : Str, txO ns = .str z := by
  unfold txO
  split
  · exact .inr ⟨_, rfl⟩
  · exact .inl rfl
def sp_law (K : PySem.W.Frag) : Sp := fun vs H Q _ => ∃ (a : Addr) (ns : List Int), vs = [.ref a] ∧ SqL K H a (ns.map V.int) ∧ ∀ H', Q (.bl true) H'
theorem ok_law (T : Txt K mg) : Gd.GOk P w K mg base CX0 5 T.f_law T.d_law ["script"] (sp_law K) := by
  refine Gd.gfun T.F_law sc_law (fun vs H Q E h => ?_) (fun cdv A outer s H vs Q E hgd hr h => ?_)
  · obtain ⟨a, ns, rfl, _⟩ := h
    rfl
  · obtain ⟨a, ns, rfl, hS, k⟩ := h
    refine ⟨_, (pss_cons (ps_set (i := 1) sc_law.nd rfl (Or.inr rfl) (pe_call0 (ok_law_chars T) (hr.mono (by decide)) (by rfl) T.g_law_chars T.F_law_chars.kp T.b_law_chars .nil pass0))
        (pss_cons (ps_set (i := 2) sc_law.nd rfl (Or.inl rfl) (pe_call (ok_law_values T) (hr.mono (by decide)) (by rfl) T.g_law_values T.F_law_values.kp T.b_law_values .nil pass0 (pa_cons (pe_call (ok_law_cell T) (hr.mono (by decide)) (by rfl) T.g_law_cell T.F_law_cell.kp T.b_law_cell .nil pass0 (pa_cons (pv 0) (pa_cons pe_int pa_nil))) (pa_cons (pe_op op_modN (pe_call (ok_law_cell T) (hr.mono (by decide)) (by rfl) T.g_law_cell T.F_law_cell.kp T.b_law_cell .nil pass0 (pa_cons (pv 0) (pa_cons pe_int pa_nil))) pe_int) (pa_cons pe_int pa_nil)))))
        (pss_cons (ps_setLc (i := 3) (own := [("value", 4)]) (by rfl) sc_law.nd rfl rfl (sw_true rfl rfl rfl (by decide +kernel)) (pi_list (pv 2)) (blkOk_by (own := [("value", 4)]) (N := N_law) (sc := defScope s_law) (by decide +kernel)) (fun _ _ _ _ _ => pg_name (i := 4) sc_law.nd rfl (Or.inl rfl)) (fun _ _ _ _ _ => pts_nil) (fun _ _ _ _ _ => (pe_call (ok_law_code T) (hr.mono (by decide)) (by rfl) T.g_law_code T.F_law_code.kp T.b_law_code .nil pass0 (pa_cons (pe_ix ix_str (pv 1) (pv 4) (fun _ _ => rfl)) pa_nil))))
        (pss_cons (ps_set (i := 5) sc_law.nd rfl (Or.inl rfl) (pe_op op_modN (pe_call (ok_law_cell T) (hr.mono (by decide)) (by rfl) T.g_law_cell T.F_law_cell.kp T.b_law_cell .nil pass0 (pa_cons (pv 0) (pa_cons pe_int pa_nil))) pe_int))
        (pss_cons (ps_set (i := 6) sc_law.nd rfl (Or.inl rfl) (pe_ix ix_list (pe_lst (pa_cons pe_int (pa_cons pe_int (pa_cons pe_int (pa_cons pe_int (pa_cons pe_int (pa_cons (pe_un un_neg pe_int) (pa_cons (pe_op op_add (pe_op op_pow pe_int pe_int) pe_int) (pa_cons (pe_un un_neg (pe_op op_pow pe_int pe_int)) (pa_cons pe_int pa_nil)))))))))) (pe_op op_modN (pv 5) pe_int) (fun _ _ => rfl)))
        (pss_cut (ps_if (pt_cmpR op_lt (pv 5) pe_int (nomark _)) (pss_cons (ps_set (i := 7) sc_law.nd rfl (Or.inl rfl) (pe_op op_modN (pe_op op_fdivN (pe_call (ok_law_cell T) (hr.mono (by decide)) (by rfl) T.g_law_cell T.F_law_cell.kp T.b_law_cell .nil pass0 (pa_cons (pv 0) (pa_cons pe_int pa_nil))) pe_int) (pe_op op_add (pe_callB call_len_seq (by rfl) T.n_len (by decide +kernel) (pa_cons (pv 3) pa_nil)) pe_int)))
        (pss_one (ps_set (i := 3) sc_law.nd rfl (Or.inl rfl) (pe_op op_cat (pe_op op_cat (pe_slice sl_list (pv 3) po_none (po_some (pv 7))) (pe_lst (pa_cons (pv 6) pa_nil))) (pe_slice sl_list (pv 3) (po_some (pv 7)) po_none))))) pss_nil)
        (pss_cons (ps_set (i := 8) sc_law.nd rfl (Or.inl rfl) (pe_callTy call_list_of (by rfl) T.n_list (by decide +kernel) (pa_cons (pv 3) pa_nil)))
        (pss_cons (ps_set (i := 9) sc_law.nd rfl (Or.inl rfl) (pe_call (ok_law_text_or_none T) (hr.mono (by decide)) (by rfl) T.g_law_text_or_none T.F_law_text_or_none.kp T.b_law_text_or_none .nil pass0 (pa_cons (pv 8) pa_nil)))
        (pss_cons (ps_set (i := 10) sc_law.nd rfl (Or.inl rfl) (pe_call (ok_law_due T) (hr.mono (by decide)) (by rfl) T.g_law_due T.F_law_due.kp T.b_law_due .nil pass0 (pa_cons (pv 3) pa_nil)))
        (pss_cons (ps_if (PW.pt (pw_or (PW.pt (pw_and (pt_cmpR op_isN (pv 10) pe_non (nomark _)) (pw_and1 (pt_cmpR op_notN (pv 9) pe_non (nomark _))))) (pw_or1 (PW.pt (pw_and (pt_cmpR op_notN (pv 10) pe_non (nomark _)) (pw_and1 (PW.pt (pw_or (pt_not (pt_val (pe_callB call_isi (by rfl) T.n_isinstance (by decide +kernel) (pa_cons (pv 9) (pa_cons (pe_bltn (v := .ty "str") (by rfl) T.n_str (by decide +kernel) rfl) pa_nil))))) (pw_or1 (pt_cmpR op_ne (pv 9) (pv 10) (nomark _))))))))))) (pss_one (ps_ret pe_bl)) pss_nil)
        (pss_cons (ps_set (i := 11) sc_law.nd rfl (Or.inl rfl) (pe_call (ok_readable T) (hr.mono (by decide)) (by rfl) T.g_readable T.F_readable.kp T.b_readable .nil pass0 (pa_cons (pv 8) pa_nil)))
        (pss_cons (ps_set (i := 12) sc_law.nd rfl (Or.inl rfl) (pe_lst pa_nil))
        (pss_cut (ps_for (passes_of rfl) rfl (pi_list (pv 3)) (pg_name (i := 13) sc_law.nd rfl (Or.inl rfl)) (pss_cons (ps_if (pt_cmpR op_lt (pv 13) pe_int (nomark _)) (pss_one ps_break) pss_nil)
        (pss_one (ps_expr (pe_bm PySem.F.plainAttrs_list PySem.F.slot_list_append PySem.F.type_list_append mt_append (pv 12) (pa_cons (pv 13) pa_nil))))))
        (pss_cons (ps_if (PW.pt (pw_or (pt_cmpR (op_neD hr.units) (pv 8) (pv 3) (nomark _)) (pw_or1 (pt_cmpR op_ne (pe_callB (Gd.call_reprD hgd hr.units) (by rfl) T.n_repr (by decide +kernel) (pa_cons (pv 11) pa_nil)) (pe_callB (Gd.call_reprD hgd hr.units) (by rfl) T.n_repr (by decide +kernel) (pa_cons (pv 12) pa_nil)) (nomark _))))) (pss_one (ps_ret pe_bl)) pss_nil)
        (pss_cons (ps_expr (pe_bm PySem.F.plainAttrs_list PySem.F.slot_list_append PySem.F.type_list_append mt_append (pv 11) (pa_cons pe_int pa_nil)))
        (pss_one (ps_ret (pe_and (pe_cmpR op_eq (pe_callB (Gd.call_reprD hgd hr.units) (by rfl) T.n_repr (by decide +kernel) (pa_cons (pe_call (ok_readable T) (hr.mono (by decide)) (by rfl) T.g_readable T.F_readable.kp T.b_readable .nil pass0 (pa_cons (pv 8) pa_nil)) pa_nil)) (pe_callB (Gd.call_reprD hgd hr.units) (by rfl) T.n_repr (by decide +kernel) (pa_cons (pv 12) pa_nil)) (nomark _)) (pe_one (pe_cmpR (op_eqD hr.units) (pv 8) (pv 3) (nomark _))))))))))))))))))))), ?_⟩
    refine q_asg (ev_call ea_nil v_law_chars) (fun H1 e1 => ?_)
    have hS1 := ex_l e1 hS
    have f31 := fmod_in (cellN ns 1) (m := 31) (by decide)
    obtain ⟨n, hn⟩ : ∃ n : Nat, (cellN ns 1).fmod 31 = (n : Int) := ⟨((cellN ns 1).fmod 31).toNat, by omega⟩
    have lv := lvals_len (cellN ns 0) n 95
    have lin := lvals_in (cell := cellN ns 0) (size := 95) (by decide) n
    refine q_asgL (xs := (lvals (cellN ns 0) n 95).map V.int) (el_call (ea_cons (ev_call (ea_cons (ev_var rfl) (ea_cons ev_c ea_nil)) (v_law_cell 0 hS1)) (ea_cons (x := .int (n : Int)) (by rw [← hn]; exact ev_op (ev_call (ea_cons (ev_var rfl) (ea_cons ev_c ea_nil)) (v_law_cell 1 hS1)) ev_c (rv_mod (by decide))) (ea_cons ev_c ea_nil))) (l_law_values (by omega) (by decide) (by decide))) (fun pv H2 nv e2 hv => ?_)
    generalize lvals (cellN ns 0) n 95 = vals at lv lin hv
    let f : V → V := fun x => match x with | .int v => .int (cV v) | _ => .non
    have hm : (vals.map V.int).map f = (vals.map cV).map V.int := by
      rw [List.map_map, List.map_map]
      rfl
    refine q_asgL (xs := (vals.map V.int).map f) (el_mapL f (ev_var rfl) (sq_of hv) (by rw [List.length_map]; omega) (fun _ => rfl) (fun x hx H3 _ => by
      obtain ⟨v, hvv, rfl⟩ := List.mem_map.mp hx
      have hb := lin v hvv
      have hlt : v.toNat < charsS.cps.toList.length := by rw [chars_len]; omega
      refine ev_call (ea_cons (ev_op (z := .str ⟨#[charsS.cps.toList.getD v.toNat 0]⟩) (ev_var rfl) (ev_var rfl) (rv_ixS (by decide +kernel) ?_)) ea_nil) (v_law_code ?_)
      · have := atI_nat (xs := charsS.cps.toList) (j := v.toNat) (v := charsS.cps.toList.getD v.toNat 0) (by rw [List.getD_eq_getElem?_getD, List.getElem?_eq_getElem hlt]; rfl)
        rwa [Int.toNat_of_nonneg hb.1] at this
      · rw [List.getD_eq_getElem?_getD, List.getElem?_eq_getElem hlt]
        exact List.getElem_mem _)) (fun pc H3 nc e3 hc => ?_)
    rw [hm] at hc
    have hcl : (vals.map cV).length ≤ 30 := by rw [List.length_map]; omega
    have hcs : ∀ c ∈ vals.map cV, c.natAbs < 10 ^ 100 := fun c m => by
      obtain ⟨v, hvv, rfl⟩ := List.mem_map.mp m
      exact cV_small (lin v hvv)
    generalize vals.map cV = cs at hc hcl hcs
    have hS3 := ex_l (e2.trans e3) hS1
    refine q_asg (v := .int ((cellN ns 2).fmod 12)) (ev_op (ev_call (ea_cons (ev_var rfl) (ea_cons ev_c ea_nil)) (v_law_cell 2 hS3)) ev_c (rv_mod (by decide))) (fun H4 e4 => ?_)
    have hS4 := ex_l e4 hS3
    have f9 := fmod_in ((cellN ns 2).fmod 12) (m := 9) (by decide)
    generalize (cellN ns 2).fmod 12 = ch at f9
    have hol : (ch.fmod 9).toNat < 9 := by omega
    have hos := odd_small _ hol
    refine q_asg (v := .int (ODD.getD (ch.fmod 9).toNat 0)) (ev_opL1 (el_lst (vs := ODD.map V.int) (ea_cons ev_c (ea_cons ev_c (ea_cons ev_c (ea_cons ev_c (ea_cons ev_c (ea_cons (ev_un ev_c ru_neg) (ea_cons (ev_op (ev_op ev_c ev_c (rv_pow (by decide))) ev_c rv_I0) (ea_cons (ev_un (ev_op ev_c ev_c (rv_pow (by decide))) ru_neg) (ea_cons ev_c ea_nil))))))))) (by show 9 ≤ 100000; decide)) (fun _ _ => ev_op (ev_var rfl) ev_c (rv_mod (by decide))) (fun p G hp e => rv_ixL (sq_of hp) (at_of (j := (ch.fmod 9).toNat) (by omega) (by
      have hlt : (ch.fmod 9).toNat < ODD.length := hol
      rw [List.getElem?_map, List.getD_eq_getElem?_getD, List.getElem?_eq_getElem hlt]; rfl)))) (fun H5 e5 => ?_)
    generalize ODD.getD (ch.fmod 9).toNat 0 = od at hos
    have hS5 := ex_l e5 hS4
    have hc5 := e5 _ _ (e4 _ _ hc)
    refine q_cut (M := fun σ' H' => ∃ (pc : Addr) (cs : List Int) (y : Option V), Ex H5 H' ∧ H' pc = some (.lst (cs.map V.int)) ∧ cs.length ≤ 31 ∧ (∀ c ∈ cs, c.natAbs < 10 ^ 100) ∧ σ' = [some (.ref a), some (.str charsS), some (.ref pv), some (.ref pc), none, some (.int ch), some (.int od), y, none, none, none, none, none, none]) ?_ ?_
    · refine s_when (b := decide (ch < 9)) (et_test (ev_op (ev_var rfl) ev_c rv_I0)) (fun hb H6 e6 => ?_) (fun hb H6 e6 => ⟨pc, cs, _, e6, e6 _ _ hc5, by omega, hcs, rfl⟩)
      have hlen := ev_len (K := K) (H := H6) (ta := tVar 3) (σ := [some (.ref a), some (.str charsS), some (.ref pv), some (.ref pc), none, some (.int ch), some (.int od), none, none, none, none, none, none, none]) (ev_var rfl) (sq_of (e6 _ _ hc5))
      rw [List.length_map] at hlen
      refine q_asg (v := .int (((cellN ns 2).fdiv 12).fmod ((cs.length : Int) + 1))) (ev_op (ev_op (ev_call (ea_cons (ev_var rfl) (ea_cons ev_c ea_nil)) (v_law_cell 2 (ex_l e6 hS5))) ev_c (rv_fdiv (by decide) (by decide))) (ev_op hlen ev_c rv_I0) (rv_mod (by omega))) (fun H7 e7 => ?_)
      have fa := fmod_in ((cellN ns 2).fdiv 12) (m := (cs.length : Int) + 1) (by omega)
      generalize ((cellN ns 2).fdiv 12).fmod ((cs.length : Int) + 1) = at_ at fa
      have hc7 := e7 _ _ (e6 _ _ hc5)
      have z1 := cutZ_len cs none (some at_)
      have z2 := cutZ_len cs (some at_) none
      have z12 : (cutZ cs none (some at_)).length + (cutZ cs (some at_) none).length ≤ 30 := by
        obtain ⟨k, rfl⟩ : ∃ k : Nat, at_ = (k : Int) := ⟨at_.toNat, by omega⟩
        unfold cutZ
        rw [HT.sIx_none, HT.sIx_none, HT.sIx_nat, HT.sIx_nat, List.length_take, List.length_take, List.length_drop, List.length_drop]
        omega
      have cat : ∀ {σ : L2.St} {H : Hp} {ta tb : TE} {xs ys : List V}, EvL ta σ H xs → EvL tb σ H ys → xs.length + ys.length ≤ 100000 → EvL (tOp rCat ta tb) σ H (xs ++ ys) := fun {σ H ta tb xs ys} ha hb hz H1 e Q q =>
        ha H1 e _ fun a H2 na e2 h2 => hb H2 (e.trans e2) _ fun b H3 nb e3 h3 => ⟨a, b, xs, ys, rfl, rfl, e3 _ _ h2, h3, sz_of hz, fun p hp => q p _ (fresh_back (e2.trans e3) hp) ((e2.trans e3).trans (Ex.new hp)) upd_same⟩
      refine s_asgL (xs := (cutZ cs none (some at_) ++ [od] ++ cutZ cs (some at_) none).map V.int) (by
        rw [List.map_append, List.map_append]
        exact cat (cat (el_slI (ev_var rfl) (sq_of hc7) eo_none (eo_some (ev_var rfl))) (el_lst (vs := [.int od]) (ea_cons (ev_var rfl) ea_nil) (by show 1 ≤ 100000; decide)) (by rw [List.length_map]; show _ + 1 ≤ 100000; omega)) (el_slI (ev_var rfl) (sq_of hc7) (eo_some (ev_var rfl)) eo_none) (by simp only [List.length_append, List.length_map, List.length_cons, List.length_nil]; omega)) (fun pd H8 nd e8 hd => ?_)
      refine ⟨pd, _, _, e6.trans (e7.trans e8), hd, by rw [List.length_append, List.length_append]; show _ + 1 + _ ≤ 31; omega, fun c m => ?_, rfl⟩
      rcases List.mem_append.mp m with m | m
      · rcases List.mem_append.mp m with m | m
        · exact hcs c (cutZ_mem m)
        · rw [List.mem_singleton.mp m]; exact hos
      · exact hcs c (cutZ_mem m)
    rintro σ' H6 ⟨pc, cs, y, e6, hc6, hcl, hcs, rfl⟩
    refine q_asgL (el_list (ev_var rfl) (sq_of hc6)) (fun pg H7 ng e7 hg => ?_)
    have hc7 := e7 _ _ hc6
    refine q_asg (ev_call (ea_cons (ev_var rfl) ea_nil) (v_law_text_or_none (sq_of hg) (by omega))) (fun H8 e8 => ?_)
    refine q_asg (ev_call (ea_cons (ev_var rfl) ea_nil) (v_law_due (sq_of (e8 _ _ hc7)) (by omega))) (fun H9 e9 => ?_)
    have e79 := e8.trans e9
    refine q_when (b := false) ?_ (fun hb => nomatch hb) (fun _ Ha ea => ?_)
    · rcases txO_cases cs with q | ⟨z, q⟩
      · rw [q]
        exact et_is (et_or (a := false) (b := false) (et_is (et_and (a := true) (b := false) (et_is (et_test (ev_op (ev_var rfl) ev_c rv_isNon)) rfl) (fun _ => et_is (et_test (ev_op (ev_var rfl) ev_c rv_notNon)) rfl)) rfl) (fun _ => et_is (et_and (a := false) (b := false) (et_is (et_test (ev_op (ev_var rfl) ev_c rv_notNon)) rfl) (fun z => nomatch z)) rfl)) rfl
      · rw [q]
        exact et_is (et_or (a := false) (b := false) (et_is (et_and (a := false) (b := false) (et_is (et_test (ev_op (ev_var rfl) ev_c rv_isNon)) rfl) (fun z => nomatch z)) rfl) (fun _ => et_is (et_and (a := true) (b := false) (et_is (et_test (ev_op (ev_var rfl) ev_c rv_notNon)) rfl) (fun _ => et_is (et_or (a := false) (b := false) (et_is (et_not (et_B (ev_cb (ea_cons (ev_var rfl) (ea_cons ev_c ea_nil)) rc_isStr))) rfl) (fun _ => et_is (et_test (ev_op (ev_var rfl) (ev_var rfl) rv_neS)) (by simp))) rfl)) rfl)) rfl
    have hg10 := ea _ _ (e79 _ _ hg)
    have hc10 := ea _ _ (e79 _ _ hc7)
    refine q_asgL (el_call (ea_cons (ev_var rfl) ea_nil) (l_readable (sq_of hg10) (by omega))) (fun pp Hb np eb hp => ?_)
    refine q_asgL (xs := []) (el_lst ea_nil (by decide)) (fun pw Hc nw ec hw => ?_)
    have hpc := eb _ _ hc10
    have e710 : Ex H6 Hb := e7.trans (e79.trans (ea.trans eb))
    have hsm : ∀ c ∈ cs.takeWhile nn, c.natAbs < 10 ^ 100 := fun c m => hcs c ((List.takeWhile_sublist _).subset m)
    have htl : (cs.takeWhile nn).length ≤ 31 := Nat.le_trans (tw_len cs) hcl
    refine q_cut (M := fun σ' G => Ex Hb G ∧ G pw = some (.lst ((cs.takeWhile nn).map V.int)) ∧ ∃ y13, σ' = [some (.ref a), some (.str charsS), some (.ref pv), some (.ref pc), none, some (.int ch), some (.int od), y, some (.ref pg), some (txO cs), some (txO cs), some (.ref pp), some (.ref pw), y13]) ?_ ?_
    · refine s_forLn (ev_var rfl) (sq_of (ec _ _ hpc)) (fun i σ' G => Ex Hb G ∧ (cs.take i).takeWhile nn = cs.take i ∧ G pw = some (.lst ((cs.take i).map V.int)) ∧ ∃ y13, σ' = [some (.ref a), some (.str charsS), some (.ref pv), some (.ref pc), none, some (.int ch), some (.int od), y, some (.ref pg), some (txO cs), some (txO cs), some (.ref pp), some (.ref pw), y13]) ?_ ?_ ?_ ?_
      · exact fun Hd ed => ⟨ec.trans ed, rfl, ed _ _ hw, none, rfl⟩
      · exact fun i σ' G _ h => sq_of (h.1 _ _ hpc)
      · rintro i x σ' G hx ⟨eG, ht, hd, y13, rfl⟩
        obtain ⟨c, hc', rfl⟩ := map_at hx
        have hi := (List.getElem?_eq_some_iff.mp hc').1
        refine q_when (b := decide (c < 0)) (et_test (ev_op (ev_var rfl) ev_c rv_I0)) (fun hb G1 g1 => ?_) (fun hb G1 g1 => ?_)
        · have e : cs.takeWhile nn = cs.take i := tw_stop hc' (by unfold nn; have := of_decide_eq_true hb; exact decide_eq_false (by omega)) ht
          exact ⟨eG.trans g1, by rw [e]; exact g1 _ _ hd, _, rfl⟩
        · have h0 : nn c = true := by unfold nn; have := of_decide_eq_false hb; exact decide_eq_true (by omega)
          refine s_app (g1 _ _ hd) (ev_var rfl) (ev_var rfl) (by rw [List.length_map, List.length_take]; omega) (fun G2 g2 => ?_)
          refine ⟨Ex.mut ((eG.trans g1).trans g2) nw, ?_, ?_, _, rfl⟩
          · rw [take_snoc hc', List.takeWhile_append_of_pos (fun z hz => takeWhile_pos ht z hz), List.takeWhile_cons, h0]
            rfl
          · rw [take_snoc hc', List.map_append]
            exact upd_same
      · rintro σ' G ⟨eG, ht, hd, y13, rfl⟩
        rw [List.length_map, List.take_length] at ht hd
        exact ⟨eG, by rw [ht]; exact hd, _, rfl⟩
    rintro σ' Hd ⟨ed, hw', y13, rfl⟩
    have hgd := ed _ _ (eb _ _ hg10)
    have hcd := ed _ _ hpc
    have hpd := ed _ _ hp
    refine q_when (b := false) (et_is (et_or (a := false) (b := false) (et_is (et_test (ev_op (ev_var rfl) (ev_var rfl) (rv_neL (sq_of hgd) (sq_of hcd)))) (by simp)) (fun _ => et_is (et_test (ev_op (ev_reprI (ev_var rfl) (sq_of hpd) (by omega) hsm) (ev_reprI (ev_var rfl) (sq_of hw') (by omega) hsm) rv_neS)) (by simp))) rfl) (fun hb => nomatch hb) (fun _ He ee => ?_)
    refine q_app (ee _ _ hpd) (ev_var rfl) ev_c (by rw [List.length_map]; omega) (fun Hf ef => ?_)
    have n1 : pg ≠ pp := ne_of_none hg10 np
    have n2 : pw ≠ pp := (ne_of_none hp nw).symm
    have n3 : pc ≠ pp := ne_of_none hc10 np
    have hgf := ef _ _ (ee _ _ hgd)
    have hcf := ef _ _ (ee _ _ hcd)
    have hwf := ef _ _ (ee _ _ hw')
    generalize hG : upd Hf pp (.lst ((cs.takeWhile nn).map V.int ++ [.int 5])) = G
    have hgG : G pg = some (.lst (cs.map V.int)) := by rw [← hG, upd_ne n1]; exact hgf
    have hcG : G pc = some (.lst (cs.map V.int)) := by rw [← hG, upd_ne n3]; exact hcf
    have hwG : G pw = some (.lst ((cs.takeWhile nn).map V.int)) := by rw [← hG, upd_ne n2]; exact hwf
    have nice : Nice (.list ((cs.takeWhile nn).map PyData.int)) := nice_sm (by rw [smD]; exact smDs_ints hsm) (by rw [PyData.depth]; have := Gd.depthAll_ints (cs.takeWhile nn); omega) (by rw [PyData.bulk, bulk_ints]; omega)
    refine s_ret (v := .bl true) (ev_is (ev_andV (a := true) (b := true) (ev_is (ev_op (ev_reprD (ed_L (el_call (ea_cons (ev_var rfl) ea_nil) (l_readable (sq_of hgG) (by omega))) (dpAll_ints _)) nice) (ev_reprI (ev_var rfl) (sq_of hwG) (by omega) hsm) rv_eqS) (by simp)) (fun _ => ev_is (ev_op (ev_var rfl) (ev_var rfl) (rv_eqL (sq_of hgG) (sq_of hcG))) (by simp))) rfl) (fun H' _ => k H')
theorem law_at (K : PySem.W.Frag) (H : Hp) (a : Addr) (ns : List Int) (hl : ns.length ≤ 63) (hO : Only H) (hS : SqL K H a (ns.map V.int)) : sp_law K [.ref a] H (fun v _ => v = .bl true) fun _ _ _ => False := ⟨a, ns, rfl, hS, fun _ => rfl⟩


end
end K02

set_option Elab.async false
set_option linter.all false
set_option maxRecDepth 100000
set_option maxHeartbeats 4000000
set_option exponentiation.threshold 600
namespace K02
open PySem PySem.Spec PyProof.Rows L2 Evl Gd
/-! ### the head's facts -/
theorem mk_txt {K : PySem.W.Frag} {h : Heap} {mg : Str → Option Value} {p1 p2 p3 p4 p5 p6 p7 p8 p9 p10 p11 C_PlinthError C_NotText : Addr} (X : K.In h) (G : h.Ns mainGlobals mg)
    {t_NEWLINE t_FROM_AMPERSAND t_FROM_SPACE : Tok}
    {od1 an1 od2 an2 od3 an3 od4 an4 od5 an5 od6 an6 od7 an7 od8 an8 od9 an9 od10 an10 od11 an11 : Option Addr} {sl1 sl2 sl3 sl4 sl5 sl6 sl7 sl8 sl9 sl10 sl11 : Array (Option Value)}
    {oc1 kV1 dc1 pm1 cd1 ct1 oc2 kV2 dc2 pm2 cd2 ct2 oc3 kV3 dc3 pm3 cd3 ct3 oc4 kV4 dc4 pm4 cd4 ct4 oc5 kV5 dc5 pm5 cd5 ct5 oc6 kV6 dc6 pm6 cd6 ct6 oc7 kV7 dc7 pm7 cd7 ct7 oc8 kV8 dc8 pm8 cd8 ct8 oc9 kV9 dc9 pm9 cd9 ct9 oc10 kV10 dc10 pm10 cd10 ct10 oc11 kV11 dc11 pm11 cd11 ct11 : Value}
    (a1 : PySem.W.nsIn K mainGlobals "is_character" = some (some (.ref p1)))
    (l1 : K.lookup p1 = some ⟨oc1, od1, .func (PySem.W.fnOf "is_character" "is_character" (defArgs s_is_character) (defBody s_is_character) (defScope s_is_character) .none kV1 dc1 pm1 an1 cd1 ct1), sl1⟩)
    (c1 : PySem.W.codeIn K cd1 "is_character" = true)
    (k1 : PySem.W.keepIn K (.ref p1) = true)
    (a2 : PySem.W.nsIn K mainGlobals "_character" = some (some (.ref p2)))
    (l2 : K.lookup p2 = some ⟨oc2, od2, .func (PySem.W.fnOf "_character" "_character" (defArgs s_character) (defBody s_character) (defScope s_character) .none kV2 dc2 pm2 an2 cd2 ct2), sl2⟩)
    (c2 : PySem.W.codeIn K cd2 "_character" = true)
    (k2 : PySem.W.keepIn K (.ref p2) = true)
    (a3 : PySem.W.nsIn K mainGlobals "text_of" = some (some (.ref p3)))
    (l3 : K.lookup p3 = some ⟨oc3, od3, .func (PySem.W.fnOf "text_of" "text_of" (defArgs s_text_of) (defBody s_text_of) (defScope s_text_of) .none kV3 dc3 pm3 an3 cd3 ct3), sl3⟩)
    (c3 : PySem.W.codeIn K cd3 "text_of" = true)
    (k3 : PySem.W.keepIn K (.ref p3) = true)
    (a4 : PySem.W.nsIn K mainGlobals "readable" = some (some (.ref p4)))
    (l4 : K.lookup p4 = some ⟨oc4, od4, .func (PySem.W.fnOf "readable" "readable" (defArgs s_readable) (defBody s_readable) (defScope s_readable) .none kV4 dc4 pm4 an4 cd4 ct4), sl4⟩)
    (c4 : PySem.W.codeIn K cd4 "readable" = true)
    (k4 : PySem.W.keepIn K (.ref p4) = true)
    (a5 : PySem.W.nsIn K mainGlobals "_law_cell" = some (some (.ref p5)))
    (l5 : K.lookup p5 = some ⟨oc5, od5, .func (PySem.W.fnOf "_law_cell" "_law_cell" (defArgs s_law_cell) (defBody s_law_cell) (defScope s_law_cell) .none kV5 dc5 pm5 an5 cd5 ct5), sl5⟩)
    (c5 : PySem.W.codeIn K cd5 "_law_cell" = true)
    (k5 : PySem.W.keepIn K (.ref p5) = true)
    (a6 : PySem.W.nsIn K mainGlobals "_law_values" = some (some (.ref p6)))
    (l6 : K.lookup p6 = some ⟨oc6, od6, .func (PySem.W.fnOf "_law_values" "_law_values" (defArgs s_law_values) (defBody s_law_values) (defScope s_law_values) .none kV6 dc6 pm6 an6 cd6 ct6), sl6⟩)
    (c6 : PySem.W.codeIn K cd6 "_law_values" = true)
    (k6 : PySem.W.keepIn K (.ref p6) = true)
    (a7 : PySem.W.nsIn K mainGlobals "_law_chars" = some (some (.ref p7)))
    (l7 : K.lookup p7 = some ⟨oc7, od7, .func (PySem.W.fnOf "_law_chars" "_law_chars" (defArgs s_law_chars) (defBody s_law_chars) (defScope s_law_chars) .none kV7 dc7 pm7 an7 cd7 ct7), sl7⟩)
    (c7 : PySem.W.codeIn K cd7 "_law_chars" = true)
    (k7 : PySem.W.keepIn K (.ref p7) = true)
    (a8 : PySem.W.nsIn K mainGlobals "_law_code" = some (some (.ref p8)))
    (l8 : K.lookup p8 = some ⟨oc8, od8, .func (PySem.W.fnOf "_law_code" "_law_code" (defArgs s_law_code) (defBody s_law_code) (defScope s_law_code) .none kV8 dc8 pm8 an8 cd8 ct8), sl8⟩)
    (c8 : PySem.W.codeIn K cd8 "_law_code" = true)
    (k8 : PySem.W.keepIn K (.ref p8) = true)
    (a9 : PySem.W.nsIn K mainGlobals "_law_text_or_none" = some (some (.ref p9)))
    (l9 : K.lookup p9 = some ⟨oc9, od9, .func (PySem.W.fnOf "_law_text_or_none" "_law_text_or_none" (defArgs s_law_text_or_none) (defBody s_law_text_or_none) (defScope s_law_text_or_none) .none kV9 dc9 pm9 an9 cd9 ct9), sl9⟩)
    (c9 : PySem.W.codeIn K cd9 "_law_text_or_none" = true)
    (k9 : PySem.W.keepIn K (.ref p9) = true)
    (a10 : PySem.W.nsIn K mainGlobals "_law_due" = some (some (.ref p10)))
    (l10 : K.lookup p10 = some ⟨oc10, od10, .func (PySem.W.fnOf "_law_due" "_law_due" (defArgs s_law_due) (defBody s_law_due) (defScope s_law_due) .none kV10 dc10 pm10 an10 cd10 ct10), sl10⟩)
    (c10 : PySem.W.codeIn K cd10 "_law_due" = true)
    (k10 : PySem.W.keepIn K (.ref p10) = true)
    (a11 : PySem.W.nsIn K mainGlobals "law" = some (some (.ref p11)))
    (l11 : K.lookup p11 = some ⟨oc11, od11, .func (PySem.W.fnOf "law" "law" (defArgs s_law) (defBody s_law) (defScope s_law) .none kV11 dc11 pm11 an11 cd11 ct11), sl11⟩)
    (c11 : PySem.W.codeIn K cd11 "law" = true)
    (k11 : PySem.W.keepIn K (.ref p11) = true)
    (g_PlinthError : PySem.W.nsIn K mainGlobals "PlinthError" = some (some (.ref C_PlinthError)))
    (k_PlinthError : PySem.W.keepIn K (.ref C_PlinthError) = true)
    (x_PlinthError : PySem.W.excIn K C_PlinthError [.type "ValueError", .type "Exception", .type "BaseException", .type "object"] "ValueError.__new__" = true)
    (b_PlinthError : PySem.W.subIn K (.ref C_PlinthError) (.type "BaseException") = some true)
    (t_PlinthError : PySem.W.typeIn K (.ref C_PlinthError) = some (.type "type"))
    (hd_PlinthError : PySem.W.hasDictIn K C_PlinthError = true)
    (s_PlinthError : PySem.W.subIn K (.ref C_PlinthError) (.ref C_PlinthError) = some true)
    (i_PlinthError : PySem.W.isClsIn K C_PlinthError = true)
    (g_NotText : PySem.W.nsIn K mainGlobals "NotText" = some (some (.ref C_NotText)))
    (k_NotText : PySem.W.keepIn K (.ref C_NotText) = true)
    (x_NotText : PySem.W.excIn K C_NotText [.type "ValueError", .type "Exception", .type "BaseException", .type "object"] "ValueError.__new__" = true)
    (b_NotText : PySem.W.subIn K (.ref C_NotText) (.type "BaseException") = some true)
    (t_NotText : PySem.W.typeIn K (.ref C_NotText) = some (.type "type"))
    (hd_NotText : PySem.W.hasDictIn K C_NotText = true)
    (s_NotText : PySem.W.subIn K (.ref C_NotText) (.ref C_NotText) = some true)
    (i_NotText : PySem.W.isClsIn K C_NotText = true)
    (ga_NotText : PySem.W.findIn K (.ref C_NotText) "__getattribute__" = some (some (.builtin "BaseException.__getattribute__")))
    (gg_NotText : PySem.W.findIn K (.ref C_NotText) "__getattr__" = some none)
    (gc_NotText : PySem.W.findIn K (.ref C_NotText) "__class__" = some (some (.builtin "object.__class__")))
    (gs_NotText : PySem.W.specialIn K (.builtin "object.__class__") "__get__" = some (some (.builtin "getset_descriptor.__get__")))
    (gt_NotText : PySem.W.takesIn K (.builtin "object.__class__") = some true)
    (gm_NotText : PySem.W.mroIn K C_NotText (.type "object") = some true)
    (sub_NotText_PlinthError : PySem.W.subIn K (.ref C_NotText) (.ref C_PlinthError) = some true)
    (kit_NotText_PlinthError : PySem.W.kitOne K (.ref C_NotText) (.ref C_PlinthError) = some true)
    (c_NEWLINE : PySem.W.nsIn K mainGlobals "NEWLINE" = some (some (.int 10 t_NEWLINE)))
    (c_FROM_AMPERSAND : PySem.W.nsIn K mainGlobals "_FROM_AMPERSAND" = some (some (.str str_FROM_AMPERSAND t_FROM_AMPERSAND)))
    (c_FROM_SPACE : PySem.W.nsIn K mainGlobals "_FROM_SPACE" = some (some (.str str_FROM_SPACE t_FROM_SPACE)))
    (n_int : PySem.W.nsIn K mainGlobals "int" = some none)
    (n_isinstance : PySem.W.nsIn K mainGlobals "isinstance" = some none)
    (n_len : PySem.W.nsIn K mainGlobals "len" = some none)
    (n_list : PySem.W.nsIn K mainGlobals "list" = some none)
    (n_range : PySem.W.nsIn K mainGlobals "range" = some none)
    (n_repr : PySem.W.nsIn K mainGlobals "repr" = some none)
    (n_str : PySem.W.nsIn K mainGlobals "str" = some none)
    : ∃ T : Txt K mg, T.f_law = p11 := by
  exact ⟨{
      f_is_character := p1
      d_is_character := _
      F_is_character := fun_mk (st := s_is_character) l1 c1 k1
      b_is_character := (fun_mk (st := s_is_character) l1 c1 k1).binds (ps := ["code"]) fun _ _ _ _ _ _ us hl => match us, hl with | [_], _ => rfl
      g_is_character := PySem.W.mg_of X G a1
      f_character := p2
      d_character := _
      F_character := fun_mk (st := s_character) l2 c2 k2
      b_character := (fun_mk (st := s_character) l2 c2 k2).binds (ps := ["code"]) fun _ _ _ _ _ _ us hl => match us, hl with | [_], _ => rfl
      g_character := PySem.W.mg_of X G a2
      f_text_of := p3
      d_text_of := _
      F_text_of := fun_mk (st := s_text_of) l3 c3 k3
      b_text_of := (fun_mk (st := s_text_of) l3 c3 k3).binds (ps := ["codes"]) fun _ _ _ _ _ _ us hl => match us, hl with | [_], _ => rfl
      g_text_of := PySem.W.mg_of X G a3
      f_readable := p4
      d_readable := _
      F_readable := fun_mk (st := s_readable) l4 c4 k4
      b_readable := (fun_mk (st := s_readable) l4 c4 k4).binds (ps := ["codes"]) fun _ _ _ _ _ _ us hl => match us, hl with | [_], _ => rfl
      g_readable := PySem.W.mg_of X G a4
      f_law_cell := p5
      d_law_cell := _
      F_law_cell := fun_mk (st := s_law_cell) l5 c5 k5
      b_law_cell := (fun_mk (st := s_law_cell) l5 c5 k5).binds (ps := ["script", "k"]) fun _ _ _ _ _ _ us hl => match us, hl with | [_, _], _ => rfl
      g_law_cell := PySem.W.mg_of X G a5
      f_law_values := p6
      d_law_values := _
      F_law_values := fun_mk (st := s_law_values) l6 c6 k6
      b_law_values := (fun_mk (st := s_law_values) l6 c6 k6).binds (ps := ["cell", "count", "size"]) fun _ _ _ _ _ _ us hl => match us, hl with | [_, _, _], _ => rfl
      g_law_values := PySem.W.mg_of X G a6
      f_law_chars := p7
      d_law_chars := _
      F_law_chars := fun_mk (st := s_law_chars) l7 c7 k7
      b_law_chars := (fun_mk (st := s_law_chars) l7 c7 k7).binds (ps := []) fun _ _ _ _ _ _ us hl => match us, hl with | [], _ => rfl
      g_law_chars := PySem.W.mg_of X G a7
      f_law_code := p8
      d_law_code := _
      F_law_code := fun_mk (st := s_law_code) l8 c8 k8
      b_law_code := (fun_mk (st := s_law_code) l8 c8 k8).binds (ps := ["char"]) fun _ _ _ _ _ _ us hl => match us, hl with | [_], _ => rfl
      g_law_code := PySem.W.mg_of X G a8
      f_law_text_or_none := p9
      d_law_text_or_none := _
      F_law_text_or_none := fun_mk (st := s_law_text_or_none) l9 c9 k9
      b_law_text_or_none := (fun_mk (st := s_law_text_or_none) l9 c9 k9).binds (ps := ["codes"]) fun _ _ _ _ _ _ us hl => match us, hl with | [_], _ => rfl
      g_law_text_or_none := PySem.W.mg_of X G a9
      f_law_due := p10
      d_law_due := _
      F_law_due := fun_mk (st := s_law_due) l10 c10 k10
      b_law_due := (fun_mk (st := s_law_due) l10 c10 k10).binds (ps := ["codes"]) fun _ _ _ _ _ _ us hl => match us, hl with | [_], _ => rfl
      g_law_due := PySem.W.mg_of X G a10
      f_law := p11
      d_law := _
      F_law := fun_mk (st := s_law) l11 c11 k11
      b_law := (fun_mk (st := s_law) l11 c11 k11).binds (ps := ["script"]) fun _ _ _ _ _ _ us hl => match us, hl with | [_], _ => rfl
      g_law := PySem.W.mg_of X G a11
      h_law := fun s v => .of_eq rfl
      C_PlinthError := C_PlinthError
      g_PlinthError := PySem.W.mg_of X G g_PlinthError
      k_PlinthError := k_PlinthError
      x_PlinthError := x_PlinthError
      b_PlinthError := b_PlinthError
      t_PlinthError := t_PlinthError
      hd_PlinthError := hd_PlinthError
      s_PlinthError := s_PlinthError
      i_PlinthError := i_PlinthError
      C_NotText := C_NotText
      g_NotText := PySem.W.mg_of X G g_NotText
      k_NotText := k_NotText
      x_NotText := x_NotText
      b_NotText := b_NotText
      t_NotText := t_NotText
      hd_NotText := hd_NotText
      s_NotText := s_NotText
      i_NotText := i_NotText
      ga_NotText := ga_NotText
      gg_NotText := gg_NotText
      gc_NotText := gc_NotText
      gs_NotText := gs_NotText
      gt_NotText := gt_NotText
      gm_NotText := gm_NotText
      sub_NotText_PlinthError := sub_NotText_PlinthError
      kit_NotText_PlinthError := kit_NotText_PlinthError
      t_NEWLINE := t_NEWLINE
      c_NEWLINE := PySem.W.mg_of X G c_NEWLINE
      t_FROM_AMPERSAND := t_FROM_AMPERSAND
      c_FROM_AMPERSAND := PySem.W.mg_of X G c_FROM_AMPERSAND
      t_FROM_SPACE := t_FROM_SPACE
      c_FROM_SPACE := PySem.W.mg_of X G c_FROM_SPACE
      n_int := PySem.W.mg_none_of X G n_int
      n_isinstance := PySem.W.mg_none_of X G n_isinstance
      n_len := PySem.W.mg_none_of X G n_len
      n_list := PySem.W.mg_none_of X G n_list
      n_range := PySem.W.mg_none_of X G n_range
      n_repr := PySem.W.mg_none_of X G n_repr
      n_str := PySem.W.mg_none_of X G n_str }, rfl⟩
theorem all_mk {l : PySem.W.OpenLaw} {w : World} {K : PySem.W.Frag} {h : Heap} {mg : Str → Option Value} {fa p1 p2 p3 p4 p5 p6 p7 p8 p9 p10 p11 C_PlinthError C_NotText : Addr} (X : K.In h) (G : h.Ns mainGlobals mg) (hfa : mg "law" = some (.ref fa))
    {t_NEWLINE t_FROM_AMPERSAND t_FROM_SPACE : Tok}
    {od1 an1 od2 an2 od3 an3 od4 an4 od5 an5 od6 an6 od7 an7 od8 an8 od9 an9 od10 an10 od11 an11 : Option Addr} {sl1 sl2 sl3 sl4 sl5 sl6 sl7 sl8 sl9 sl10 sl11 : Array (Option Value)}
    {oc1 kV1 dc1 pm1 cd1 ct1 oc2 kV2 dc2 pm2 cd2 ct2 oc3 kV3 dc3 pm3 cd3 ct3 oc4 kV4 dc4 pm4 cd4 ct4 oc5 kV5 dc5 pm5 cd5 ct5 oc6 kV6 dc6 pm6 cd6 ct6 oc7 kV7 dc7 pm7 cd7 ct7 oc8 kV8 dc8 pm8 cd8 ct8 oc9 kV9 dc9 pm9 cd9 ct9 oc10 kV10 dc10 pm10 cd10 ct10 oc11 kV11 dc11 pm11 cd11 ct11 : Value}
    (a1 : PySem.W.nsIn K mainGlobals "is_character" = some (some (.ref p1)))
    (l1 : K.lookup p1 = some ⟨oc1, od1, .func (PySem.W.fnOf "is_character" "is_character" (defArgs s_is_character) (defBody s_is_character) (defScope s_is_character) .none kV1 dc1 pm1 an1 cd1 ct1), sl1⟩)
    (c1 : PySem.W.codeIn K cd1 "is_character" = true)
    (k1 : PySem.W.keepIn K (.ref p1) = true)
    (a2 : PySem.W.nsIn K mainGlobals "_character" = some (some (.ref p2)))
    (l2 : K.lookup p2 = some ⟨oc2, od2, .func (PySem.W.fnOf "_character" "_character" (defArgs s_character) (defBody s_character) (defScope s_character) .none kV2 dc2 pm2 an2 cd2 ct2), sl2⟩)
    (c2 : PySem.W.codeIn K cd2 "_character" = true)
    (k2 : PySem.W.keepIn K (.ref p2) = true)
    (a3 : PySem.W.nsIn K mainGlobals "text_of" = some (some (.ref p3)))
    (l3 : K.lookup p3 = some ⟨oc3, od3, .func (PySem.W.fnOf "text_of" "text_of" (defArgs s_text_of) (defBody s_text_of) (defScope s_text_of) .none kV3 dc3 pm3 an3 cd3 ct3), sl3⟩)
    (c3 : PySem.W.codeIn K cd3 "text_of" = true)
    (k3 : PySem.W.keepIn K (.ref p3) = true)
    (a4 : PySem.W.nsIn K mainGlobals "readable" = some (some (.ref p4)))
    (l4 : K.lookup p4 = some ⟨oc4, od4, .func (PySem.W.fnOf "readable" "readable" (defArgs s_readable) (defBody s_readable) (defScope s_readable) .none kV4 dc4 pm4 an4 cd4 ct4), sl4⟩)
    (c4 : PySem.W.codeIn K cd4 "readable" = true)
    (k4 : PySem.W.keepIn K (.ref p4) = true)
    (a5 : PySem.W.nsIn K mainGlobals "_law_cell" = some (some (.ref p5)))
    (l5 : K.lookup p5 = some ⟨oc5, od5, .func (PySem.W.fnOf "_law_cell" "_law_cell" (defArgs s_law_cell) (defBody s_law_cell) (defScope s_law_cell) .none kV5 dc5 pm5 an5 cd5 ct5), sl5⟩)
    (c5 : PySem.W.codeIn K cd5 "_law_cell" = true)
    (k5 : PySem.W.keepIn K (.ref p5) = true)
    (a6 : PySem.W.nsIn K mainGlobals "_law_values" = some (some (.ref p6)))
    (l6 : K.lookup p6 = some ⟨oc6, od6, .func (PySem.W.fnOf "_law_values" "_law_values" (defArgs s_law_values) (defBody s_law_values) (defScope s_law_values) .none kV6 dc6 pm6 an6 cd6 ct6), sl6⟩)
    (c6 : PySem.W.codeIn K cd6 "_law_values" = true)
    (k6 : PySem.W.keepIn K (.ref p6) = true)
    (a7 : PySem.W.nsIn K mainGlobals "_law_chars" = some (some (.ref p7)))
    (l7 : K.lookup p7 = some ⟨oc7, od7, .func (PySem.W.fnOf "_law_chars" "_law_chars" (defArgs s_law_chars) (defBody s_law_chars) (defScope s_law_chars) .none kV7 dc7 pm7 an7 cd7 ct7), sl7⟩)
    (c7 : PySem.W.codeIn K cd7 "_law_chars" = true)
    (k7 : PySem.W.keepIn K (.ref p7) = true)
    (a8 : PySem.W.nsIn K mainGlobals "_law_code" = some (some (.ref p8)))
    (l8 : K.lookup p8 = some ⟨oc8, od8, .func (PySem.W.fnOf "_law_code" "_law_code" (defArgs s_law_code) (defBody s_law_code) (defScope s_law_code) .none kV8 dc8 pm8 an8 cd8 ct8), sl8⟩)
    (c8 : PySem.W.codeIn K cd8 "_law_code" = true)
    (k8 : PySem.W.keepIn K (.ref p8) = true)
    (a9 : PySem.W.nsIn K mainGlobals "_law_text_or_none" = some (some (.ref p9)))
    (l9 : K.lookup p9 = some ⟨oc9, od9, .func (PySem.W.fnOf "_law_text_or_none" "_law_text_or_none" (defArgs s_law_text_or_none) (defBody s_law_text_or_none) (defScope s_law_text_or_none) .none kV9 dc9 pm9 an9 cd9 ct9), sl9⟩)
    (c9 : PySem.W.codeIn K cd9 "_law_text_or_none" = true)
    (k9 : PySem.W.keepIn K (.ref p9) = true)
    (a10 : PySem.W.nsIn K mainGlobals "_law_due" = some (some (.ref p10)))
    (l10 : K.lookup p10 = some ⟨oc10, od10, .func (PySem.W.fnOf "_law_due" "_law_due" (defArgs s_law_due) (defBody s_law_due) (defScope s_law_due) .none kV10 dc10 pm10 an10 cd10 ct10), sl10⟩)
    (c10 : PySem.W.codeIn K cd10 "_law_due" = true)
    (k10 : PySem.W.keepIn K (.ref p10) = true)
    (a11 : PySem.W.nsIn K mainGlobals "law" = some (some (.ref p11)))
    (l11 : K.lookup p11 = some ⟨oc11, od11, .func (PySem.W.fnOf "law" "law" (defArgs s_law) (defBody s_law) (defScope s_law) .none kV11 dc11 pm11 an11 cd11 ct11), sl11⟩)
    (c11 : PySem.W.codeIn K cd11 "law" = true)
    (k11 : PySem.W.keepIn K (.ref p11) = true)
    (g_PlinthError : PySem.W.nsIn K mainGlobals "PlinthError" = some (some (.ref C_PlinthError)))
    (k_PlinthError : PySem.W.keepIn K (.ref C_PlinthError) = true)
    (x_PlinthError : PySem.W.excIn K C_PlinthError [.type "ValueError", .type "Exception", .type "BaseException", .type "object"] "ValueError.__new__" = true)
    (b_PlinthError : PySem.W.subIn K (.ref C_PlinthError) (.type "BaseException") = some true)
    (t_PlinthError : PySem.W.typeIn K (.ref C_PlinthError) = some (.type "type"))
    (hd_PlinthError : PySem.W.hasDictIn K C_PlinthError = true)
    (s_PlinthError : PySem.W.subIn K (.ref C_PlinthError) (.ref C_PlinthError) = some true)
    (i_PlinthError : PySem.W.isClsIn K C_PlinthError = true)
    (g_NotText : PySem.W.nsIn K mainGlobals "NotText" = some (some (.ref C_NotText)))
    (k_NotText : PySem.W.keepIn K (.ref C_NotText) = true)
    (x_NotText : PySem.W.excIn K C_NotText [.type "ValueError", .type "Exception", .type "BaseException", .type "object"] "ValueError.__new__" = true)
    (b_NotText : PySem.W.subIn K (.ref C_NotText) (.type "BaseException") = some true)
    (t_NotText : PySem.W.typeIn K (.ref C_NotText) = some (.type "type"))
    (hd_NotText : PySem.W.hasDictIn K C_NotText = true)
    (s_NotText : PySem.W.subIn K (.ref C_NotText) (.ref C_NotText) = some true)
    (i_NotText : PySem.W.isClsIn K C_NotText = true)
    (ga_NotText : PySem.W.findIn K (.ref C_NotText) "__getattribute__" = some (some (.builtin "BaseException.__getattribute__")))
    (gg_NotText : PySem.W.findIn K (.ref C_NotText) "__getattr__" = some none)
    (gc_NotText : PySem.W.findIn K (.ref C_NotText) "__class__" = some (some (.builtin "object.__class__")))
    (gs_NotText : PySem.W.specialIn K (.builtin "object.__class__") "__get__" = some (some (.builtin "getset_descriptor.__get__")))
    (gt_NotText : PySem.W.takesIn K (.builtin "object.__class__") = some true)
    (gm_NotText : PySem.W.mroIn K C_NotText (.type "object") = some true)
    (sub_NotText_PlinthError : PySem.W.subIn K (.ref C_NotText) (.ref C_PlinthError) = some true)
    (kit_NotText_PlinthError : PySem.W.kitOne K (.ref C_NotText) (.ref C_PlinthError) = some true)
    (c_NEWLINE : PySem.W.nsIn K mainGlobals "NEWLINE" = some (some (.int 10 t_NEWLINE)))
    (c_FROM_AMPERSAND : PySem.W.nsIn K mainGlobals "_FROM_AMPERSAND" = some (some (.str str_FROM_AMPERSAND t_FROM_AMPERSAND)))
    (c_FROM_SPACE : PySem.W.nsIn K mainGlobals "_FROM_SPACE" = some (some (.str str_FROM_SPACE t_FROM_SPACE)))
    (n_int : PySem.W.nsIn K mainGlobals "int" = some none)
    (n_isinstance : PySem.W.nsIn K mainGlobals "isinstance" = some none)
    (n_len : PySem.W.nsIn K mainGlobals "len" = some none)
    (n_list : PySem.W.nsIn K mainGlobals "list" = some none)
    (n_range : PySem.W.nsIn K mainGlobals "range" = some none)
    (n_repr : PySem.W.nsIn K mainGlobals "repr" = some none)
    (n_str : PySem.W.nsIn K mainGlobals "str" = some none)
    : ∃ fd : FuncData, (∀ (s : Shared) (v : Value), BindsTo s fd ⟨[v], []⟩ [("script", v)]) ∧ ∀ base : Heap, K.In base → base.Ns mainGlobals mg → Gd.GOk l.prog w K mg base CX0 5 fa fd ["script"] (sp_law K) := by
  obtain ⟨T, eT⟩ := mk_txt X G a1 l1 c1 k1 a2 l2 c2 k2 a3 l3 c3 k3 a4 l4 c4 k4 a5 l5 c5 k5 a6 l6 c6 k6 a7 l7 c7 k7 a8 l8 c8 k8 a9 l9 c9 k9 a10 l10 c10 k10 a11 l11 c11 k11 g_PlinthError k_PlinthError x_PlinthError b_PlinthError t_PlinthError hd_PlinthError s_PlinthError i_PlinthError g_NotText k_NotText x_NotText b_NotText t_NotText hd_NotText s_NotText i_NotText ga_NotText gg_NotText gc_NotText gs_NotText gt_NotText gm_NotText sub_NotText_PlinthError kit_NotText_PlinthError c_NEWLINE c_FROM_AMPERSAND c_FROM_SPACE n_int n_isinstance n_len n_list n_range n_repr n_str
  cases hfa.symm.trans T.g_law
  exact ⟨T.d_law, T.h_law, fun base _ _ => ok_law T⟩
end K02
open PySem PySem.W PyProof.Rows
set_option maxRecDepth 100000 in
set_option maxHeartbeats 0 in
theorem PySem.Challenge.cw_plinth_k02_texts_of_codes_and_readable_p_holds : PySem.Challenge.rw_plinth_k02_texts_of_codes_and_readable_p.Holds := by
  refine K02.opening fun said => ?_
  w_on; k_head; (case hw => w_witness2)
  k_fill
  refine Gd.g_walk (l := PySem.Challenge.rw_plinth_k02_texts_of_codes_and_readable_p) (n := 63) (k := 5) (x := "script") (sp := K02.sp_law) rfl (by decide) rfl ⟨rfl, by decide, by decide⟩ (fun w h Y => PySem.W.kIn_of Y) ?F K02.law_at
  case F =>
    intro w mg fa h KX G hmg
    refine' K02.all_mk KX G hmg ?a1 ?l1 ?c1 ?k1 ?a2 ?l2 ?c2 ?k2 ?a3 ?l3 ?c3 ?k3 ?a4 ?l4 ?c4 ?k4 ?a5 ?l5 ?c5 ?k5 ?a6 ?l6 ?c6 ?k6 ?a7 ?l7 ?c7 ?k7 ?a8 ?l8 ?c8 ?k8 ?a9 ?l9 ?c9 ?k9 ?a10 ?l10 ?c10 ?k10 ?a11 ?l11 ?c11 ?k11 ?g_PlinthError ?k_PlinthError ?x_PlinthError ?b_PlinthError ?t_PlinthError ?hd_PlinthError ?s_PlinthError ?i_PlinthError ?g_NotText ?k_NotText ?x_NotText ?b_NotText ?t_NotText ?hd_NotText ?s_NotText ?i_NotText ?ga_NotText ?gg_NotText ?gc_NotText ?gs_NotText ?gt_NotText ?gm_NotText ?sub_NotText_PlinthError ?kit_NotText_PlinthError ?c_NEWLINE ?c_FROM_AMPERSAND ?c_FROM_SPACE ?n_int ?n_isinstance ?n_len ?n_list ?n_range ?n_repr ?n_str
    (case a1 => k_is)
    (case l1 => k_is)
    (case c1 => k_is)
    (case k1 => k_is)
    (case a2 => k_is)
    (case l2 => k_is)
    (case c2 => k_is)
    (case k2 => k_is)
    (case a3 => k_is)
    (case l3 => k_is)
    (case c3 => k_is)
    (case k3 => k_is)
    (case a4 => k_is)
    (case l4 => k_is)
    (case c4 => k_is)
    (case k4 => k_is)
    (case a5 => k_is)
    (case l5 => k_is)
    (case c5 => k_is)
    (case k5 => k_is)
    (case a6 => k_is)
    (case l6 => k_is)
    (case c6 => k_is)
    (case k6 => k_is)
    (case a7 => k_is)
    (case l7 => k_is)
    (case c7 => k_is)
    (case k7 => k_is)
    (case a8 => k_is)
    (case l8 => k_is)
    (case c8 => k_is)
    (case k8 => k_is)
    (case a9 => k_is)
    (case l9 => k_is)
    (case c9 => k_is)
    (case k9 => k_is)
    (case a10 => k_is)
    (case l10 => k_is)
    (case c10 => k_is)
    (case k10 => k_is)
    (case a11 => k_is)
    (case l11 => k_is)
    (case c11 => k_is)
    (case k11 => k_is)
    (case g_PlinthError => k_is)
    (case k_PlinthError => k_is)
    (case x_PlinthError => k_exc)
    (case b_PlinthError => k_is)
    (case t_PlinthError => k_is)
    (case hd_PlinthError => k_is)
    (case s_PlinthError => first | rfl | k_is)
    (case i_PlinthError => k_is)
    (case g_NotText => k_is)
    (case k_NotText => k_is)
    (case x_NotText => k_exc)
    (case b_NotText => k_is)
    (case t_NotText => k_is)
    (case hd_NotText => k_is)
    (case s_NotText => first | rfl | k_is)
    (case i_NotText => k_is)
    (case ga_NotText => k_is)
    (case gg_NotText => k_is)
    (case gc_NotText => k_is)
    (case gs_NotText => k_is)
    (case gt_NotText => k_is)
    (case gm_NotText => k_is)
    (case sub_NotText_PlinthError => first | rfl | k_is)
    (case kit_NotText_PlinthError => kit_is)
    (case c_NEWLINE => k_is)
    (case c_FROM_AMPERSAND => k_is)
    (case c_FROM_SPACE => k_is)
    (case n_int => k_is)
    (case n_isinstance => k_is)
    (case n_len => k_is)
    (case n_list => k_is)
    (case n_range => k_is)
    (case n_repr => k_is)
    (case n_str => k_is)


