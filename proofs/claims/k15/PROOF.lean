import PyProof.Rows.All
import Wide.All
import OpenK.AllK
import Wide.FinOn
import HandS.ForMost
import HandS.ForExc
import HandS.Evl
import HandS.ExcIs
import HandS.RaiseMore
import HandS.IsInst
import HandS.Replace
import HandS.Flow
import HandS.Walk
import KE.RegKIsAll
import KE.IntTextLaws
import HandS.CallLocal
import HandS.Defaults
import HandS.MakeKwOnly
import KE.KIntText
import PyProof.Rows.StrDigitsNeg
import HandS.DictComp
import KE.KExcIs
import HandS.ExcInit
import HandS.ExcField
import HandS.Nested
import HandS.FStr
import KE.KExcSuper
import HandS.ExcSuper
import HandS.ClsMeth
import KE.KSortedM
import PySem.Challenge.RW_plinth_k15_write_digits
set_option Elab.async false
set_option linter.all false
set_option maxRecDepth 100000
set_option maxHeartbeats 4000000
/-! A layer of our own: defs that are promised only where no repr is running (guards), repr of data, the end of a law. -/
namespace Gd
open PySem PySem.Spec PyProof.Rows L2

/-- a def's promise, given only where no guard stands around -/
structure GOk (P : Program) (w : World) (K : PySem.W.Frag) (mg : Str → Option Value) (base : Heap) (CX : CXT) (k : Nat) (f : Addr) (fd : FuncData) (ps : List Str) (sp : Sp) : Prop where
  len : ∀ vs H Q E, sp vs H Q E → vs.length = ps.length
  go : ∀ (A : Around) (outer : List Env) (s : Shared) (H : Hp) (args : Args) (us : List Value) (vs : List V) (Q : VK) (E : XK),
    A.guards = some [] → Room k A → Env0 P w K mg base A outer s H → BindsTo s fd args (ps.zip us) → Vals vs us → sp vs H Q E →
      codeAny (model P w) A (.call (.ref f) args) (CR CX outer P w H s Q E) s

section
variable {P : Program} {w : World} {K : PySem.W.Frag} {mg : Str → Option Value} {base : Heap}
theorem gfun {CX : CXT} {x qual : Str} {st : Stmt} {f : Addr} {fd : FuncData} {N ps : List Str} {k : Nat} {sp : Sp}
    (F : Fun K x qual st f fd) (S : FnScope N ps (defScope st)) (len : ∀ vs H Q E, sp vs H Q E → vs.length = ps.length)
    (hb : ∀ (cdv : Value) (A : Around) (outer : List Env) (s : Shared) (H : Hp) (vs : List V) (Q : VK) (E : XK),
      A.guards = some [] → Room k (A.deeper (envOfC qual (defScope st) s.heap.objs.size f cdv)) → sp vs H Q E →
      ∃ t, PSs (cxOf CX P w K mg base N qual (defScope st) f cdv A outer s H E) (defBody st) t ∧ t { nx := fun _ H' => Q .non H', rt := Q } (start N vs) H) :
    GOk P w K mg base CX (k + 1) f fd ps sp := by
  obtain ⟨oc, od, kV, doc, pm, an, cdv, ct, osl, rfl, lk, hcd⟩ := F.ex
  constructor
  · exact len
  intro A outer s H args us vs Q E hg hr e0 hbd rv hsp
  have hl := len _ _ _ _ hsp
  have kp := fun b o e => (e0.bs b o e).1
  have KX : K.In s.heap := e0.mod.kin.keeps kp
  have lim : s.heap.NoLimit := e0.mod.nolimit.keeps kp
  refine codeAny_call_function hr.depth (KX _ _ lk) rfl S.co S.gen rfl (PySem.W.codeRec_of KX hcd) (hbd _ _ _ _ ?_)
  have hkind : ∀ y ∈ ps.zip us, (defScope st).names.lookup y.1 = some .local ∨ ((defScope st).names.lookup y.1 = some .cell ∧ ((cellsFrom (s.heap.objs.size + 1) (defScope st).names []).lookup y.1).isSome = true) := by
    rintro ⟨n, v⟩ hy
    cases S.par n (List.of_mem_zip hy).1 with
    | inl q => exact .inl q
    | inr q => exact .inr ⟨q, PySem.W.cellsFrom_some _ _ _ (.inl q)⟩
  refine wpAny_newFunctionEnv_cells S.kind hkind fun env he s1 x => ?_
  subst he
  obtain ⟨t, ht, hq⟩ := hb cdv A outer s H vs Q E hg (hr.deeper _) hsp
  refine ⟨lim.keeps x.toInCall.keep, codeAny_func (wpAny_mono (ht.run [] s1 (start N vs) H _ (inv_start S hr.hd e0 hl rv x) hq) (fun fl s' hs => ?_) fun e s' hs => hs)⟩
  cases fl with
  | ret u =>
    obtain ⟨v, σ', H', J, r2, q⟩ := hs
    exact ⟨v, H', J.os, J.bare, J.base, J.hok, r2, q⟩
  | next =>
    obtain ⟨σ', H', J, q⟩ := hs
    exact ⟨V.non, H', J.os, J.bare, J.base, J.hok, rfl, q⟩
  | brk => exact (let ⟨_, _, _, q⟩ := hs; False.elim q)
  | cont => exact (let ⟨_, _, _, q⟩ := hs; False.elim q)
end

/-! ### the call of such a def, from a body around which no guard stands -/
section
variable {X : Cx} {CX : CXT} {k : Nat} {f : Addr} {fd : FuncData} {ps : List Str} {sp : Sp} {E : XK} {x : Str} {p pos : Pos} {e : Expr} {es : List Expr} {t : TA}
theorem pe_callG (F : GOk X.prog X.w X.K X.mg X.base CX k f fd ps sp) (hgd : X.A.guards = some []) (hr : Room k X.A) (hg : Gl X x) (hm : X.mg x = some (.ref f)) (hk : PySem.W.keepIn X.K (.ref f) = true)
    (hb : Binds X.K fd ps []) (hx : Passes CX X E) (ha : PA X (e :: es) t) (hdb : (x == ("__debug__" : Str)) = false := by decide)
    (he : starEach (e :: es) X.env = (false, eval e X.env) :: starEach es X.env := by rfl) (hpl : (backTo pos (starEach es X.env)).any (·.1) = false := by rfl) :
    PE X (.Call (.Name x p) (e :: es) [] pos) (tCall sp [] E t) := by
  constructor
  intro pins s σ H Q I h
  refine wpAny_Call_Name_kw (ld_glob I hg hm ?_ hdb)
  refine PySem.W.callWith_K (h₀ := X.base) I.ok.mod.kin hk (thn (ha.run pos pins s σ H _ I h) fun us s1 hh => ?_) he hpl
  obtain ⟨vs, H1, I1, r, q⟩ := hh
  refine ⟨I1.kIn, ?_⟩
  rw [List.append_nil] at q
  have hl : us.length = ps.length := r.length.symm.trans (F.len _ _ _ _ q)
  have bd := hb s1 us I1.kIn (by rw [List.append_nil]; exact hl)
  rw [List.append_nil] at bd
  refine wpAny_call (codeAny_mono (F.go X.A X.stack s1 H1 ⟨us, []⟩ us vs Q E hgd hr I1.env0 bd r q) fun r' s' hq => ?_)
  cases r' with
  | error e => exact hx pins σ H1 s1 e s' I1 hq
  | ok fl =>
    cases fl with
    | ret u => exact I1.after hq
    | next => exact False.elim hq
    | brk => exact False.elim hq
    | cont => exact False.elim hq
end

/-! ### repr of data -/
def rRepr (K : PySem.W.Frag) : List V → Hp → VK → Prop := fun xs H Q => ∃ (v : V) (d : PyData), xs = [v] ∧ Dp K H v d ∧ d.showable = true ∧ d.hasDict = false ∧ d.depth ≤ 40 ∧ d.shown.length ≤ sizeLine ∧ Q (.str d.shown) H
section
variable {X : Cx}
theorem call_reprD (hgd : X.A.guards = some []) (hu : X.A.units + 64 < cLine) : CallR X (.builtin "repr") (rRepr X.K) := by
  intro pins s σ H xs us Q I r h
  obtain ⟨v, d, rfl, hd, hs, hnd, hdp, hz, q⟩ := h
  obtain ⟨u, rfl, ru⟩ := vals1 r
  obtain ⟨as, hr⟩ := Dp.reads I d v u hd ru
  cases hd with
  | lst h1 h2 =>
    cases ru
    exact repr_of_reads' hr hs (PyData.noDict_hsm hnd) hgd (by omega) (fun _ _ e => e) (fun h' u tk hk => ⟨.str _, H, I.kept (t' := tk) hk, ⟨_, rfl⟩, q⟩) hz
  | tup h1 h2 =>
    cases ru
    exact repr_of_reads' hr hs (PyData.noDict_hsm hnd) hgd (by omega) (fun _ _ e => e) (fun h' u tk hk => ⟨.str _, H, I.kept (t' := tk) hk, ⟨_, rfl⟩, q⟩) hz
  | int i =>
    obtain ⟨t, rfl⟩ := ru
    exact PySem.P.repr_of_int (of_decide_eq_true hs) ⟨.str _, H, I.tok _, ⟨_, rfl⟩, q⟩
  | non =>
    cases ru
    exact PySem.P.repr_of_none ⟨.str _, H, I.tok _, ⟨_, rfl⟩, q⟩
  | bl b =>
    cases ru
    refine PySem.P.repr_of_bool ⟨.str _, H, I.tok _, ⟨_, rfl⟩, ?_⟩
    have e : (PyData.bool b).shown = (if b then ("True" : Str) else "False") := by unfold PyData.shown; rfl
    rw [← e]
    exact q
  | str x =>
    obtain ⟨t, rfl⟩ := ru
    exact PySem.P.repr_of_str ⟨.str _, H, I.tok _, ⟨_, rfl⟩, q⟩ hz
end

/-! ### the end of a law whose def is so promised -/
section
variable {P : Program} {w : World} {K : PySem.W.Frag} {mg mb : Str → Option Value} {CX : CXT} {k : Nat} {fa a : Addr} {fd : FuncData} {x : Str} {sp : Sp} {s₁ : Shared} {vs : List Value} {ns : List Int}
/-- from an abstract heap H that tracks at most the script -/
theorem g_core (H : Hp) (KX : K.In s₁.heap) (hns : s₁.heap.Ns mainGlobals mg) (hb : s₁.heap.Ns builtinsNs mb) (hbb : ∀ x : Str, x ≠ "__name__" → mb x = bootBuiltins x) (hlim : s₁.heap.NoLimit) (hg : s₁.gens = #[])
    (ha : s₁.heap.get? a = some { cls := .type "list", data := .seq vs.toArray }) (hr : Room k callerA)
    (F : ∀ base : Heap, K.In base → base.Ns mainGlobals mg → GOk P w K mg base CX k fa fd [x] sp) (hbind : ∀ (s : Shared) (u : Value), BindsTo s fd ⟨[u], []⟩ [(x, u)])
    (hsp : sp [.ref a] H (fun v _ => v = .bl true) fun _ _ _ => False) (hCX : ∀ e s', CX [] H s₁ (fun _ _ _ => False) e s' → False)
    (hO : Only H) (hok : HOk P w H s₁.heap) (hA : ∀ b u, H b = some u → b = a ∧ K.lookup a = none) :
    codeAny (model P w) callerA (.call (.ref fa) ⟨[.ref a], []⟩) (fun r s' => r = .ok (.ret (.bool true)) ∧ PySem.OldK s₁.heap s'.heap ∧ s'.os = s₁.os ∧ AllBare s'.gens) s₁ := by
  have hid : ∀ {b : Addr} {o : Obj}, s₁.heap.get? b = some o → H b = none → (hidT s₁.heap H).get? b = some o := fun e n => hidT_get e n
  have un_d : ∀ {b : Addr} {o : Obj} {es : Array DictEntry} {ep : Nat}, s₁.heap.get? b = some o → o.data = .dict es ep → H b = none := by
    intro b o es ep e d
    cases q : H b with
    | none => rfl
    | some u =>
      rw [(hA b u q).1, ha] at e
      cases e
      exact nomatch d
  have ns_b : ∀ {b : Addr} {m : Str → Option Value}, s₁.heap.Ns b m → (hidT s₁.heap H).Ns b m := by
    rintro b m ⟨o, es, ep, e, d, r⟩
    exact ⟨o, es, ep, hid e (un_d e d), d, r⟩
  have k_b : K.In (hidT s₁.heap H) := by
    intro b o e
    refine hid (KX b o e) ?_
    cases q : H b with
    | none => rfl
    | some u =>
      obtain ⟨e1, e2⟩ := hA b u q
      rw [e1, e2] at e
      cases e
  have nl : (hidT s₁.heap H).NoLimit := let ⟨mc, h1, h2⟩ := hlim; ⟨mc, ns_b h1, h2⟩
  have e0 : Env0 P w K mg (hidT s₁.heap H) callerA [] s₁ H :=
    { frames := rfl, mod := ⟨k_b, ns_b hns, ⟨mb, ns_b hb, hbb⟩, nl⟩, bs := fun b o e => of_hidT e, bsz := Nat.le_of_eq (hidT_size _ _), funs := trivial,
      frf := fun b z => absurd (show b ∈ ([] : List Addr) from z) List.not_mem_nil, hok := hok, bare := .of_eq hg }
  refine codeAny_mono ((F _ k_b (ns_b hns)).go callerA [] s₁ H ⟨[.ref a], []⟩ [.ref a] [.ref a] _ _ rfl hr e0 (hbind s₁ (.ref a)) (.cons rfl .nil) hsp) fun r s' h => ?_
  cases r with
  | error e => exact (hCX e s' h).elim
  | ok fl =>
    cases fl with
    | next => exact False.elim h
    | brk => exact False.elim h
    | cont => exact False.elim h
    | ret u =>
      obtain ⟨v, H', os, bare, un, hok', r', q⟩ := h
      cases (show v = .bl true from q)
      cases (show u = Value.bool true from r')
      refine ⟨rfl, OldK.of_keep fun b o e => ?_, os, bare⟩
      cases q : H b with
      | none => exact un.keep b o e q (fun z => absurd (show b ∈ ([] : List Addr) from z) List.not_mem_nil) List.not_mem_nil
      | some u =>
        cases hO b with
        | inl z => exact nomatch q.symm.trans z
        | inr z =>
          obtain ⟨ob, xs, z⟩ := z
          obtain ⟨e1, _⟩ := hok b _ z
          cases e.symm.trans e1
          exact (hok' b _ (un.frzs b _ _ z)).1

theorem g_call (KX : K.In s₁.heap) (hns : s₁.heap.Ns mainGlobals mg) (hb : s₁.heap.Ns builtinsNs mb) (hbb : ∀ x : Str, x ≠ "__name__" → mb x = bootBuiltins x) (hlim : s₁.heap.NoLimit) (hg : s₁.gens = #[])
    (ha : s₁.heap.get? a = some { cls := .type "list", data := .seq vs.toArray }) (hi : IntsAre vs ns) (hl : ns.length ≤ sizeLine) (hr : Room k callerA)
    (F : ∀ base : Heap, K.In base → base.Ns mainGlobals mg → GOk P w K mg base CX k fa fd [x] sp) (hbind : ∀ (s : Shared) (u : Value), BindsTo s fd ⟨[u], []⟩ [(x, u)])
    (hsp : ∀ H : Hp, Only H → SqL K H a (ns.map V.int) → sp [.ref a] H (fun v _ => v = .bl true) fun _ _ _ => False)
    (hCX : ∀ H e s', CX [] H s₁ (fun _ _ _ => False) e s' → False) :
    codeAny (model P w) callerA (.call (.ref fa) ⟨[.ref a], []⟩) (fun r s' => r = .ok (.ret (.bool true)) ∧ PySem.OldK s₁.heap s'.heap ∧ s'.os = s₁.os ∧ AllBare s'.gens) s₁ := by
  have rv := vals_ints hi
  cases hk : K.lookup a with
  | some o =>
    cases ha.symm.trans (KX a o hk)
    have O : Only (fun _ => none : Hp) := fun _ => .inl rfl
    refine g_core (fun _ => none) KX hns hb hbb hlim hg ha hr F hbind (hsp _ O (.inr ?_)) (hCX _) O (fun b u z => nomatch (show (none : Option HO) = some u from z)) (fun b u z => nomatch (show (none : Option HO) = some u from z))
    exact ⟨_, vs.toArray, _, hk, rfl, rfl, rfl, by rw [List.size_toArray, hi.length]; exact hl, by simpa using rv⟩
  | none =>
    let sc : HO := .frz { cls := .type "list", data := .seq vs.toArray } (.lst (ns.map V.int))
    let H : Hp := fun b => if b = a then some sc else none
    have Ha : H a = some sc := if_pos rfl
    have Hb : ∀ b u, H b = some u → b = a ∧ u = sc := by
      intro b u z
      by_cases q : b = a
      · exact ⟨q, Option.some.inj (z.symm.trans (if_pos q))⟩
      · exact nomatch z.symm.trans (if_neg q)
    have O : Only H := by
      intro b
      by_cases q : b = a
      · exact .inr ⟨_, _, if_pos q⟩
      · exact .inl (if_neg q)
    refine g_core H KX hns hb hbb hlim hg ha hr F hbind (hsp H O (.inl (.inr ⟨_, Ha⟩))) (hCX H) O (fun b u z => ?_) (fun b u z => ⟨(Hb b u z).1, hk⟩)
    obtain ⟨rfl, rfl⟩ := Hb b u z
    exact ⟨ha, by rw [List.length_map]; exact hl, vs, _, rv, ha⟩
end

/-- the goal that k_head leaves of a law whose promise hangs on the written part alone -/
theorem g_walk {l : PySem.W.OpenLaw} {n k : Nat} {q : Program} {loose : List Str} {XP : (Str → Option Value) → Heap → Prop} {YP : World → Heap → Prop} {d : DefRec} {K : Params → PySem.W.Frag} {sp : PySem.W.Frag → Sp} {x : Str}
    (hn : l.most = some n) (hn2 : n ≤ sizeLine) (hdf : d.params.defaults = []) (hr : Room k callerA) (hY : ∀ (w : World) (h : Heap), YP w h → (K w.params).In h)
    (F : ∀ (w : World) (mg : Str → Option Value) (fa : Addr) (h : Heap), (K w.params).In h → h.Ns mainGlobals mg → mg d.name = some (.ref fa) →
      ∃ fd : FuncData, (∀ (s : Shared) (u : Value), BindsTo s fd ⟨[u], []⟩ [(x, u)]) ∧ ∀ base : Heap, (K w.params).In base → base.Ns mainGlobals mg → GOk l.prog w (K w.params) mg base CX0 k fa fd [x] (sp (K w.params)))
    (hsp : ∀ (K : PySem.W.Frag) (H : Hp) (a : Addr) (ns : List Int), ns.length ≤ n → Only H → SqL K H a (ns.map V.int) → sp K [.ref a] H (fun v _ => v = .bl true) fun _ _ _ => False) :
    PySem.W.WalkO q loose XP YP l.row.toRowW d [] (fun f vs => PySem.call f vs) := by
  refine Att.attach_call hn hdf ?_
  intro w s₀ s₁ mg mb fa o pm cd doc a vs ns G Y ho hd hcd hmg hobj hints hlen hg
  have KX := hY w _ Y
  obtain ⟨fd, hb, hF⟩ := F w mg fa _ KX G.T.g hmg
  exact g_call KX G.T.g G.T.b G.T.builtins G.T.nolimit hg hobj hints (Nat.le_trans hlen hn2) hr hF hb (fun H hO hS => hsp _ H a ns hlen hO hS) fun H e s' z => z
end Gd

set_option Elab.async false
set_option linter.all false
set_option maxRecDepth 100000
set_option maxHeartbeats 4000000
/-! More of our own: what evaluates to what, for chains, calls, texts; the draws of the laws. -/
namespace Gd
open PySem PySem.Spec PyProof.Rows L2 Evl
section
variable {K : PySem.W.Frag} {σ : L2.St} {H H' : Hp} {ta tb tc te : TE} {t u : TT} {x y z v : V} {r r' : R2}
theorem ev_chain {a b : Bool} {c : V} (ha : Ev ta σ H x) (hb : Ev tb σ H y) (hr : RV r x y H (.bl a)) (hc : a = true → Ev tc σ H c) (hr2 : a = true → RV r' y c H (.bl b)) :
    Ev (tChain r r' ta tb tc) σ H (.bl (a && b)) := fun H1 e Q q =>
  ha H1 e _ fun H2 e2 => hb H2 (e.trans e2) _ fun H3 e3 => hr H3 ((e.trans e2).trans e3) _ fun H4 e4 => ⟨a, rfl, by
    have e14 := (e2.trans e3).trans e4
    cases a with
    | true =>
      rw [if_pos rfl]
      exact hc rfl H4 (e.trans e14) _ fun H5 e5 => hr2 rfl H5 ((e.trans e14).trans e5) Q fun H6 e6 => q H6 ((e14.trans e5).trans e6)
    | false =>
      rw [if_neg Bool.false_ne_true]
      exact q H4 e14⟩
theorem rv_eqI {i j : Int} : RV rEq (.int i) (.int j) H (.bl (decide (i = j))) := by
  have h : RV rEq (.int i) (.int j) H (.bl (decide (V.int i = V.int j))) := rv_eq rfl
  have e : decide (V.int i = V.int j) = decide (i = j) := by
    by_cases h : i = j
    · rw [h, decide_eq_true rfl, decide_eq_true rfl]
    · rw [decide_eq_false h, decide_eq_false (fun q => h (V.int.inj q))]
  rw [← e]
  exact h
theorem rv_eqS {i j : Str} : RV rEq (.str i) (.str j) H (.bl (decide (i = j))) := by
  have h : RV rEq (.str i) (.str j) H (.bl (decide (V.str i = V.str j))) := rv_eq rfl
  have e : decide (V.str i = V.str j) = decide (i = j) := by
    by_cases h : i = j
    · rw [h, decide_eq_true rfl, decide_eq_true rfl]
    · rw [decide_eq_false h, decide_eq_false (fun q => h (V.str.inj q))]
  rw [← e]
  exact h
theorem rv_neS {i j : Str} : RV rNe (.str i) (.str j) H (.bl (!decide (i = j))) := by
  have h : RV rNe (.str i) (.str j) H (.bl (!decide (V.str i = V.str j))) := rv_ne rfl
  have e : decide (V.str i = V.str j) = decide (i = j) := by
    by_cases h : i = j
    · rw [h, decide_eq_true rfl, decide_eq_true rfl]
    · rw [decide_eq_false h, decide_eq_false (fun q => h (V.str.inj q))]
  rw [← e]
  exact h
theorem rv_neI {i j : Int} : RV rNe (.int i) (.int j) H (.bl (!decide (i = j))) := by
  have h : RV rNe (.int i) (.int j) H (.bl (!decide (V.int i = V.int j))) := rv_ne rfl
  have e : decide (V.int i = V.int j) = decide (i = j) := by
    by_cases h : i = j
    · rw [h, decide_eq_true rfl, decide_eq_true rfl]
    · rw [decide_eq_false h, decide_eq_false (fun q => h (V.int.inj q))]
  rw [← e]
  exact h
theorem rv_mod {i j : Int} (h : j ≠ 0) : RV (rI (fun _ j => j ≠ 0) fun i j => .int (i.fmod j)) (.int i) (.int j) H (.int (i.fmod j)) := rv_I h
theorem rv_fdiv {i j : Int} (h : j ≠ 0) (h2 : j.natAbs < 1073741824) : RV (rI CDivN fun i j => .int (i.fdiv j)) (.int i) (.int j) H (.int (i.fdiv j)) := rv_I ⟨h, h2⟩
theorem rv_mulR {i j : Int} (h : -(2 ^ 64) < j ∧ j < 2 ^ 64) : RV (rI CMul fun i j => .int (i * j)) (.int i) (.int j) H (.int (i * j)) := rv_I (.inr h)
theorem rv_mulL {i j : Int} (h : -(2 ^ 64) < i ∧ i < 2 ^ 64) : RV (rI CMul fun i j => .int (i * j)) (.int i) (.int j) H (.int (i * j)) := rv_I (.inl h)
theorem rv_pow {i j : Int} (h : 0 ≤ j ∧ j ≤ 1000000 ∧ i.natAbs < 2 ^ 64) : RV (rI CPow fun i j => .int (i ^ j.toNat)) (.int i) (.int j) H (.int (i ^ j.toNat)) := rv_I h
def rAddT : R2 := fun x y H Q => ∃ i j, x = .str i ∧ y = .str j ∧ i.length + j.length ≤ sizeLine ∧ Q (.str (i ++ j)) H
theorem rv_addS {i j : Str} (h : i.length + j.length ≤ 100000) : RV rAddT (.str i) (.str j) H (.str (i ++ j)) := fun H1 _ _ q => ⟨i, j, rfl, rfl, sz_of h, q H1 (Ex.refl H1)⟩
def rInt1 : List V → Hp → VK → Prop := fun xs H Q => (∃ i, xs = [.int i] ∧ Q (.int i) H) ∨ ∃ k, xs = [.bl k] ∧ Q (.int (if k then 1 else 0)) H
theorem rc_int {i : Int} : RC rInt1 [.int i] H (.int i) := fun H1 _ _ q => .inl ⟨i, rfl, q H1 (Ex.refl H1)⟩
theorem rc_intB {k : Bool} : RC rInt1 [.bl k] H (.int (if k then 1 else 0)) := fun H1 _ _ q => .inr ⟨k, rfl, q H1 (Ex.refl H1)⟩
def rOrd : List V → Hp → VK → Prop := fun xs H Q => ∃ x, xs = [.str x] ∧ x.length = 1 ∧ Q (.int (x.cps.getD 0 0 : Nat)) H
theorem rc_ord {c : Nat} : RC rOrd [.str ⟨#[c]⟩] H (.int (c : Int)) := fun H1 _ _ q => ⟨⟨#[c]⟩, rfl, rfl, q H1 (Ex.refl H1)⟩
def rLenT : List V → Hp → VK → Prop := fun xs H Q => ∃ x, xs = [.str x] ∧ x.length ≤ sizeLine ∧ Q (.int x.length) H
theorem rc_lenS {x : Str} (h : x.length ≤ 100000) : RC rLenT [.str x] H (.int x.length) := fun H1 _ _ q => ⟨x, rfl, sz_of h, q H1 (Ex.refl H1)⟩
theorem rc_repr {d : PyData} (hd : Dp K H v d) (hm : ∀ H1, Ex H H1 → Dp K H1 v d) (hs : d.showable = true) (hn : d.hasDict = false) (hp : d.depth ≤ 40) (hz : d.shown.length ≤ sizeLine) : RC (rRepr K) [v] H (.str d.shown) :=
  fun H1 e _ q => ⟨v, d, rfl, hm H1 e, hs, hn, hp, hz, q H1 (Ex.refl H1)⟩
theorem ev_sub {a : TE} {lo hi : TO} {i j : Option Int} {z : Str} (h : Ev a σ H (.str z)) (hl : EvO lo σ H i) (hh : EvO hi σ H j) (hz : z.length ≤ 100000) : Ev (tSl rSlS a lo hi) σ H (.str (cutS z i j)) := fun H1 e Q q =>
  h H1 e _ fun H2 e2 => hl H2 (e.trans e2) _ fun H3 e3 => hh H3 ((e.trans e2).trans e3) _ fun H4 e4 => ⟨z, rfl, sz_of hz, q H4 ((e2.trans e3).trans e4)⟩
end

/-! ### data of lists of ints -/
theorem dpAll_ints {K : PySem.W.Frag} {H : Hp} : ∀ ns : List Int, DpAll K H (ns.map V.int) (ns.map PyData.int)
  | [] => .nil
  | n :: r => .cons (.int n) (dpAll_ints r)
theorem dp_ints {K : PySem.W.Frag} {H : Hp} {a : Addr} {ns : List Int} (h : SqL K H a (ns.map V.int)) : Dp K H (.ref a) (.list (ns.map PyData.int)) := .lst h (dpAll_ints ns)
theorem showAll_ints : ∀ (ns : List Int), (∀ n ∈ ns, n.natAbs.log2 < 1920) → PyData.showableAll (ns.map PyData.int) = true
  | [], _ => by simp [PyData.showableAll]
  | n :: r, h => by
    rw [List.map_cons, PyData.showableAll, PyData.showable, decide_eq_true (h n List.mem_cons_self), showAll_ints r fun m hm => h m (List.mem_cons_of_mem _ hm)]
    rfl
theorem noDict_ints : ∀ ns : List Int, PyData.hasDictAll (ns.map PyData.int) = false
  | [] => by simp [PyData.hasDictAll]
  | n :: r => by
    rw [List.map_cons, PyData.hasDictAll, noDict_ints r, PyData.hasDict]
    rfl
theorem depthAll_ints : ∀ ns : List Int, PyData.depthAll (ns.map PyData.int) ≤ 1
  | [] => by simp [PyData.depthAll]
  | n :: r => by
    rw [List.map_cons, PyData.depthAll, PyData.depth]
    have := depthAll_ints r
    omega

/-! ### the script's cells -/
def cellN (ns : List Int) (k : Nat) : Int := ns.getD k 0

/-! ### comprehensions without a test: items mapped -/
section
variable {K : PySem.W.Frag} {σ : L2.St} {H H1 : Hp} {te tl : TE} {vs : List Nat} {j : Nat}
theorem take_snoc {α : Type} {l : List α} {i : Nat} {x : α} (h : l[i]? = some x) : l.take (i + 1) = l.take i ++ [x] := by
  rw [List.take_add_one, h]
  rfl
theorem lc_map {J : It} {G : Hp → Prop} {Y : Nat → Hp → V → Hp → Prop} {xs : List V} {D : Addr} {Qd : Hp → Prop} (w : Walk J xs.length G Y) (hY : ∀ i H x H', i < xs.length → Y i H x H' → H' = H ∧ xs[i]? = some x)
    (hz : xs.length ≤ 90000) (hw : ∀ x, wipe ((wipe σ vs).set j (some x)) vs = wipe σ vs) (f : V → V) (hG : ∀ H', Ex H1 H' → G H') (he : ∀ x ∈ xs, ∀ H', Ex H1 H' → Ev te ((wipe σ vs).set j (some x)) H' (f x)) (hD : H1 D = none)
    (k : ∀ H', Ex H1 H' → H' D = some (.lst (xs.map f)) → Qd H') :
    ∃ W : Nat → Nat → Hp → Prop, (∃ m, W 0 m (upd H1 D (.lst []))) ∧ ∀ i m H, W i m H →
      (J.stop i H ∧ Qd H) ∨ (J.go i H ∧ ∃ Nx : Hp → Prop, (∀ H', Nx H' → ∃ m', m' < m ∧ W (i + 1) m' H') ∧ ∀ x H', J.yld i H x H' → gName j x (wipe σ vs) H' fun σ2 H2 => wipe σ2 vs = wipe σ vs ∧ tYes σ2 H2 fun b H3 =>
        if b = true then te σ2 H3 fun y H4 => ∃ acc, H4 D = some (.lst acc) ∧ acc.length < sizeLine ∧ Nx (upd H4 D (.lst (acc ++ [y]))) else Nx H3) := by
  refine lc_it w (fun i H' => Ex H1 H' ∧ H' D = some (.lst ((xs.take i).map f))) ⟨Ex.new hD, upd_same⟩ (fun i H' _ p => hG H' p.1) ?_ (fun H' p => k H' p.1 (by rw [p.2, List.take_length]))
  intro i x H2 H3 hi p y
  obtain ⟨e, hx⟩ := hY i H2 x H3 hi y
  subst e
  obtain ⟨p1, p2⟩ := p
  refine ⟨hw x, ?_⟩
  dsimp only [tYes]
  rw [if_pos rfl]
  refine he x (List.mem_of_getElem? hx) H3 p1 H3 (Ex.refl H3) _ fun H4 e4 => ⟨(xs.take i).map f, e4 D _ p2, sz_lt (by rw [List.length_map, List.length_take]; omega), Ex.mut (p1.trans e4) hD, ?_⟩
  rw [upd_same, take_snoc hx, List.map_append]
  rfl
theorem el_mapL {a : Addr} {xs : List V} (f : V → V) (h : Ev tl σ H (.ref a)) (hx : SqL K H a xs) (hz : xs.length ≤ 90000) (hw : ∀ x, wipe ((wipe σ vs).set j (some x)) vs = wipe σ vs)
    (he : ∀ x ∈ xs, ∀ H1, Ex H H1 → Ev te ((wipe σ vs).set j (some x)) H1 (f x)) : EvL (tLc (iList K tl) (gName j) tYes te vs) σ H (xs.map f) := fun H0 e Q q =>
  h H0 e _ fun H1 e1 => ⟨a, rfl, ⟨xs, ex_l (e.trans e1) hx⟩, fun D hD => lc_map walk_list (fun _ _ _ _ _ y => y) hz hw f (fun H' e' => ex_l ((e.trans e1).trans e') hx) (fun x m H' e' => he x m H' ((e.trans e1).trans e')) hD
    (fun H' e' hd => q D H' (fresh_back e1 hD) (e1.trans e') hd)⟩
theorem el_mapNL {xs : List V} (f : V → V) (h : EvL tl σ H xs) (hz : xs.length ≤ 90000) (hw : ∀ x, wipe ((wipe σ vs).set j (some x)) vs = wipe σ vs)
    (he : ∀ x ∈ xs, ∀ H1, Ex H H1 → Ev te ((wipe σ vs).set j (some x)) H1 (f x)) : EvL (tLc (iList K tl) (gName j) tYes te vs) σ H (xs.map f) := fun H0 e Q q =>
  h H0 e _ fun a H1 _ e1 ha => ⟨a, rfl, ⟨xs, sq_of ha⟩, fun D hD => lc_map walk_list (fun _ _ _ _ _ y => y) hz hw f (fun H' e' => sq_of (e' a _ ha)) (fun x m H' e' => he x m H' ((e.trans e1).trans e')) hD
    (fun H' e' hd => q D H' (fresh_back e1 hD) (e1.trans e') hd)⟩
def sgns (z : Str) : List V := z.cps.toList.map fun c => V.str ⟨#[c]⟩
theorem sgns_at {z : Str} {i c : Nat} (h : z.cps[i]? = some c) : (sgns z)[i]? = some (.str ⟨#[c]⟩) := by
  unfold sgns
  rw [List.getElem?_map, Array.getElem?_toList, h]
  rfl
theorem sgns_len (z : Str) : (sgns z).length = z.cps.size := by
  unfold sgns
  rw [List.length_map, Array.length_toList]
theorem walk_signs (z : Str) : Walk (Its z) (sgns z).length (fun _ => True) (YAt (sgns z)) := by
  rw [sgns_len]
  exact walk_str.mono (fun _ h => h) fun i H x H' _ _ y => by
    obtain ⟨e, c, hc, rfl⟩ := y
    exact ⟨e, sgns_at hc⟩
theorem el_mapS {z : Str} (f : V → V) (h : Ev tl σ H (.str z)) (hz : z.cps.size ≤ 90000) (hw : ∀ x, wipe ((wipe σ vs).set j (some x)) vs = wipe σ vs)
    (he : ∀ c ∈ z.cps.toList, ∀ H1, Ex H H1 → Ev te ((wipe σ vs).set j (some (.str ⟨#[c]⟩))) H1 (f (.str ⟨#[c]⟩))) : EvL (tLc (iStr tl) (gName j) tYes te vs) σ H ((sgns z).map f) := fun H0 e Q q =>
  h H0 e _ fun H1 e1 => ⟨z, rfl, fun D hD => lc_map (walk_signs z) (fun _ _ _ _ _ y => y) (by rw [sgns_len]; exact hz) hw f (fun _ _ => trivial) (fun x m H' e' => by
    obtain ⟨c, hc, rfl⟩ := List.mem_map.mp m
    exact he c hc H' ((e.trans e1).trans e')) hD (fun H' e' hd => q D H' (fresh_back e1 hD) (e1.trans e') hd)⟩
end

/-! ### join, repr, str(..) -/
section
variable {K : PySem.W.Frag} {σ : L2.St} {H H1 : Hp} {te tl to : TE}
def rJoinT (K : PySem.W.Frag) : V → List V → Hp → VK → Prop := fun x xs H Q => ∃ a p, ∃ ys : List Str, x = .str a ∧ xs = [.ref p] ∧ (SqL K H p (ys.map V.str) ∨ SqT K H p (ys.map V.str)) ∧
      (ys.map (·.length)).sum + ys.length * a.length ≤ 16777216 ∧ Q (.str (Txt.join a ys)) H
theorem ev_joinL {a : Str} {ys : List Str} (ho : Ev to σ H (.str a)) (h : EvL te σ H (ys.map V.str)) (hz : (ys.map (·.length)).sum + ys.length * a.length ≤ 16777216) : Ev (tM1 (rJoinT K) to te) σ H (.str (Txt.join a ys)) := fun H0 e Q q =>
  ho H0 e _ fun H1 e1 => ⟨⟨a, rfl⟩, h H1 (e.trans e1) _ fun p H2 _ e2 hp => ⟨a, p, ys, rfl, rfl, .inl (sq_of hp), hz, q H2 (e1.trans e2)⟩⟩
theorem joinE (ys : List Str) : (Txt.join "" ys).cps.toList = (ys.map fun y => y.cps.toList).flatten := by
  have h : ∀ l : List (List Nat), TL.joinL [] l = l.flatten := by
    intro l
    induction l with
    | nil => rfl
    | cons p r ih =>
      cases r with
      | nil => simp [TL.joinL]
      | cons q r => rw [TL.joinL, ih]; rfl
  rw [TL.join_eq]
  show TL.tl _ = _
  rw [TL.tl_join]
  exact h _
theorem show_le {ns : List Int} (hl : ns.length ≤ 1000) (hb : ∀ n ∈ ns, n.natAbs < 10 ^ 100) : (PyData.list (ns.map PyData.int)).shown.length ≤ sizeLine := by
  have hs : PyData.leavesShort 101 (.list (ns.map PyData.int)) = true := by
    unfold PyData.leavesShort
    clear hl
    induction ns with
    | nil => simp [PyData.leavesShortAll]
    | cons n r ih =>
      rw [List.map_cons, PyData.leavesShortAll, ih fun m hm => hb m (List.mem_cons_of_mem _ hm), Bool.and_true, PyData.leavesShort]
      refine decide_eq_true ?_
      unfold PyData.shown
      have h := int_text_length_le10 (k := 100) (by decide) (hb n List.mem_cons_self)
      have e : (Str.ofString (toString n)).length = (toString n).length := PySem.ofString_length _
      show (Str.ofString (toString n)).length ≤ 101
      rw [e]
      exact h
  have hk := PyData.shown_le_bulk 101 (by decide) _ hs
  have hb2 : (PyData.list (ns.map PyData.int)).bulk = ns.length := by
    unfold PyData.bulk
    clear hs hk hl hb
    induction ns with
    | nil => simp [PyData.bulkAll]
    | cons n r ih =>
      rw [List.map_cons, PyData.bulkAll, PyData.bulk, ih, List.length_cons]
      omega
  rw [hb2] at hk
  rw [sizeLine_eq]
  omega
set_option exponentiation.threshold 3000 in
theorem pow_small : 10 ^ 100 ≤ 2 ^ 1920 := by decide +kernel
set_option exponentiation.threshold 3000 in
theorem log_lt {n : Int} (h : n.natAbs < 10 ^ 100) : n.natAbs.log2 < 1920 := by
  by_cases h0 : n.natAbs = 0
  · rw [h0]; decide
  · exact (Nat.log2_lt h0).mpr (Nat.lt_of_lt_of_le h pow_small)
theorem ev_reprI {a : Addr} {ns : List Int} (h : Ev te σ H (.ref a)) (hx : SqL K H a (ns.map V.int)) (hl : ns.length ≤ 1000) (hb : ∀ n ∈ ns, n.natAbs < 10 ^ 100) :
    Ev (tCB (rRepr K) (tCons te tNil)) σ H (.str (PyData.list (ns.map PyData.int)).shown) :=
  ev_cb (ea_cons h ea_nil) fun H1 e _ q => ⟨.ref a, .list (ns.map PyData.int), rfl, dp_ints (ex_l e hx), by
    rw [PyData.showable]
    exact showAll_ints ns fun n hn => log_lt (hb n hn), by
    rw [PyData.hasDict]
    exact noDict_ints ns, by
    rw [PyData.depth]
    have := depthAll_ints ns
    omega, show_le hl hb, q H1 (Ex.refl H1)⟩
end

/-! ### what is known behind a statement -/
theorem q_mid {t u : TS} {D : Ends} {σ : L2.St} {H : Hp} (M : L2.St → Hp → Prop) (mono : ∀ (N N' : L2.St → Hp → Prop), (∀ σ H, N σ H → N' σ H) → t { D with nx := N } σ H → t { D with nx := N' } σ H)
    (h : t { D with nx := M } σ H) (k : ∀ σ' H', M σ' H' → u D σ' H') : tSeq t u D σ H := mono M (u D) k h

/-! ### isinstance -/
section
variable {K : PySem.W.Frag} {H : Hp}
theorem rc_isStr {x : Str} : RC (rIsi K) [.str x, .ty "str"] H (.bl true) := fun H1 _ _ q => ⟨_, _, _, _, true, rfl, .ty "str", .base (.str x), kit_ty (by decide +kernel), q H1 (Ex.refl H1)⟩
theorem rc_isInt {i : Int} : RC (rIsi K) [.int i, .ty "int"] H (.bl true) := fun H1 _ _ q => ⟨_, _, _, _, true, rfl, .ty "int", .base (.int i), kit_ty (by decide +kernel), q H1 (Ex.refl H1)⟩
theorem rc_isIntB {i : Int} : RC (rIsi K) [.int i, .ty "bool"] H (.bl false) := fun H1 _ _ q => ⟨_, _, _, _, false, rfl, .ty "bool", .base (.int i), kit_ty (by decide +kernel), q H1 (Ex.refl H1)⟩
theorem rc_isNonS : RC (rIsi K) [.non, .ty "str"] H (.bl false) := fun H1 _ _ q => ⟨_, _, _, _, false, rfl, .ty "str", .base .non, kit_ty (by decide +kernel), q H1 (Ex.refl H1)⟩
/-- isinstance of the error that a suite holds: its class is asked in the reading -/
def rIsX (K : PySem.W.Frag) (D a : Addr) (cls : Value) (d : Option Addr) : List V → Hp → VK → Prop := fun xs H Q => cls = .ref D ∧ d = none ∧ rIsE K D a xs H Q
theorem call_isX {X : Cx} {a D : Addr} {oe : Obj} {pn : List (Addr × Obj)} {cls : Value} {d : Option Addr} (C : ExcC X.K D) (hz : Zc cls d oe) (hf : ∃ vs, oe.data = .fields vs) : CallR (X.suite a ((a, oe) :: pn)) (.builtin "isinstance") (rIsX X.K D a cls d) := by
  intro pins s σ H xs us Q I r h
  obtain ⟨rfl, rfl, h⟩ := h
  exact call_isE C hz hf pins s σ H xs us Q I r h
theorem rc_isX {D a : Addr} {c : V} {cv : Value} {b : Bool} (hc : ∀ u, RelV c u → u = cv) (hk : PySem.W.kitOne K (.ref D) cv = some b) : RC (rIsX K D a (.ref D) none) [.ref a, c] H (.bl b) := fun H1 _ _ q => ⟨rfl, rfl, c, cv, b, rfl, hc, hk, q H1 (Ex.refl H1)⟩
end

/-! ### the draws of the laws: a cell's values -/
def lvMix (cell size : Int) (k : Nat) : Int := ((((cell.fmod 2147483647) * 48271 + (k : Int) * 69621 + 7).fmod 2147483647 * 16807).fmod 2147483647).fmod size
def lvStep (cell size : Int) (st : Int × List Int) (k : Nat) : Int × List Int :=
  if st.1 ≥ 10 ^ 12 then (st.1.fdiv size, st.2 ++ [st.1.fmod size]) else (st.1, st.2 ++ [lvMix cell size k])
def lvGo (cell size : Int) (n : Nat) : Int × List Int := (List.range n).foldl (lvStep cell size) (cell, [])
theorem lvGo_succ (cell size : Int) (n : Nat) : lvGo cell size (n + 1) = lvStep cell size (lvGo cell size n) n := by
  unfold lvGo
  rw [List.range_succ, List.foldl_append]
  rfl
/-- what _law_values gives -/
def lvals (cell : Int) (n : Nat) (size : Int) : List Int := (lvGo cell size n).2
theorem lvStep_len (cell size : Int) (st : Int × List Int) (k : Nat) : (lvStep cell size st k).2.length = st.2.length + 1 := by
  unfold lvStep
  split <;> simp
theorem lvals_len (cell : Int) (n : Nat) (size : Int) : (lvals cell n size).length = n := by
  unfold lvals
  induction n with
  | zero => rfl
  | succ n ih => rw [lvGo_succ, lvStep_len, ih]
theorem lvals_in {cell size : Int} (h : 0 < size) (n : Nat) : ∀ v ∈ lvals cell n size, 0 ≤ v ∧ v < size := by
  unfold lvals
  induction n with
  | zero => intro v hv; exact absurd hv List.not_mem_nil
  | succ n ih =>
    intro v hv
    rw [lvGo_succ] at hv
    unfold lvStep lvMix at hv
    have key : ∀ x : Int, 0 ≤ x.fmod size ∧ x.fmod size < size := fun x => ⟨Int.fmod_nonneg_of_pos x h, Int.fmod_lt_of_pos x h⟩
    split at hv
    · rcases List.mem_append.mp hv with q | q
      · exact ih v q
      · rw [List.mem_singleton.mp q]; exact key _
    · rcases List.mem_append.mp hv with q | q
      · exact ih v q
      · rw [List.mem_singleton.mp q]; exact key _

/-! ### texts and their codes -/
theorem map_at {α β : Type} {f : α → β} {l : List α} {i : Nat} {x : β} (h : (l.map f)[i]? = some x) : ∃ c, l[i]? = some c ∧ x = f c := by
  rw [List.getElem?_map] at h
  cases e : l[i]? with
  | none => rw [e] at h; cases h
  | some c => rw [e] at h; exact ⟨c, rfl, (Option.some.inj h).symm⟩
theorem sgns_map (z : Str) (f : V → V) : (sgns z).map f = z.cps.toList.map fun c => f (.str ⟨#[c]⟩) := by
  unfold sgns
  rw [List.map_map]
  rfl
theorem app_toList (x y : Str) : (x ++ y).cps.toList = x.cps.toList ++ y.cps.toList := TL.tl_append x y
theorem len_size (x : Str) : x.length = x.cps.toList.length := by simp [Str.length]
theorem str_ext {x y : Str} (h : x.cps.toList = y.cps.toList) : x = y := by
  cases x; cases y
  congr
  exact Array.toList_inj.mp h
end Gd

set_option Elab.async false
set_option linter.all false
set_option maxRecDepth 100000
set_option maxHeartbeats 4000000
/-! Of our own: draws that are popped off a list; lists of ints compared; digits. -/
namespace Gd
open PySem PySem.Spec PyProof.Rows L2 Evl
/-- all but p is kept -/
def But (p : Addr) (H H' : Hp) : Prop := ∀ b o, b ≠ p → H b = some o → H' b = some o
theorem But.refl {p : Addr} {H : Hp} : But p H H := fun _ _ _ h => h
theorem But.trans {p : Addr} {H H1 H2 : Hp} (a : But p H H1) (b : But p H1 H2) : But p H H2 := fun c o n h => b c o n (a c o n h)
theorem ex_but {p : Addr} {H H' : Hp} (e : Ex H H') : But p H H' := fun b o _ h => e b o h
theorem But.upd {p : Addr} {H : Hp} {o : HO} : But p H (upd H p o) := fun b u n h => by rw [upd_ne n]; exact h
theorem But.seq {K : PySem.W.Frag} {p a : Addr} {H H' : Hp} {xs : List V} (b : But p H H') (n : a ≠ p) (h : SqL K H a xs) : SqL K H' a xs := by
  rcases h with (h | ⟨o, h⟩) | h
  · exact .inl (.inl (b _ _ n h))
  · exact .inl (.inr ⟨o, b _ _ n h⟩)
  · exact .inr h
/-- what was free is free still, seen backwards -/
theorem But.free {p a : Addr} {H H' : Hp} {o : HO} (b : But p H H') (hp : H' p = some o) (h : H' a = none) : a ≠ p ∧ H a = none := by
  have n : a ≠ p := fun e => by rw [e, hp] at h; cases h
  refine ⟨n, ?_⟩
  cases e : H a with
  | none => rfl
  | some u => rw [b a u n e] at h; cases h
def Small (ds : List Int) : Prop := (∀ d ∈ ds, 0 ≤ d ∧ d < 1000) ∧ ds.length ≤ 20000
theorem Small.nil : Small [] := ⟨fun _ h => absurd h List.not_mem_nil, Nat.zero_le _⟩
theorem Small.app {ds es : List Int} (h1 : ∀ d ∈ ds, 0 ≤ d ∧ d < 1000) (h2 : ∀ d ∈ es, 0 ≤ d ∧ d < 1000) : ∀ d ∈ ds ++ es, 0 ≤ d ∧ d < 1000 := fun d hd => (List.mem_append.mp hd).elim (h1 d) (h2 d)
theorem Small.one {ds : List Int} {x : Int} (h1 : ∀ d ∈ ds, 0 ≤ d ∧ d < 1000) (h2 : 0 ≤ x ∧ x < 1000) : ∀ d ∈ ds ++ [x], 0 ≤ d ∧ d < 1000 := Small.app h1 fun d hd => by rw [List.mem_singleton.mp hd]; exact h2
def Drw (p : Addr) (H : Hp) : Prop := ∃ ds : List Int, H p = some (.lst (ds.map V.int)) ∧ Small ds
theorem Drw.ex {p : Addr} {H H' : Hp} (d : Drw p H) (e : Ex H H') : Drw p H' := let ⟨ds, h, s⟩ := d; ⟨ds, e _ _ h, s⟩
theorem fmod_in (x : Int) {m : Int} (h : 0 < m) : 0 ≤ x.fmod m ∧ x.fmod m < m := ⟨Int.fmod_nonneg_of_pos x h, Int.fmod_lt_of_pos x h⟩

/-! ### lists of ints compared -/
section
variable {K : PySem.W.Frag} {H : Hp} {σ : L2.St} {ta tb te : TE}
theorem can_ints : ∀ ns : List Int, PyData.canLayAll0 (ns.map PyData.int) = true
  | [] => by simp [PyData.canLayAll0]
  | n :: r => by
    rw [List.map_cons, PyData.canLayAll0, can_ints r, PyData.canLay0]
    rfl
theorem shaped_ints (ns : List Int) : SeqAt.shaped (.list (ns.map PyData.int)) = true := by
  unfold SeqAt.shaped
  rw [PyData.canLay0, can_ints, PyData.depth]
  have := depthAll_ints ns
  rw [Bool.true_and]
  exact decide_eq_true (by omega)
theorem eqv_ints : ∀ ns ms : List Int, PyData.eqvAll (ns.map PyData.int) (ms.map PyData.int) = decide (ns = ms)
  | [], [] => by simp [PyData.eqvAll]
  | [], m :: r => by simp [PyData.eqvAll]
  | n :: r, [] => by simp [PyData.eqvAll]
  | n :: r, m :: q => by
    rw [List.map_cons, List.map_cons, PyData.eqvAll, eqv_ints r q, PyData.eqv]
    by_cases h : n = m
    · subst h
      by_cases h2 : r = q
      · subst h2; simp
      · simp [h2]
    · simp [h]
theorem rv_eqL {a b : Addr} {ns ms : List Int} (ha : SqL K H a (ns.map V.int)) (hb : SqL K H b (ms.map V.int)) : RV (rEqD K) (.ref a) (.ref b) H (.bl (decide (ns = ms))) := fun H1 e Q q =>
  ⟨_, _, dp_ints (ex_l e ha), dp_ints (ex_l e hb), shaped_ints ns, shaped_ints ms, by rw [PyData.eqv, eqv_ints]; exact q H1 (Ex.refl H1)⟩
theorem rv_neL {a b : Addr} {ns ms : List Int} (ha : SqL K H a (ns.map V.int)) (hb : SqL K H b (ms.map V.int)) : RV (rNeD K) (.ref a) (.ref b) H (.bl (!decide (ns = ms))) := fun H1 e Q q =>
  ⟨_, _, dp_ints (ex_l e ha), dp_ints (ex_l e hb), shaped_ints ns, shaped_ints ms, by rw [PyData.eqv, eqv_ints]; exact q H1 (Ex.refl H1)⟩
def optV : Option Int → V
  | none => .non
  | some v => .int v
/-- value or 0 -/
theorem ev_or0 {o : Option Int} (h : Ev te σ H (optV o)) : Ev (tOrT K te (tC (.int 0))) σ H (.int (o.getD 0)) := fun H1 e Q q =>
  h H1 e _ fun H2 e2 => by
    cases o with
    | none => exact ⟨false, rfl, by rw [if_neg Bool.false_ne_true]; exact q H2 e2⟩
    | some v =>
      refine ⟨v != 0, rfl, ?_⟩
      by_cases hv : v = 0
      · subst hv
        exact q H2 e2
      · rw [if_pos (by simpa using hv)]
        exact q H2 e2
def rNotNn : R2 := fun x y H Q => y = .non ∧ Q (.bl (!decide (x = .non))) H
theorem rv_notN {o : Option Int} : RV rNotNn (optV o) .non H (.bl o.isSome) := fun H1 _ _ q => ⟨rfl, by
  have e : (!decide (optV o = .non)) = o.isSome := by
    cases o with
    | none => rfl
    | some v => exact by simp [optV]
  rw [e]
  exact q H1 (Ex.refl H1)⟩
theorem ev_listN {xs : List V} {a : Addr} (h : Ev te σ H (.ref a)) (hx : SqL K H a xs) : EvL (tCB (rListS K) (tCons te tNil)) σ H xs := el_list h hx
/-- the truth of a list -/
theorem et_truL {a : Addr} {xs : List V} (h : Ev te σ H (.ref a)) (hx : SqL K H a xs) : EvT (fun σ H Q => te σ H fun x H' => ∃ k, TruV K x H' k ∧ Q k H') σ H (!xs.isEmpty) := fun H1 e Q q =>
  h H1 e _ fun H2 e2 => ⟨!xs.isEmpty, .inl ⟨xs, ex_l (e.trans e2) hx, rfl⟩, q H2 e2⟩
end

/-! ### digits read -/
def isDg (c : Int) : Bool := decide (48 ≤ c) && decide (c ≤ 57)
def rdStep (st : List Int × Option Int) (c : Int) : List Int × Option Int :=
  if isDg c = true then (st.1, some (10 * st.2.getD 0 + c - 48)) else match st.2 with
    | some v => (st.1 ++ [v], none)
    | none => st
def rdFin (st : List Int × Option Int) : List Int := match st.2 with
  | some v => st.1 ++ [v]
  | none => st.1
def nn (c : Int) : Bool := decide (0 ≤ c)
def rdGo (ns : List Int) : List Int × Option Int := ns.foldl rdStep ([], none)
def rd (ns : List Int) : List Int := rdFin (rdGo (ns.takeWhile nn))
theorem at_sh {xs : List Nat} {c o n : Int} (h0 : 0 ≤ c - o) (hn : c - o < n) (ho : 0 ≤ o) (tab : ∀ k < n.toNat, xs[k]? = some (k + o.toNat)) : atI xs (c - o) = some c.toNat := by
  have e : c - o = (((c - o).toNat : Nat) : Int) := by omega
  rw [e]
  refine atI_nat ?_
  rw [tab _ (by omega)]
  congr 1
  omega
theorem takeWhile_pos {α : Type} {f : α → Bool} {l : List α} (h : l.takeWhile f = l) : ∀ z ∈ l, f z = true := by
  have e : (l.takeWhile f).all f = true := List.all_takeWhile
  rw [h] at e
  exact List.all_eq_true.mp e
theorem tw_stop {l : List Int} {i : Nat} {c : Int} (h : l[i]? = some c) (hc : nn c = false) (ht : (l.take i).takeWhile nn = l.take i) : l.takeWhile nn = l.take i := by
  have hi := (List.getElem?_eq_some_iff.mp h).1
  have e : l = l.take i ++ c :: l.drop (i + 1) := by
    have q := List.take_append_drop i l
    rw [List.drop_eq_getElem_cons hi] at q
    have hg : l[i] = c := by rw [List.getElem?_eq_getElem hi] at h; exact Option.some.inj h
    rw [hg] at q
    exact q.symm
  have q := congrArg (List.takeWhile nn) e
  rw [List.takeWhile_append_of_pos (fun z hz => takeWhile_pos ht z hz), List.takeWhile_cons, hc] at q
  simpa using q
theorem tw_len (l : List Int) : (l.takeWhile nn).length ≤ l.length := (List.takeWhile_sublist _).length_le
theorem foldl_snoc {α β : Type} {f : β → α → β} {b : β} {l : List α} {i : Nat} {x : α} (h : l[i]? = some x) : (l.take (i + 1)).foldl f b = f ((l.take i).foldl f b) x := by
  rw [take_snoc h, List.foldl_append]
  rfl
theorem rdGo_snoc {l : List Int} {i : Nat} {x : Int} (h : l[i]? = some x) : rdGo (l.take (i + 1)) = rdStep (rdGo (l.take i)) x := foldl_snoc h
theorem rdGo_len : ∀ (l : List Int), (rdGo l).1.length ≤ l.length := by
  intro l
  have key : ∀ (l : List Int) (st : List Int × Option Int), (l.foldl rdStep st).1.length ≤ st.1.length + l.length := by
    intro l
    induction l with
    | nil => intro st; simp
    | cons c r ih =>
      intro st
      have h1 := ih (rdStep st c)
      have h2 : (rdStep st c).1.length ≤ st.1.length + 1 := by
        unfold rdStep
        split
        · simp
        · split <;> simp
      rw [List.foldl_cons, List.length_cons]
      omega
  have := key l ([], none)
  unfold rdGo
  simpa using this
end Gd
namespace Gd
open PySem PySem.Spec PyProof.Rows L2 Evl
section
variable {K : PySem.W.Frag} {H : Hp} {σ : L2.St} {ta tb te : TE} {D : Ends} {tz : TS}
theorem rc_isList {p : Addr} {xs : List V} (h : H p = some (.lst xs)) : RC (rIsi K) [.ref p, .ty "list"] H (.bl true) := fun H1 e _ q => ⟨_, _, _, _, true, rfl, .ty "list", .base (.lst (e _ _ h)), kit_ty (by decide +kernel), q H1 (Ex.refl H1)⟩
/-- xs.extend([..]) -/
theorem s_ext {l : Addr} {xs ys : List V} (hl : H l = some (.lst xs)) (ha : Ev ta σ H (.ref l)) (h : EvL te σ H ys) (hz : xs.length + ys.length ≤ 100000) (k : ∀ H1, Ex H H1 → D.nx σ (upd H1 l (.lst (xs ++ ys)))) :
    tDrop (tBM K "list" rExtend ta (tCons te tNil)) D σ H := ha H (Ex.refl H) _ fun H1 e1 =>
  ⟨Or.inl ⟨rfl, xs, sq_of (e1 l _ hl)⟩, h H1 e1 _ fun p H2 hp e2 h2 => ⟨l, p, xs, ys, rfl, rfl, e2 l _ (e1 l _ hl), h2, sz_of hz, k H2 (e1.trans e2)⟩⟩
theorem q_ext {l : Addr} {xs ys : List V} (hl : H l = some (.lst xs)) (ha : Ev ta σ H (.ref l)) (h : EvL te σ H ys) (hz : xs.length + ys.length ≤ 100000) (k : ∀ H1, Ex H H1 → tz D σ (upd H1 l (.lst (xs ++ ys)))) :
    tSeq (tDrop (tBM K "list" rExtend ta (tCons te tNil))) tz D σ H := s_ext (D := { D with nx := tz D }) hl ha h hz k
/-- xs.reverse() -/
theorem q_rev {l : Addr} {xs : List V} (hl : H l = some (.lst xs)) (ha : Ev ta σ H (.ref l)) (k : ∀ H1, Ex H H1 → tz D σ (upd H1 l (.lst xs.reverse))) : tSeq (tDrop (tBM0 K "list" rReverse ta)) tz D σ H :=
  ha H (Ex.refl H) _ fun H1 e1 => ⟨Or.inl ⟨rfl, xs, sq_of (e1 l _ hl)⟩, l, xs, rfl, rfl, e1 l _ hl, k H1 e1⟩
/-- a + b, both lists -/
theorem el_cat {a : Addr} {xs ys : List V} (ha : Ev ta σ H (.ref a)) (hx : H a = some (.lst xs)) (hb : EvL tb σ H ys) (hz : xs.length + ys.length ≤ 100000) : EvL (tOp rCat ta tb) σ H (xs ++ ys) := fun H1 e Q q =>
  ha H1 e _ fun H2 e2 => hb H2 (e.trans e2) _ fun b H3 _ e3 h3 => ⟨a, b, xs, ys, rfl, rfl, e3 _ _ (e2 _ _ (e _ _ hx)), h3, sz_of hz, fun p hp => q p _ (fresh_back (e2.trans e3) hp) ((e2.trans e3).trans (Ex.new hp)) upd_same⟩
def rIntS : List V → Hp → VK → Prop := fun xs H Q => ∃ a n, xs = [.str a] ∧ PySem.intText? a = some n ∧ a.length ≤ 640 ∧ Q (.int n) H
theorem rc_intS {z : Str} {n : Int} (h : PySem.intText? z = some n) (hz : z.length ≤ 640) : RC rIntS [.str z] H (.int n) := fun H1 _ _ q => ⟨z, n, rfl, h, hz, q H1 (Ex.refl H1)⟩
theorem but_mut {p q : Addr} {H H' : Hp} {o : HO} (b : But p H H') (h : q = p) : But p H (upd H' q o) := fun c u n e => by
  rw [h, upd_ne n]
  exact b c u n e
end
end Gd
namespace Gd
open PySem PySem.Spec PyProof.Rows L2 Evl
/-! ### values that are not told, but bounded: what draws give -/
def EvP (te : TE) (σ : L2.St) (H : Hp) (P : V → Hp → Prop) : Prop := ∀ Q : VK, (∀ v H', P v H' → Q v H') → te σ H Q
def EtP (tt : TT) (σ : L2.St) (H : Hp) (P : Bool → Hp → Prop) : Prop := ∀ Q : Bool → Hp → Prop, (∀ b H', P b H' → Q b H') → tt σ H Q
/-- a drawn int d that keeps C; the draws at p have turned, all else stands -/
def DP (p : Addr) (H : Hp) (C : Int → Prop) : V → Hp → Prop := fun v H' => ∃ d : Int, v = .int d ∧ C d ∧ Drw p H' ∧ But p H H'
section
variable {K : PySem.W.Frag} {H : Hp} {σ : L2.St} {ta tb te : TE} {tt t u : TT} {D : Ends} {tu tz : TS} {P P1 : V → Hp → Prop} {p : Addr} {C C1 : Int → Prop}
theorem EvP.imp {P' : V → Hp → Prop} (h : EvP te σ H P) (k : ∀ v H', P v H' → P' v H') : EvP te σ H P' := fun Q q => h Q fun v H' z => q v H' (k v H' z)
theorem ep_of {v : V} (h : Ev te σ H v) : EvP te σ H (fun v' H' => v' = v ∧ Ex H H') := fun Q q => h H (Ex.refl H) Q fun H2 e2 => q v H2 ⟨rfl, e2⟩
theorem q_asgP {i : Nat} (h : EvP te σ H P) (k : ∀ v H', P v H' → tz D (σ.set i (some v)) H') : tSeq (tAsg te (gName i)) tz D σ H := h _ k
theorem s_asgP {i : Nat} (h : EvP te σ H P) (k : ∀ v H', P v H' → D.nx (σ.set i (some v)) H') : tAsg te (gName i) D σ H := h _ k
theorem s_retP (h : EvP te σ H P) (k : ∀ v H', P v H' → D.rt v H') : tRet te D σ H := h _ k
theorem ep_op {r : R2} (ha : EvP ta σ H P1) (hb : ∀ x H1, P1 x H1 → EvP tb σ H1 (fun y H2 => ∀ Q : VK, (∀ v H', P v H' → Q v H') → r x y H2 Q)) : EvP (tOp r ta tb) σ H P := fun Q q =>
  ha _ fun x H1 p1 => hb x H1 p1 _ fun y H2 h2 => h2 Q q
/-- i op (a drawn one) -/
theorem ep_opD {r : R2} {x : V} {g : Int → Int} (ha : Ev ta σ H x) (hb : ∀ H1, Ex H H1 → EvP tb σ H1 (DP p H1 C)) (hr : ∀ d H2 (Q : VK), C d → Q (.int (g d)) H2 → r x (.int d) H2 Q) (hC : ∀ d, C d → C1 (g d)) : EvP (tOp r ta tb) σ H (DP p H C1) := fun Q q =>
  ha H (Ex.refl H) _ fun H1 e1 => hb H1 e1 _ fun y H2 ⟨d, hv, hc, hD, b⟩ => by
    subst hv
    exact hr d H2 Q hc (q _ H2 ⟨g d, rfl, hC d hc, hD, (ex_but e1).trans b⟩)
/-- (a drawn one) op j -/
theorem ep_opL {r : R2} {y : V} {g : Int → Int} (ha : EvP ta σ H (DP p H C)) (hb : ∀ H1, Ev tb σ H1 y) (hr : ∀ d H2 (Q : VK), C d → Q (.int (g d)) H2 → r (.int d) y H2 Q) (hC : ∀ d, C d → C1 (g d)) : EvP (tOp r ta tb) σ H (DP p H C1) := fun Q q =>
  ha _ fun x H1 ⟨d, hv, hc, hD, b⟩ => by
    subst hv
    exact hb H1 H1 (Ex.refl H1) _ fun H2 e2 => hr d H2 Q hc (q _ H2 ⟨g d, rfl, hC d hc, hD.ex e2, b.trans (ex_but e2)⟩)
/-- two drawn ones -/
theorem ep_opDD {r : R2} {C2 : Int → Prop} {g : Int → Int → Int} (ha : EvP ta σ H (DP p H C)) (hb : ∀ H1, Drw p H1 → EvP tb σ H1 (DP p H1 C2)) (hr : ∀ d e H2 (Q : VK), C d → C2 e → Q (.int (g d e)) H2 → r (.int d) (.int e) H2 Q) (hC : ∀ d e, C d → C2 e → C1 (g d e)) : EvP (tOp r ta tb) σ H (DP p H C1) := fun Q q =>
  ha _ fun x H1 ⟨d, hv, hc, hD, b⟩ => by
    subst hv
    exact hb H1 hD _ fun y H2 ⟨e, hv2, hc2, hD2, b2⟩ => by
      subst hv2
      exact hr d e H2 Q hc hc2 (q _ H2 ⟨g d e, rfl, hC d e hc hc2, hD2, b.trans b2⟩)
/-- for k in range(drawn) -/
theorem q_forRP {j : Nat} (h : EvP te σ H P) (k : ∀ v H1, P v H1 → ∃ n : Nat, v = .int (n : Int) ∧ n ≤ 100000 ∧ ∃ Pv : Nat → L2.St → Hp → Prop, Pv 0 σ H1 ∧
    (∀ (i : Nat) σ' H', i < n → Pv i σ' H' → tu { D with nx := Pv (i + 1), ct := Pv (i + 1), bk := tz D } (σ'.set j (some (.int (i : Int)))) H') ∧ ∀ σ' H', Pv n σ' H' → tz D σ' H') :
    tSeq (tFor (iRng1 (tCons te tNil)) (gName j) tu) tz D σ H := h _ fun v H1 hv => by
  obtain ⟨n, rfl, hn, Pv, h0, hs, hd⟩ := k v H1 hv
  refine ⟨(n : Int), rfl, by omega, by omega, for_range (D := { D with nx := tz D }) (lo := 0) (n := n) Pv h0 (fun i σ' H' hi q => ?_) hd⟩
  have e0 : (0 : Int) + (i : Int) = (i : Int) := Int.zero_add _
  show tu { D with nx := Pv (i + 1), ct := Pv (i + 1), bk := tz D } (σ'.set j (some (.int ((0 : Int) + (i : Int))))) H'
  rw [e0]
  exact hs i σ' H' hi q
/-- the same, at a body's end -/
theorem s_forRP {j : Nat} (h : EvP te σ H P) (k : ∀ v H1, P v H1 → ∃ n : Nat, v = .int (n : Int) ∧ n ≤ 100000 ∧ ∃ Pv : Nat → L2.St → Hp → Prop, Pv 0 σ H1 ∧
    (∀ (i : Nat) σ' H', i < n → Pv i σ' H' → tu { D with nx := Pv (i + 1), ct := Pv (i + 1), bk := D.nx } (σ'.set j (some (.int (i : Int)))) H') ∧ ∀ σ' H', Pv n σ' H' → D.nx σ' H') :
    tFor (iRng1 (tCons te tNil)) (gName j) tu D σ H := q_forRP (tz := fun D => D.nx) (D := D) h k
/-- l.append(drawn) -/
theorem s_appP {l : Addr} {xs : List V} (ha : Ev ta σ H (.ref l)) (hl : H l = some (.lst xs)) (hz : xs.length < 100000) (h : ∀ H1, Ex H H1 → EvP te σ H1 P) (k : ∀ v H1, P v H1 → H1 l = some (.lst xs) ∧ D.nx σ (upd H1 l (.lst (xs ++ [v])))) :
    tDrop (tBM K "list" rAppend ta (tCons te tNil)) D σ H := ha H (Ex.refl H) _ fun H1 e1 =>
  ⟨Or.inl ⟨rfl, xs, sq_of (e1 l _ hl)⟩, h H1 e1 _ fun v H2 hv => ⟨l, xs, v, rfl, rfl, (k v H2 hv).1, sz_lt hz, (k v H2 hv).2⟩⟩
/-- tests -/
theorem etp_of {b : Bool} (h : EvT tt σ H b) : EtP tt σ H (fun b' H' => b' = b ∧ Ex H H') := fun Q q => h H (Ex.refl H) Q fun H2 e2 => q b H2 ⟨rfl, e2⟩
theorem etp_cmpD {r : R2} {y : V} {P2 : Bool → Hp → Prop} (ha : EvP ta σ H (DP p H C)) (hb : ∀ H1, Ev tb σ H1 y) (hr : ∀ d H2 (Q : VK), C d → (∀ b, Q (.bl b) H2) → r (.int d) y H2 Q) (k : ∀ b H', Drw p H' → But p H H' → P2 b H') : EtP (tTest (tOp r ta tb)) σ H P2 := fun Q q =>
  ha _ fun x H1 ⟨d, hv, hc, hD, b⟩ => by
    subst hv
    exact hb H1 H1 (Ex.refl H1) _ fun H2 e2 => hr d H2 _ hc fun b' => ⟨b', rfl, q b' H2 (k b' H2 (hD.ex e2) (b.trans (ex_but e2)))⟩
theorem etp_and {P1 P2 : Bool → Hp → Prop} (h1 : EtP t σ H P1) (h2 : ∀ H', P1 true H' → EtP u σ H' P2) (h3 : ∀ H', P1 false H' → P2 false H') : EtP (tAnd t u) σ H P2 := fun Q q =>
  h1 _ fun b H' hb => by
    cases b with
    | true => exact h2 H' hb Q q
    | false => exact q false H' (h3 H' hb)
theorem s_whenP {P2 : Bool → Hp → Prop} (h : EtP t σ H P2) (h1 : ∀ H', P2 true H' → tu D σ H') (h2 : ∀ H', P2 false H' → D.nx σ H') : tIfS t tu tNext D σ H := h _ fun b H' hb => by
  cases b with
  | true => exact h1 H' hb
  | false => exact h2 H' hb
/-- l[drawn] = e, e drawn -/
theorem s_setP {l : Addr} {to ti : TE} {P2 : V → Hp → Prop} (h : EvP te σ H P1) (ho : ∀ H1, Ev to σ H1 (.ref l)) (hi : ∀ v H1, P1 v H1 → ∀ H2, Ex H1 H2 → EvP ti σ H2 (P2))
    (k : ∀ v H1 H2 i H3, P1 v H1 → Ex H1 H2 → P2 i H3 → ∃ xs n j, i = .int n ∧ H3 l = some (.lst xs) ∧ ixN xs.length n = some j ∧ D.nx σ (upd H3 l (.lst (xs.set j v)))) : tAsg te (gSub to ti rSetL) D σ H := h _ fun v H1 hv =>
  ho H1 H1 (Ex.refl H1) _ fun H2 e2 => hi v H1 hv H2 e2 _ fun i H3 hi3 => by
    obtain ⟨xs, n, j, rfl, hl, hj, q⟩ := k v H1 H2 i H3 hv e2 hi3
    exact ⟨l, xs, n, j, rfl, rfl, hl, hj, q⟩
theorem dp_bk {p : Addr} {H H1 : Hp} {C C1 : Int → Prop} {v : V} {H' : Hp} (h : DP p H1 C v H') (b : But p H H1) (hC : ∀ d, C d → C1 d) : DP p H C1 v H' := let ⟨d, hv, hc, hD, b2⟩ := h; ⟨d, hv, hC d hc, hD, b.trans b2⟩
theorem ixN_of {n : Nat} {d : Int} (h0 : 0 ≤ d) (h1 : d < (n : Int)) : ixN n d = some d.toNat := by
  have e : d = ((d.toNat : Nat) : Int) := by omega
  rw [e]
  exact ixN_nat (by omega)
end
end Gd

set_option Elab.async false
set_option linter.all false
set_option maxRecDepth 100000
set_option maxHeartbeats 4000000
/-! Of our own: attributes, methods and dicts, by what evaluates. -/
namespace Gd
open PySem PySem.Spec PyProof.Rows L2 Evl
section
variable {K : PySem.W.Frag} {H : Hp} {σ : L2.St} {ta tb te tv td ty : TE} {t : TA} {D : Ends} {tz : TS} {a C dx : Addr} {fs : List (Str × V)} {f m : Str} {x y v z : V}
theorem ev_fld (h : Ev ta σ H (.ref a)) (ho : H a = some (.ins C dx fs)) (hc : Cls K C) (hn : NoAttr K C f) (hl : fs.lookup f = some v) : Ev (tFld K ta f) σ H v := fun H1 e Q q =>
  h H1 e _ fun H2 e2 => ⟨a, C, dx, fs, v, rfl, e2 _ _ (e _ _ ho), hc, hn, hl, q H2 e2⟩
theorem s_fld (hv : Ev tv σ H y) (ha : Ev ta σ H (.ref a)) (ho : H a = some (.ins C dx fs)) (hc : Cls K C) (hn : NoAttr K C f) (hz : fs.length < 1000) (k : ∀ H1, Ex H H1 → D.nx σ (upd H1 a (.ins C dx (putF f y fs)))) : sFld K ta tv f D σ H :=
  hv H (Ex.refl H) _ fun H1 e1 => ha H1 e1 _ fun H2 e2 => ⟨a, C, dx, fs, rfl, e2 _ _ (e1 _ _ ho), hc, hn, hz, k H2 (e1.trans e2)⟩
theorem q_fld (hv : Ev tv σ H y) (ha : Ev ta σ H (.ref a)) (ho : H a = some (.ins C dx fs)) (hc : Cls K C) (hn : NoAttr K C f) (hz : fs.length < 1000) (k : ∀ H1, Ex H H1 → tz D σ (upd H1 a (.ins C dx (putF f y fs)))) : tSeq (sFld K ta tv f) tz D σ H :=
  s_fld (D := { D with nx := tz D }) hv ha ho hc hn hz k
/-- o.f = [..], a new list -/
theorem s_fldL {xs : List V} (hv : EvL tv σ H xs) (ha : Ev ta σ H (.ref a)) (ho : H a = some (.ins C dx fs)) (hc : Cls K C) (hn : NoAttr K C f) (hz : fs.length < 1000) (k : ∀ p H1, H p = none → Ex H H1 → H1 p = some (.lst xs) → D.nx σ (upd H1 a (.ins C dx (putF f (.ref p) fs)))) : sFld K ta tv f D σ H :=
  hv H (Ex.refl H) _ fun p H1 hp e1 h1 => ha H1 e1 _ fun H2 e2 => ⟨a, C, dx, fs, rfl, e2 _ _ (e1 _ _ ho), hc, hn, hz, k p H2 hp (e1.trans e2) (e2 _ _ h1)⟩
theorem q_fldL {xs : List V} (hv : EvL tv σ H xs) (ha : Ev ta σ H (.ref a)) (ho : H a = some (.ins C dx fs)) (hc : Cls K C) (hn : NoAttr K C f) (hz : fs.length < 1000) (k : ∀ p H1, H p = none → Ex H H1 → H1 p = some (.lst xs) → tz D σ (upd H1 a (.ins C dx (putF f (.ref p) fs)))) : tSeq (sFld K ta tv f) tz D σ H :=
  s_fldL (D := { D with nx := tz D }) hv ha ho hc hn hz k
/-- o.f += e, ints -/
theorem s_fldaug {i j : Int} (ha : Ev ta σ H (.ref a)) (ho : H a = some (.ins C dx fs)) (hc : Cls K C) (hn : NoAttr K C f) (hl : fs.lookup f = some (.int i)) (hv : ∀ H1, Ex H H1 → Ev tv σ H1 (.int j)) (hz : fs.length < 1000) (k : ∀ H1, Ex H H1 → D.nx σ (upd H1 a (.ins C dx (putF f (.int (i + j)) fs)))) : sFldAug K ta tv L2.rAdd f D σ H :=
  ha H (Ex.refl H) _ fun H1 e1 => ⟨a, C, dx, fs, .int i, rfl, e1 _ _ ho, hc, hn, hl, hv H1 e1 H1 (Ex.refl H1) _ fun H2 e2 => ⟨i, j, rfl, rfl, dx, fs, e2 _ _ (e1 _ _ ho), hz, k H2 (e1.trans e2)⟩⟩
theorem q_fldaug {i j : Int} (ha : Ev ta σ H (.ref a)) (ho : H a = some (.ins C dx fs)) (hc : Cls K C) (hn : NoAttr K C f) (hl : fs.lookup f = some (.int i)) (hv : ∀ H1, Ex H H1 → Ev tv σ H1 (.int j)) (hz : fs.length < 1000) (k : ∀ H1, Ex H H1 → tz D σ (upd H1 a (.ins C dx (putF f (.int (i + j)) fs)))) : tSeq (sFldAug K ta tv L2.rAdd f) tz D σ H :=
  s_fldaug (D := { D with nx := tz D }) ha ho hc hn hl hv hz k
/-- o.m(..) -/
theorem ep_meth {sp : Sp} {E : XK} {vs : List V} {P : V → Hp → Prop} (ha : Ev ta σ H (.ref a)) (ho : H a = some (.ins C dx fs)) (hl : fs.lookup m = none) (ht : EvA t σ H vs) (hs : ∀ H1, Ex H H1 → ∀ Q : VK, (∀ v H', P v H' → Q v H') → sp (.ref a :: (vs ++ [])) H1 Q E) : EvP (tMeth C m sp [] E ta t) σ H P := fun Q q =>
  ha H (Ex.refl H) _ fun H1 e1 => ⟨a, dx, fs, rfl, e1 _ _ ho, hl, ht H1 e1 _ fun H2 e2 => hs H2 (e1.trans e2) Q q⟩
theorem ep_call {sp : Sp} {E : XK} {vs dvs : List V} {P : V → Hp → Prop} (ht : EvA t σ H vs) (hs : ∀ H1, Ex H H1 → ∀ Q : VK, (∀ v H', P v H' → Q v H') → sp (vs ++ dvs) H1 Q E) : EvP (tCall sp dvs E t) σ H P := fun Q q => ht H (Ex.refl H) _ fun H1 e1 => hs H1 e1 Q q
theorem q_dropP {P : V → Hp → Prop} (h : EvP te σ H P) (k : ∀ v H', P v H' → tz D σ H') : tSeq (tDrop te) tz D σ H := h _ k
theorem s_dropP {P : V → Hp → Prop} (h : EvP te σ H P) (k : ∀ v H', P v H' → D.nx σ H') : tDrop te D σ H := h _ k
/-- the truth of a bool that is read as any value -/
theorem et_truB {b : Bool} (h : Ev te σ H (.bl b)) : EvT (fun σ H Q => te σ H fun x H' => ∃ k, TruV K x H' k ∧ Q k H') σ H b := fun H1 e Q q => h H1 e _ fun H2 e2 => ⟨b, rfl, q H2 e2⟩
/-- d[k], d[k] = v -/
theorem ev_dget {kvs : List (Key × V)} {k : Key} (h : Ev td σ H (.ref a)) (hk : Ev ty σ H (kV k)) (hd : H a = some (.dK kvs)) (hv : valV kvs k = some v) : Ev (tDGet td ty) σ H v := fun H1 e Q q =>
  h H1 e _ fun H2 e2 => hk H2 (e.trans e2) _ fun H3 e3 => ⟨a, v, rfl, by rw [← hv]; exact DGet.k (e3 _ _ (e2 _ _ (e _ _ hd))), q H3 (e2.trans e3)⟩
theorem s_dput {kvs : List (Key × V)} {k : Key} (hv : Ev tv σ H v) (h : Ev td σ H (.ref a)) (hk : Ev ty σ H (kV k)) (hd : H a = some (.dK kvs)) (hz : kvs.length < 1000) (q : ∀ H1, Ex H H1 → D.nx σ (upd H1 a (.dK (putK kvs k v)))) : sDPut td ty tv D σ H :=
  hv H (Ex.refl H) _ fun H1 e1 => h H1 e1 _ fun H2 e2 => hk H2 (e1.trans e2) _ fun H3 e3 => ⟨a, _, rfl, DPut.k (e3 _ _ (e2 _ _ (e1 _ _ hd))) (Nat.lt_of_lt_of_le hz (by decide)), q H3 ((e1.trans e2).trans e3)⟩
theorem q_dput {kvs : List (Key × V)} {k : Key} (hv : Ev tv σ H v) (h : Ev td σ H (.ref a)) (hk : Ev ty σ H (kV k)) (hd : H a = some (.dK kvs)) (hz : kvs.length < 1000) (q : ∀ H1, Ex H H1 → tz D σ (upd H1 a (.dK (putK kvs k v)))) : tSeq (sDPut td ty tv) tz D σ H :=
  s_dput (D := { D with nx := tz D }) hv h hk hd hz q
end
end Gd
namespace Gd
open PySem PySem.Spec PyProof.Rows L2 Evl
/-- [..][drawn] -/
theorem ep_ixD {K : PySem.W.Frag} {H : Hp} {σ : L2.St} {ta tb : TE} {p : Addr} {C1 : Int → Prop} {ms : List Int} (hl : EvL ta σ H (ms.map V.int)) (hD : Drw p H) (hb : ∀ H1, Ex H H1 → EvP tb σ H1 (DP p H1 fun d => 0 ≤ d ∧ d < (ms.length : Int))) (hC : ∀ m ∈ ms, C1 m) :
    EvP (tOp (rIxL K) ta tb) σ H (DP p H C1) := fun Q q =>
  hl H (Ex.refl H) _ fun l H1 hl0 e1 h1 => hb H1 e1 _ fun v H2 ⟨d, hv, hd, hD2, b⟩ => by
    subst hv
    have nlp : l ≠ p := fun e => by
      obtain ⟨ds, h, _⟩ := hD
      rw [e, h] at hl0
      cases hl0
    obtain ⟨j, rfl⟩ : ∃ j : Nat, d = (j : Int) := ⟨d.toNat, by omega⟩
    have hlt : j < ms.length := by omega
    refine ⟨l, ms.map V.int, (j : Int), .int ms[j], rfl, rfl, sq_of (b _ _ nlp h1), atI_nat ?_, q _ H2 ⟨_, rfl, hC _ (List.getElem_mem _), hD2, (ex_but e1).trans b⟩⟩
    rw [List.getElem?_map, List.getElem?_eq_getElem hlt]
    rfl
theorem s_retPL {K : PySem.W.Frag} {te : TE} {σ : L2.St} {H : Hp} {D : Ends} {P : V → Hp → Prop} (h : EvP te σ H P) (k : ∀ v H', P v H' → D.rt v H') : tRet te D σ H := h _ k
end Gd

set_option Elab.async false
set_option linter.all false
set_option maxRecDepth 100000
set_option maxHeartbeats 4000000
/-! Of our own: tests that change the heap, slices of int lists, lists of int lists. -/
namespace Gd
open PySem PySem.Spec PyProof.Rows L2 Evl
section
variable {K : PySem.W.Frag} {H : Hp} {σ : L2.St} {ta tb te : TE} {t u : TT} {D : Ends} {tz tu : TS}
theorem rc_isBool {b : Bool} : RC (rIsi K) [.bl b, .ty "bool"] H (.bl true) := fun H1 _ _ q => ⟨_, _, _, _, true, rfl, .ty "bool", .base (.bl b), kit_ty (by decide +kernel), q H1 (Ex.refl H1)⟩
theorem etp_or {P1 P2 : Bool → Hp → Prop} (h1 : EtP t σ H P1) (h3 : ∀ H', P1 true H' → P2 true H') (h2 : ∀ H', P1 false H' → EtP u σ H' P2) : EtP (tOr t u) σ H P2 := fun Q q =>
  h1 _ fun b H' hb => by
    cases b with
    | true => exact q true H' (h3 H' hb)
    | false => exact h2 H' hb Q q
theorem etp_op {r : R2} {P : V → Hp → Prop} {P2 : Bool → Hp → Prop} (ha : EvP ta σ H P) (hb : ∀ v H1, P v H1 → ∃ y b, Ev tb σ H1 y ∧ RV r v y H1 (.bl b) ∧ ∀ H', Ex H1 H' → P2 b H') : EtP (tTest (tOp r ta tb)) σ H P2 := fun Q q =>
  ha _ fun v H1 hv => by
    obtain ⟨y, b, h2, h3, h4⟩ := hb v H1 hv
    exact h2 H1 (Ex.refl H1) _ fun H2 e2 => h3 H2 e2 _ fun H3 e3 => ⟨b, rfl, q b H3 (h4 H3 (e2.trans e3))⟩
theorem etp_imp {P1 P2 : Bool → Hp → Prop} (h1 : EtP t σ H P1) (k : ∀ b H', P1 b H' → P2 b H') : EtP t σ H P2 := fun Q q => h1 Q fun b H' hb => q b H' (k b H' hb)
theorem etp_not {P1 P2 : Bool → Hp → Prop} (h1 : EtP t σ H P1) (k : ∀ b H', P1 b H' → P2 (!b) H') : EtP (tNot t) σ H P2 := fun Q q => h1 _ fun b H' hb => q (!b) H' (k b H' hb)
theorem etp_B {P : V → Hp → Prop} {P2 : Bool → Hp → Prop} (h : EvP te σ H P) (k : ∀ v H', P v H' → ∃ b, v = .bl b ∧ P2 b H') : EtP (tB te) σ H P2 := fun Q q => h _ fun v H' hv => by
  obtain ⟨b, rfl, hb⟩ := k v H' hv
  exact ⟨b, rfl, q b H' hb⟩
theorem q_whenP {P2 : Bool → Hp → Prop} (h : EtP t σ H P2) (h1 : ∀ H', P2 true H' → tu { D with nx := tz D } σ H') (h2 : ∀ H', P2 false H' → tz D σ H') : tSeq (tIfS t tu tNext) tz D σ H := s_whenP (D := { D with nx := tz D }) h h1 h2
theorem cut_ints (cs : List Int) (i j : Nat) : cutV (cs.map V.int) (some (i : Int)) (some (j : Int)) = ((cs.drop i).take (j - i)).map V.int := by
  unfold cutV
  rw [HT.sIx_nat, HT.sIx_nat, List.length_map, ← List.map_drop, ← List.map_take]
  congr 1
  rcases Nat.lt_or_ge cs.length i with h | h
  · rw [List.drop_eq_nil_of_le (by omega), List.drop_eq_nil_of_le (by omega), List.take_nil, List.take_nil]
  · rw [Nat.min_eq_left h]
    rcases Nat.lt_or_ge cs.length j with g | g
    · rw [Nat.min_eq_right (by omega), List.take_of_length_le (by rw [List.length_drop]; omega), List.take_of_length_le (by rw [List.length_drop]; omega)]
    · rw [Nat.min_eq_left g]
theorem cut_from (cs : List Int) (i : Nat) : cutV (cs.map V.int) (some (i : Int)) none = (cs.drop i).map V.int := by
  unfold cutV
  rw [HT.sIx_nat, HT.sIx_none, List.length_map, ← List.map_drop, ← List.map_take]
  congr 1
  rcases Nat.lt_or_ge cs.length i with h | h
  · rw [List.drop_eq_nil_of_le (by omega), List.drop_eq_nil_of_le (by omega), List.take_nil]
  · rw [Nat.min_eq_left h, List.take_of_length_le (by rw [List.length_drop]; omega)]
/-- lists of int lists -/
def Pcs (H : Hp) : List Addr → List (List Int) → Prop
  | [], [] => True
  | a :: as, l :: ls => H a = some (.lst (l.map V.int)) ∧ Pcs H as ls
  | _, _ => False
theorem Pcs.keep {H H' : Hp} : ∀ {as : List Addr} {ls : List (List Int)}, Pcs H as ls → (∀ a o, a ∈ as → H a = some o → H' a = some o) → Pcs H' as ls
  | [], [], _, _ => trivial
  | a :: as, l :: ls, h, k => ⟨k a _ (List.mem_cons_self) h.1, Pcs.keep h.2 fun b o m => k b o (List.mem_cons_of_mem _ m)⟩
  | [], _ :: _, h, _ => h.elim
  | _ :: _, [], h, _ => h.elim
theorem Pcs.ex {H H' : Hp} {as : List Addr} {ls : List (List Int)} (h : Pcs H as ls) (e : Ex H H') : Pcs H' as ls := h.keep fun a o _ => e a o
theorem Pcs.len {H : Hp} : ∀ {as : List Addr} {ls : List (List Int)}, Pcs H as ls → as.length = ls.length
  | [], [], _ => rfl
  | a :: as, l :: ls, h => by rw [List.length_cons, List.length_cons, h.2.len]
  | [], _ :: _, h => h.elim
  | _ :: _, [], h => h.elim
theorem Pcs.snoc {H : Hp} : ∀ {as : List Addr} {ls : List (List Int)} {a : Addr} {l : List Int}, Pcs H as ls → H a = some (.lst (l.map V.int)) → Pcs H (as ++ [a]) (ls ++ [l])
  | [], [], _, _, _, h => ⟨h, trivial⟩
  | b :: as, m :: ls, _, _, g, h => ⟨g.1, g.2.snoc h⟩
  | [], _ :: _, _, _, g, _ => g.elim
  | _ :: _, [], _, _, g, _ => g.elim
theorem Pcs.at {H : Hp} : ∀ {as : List Addr} {ls : List (List Int)}, Pcs H as ls → ∀ i, i < as.length → ∃ a l, as[i]? = some a ∧ ls[i]? = some l ∧ a ∈ as ∧ H a = some (.lst (l.map V.int))
  | [], [], _, i, h => absurd h (Nat.not_lt_zero i)
  | a :: as, l :: ls, h, 0, _ => ⟨a, l, rfl, rfl, List.mem_cons_self, h.1⟩
  | a :: as, l :: ls, h, i + 1, g => by
    obtain ⟨b, m, h1, h2, h3, h4⟩ := h.2.at i (by simpa using g)
    exact ⟨b, m, by rw [List.getElem?_cons_succ]; exact h1, by rw [List.getElem?_cons_succ]; exact h2, List.mem_cons_of_mem _ h3, h4⟩
  | [], _ :: _, h, _, _ => h.elim
  | _ :: _, [], h, _, _ => h.elim
theorem Pcs.some {H : Hp} : ∀ {as : List Addr} {ls : List (List Int)}, Pcs H as ls → ∀ a ∈ as, ∃ o, H a = some o
  | [], [], _, a, h => nomatch h
  | b :: as, l :: ls, h, a, m => by
    rcases List.mem_cons.mp m with rfl | m
    · exact ⟨_, h.1⟩
    · exact h.2.some a m
  | [], _ :: _, h, _, _ => h.elim
  | _ :: _, [], h, _, _ => h.elim
/-- all but the given addresses keep what they hold -/
def Bu (L : List Addr) (H H' : Hp) : Prop := ∀ b o, b ∉ L → H b = some o → H' b = some o
theorem Bu.refl {L : List Addr} {H : Hp} : Bu L H H := fun _ _ _ h => h
theorem Bu.trans {L : List Addr} {H H1 H2 : Hp} (a : Bu L H H1) (b : Bu L H1 H2) : Bu L H H2 := fun c o n h => b c o n (a c o n h)
theorem Bu.mono {L L' : List Addr} {H H' : Hp} (b : Bu L H H') (m : ∀ a ∈ L, a ∈ L') : Bu L' H H' := fun c o n h => b c o (fun g => n (m c g)) h
theorem ex_bu {L : List Addr} {H H' : Hp} (e : Ex H H') : Bu L H H' := fun b o _ h => e b o h
theorem Bu.upd {L : List Addr} {H H' : Hp} {a : Addr} {o : HO} (b : Bu L H H') (m : a ∈ L ∨ H a = none) : Bu L H (upd H' a o) := fun c u n h => by
  rcases m with m | m
  · rw [upd_ne (fun e => n (by rw [e]; exact m))]
    exact b c u n h
  · rw [upd_ne (ne_of_none h m)]
    exact b c u n h
theorem el_callL {sp : Sp} {dvs xs ys : List V} {E : XK} (h : EvL te σ H xs) (hs : ∀ p H1, H1 p = some (.lst xs) → Ex H H1 → SpL sp ([.ref p] ++ dvs) H1 ys) : EvL (tCall sp dvs E (tCons te tNil)) σ H ys := fun H0 e Q q =>
  h H0 e _ fun p H1 _ e1 hp => hs p H1 hp (e.trans e1) H1 (Ex.refl H1) Q (fun p' H2 hp' e2 h2 => q p' H2 (fresh_back e1 hp') (e1.trans e2) h2) E
theorem len_flat {α : Type} {ps : List (List α)} {i : Nat} {l : List α} (h : ps[i]? = some l) : l.length ≤ ps.flatten.length := by
  induction ps generalizing i with
  | nil => simp at h
  | cons a r ih =>
    rw [List.flatten_cons, List.length_append]
    cases i with
    | zero => simp at h; subst h; omega
    | succ i => have := ih (by simpa using h); omega
theorem len_take_flat {α : Type} (ps : List (List α)) (i : Nat) : (ps.take i).flatten.length ≤ ps.flatten.length := by
  have h := congrArg List.length (congrArg List.flatten (List.take_append_drop i ps))
  rw [List.flatten_append, List.length_append] at h
  omega
theorem take_snocF {α : Type} {ps : List (List α)} {i : Nat} {l : List α} (h : ps[i]? = some l) : (ps.take (i + 1)).flatten = (ps.take i).flatten ++ l := by
  rw [List.take_succ, h]
  simp
end
end Gd

set_option Elab.async false
set_option linter.all false
set_option maxRecDepth 100000
set_option maxHeartbeats 4000000
/-! Of our own: a dict of the top whose keys are ints; keyword-only parameters. -/
namespace Gd
open PySem PySem.Spec PyProof.Rows L2 Evl
/-- the pairs of a dict with int keys, where it is one -/
def ikeys : List DictEntry → Option (List (Int × Value))
  | [] => some []
  | e :: r => match e.key with
    | .int k _ => if e.hash == hashInt k then (ikeys r).map fun l => (k, e.val) :: l else none
    | _ => none
theorem ikeys_all : ∀ {es : List DictEntry} {tb : List (Int × Value)}, ikeys es = some tb → ∀ e ∈ es, ∃ k, Value.isInt k e.key = true ∧ e.hash = hashInt k
  | [], _, _, e, m => nomatch m
  | d :: r, tb, h, e, m => by
    unfold ikeys at h
    split at h
    · rename_i k t hk
      split at h
      · rename_i hh
        cases g : ikeys r with
        | none => rw [g] at h; cases h
        | some l =>
          rcases List.mem_cons.mp m with rfl | m
          · exact ⟨k, by rw [hk]; simp [Value.isInt], by simpa using hh⟩
          · exact ikeys_all g e m
      · cases h
    · cases h
theorem ikeys_find : ∀ {es : List DictEntry} {tb : List (Int × Value)}, ikeys es = some tb → ∀ i, (es.find? fun e => Value.isInt i e.key).map (·.val) = tb.lookup i
  | [], tb, h, i => by
    unfold ikeys at h
    cases h
    rfl
  | d :: r, tb, h, i => by
    unfold ikeys at h
    split at h
    · rename_i k t hk
      split at h
      · cases g : ikeys r with
        | none => rw [g] at h; cases h
        | some l =>
          rw [g] at h
          cases h
          rw [List.find?_cons, hk, List.lookup_cons]
          have ih := ikeys_find g i
          by_cases e : i = k
          · subst e
            simp [Value.isInt]
          · have e1 : Value.isInt i (.int k t) = false := by
              simp [Value.isInt]
              intro z
              exact e z.symm
            have e2 : (i == k) = false := by simpa using e
            rw [e1, e2]
            exact ih
      · cases h
    · cases h
/-- at d: a dict of the top with int keys -/
structure ITab (K : PySem.W.Frag) (d : Addr) (tb : List (Int × Value)) : Prop where
  ex : ∃ es n, K.lookup d = some ⟨.type "dict", none, .dict es n, #[]⟩ ∧ ikeys es.toList = some tb
  low : (d == sysModules) = false
section
variable {X : Cx} {d : Addr} {tb : List (Int × Value)}
theorem itab_map {pins : List (Addr × Obj)} {σ : L2.St} {H : Hp} {s : Shared} (D : ITab X.K d tb) (I : Inv X pins σ H s) : s.heap.MapOf (intKind X.prog X.w) d (fun k => tb.lookup k) := by
  obtain ⟨es, n, hl, hk⟩ := D.ex
  refine ⟨_, es, n, I.kIn _ _ hl, ⟨rfl, rfl, rfl⟩, rfl, fun e he => ?_, fun k => ?_⟩
  · obtain ⟨k, h1, h2⟩ := ikeys_all hk e (Array.mem_toList_iff.mpr he)
    exact ⟨k, h1, h2⟩
  · have := ikeys_find hk k
    obtain ⟨l⟩ := es
    show findBy Value.isInt _ k = tb.lookup k
    unfold findBy
    rw [List.find?_toArray]
    exact this
theorem op_in_it (D : ITab X.K d tb) : OpR X (compareOp .In) (fun x y H Q => ∃ i : Int, x = .int i ∧ y = .ref d ∧ Q (.bl (tb.lookup i).isSome) H) := by
  intro pins s σ H x y v u Q I rx ry h
  obtain ⟨i, rfl, rfl, q⟩ := h
  obtain ⟨t, rfl⟩ := rx
  cases ry
  refine wpAny_in_of (knd := intKind X.prog X.w) (k := i) (by simp [intKind, Value.isInt]) D.low (itab_map D I) ?_
  exact ⟨.bl (tb.lookup i).isSome, H, I.tok _, rfl, q⟩
theorem ix_it (D : ITab X.K d tb) : IxR X (fun x y H Q => ∃ (i : Int) (u : Value) (v : V), x = .ref d ∧ y = .int i ∧ tb.lookup i = some u ∧ RelV v u ∧ Q v H) := by
  intro value slice pins s σ H x y v u Q I rx ry h hs
  obtain ⟨i, u0, r, rfl, rfl, e, ru, q⟩ := h
  obtain rfl : v = Value.ref d := rx
  obtain ⟨t, rfl⟩ := ry
  have hm := itab_map D I
  exact tail_any hm.typeIs slot_dict_getitem.lookup (wpAny_getItem_of (knd := intKind X.prog X.w) (k := i) (by simp [intKind, Value.isInt]) hm e ⟨r, H, I.tok _, ru, q⟩) hs
end
section
variable {H : Hp} {d : Addr} {tb : List (Int × Value)} {c : Int}
theorem rv_it {u : Value} (h : tb.lookup c = some u) : RV (fun x y H Q => ∃ i : Int, x = .int i ∧ y = .ref d ∧ Q (.bl (tb.lookup i).isSome) H) (.int c) (.ref d) H (.bl true) := fun H1 _ _ q => ⟨c, rfl, rfl, by rw [h]; exact q H1 (Ex.refl H1)⟩
theorem rv_it0 (h : tb.lookup c = none) : RV (fun x y H Q => ∃ i : Int, x = .int i ∧ y = .ref d ∧ Q (.bl (tb.lookup i).isSome) H) (.int c) (.ref d) H (.bl false) := fun H1 _ _ q => ⟨c, rfl, rfl, by rw [h]; exact q H1 (Ex.refl H1)⟩
theorem rv_ix_it {a : Addr} (h : tb.lookup c = some (.ref a)) : RV (fun x y H Q => ∃ (i : Int) (u : Value) (v : V), x = .ref d ∧ y = .int i ∧ tb.lookup i = some u ∧ RelV v u ∧ Q v H) (.ref d) (.int c) H (.ref a) := fun H1 _ _ q => ⟨c, .ref a, .ref a, rfl, rfl, h, rfl, q H1 (Ex.refl H1)⟩
end
section
variable {K : PySem.W.Frag} {H : Hp} {σ : L2.St} {ta tv : TE} {D : Ends} {tz : TS} {a C dx : Addr} {fs : List (Str × V)} {f : Str}
/-- o.f = e, where e changes the heap -/
theorem s_fldP {P : V → Hp → Prop} (hv : EvP tv σ H P) (k : ∀ v H1, P v H1 → ∃ C dx fs, H1 a = some (.ins C dx fs) ∧ (∀ H2, Ex H1 H2 → Ev ta σ H2 (.ref a)) ∧ Cls K C ∧ NoAttr K C f ∧ fs.length < 1000 ∧ ∀ H2, Ex H1 H2 → D.nx σ (upd H2 a (.ins C dx (putF f v fs)))) : sFld K ta tv f D σ H :=
  hv _ fun v H1 h1 => by
    obtain ⟨C, dx, fs, ho, ha, hc, hn, hz, q⟩ := k v H1 h1
    exact ha H1 (Ex.refl H1) H1 (Ex.refl H1) _ fun H2 e2 => ⟨a, C, dx, fs, rfl, e2 _ _ ho, hc, hn, hz, q H2 e2⟩
theorem q_fldP {P : V → Hp → Prop} (hv : EvP tv σ H P) (k : ∀ v H1, P v H1 → ∃ C dx fs, H1 a = some (.ins C dx fs) ∧ (∀ H2, Ex H1 H2 → Ev ta σ H2 (.ref a)) ∧ Cls K C ∧ NoAttr K C f ∧ fs.length < 1000 ∧ ∀ H2, Ex H1 H2 → tz D σ (upd H2 a (.ins C dx (putF f v fs)))) : tSeq (sFld K ta tv f) tz D σ H :=
  s_fldP (D := { D with nx := tz D }) hv k
end
section
variable {H : Hp} {σ : L2.St} {td ty tv : TE} {D : Ends} {tz : TS} {a : Addr}
/-- d[k] = e, where e changes the heap -/
theorem s_dputP {P : V → Hp → Prop} {k : Key} (hv : EvP tv σ H P) (q : ∀ v H1, P v H1 → ∃ kvs, H1 a = some (.dK kvs) ∧ (∀ H2, Ex H1 H2 → Ev td σ H2 (.ref a)) ∧ (∀ H2, Ex H1 H2 → Ev ty σ H2 (kV k)) ∧ kvs.length < 1000 ∧ ∀ H2, Ex H1 H2 → D.nx σ (upd H2 a (.dK (putK kvs k v)))) : sDPut td ty tv D σ H :=
  hv _ fun v H1 h1 => by
    obtain ⟨kvs, hd, ha, hk, hz, g⟩ := q v H1 h1
    exact ha H1 (Ex.refl H1) H1 (Ex.refl H1) _ fun H2 e2 => hk H2 e2 H2 (Ex.refl H2) _ fun H3 e3 => ⟨a, _, rfl, DPut.k (e3 _ _ (e2 _ _ hd)) (Nat.lt_of_lt_of_le hz (by decide)), g H3 (e2.trans e3)⟩
theorem q_dputP {P : V → Hp → Prop} {k : Key} (hv : EvP tv σ H P) (q : ∀ v H1, P v H1 → ∃ kvs, H1 a = some (.dK kvs) ∧ (∀ H2, Ex H1 H2 → Ev td σ H2 (.ref a)) ∧ (∀ H2, Ex H1 H2 → Ev ty σ H2 (kV k)) ∧ kvs.length < 1000 ∧ ∀ H2, Ex H1 H2 → tz D σ (upd H2 a (.dK (putK kvs k v)))) : tSeq (sDPut td ty tv) tz D σ H :=
  s_dputP (D := { D with nx := tz D }) hv q
end
section
variable {K : PySem.W.Frag} {H : Hp} {σ : L2.St} {tl : TE} {tu tz : TS} {D : Ends} {a1 b1 a2 b2 : TE} {x1 y1 x2 y2 : V}
theorem q_forLP {P : V → Hp → Prop} {j : Nat} (h : EvP tl σ H P) (k : ∀ v H1, P v H1 → ∃ a xs, v = .ref a ∧ SqL K H1 a xs ∧ ∃ Pv : Nat → L2.St → Hp → Prop, Pv 0 σ H1 ∧ (∀ i σ' H', i ≤ xs.length → Pv i σ' H' → SqL K H' a xs) ∧
    (∀ i x σ' H', xs[i]? = some x → Pv i σ' H' → tu { D with nx := Pv (i + 1), ct := Pv (i + 1), bk := tz D } (σ'.set j (some x)) H') ∧ (∀ σ' H', Pv xs.length σ' H' → tz D σ' H')) : tSeq (tFor (iList K tl) (gName j) tu) tz D σ H :=
  h _ fun v H1 hv => by
    obtain ⟨a, xs, rfl, hx, Pv, h0, hl, hs, hd⟩ := k v H1 hv
    exact ⟨a, rfl, ⟨xs, hx⟩, for_list (g := gName j) (D := { D with nx := tz D }) Pv h0 hl hs hd⟩
theorem ep_two (h1 : EvL (tLst (tCons a1 (tCons b1 tNil))) σ H [x1, y1]) (h2 : EvL (tLst (tCons a2 (tCons b2 tNil))) σ H [x2, y2]) :
    EvP (tLst (tCons (tLst (tCons a1 (tCons b1 tNil))) (tCons (tLst (tCons a2 (tCons b2 tNil))) tNil))) σ H (fun v H' => ∃ p p1 p2, v = .ref p ∧ Ex H H' ∧ H' p = some (.lst [.ref p1, .ref p2]) ∧ H' p1 = some (.lst [x1, y1]) ∧ H' p2 = some (.lst [x2, y2])) := fun Q q => by
  show tLst (tCons a1 (tCons b1 tNil)) σ H fun x H1 => tLst (tCons a2 (tCons b2 tNil)) σ H1 fun y H2 => [x, y].length ≤ sizeLine ∧ ∀ p, H2 p = none → Q (.ref p) (upd H2 p (.lst [x, y]))
  exact h1 H (Ex.refl H) _ fun p1 H1 hp1 e1 d1 => h2 H1 e1 _ fun p2 H2 hp2 e2 d2 => ⟨sz_of (n := 2) (by decide), fun p hp => q _ _ ⟨p, p1, p2, rfl, (e1.trans e2).trans (Ex.new hp), upd_same, by rw [upd_ne (ne_of_none (e2 _ _ d1) hp)]; exact e2 _ _ d1, by rw [upd_ne (ne_of_none d2 hp)]; exact d2⟩⟩
end
theorem el_callN {sp : Sp} {gV : List V → List V → List V} {E : XK} {H : Hp} {σ : L2.St} {n m : Nat} {t tk : TA} {vs zs xs : List V} (h1 : EvA t σ H vs) (h2 : EvA tk σ H zs) (l1 : vs.length = n) (l2 : zs.length = m) (hs : SpL sp (gV vs zs) H xs) : EvL (tCallN n m sp gV E t tk) σ H xs := fun H0 e Q q =>
  h1 H0 e _ fun H1 e1 => h2 H1 (e.trans e1) _ fun H2 e2 => ⟨l1, l2, hs H2 ((e.trans e1).trans e2) Q (fun p H3 hp e3 h3 => q p H3 (fresh_back (e1.trans e2) hp) ((e1.trans e2).trans e3) h3) E⟩
theorem rv_isNon {H : Hp} {v : V} : RV (fun x y H Q => y = .non ∧ Q (.bl (decide (x = .non))) H) v .non H (.bl (decide (v = .non))) := fun H1 _ _ q => ⟨rfl, q H1 (Ex.refl H1)⟩
/-! ### keyword-only parameters -/
theorem fund_mk {K : PySem.W.Frag} {x qual : Str} {st : Stmt} {f kD : Addr} {kws : List (Str × V)} {oc : Value} {od an : Option Addr} {osl : Array (Option Value)} {doc pm cdv ct : Value}
    (l : K.lookup f = some ⟨oc, od, .func (PySem.W.fnOf x qual (defArgs st) (defBody st) (defScope st) .none (.ref kD) doc pm an cdv ct), osl⟩)
    (c : PySem.W.codeIn K cdv qual = true) (k : PySem.W.keepIn K (.ref f) = true) (hq : ∀ q ∈ kws, ∃ u, PySem.W.nsIn K kD q.1 = some (some u) ∧ RelV q.2 u) :
    FunD K x qual (defArgs st) (defBody st) (defScope st) [] kws f (PySem.W.fnOf x qual (defArgs st) (defBody st) (defScope st) .none (.ref kD) doc pm an cdv ct) :=
  ⟨⟨oc, od, .none, .ref kD, doc, pm, an, cdv, ct, osl, rfl, l, c, .inl ⟨rfl, rfl⟩, .inr ⟨kD, rfl, hq⟩⟩, k⟩
theorem hq2 {K : PySem.W.Frag} {D : Addr} {x y : Str} {i j : Int} {t u : Tok} (h1 : PySem.W.nsIn K D x = some (some (.int i t))) (h2 : PySem.W.nsIn K D y = some (some (.int j u))) : ∀ q ∈ [(x, V.int i), (y, V.int j)], ∃ u, PySem.W.nsIn K D q.1 = some (some u) ∧ RelV q.2 u := by
  intro q m
  rcases List.mem_cons.mp m with rfl | m
  · exact ⟨_, h1, t, rfl⟩
  · rw [List.mem_singleton.mp m]
    exact ⟨_, h2, u, rfl⟩
end Gd

set_option Elab.async false
set_option linter.all false
set_option maxRecDepth 100000
set_option maxHeartbeats 4000000
/-! Of our own: decimals. -/
namespace Gd
open PySem PySem.Spec PyProof.Rows L2 Evl
open PySem.NumText (AllDigits digitsVal)
def decL (n : Nat) : List Nat := (Nat.toDigits 10 n).map Char.toNat
def intL (i : Int) : List Nat := if i < 0 then 45 :: decL i.natAbs else decL i.natAbs
def decZ (n : Nat) : List Nat := if n = 0 then [] else decL n
theorem show_nat (n : Nat) : (PySem.Str.ofString (toString ((n : Nat) : Int))).cps.toList = decL n := PySem.W.KIN.signs_num n
theorem ofS_list (s : String) : (PySem.Str.ofString s).cps.toList = s.toList.map Char.toNat := by
  rw [PySem.Str.ofString_eq_toList]
theorem show_int (i : Int) : (PySem.Str.ofString (toString i)).cps.toList = intL i := by
  unfold intL
  by_cases h : i < 0
  · rw [if_pos h, PyProof.Rows.toString_neg h, ofS_list, String.toList_append, List.map_append, ← ofS_list]
    have e : (0 - i) = ((i.natAbs : Nat) : Int) := by omega
    rw [e, ← ofS_list, show_nat]
    rfl
  · rw [if_neg h]
    have e : i = ((i.natAbs : Nat) : Int) := by omega
    rw [← show_nat, ← e]
theorem dec_small {n : Nat} (h : n < 10) : decL n = [48 + n] := by
  unfold decL
  rw [Nat.toDigits_of_lt_base h]
  have : ∀ n < 10, [Nat.digitChar n].map Char.toNat = [48 + n] := by decide
  exact this n h
theorem dec_step {n : Nat} (h : 10 ≤ n) : decL n = decL (n / 10) ++ [48 + n % 10] := by
  have hm : n % 10 < 10 := Nat.mod_lt n (by decide)
  have t : Nat.toDigits 10 (n / 10) ++ Nat.toDigits 10 (n % 10) = Nat.toDigits 10 (10 * (n / 10) + n % 10) := Nat.toDigits_append_toDigits (by decide) (by omega) hm
  rw [Nat.div_add_mod] at t
  have s := dec_small hm
  unfold decL at *
  rw [← t, List.map_append, s]
theorem decZ_step {n : Nat} (h : n ≠ 0) : decZ n = decZ (n / 10) ++ [48 + n % 10] := by
  unfold decZ
  rw [if_neg h]
  by_cases g : n < 10
  · rw [if_pos (by omega), dec_small g, List.nil_append, Nat.mod_eq_of_lt g]
  · rw [if_neg (by omega), dec_step (by omega)]
theorem dec_head (n : Nat) (h : n ≠ 0) : ∃ c r, decL n = c :: r ∧ 49 ≤ c ∧ c ≤ 57 := by
  induction n using Nat.strongRecOn with
  | _ n ih =>
    by_cases g : n < 10
    · exact ⟨48 + n, [], dec_small g, by omega, by omega⟩
    · obtain ⟨c, r, e, h1, h2⟩ := ih (n / 10) (by omega) (by omega)
      exact ⟨c, r ++ [48 + n % 10], by rw [dec_step (by omega), e]; rfl, h1, h2⟩
theorem dec_all (n : Nat) : ∀ c ∈ decL n, 48 ≤ c ∧ c ≤ 57 := by
  induction n using Nat.strongRecOn with
  | _ n ih =>
    by_cases g : n < 10
    · rw [dec_small g]
      intro c m
      rw [List.mem_singleton.mp m]
      omega
    · rw [dec_step (by omega)]
      intro c m
      rcases List.mem_append.mp m with m | m
      · exact ih (n / 10) (by omega) c m
      · rw [List.mem_singleton.mp m]
        have := Nat.mod_lt n (show 0 < 10 by decide)
        omega
theorem dec_ne (n : Nat) : decL n ≠ [] := by
  by_cases h : n = 0
  · subst h
    rw [dec_small (by decide)]
    exact List.cons_ne_nil _ _
  · obtain ⟨c, r, e, _⟩ := dec_head n h
    rw [e]
    exact List.cons_ne_nil _ _
theorem dec_len_le : ∀ (k : Nat) {n : Nat}, n < 10 ^ (k + 1) → (decL n).length ≤ k + 1
  | 0, n, h => by rw [dec_small (by simpa using h)]; exact Nat.le_refl _
  | k + 1, n, h => by
    by_cases g : n < 10
    · rw [dec_small g]; simp
    · rw [dec_step (by omega), List.length_append]
      have := dec_len_le k (n := n / 10) (by rw [Nat.pow_succ] at h; omega)
      simp
      omega
theorem dec_len_gt : ∀ (k : Nat) {n : Nat}, 10 ^ k ≤ n → k < (decL n).length
  | 0, n, h => List.length_pos_iff.mpr (dec_ne n)
  | k + 1, n, h => by
    have hp : 0 < 10 ^ k := Nat.pow_pos (by decide)
    rw [Nat.pow_succ] at h
    rw [dec_step (by omega), List.length_append]
    have := dec_len_gt k (n := n / 10) (by omega)
    simp
    omega
theorem dec_val (n : Nat) : digitsVal (decL n) = n := PySem.W.KIN.val_back n
theorem int_text {x : Str} {i : Int} (h : x.cps.toList = intL i) (hl : x.length ≤ 4300) : PySem.intText? x = some i := by
  unfold intL at h
  by_cases g : i < 0
  · rw [if_pos g] at h
    rw [PySem.intText_neg h (dec_all _) (dec_ne _) hl, dec_val]
    congr 1
    omega
  · rw [if_neg g] at h
    rw [PySem.intText_digits (by rw [h]; exact dec_all _) (by rw [h]; exact dec_ne _) hl, h, dec_val]
    congr 1
    omega
theorem log_ok {n : Nat} (h : n < 10 ^ 500) : n.log2 < 1920 := by
  by_cases h0 : n = 0
  · subst h0; decide
  · exact (Nat.log2_lt h0).mpr (Nat.lt_trans h (by decide +kernel))
theorem op_rep_str {X : Cx} : OpR X (binaryOp .Mult) (fun x y H Q => ∃ z n, x = .str z ∧ y = .int n ∧ MulOk z n ∧ Q (.str (Txt.mul z n)) H) := by
  intro pins s σ H x y v u Q I rx ry h
  obtain ⟨z, n, rfl, rfl, hz, q⟩ := h
  obtain ⟨t, rfl⟩ := rx
  obtain ⟨t', rfl⟩ := ry
  exact PySem.SB.mul hz (fun t' k => ⟨.str (Txt.mul z n), H, I.tok _, ⟨_, rfl⟩, q⟩)
section
variable {K : PySem.W.Frag} {H : Hp} {σ : L2.St} {ta tb te to : TE}
theorem rv_repS {z : Str} {n : Int} (h : MulOk z n) : RV (fun x y H Q => ∃ z n, x = .str z ∧ y = .int n ∧ MulOk z n ∧ Q (.str (Txt.mul z n)) H) (.str z) (.int n) H (.str (Txt.mul z n)) := fun H1 _ _ q => ⟨z, n, rfl, rfl, h, q H1 (Ex.refl H1)⟩
theorem rv_notNon {v : V} : RV (fun x y H Q => y = .non ∧ Q (.bl (!decide (x = .non))) H) v .non H (.bl (!decide (v = .non))) := fun H1 _ _ q => ⟨rfl, q H1 (Ex.refl H1)⟩
theorem rc_abs {i : Int} : RC (fun xs H Q => ∃ i, xs = [.int i] ∧ Q (.int (if i < 0 then -i else i)) H) [.int i] H (.int (if i < 0 then -i else i)) := fun H1 _ _ q => ⟨i, rfl, q H1 (Ex.refl H1)⟩
theorem rc_strI {i : Int} (h : i.natAbs < 10 ^ 500) : RC (fun xs H Q => ∃ i, xs = [.int i] ∧ i.natAbs.log2 < 1920 ∧ Q (.str (toString i)) H) [.int i] H (.str (toString i)) := fun H1 _ _ q => ⟨i, rfl, log_ok h, q H1 (Ex.refl H1)⟩
theorem ev_starts {a b : Str} (ho : Ev to σ H (.str a)) (h : Ev te σ H (.str b)) : Ev (tM1 (fun x xs H Q => ∃ a b, x = .str a ∧ xs = [.str b] ∧ Q (.bl (Txt.startswith a b)) H) to te) σ H (.bl (Txt.startswith a b)) := fun H0 e Q q =>
  ho H0 e _ fun H1 e1 => ⟨⟨a, rfl⟩, h H1 (e.trans e1) _ fun H2 e2 => ⟨a, b, rfl, rfl, q H2 (e1.trans e2)⟩⟩
theorem rv_inSign {c : Nat} {z : Str} : RV (fun x y H Q => ∃ (c : Nat) (z : Str), x = .str ⟨#[c]⟩ ∧ y = .str z ∧ Q (.bl (decide (c ∈ z.cps.toList))) H) (.str ⟨#[c]⟩) (.str z) H (.bl (decide (c ∈ z.cps.toList))) := fun H1 _ _ q => ⟨c, z, rfl, rfl, q H1 (Ex.refl H1)⟩
theorem rc_all {p : Addr} {bs : List Bool} (h : SqL K H p (bs.map V.bl)) : RC (rAll K) [.ref p] H (.bl (bs.all id)) := fun H1 e _ q => ⟨p, bs, rfl, ex_l e h, q H1 (Ex.refl H1)⟩
theorem ev_cbL {r : List V → Hp → VK → Prop} {xs : List V} {z : V} (h : EvL te σ H xs) (hr : ∀ p H1, H1 p = some (.lst xs) → RC r [.ref p] H1 z) : Ev (tCB r (tCons te tNil)) σ H z := fun H0 e Q q =>
  h H0 e _ fun p H1 _ e1 hp => hr p H1 hp H1 (Ex.refl H1) Q fun H2 e2 => q H2 (e1.trans e2)
theorem starts_one {x : Str} {c : Nat} : Txt.startswith x ⟨#[c]⟩ = decide (x.cps.toList.head? = some c) := by
  unfold Txt.startswith
  rw [PySem.StrLaws.subAt_eq]
  have hl : x.length = x.cps.toList.length := rfl
  rw [hl]
  cases h : x.cps.toList with
  | nil => rfl
  | cons a r =>
    show (decide (0 + 1 ≤ r.length + 1) && ([a] == [c])) = decide (some a = some c)
    by_cases e : a = c
    · subst e; simp
    · simp [e]
theorem cut_one {x : Str} : (cutS x (some 1) none).cps.toList = x.cps.toList.drop 1 := by
  unfold cutS
  show (x.cps.toList.drop (HT.sIx x.length 0 (some ((1 : Nat) : Int)))).take (x.length - HT.sIx x.length 0 (some ((1 : Nat) : Int))) = _
  rw [HT.sIx_nat]
  have hl : x.length = x.cps.toList.length := rfl
  rw [hl]
  cases h : x.cps.toList with
  | nil => rfl
  | cons a r =>
    have e : min 1 (a :: r).length = 1 := by simp
    rw [e]
    show (r.take (r.length + 1 - 1)) = r
    simp
end
end Gd

set_option Elab.async false
set_option linter.all false
set_option maxRecDepth 100000
set_option maxHeartbeats 4000000
/-! Of our own: rules that hold within a comprehension (their relations name the top's part, not the context). -/
namespace Gd
open PySem PySem.Spec PyProof.Rows L2 Evl
section
variable {X : Cx} {K : PySem.W.Frag}
def rTupOf (K : PySem.W.Frag) : List V → Hp → VK → Prop := fun xs H Q => ∃ p ys, xs = [.ref p] ∧ ((SqL K H p ys ∧ ∀ l, H l = none → Q (.ref l) (upd H l (.tup ys))) ∨ (SqT K H p ys ∧ Q (.ref p) H))
def rLstOf (K : PySem.W.Frag) : List V → Hp → VK → Prop := fun xs H Q => ∃ p ys, xs = [.ref p] ∧ (SqL K H p ys ∨ SqT K H p ys) ∧ ∀ l, H l = none → Q (.ref l) (upd H l (.lst ys))
theorem sl_listK (e : X.K = K) : SlR X (rSlL K) := by subst e; exact sl_list
theorem sl_tupK (e : X.K = K) : SlR X (rSlT K) := by subst e; exact sl_tup
theorem ix_listK (e : X.K = K) : IxR X (rIxL K) := by subst e; exact ix_list
theorem ix_tupK (e : X.K = K) : IxR X (rIxT K) := by subst e; exact ix_tup
theorem call_tuple_ofK (e : X.K = K) : CallR X (.type "tuple") (rTupOf K) := by subst e; exact call_tuple_of
theorem call_list_ofK (e : X.K = K) : CallR X (.type "list") (rLstOf K) := by subst e; exact call_list_of
theorem call_len_seqK (e : X.K = K) : CallR X (.builtin "len") (rLenS K) := by subst e; exact call_len_seq
theorem pe_fldK {o : Expr} {pos : Pos} {n : Str} {te : TE} (e : X.K = K) (h : PE X o te) (hb : attributeBase o n X.env (eval o X.env) = eval o X.env) : PE X (.Attribute o n pos) (tFld K te n) := by subst e; exact pe_fld h hb
theorem pg_tupK {es : List Expr} {k : Nat} {pos : Pos} {t : TGs} {n : Nat} (e : X.K = K) (hc : X.calm = true) (h : PGs X es t)
    (hn : (assignEach es X.env).length = n := by rfl) (hst : (assignEach es X.env).findIdx? (·.1) = none := by rfl) : PG X (.Tuple es k pos) (gTup K n t) := by subst e; exact pg_tup hc h hn hst
end
end Gd

set_option Elab.async false
set_option linter.all false
set_option maxRecDepth 100000
set_option maxHeartbeats 4000000
set_option exponentiation.threshold 600
/-! Of our own: an exception's __init__ that begins with super().__init__(..), the class below ValueError by classes of the program. -/
namespace Gd
open PySem PySem.Spec PyProof.Rows L2 Evl NdefX
class ProgOk (P : Program) : Prop where
  file : ((P.main.file : Str) == "/claim/cut.py") = true
  top : (P.main.scope.names.lookup ("super" : Str)).isSome = false
/-- what the written part tells of an __init__ at f, of the class at C -/
structure SupF (K : PySem.W.Frag) (C f cc cda : Addr) (qual : Str) (st : Stmt) (fd : FuncData) : Prop where
  ex : ∃ (oc ct kV doc pm ccl cl : Value) (od an cdd cld : Option Addr) (osl ccs csl : Array (Option Value)) (vs : Array Value) (tf : Tok), fd = PySem.W.ksFn "__init__" qual (defArgs st) (defBody st) (defScope st) .none kV doc pm an (.ref cda) ct cc ∧ K.lookup f = some ⟨oc, od, .func fd, osl⟩ ∧
    K.lookup cda = some ⟨ccl, cdd, .fields vs, ccs⟩ ∧ vs[2]? = some (.str "/claim/cut.py" tf) ∧ K.lookup cc = some ⟨cl, cld, .cell (some (.ref C)), csl⟩
  cd : PySem.W.codeIn K (.ref cda) qual = true
  kp : PySem.W.keepIn K (.ref f) = true
  sub : PySem.W.mroIn K C (.ref C) = some true
  ks : PySem.W.ks_superIn K C C "__init__" = some (some (.builtin "ValueError.__init__"))
  ve : PySem.W.subIn K (.ref C) (.type "ValueError") = some true
  op : PySem.W.nsIn K cStatics "thirdparty.any" = some none
abbrev supN (qual : Str) (st : Stmt) (cc cda : Addr) : NF := ⟨"__init__", qual, defArgs st, defBody st, defScope st, [("__class__", cc)], cda⟩
abbrev supX (CX : CXT) (P : Program) (w : World) (K : PySem.W.Frag) (mg : Str → Option Value) (base : Heap) (N : List Str) (qual : Str) (st : Stmt) (cc cda f : Addr) (A : Around) (outer : List Env) (s : Shared) (H : Hp) (E : XK) : Cx :=
  ncx CX P w K mg base N (supN qual st cc cda) f A outer s H E
section
variable {prog : Program} {w : World} {A : Around} {E : Value → Shared → Prop} {h : Heap} {g : Array GenState} {d : Drawn} {t : Nat} {os : OsState}
variable {nm q : Str} {C N : Addr} {bs bm : List Value} {hdct : Bool} {sn : List Str} {sub : List Value} {ab : Bool} {col : Option Bool} {dd : Option Addr} {k0 k1 k2 k3 k5 : Option Value}
/-- the built-in __init__ bound to the object, called -/
theorem call_mw {u e t0 : Addr} {rest : List Value} {Q : Value → Shared → Prop} (hbm : PySem.HandSPX.refsVE bm = true)
    (hC : h.get? C = some (excClassObj nm q C N bs bm hdct sn sub ab col dd k0 k1 k2 k3 k5 "ValueError.__new__")) (he : h.get? e = some (PySem.HandSPX.excO C t0)) (hu : h.get? u = some (PySem.W.kxs_mw "ValueError.__init__" e)) (hrest : rest.length ≤ sizeLine)
    (hq : ∀ h' t1, (∀ b o, b ≠ e → h.get? b = some o → h'.get? b = some o) → h'.get? e = some (PySem.HandSPX.excO C t1) → Q .none ⟨h', g, d, t, os⟩) :
    wpAny (model prog w) A (call (.ref u) rest) Q E ⟨h, g, d, t, os⟩ := by
  refine wpAny_call (codeAny_of_tree ?_)
  show wpAny _ A.in1 (callAny (.ref u) ⟨rest, []⟩) _ _ _
  simp only [callAny]
  refine wpAny_bind (wpAny_load hu ?_)
  simp only [PySem.W.kxs_mw, show (Value.type "method-wrapper" == Value.type "method" || Value.type "method-wrapper" == Value.type "builtin_function_or_method" || Value.type "method-wrapper" == Value.type "method-wrapper") = true by decide, if_true]
  refine PySem.W.KFB.if_so (by decide) ?_
  refine wpAny_bind (PySem.ESX.check_bound F.excBase_ValueError hC he rfl ?_)
  refine wpAny_bind (wpAny_pure (wpAny_pure ?_))
  refine ⟨Code.quiet_builtin _ (by decide +kernel), codeAny_builtin F.excBase_ValueError.initEntry ?_⟩
  rw [Around.under_plainId F.excBase_ValueError.init.plain _]
  wp_walk
  refine hq _ h.objs.size (fun b o hb ho => ?_) ?_
  · rw [Heap.get?_update_other _ _ (Ne.symm hb)]
    exact Heap.get?_push_of_some _ ho
  · rw [Heap.get?_update_self _ (Heap.get?_push_of_some _ he) rfl]
    rfl
end
section
variable {CX : CXT} {P : Program} {w : World} {K : PySem.W.Frag} {mg : Str → Option Value} {base : Heap} {N ps : List Str} {C f cc cda : Addr} {qual : Str} {st st2 : Stmt} {fd : FuncData} {k : Nat} {sp : Sp} {e : Expr} {p0 p1 p2 p3 p4 : Pos} {slf : Str}
theorem sup_ok [PO : ProgOk P] (F : SupF K C f cc cda qual st fd) (T : OexC K C) (hsup : mg "super" = none) (S : NScope N (slf :: ps) ["__class__"] (defScope st)) (hp : ((defArgs st).posonlyargs ++ (defArgs st).args).head?.map (·.arg) = some slf)
    (hks : (defScope st).names.lookup ("super" : Str) = some .globalImplicit)
    (hbody : defBody st = [.Expr (.Call (.Attribute (.Call (.Name "super" p0) [] [] p1) "__init__" p2) [e] [] p3) p4, st2])
    (hI : ∀ L, interactive (envF (supN qual st cc cda) f L) = false) (hSw : ∀ L, swapsWith (.Call (.Attribute (.Call (.Name "super" p0) [] [] p1) "__init__" p2) [e] [] p3) none p4.line (envF (supN qual st cc cda) f L) = pure false)
    (hSt : ∀ L, starEach [e] (envF (supN qual st cc cda) f L) = (false, eval e (envF (supN qual st cc cda) f L)) :: starEach [] (envF (supN qual st cc cda) f L))
    (hE : ∀ L, ∃ pl : Sem Bool, eval (.Call (.Attribute (.Call (.Name "super" p0) [] [] p1) "__init__" p2) [e] [] p3) (envF (supN qual st cc cda) f L) = (do
      let ov ← attributeBase (.Call (.Name "super" p0) [] [] p1) "__init__" (envF (supN qual st cc cda) f L) (eval (.Call (.Name "super" p0) [] [] p1) (envF (supN qual st cc cda) f L))
      standAt p2.atName
      let (f', first) ← holding [ov] (getMethod ov "__init__" pl)
      callWith p3 f' first (backTo p3 (starEach [e] (envF (supN qual st cc cda) f L))) []))
    (len : ∀ vs H Q E, sp vs H Q E → vs.length = (slf :: ps).length)
    (hb : ∀ (A : Around) (outer : List Env) (s : Shared) (H : Hp) (vs : List V) (Q : VK) (E : XK), Room k (A.deeper (envF (supN qual st cc cda) f s.heap.objs.size)) → sp vs H Q E →
      ∃ (a : Addr) (r : List V) (te : TE) (ts : TS), vs = .ref a :: r ∧ H a = some (exo a C none) ∧ PE (supX CX P w K mg base N qual st cc cda f A outer s H E) e te ∧ PS (supX CX P w K mg base N qual st cc cda f A outer s H E) st2 ts ∧
        te (startF N vs [none]) H fun y H1 => H1 a = some (exo a C none) ∧ ts { nx := fun _ H' => Q .non H', rt := Q } (startF N vs [none]) H1) :
    FnOk P w K mg base CX (k + 1) f fd (slf :: ps) sp := by
  refine ⟨len, fun A outer s H args us vs Q E hr e0 hbd r hsp => ?_⟩
  obtain ⟨oc, ct, kV, doc, pm, ccl, cl, od, an, cdd, cld, osl, ccs, csl, vs2, tf, rfl, lk, lc, hvs, lcc⟩ := F.ex
  have hl := len _ _ _ _ hsp
  have KX : K.In s.heap := e0.mod.kin.keeps fun b o e => (e0.bs b o e).1
  have lim : s.heap.NoLimit := e0.mod.nolimit.keeps fun b o e => (e0.bs b o e).1
  obtain ⟨a, rv, te, ts, rfl, ha, hte, hts, hrun⟩ := hb A outer s H vs Q E (hr.deeper _) hsp
  have hcellH : H cc = none := (e0.bs cc _ (e0.mod.kin _ _ lcc)).2
  have C0 : CellsAt (supN qual st cc cda).cl ["__class__"] [none] s.heap H := by
    have one : ∀ {y : Str} {c : Addr}, List.lookup y [(("__class__" : Str), cc)] = some c → y = "__class__" ∧ c = cc := fun {y c} z => by
      rw [List.lookup_cons] at z
      cases h : (y == ("__class__" : Str)) with
      | true =>
        rw [h] at z
        exact ⟨by simpa using h, (Option.some.inj z).symm⟩
      | false =>
        rw [h] at z
        cases z
    refine ⟨rfl, fun y c z => ?_, fun x y c z1 z2 => ?_, fun i y z => ?_⟩
    · obtain ⟨rfl, rfl⟩ := one z
      exact ⟨hcellH, _, _, KX _ _ lcc, rfl⟩
    · rw [(one z1).1, (one z2).1]
    · match i, z with
      | 0, z =>
        obtain rfl : ("__class__" : Str) = y := by simpa using z
        exact ⟨cc, rfl, fun v z => nomatch z⟩
  refine PySem.ks_codeAny_call_defAt (fd := PySem.W.ksFn "__init__" qual (defArgs st) (defBody st) (defScope st) .none kV doc pm an (.ref cda) ct cc) (body := defBody st) (binds := (slf :: ps).zip us) hr.depth (KX _ _ lk) rfl lim (PySem.W.codeRec_of KX F.cd) rfl hbd (fun x hx => S.nocell x hx) (fun ⟨n, _⟩ hy => S.par n (List.of_mem_zip hy).1) (fun h₁ hns kp => ?_) S.co S.gen S.kind
  have I : Inv (supX CX P w K mg base N qual st cc cda f A outer s H E) [] (startF N (.ref a :: rv) [none]) H { s with heap := h₁, toks := s.toks + ((slf :: ps).zip us).length } := inv_startN S hr.hd e0 hl r C0 hns kp
  obtain ⟨nm, q, N0, bs, bm, sn, sub, ab, col, dd, k0, k1, k2, k3, k5, hC, hbm⟩ := T.cls
  have hcl : PySem.W.clsIn K C = some { name := nm, bases := bs, mro := .ref C :: bm, ns := N0, qualname := q, hasDict := true, slotNames := sn, subclasses := sub, abstract := ab, collection := col, hasDel := false } := by unfold PySem.W.clsIn; rw [hC] <;> rfl
  obtain ⟨ar, har, rfl⟩ : ∃ ar : Arg, ((defArgs st).posonlyargs ++ (defArgs st).args).head? = some ar ∧ ar.arg = slf := by
    cases z : ((defArgs st).posonlyargs ++ (defArgs st).args).head? with
    | none => rw [z] at hp; cases hp
    | some ar => rw [z] at hp; exact ⟨ar, rfl, Option.some.inj hp⟩
  have hex : ∀ env : Env, execs (defBody st) env = execs [.Expr (.Call (.Attribute (.Call (.Name "super" p0) [] [] p1) "__init__" p2) [e] [] p3) p4, st2] env := fun env => by rw [hbody]
  show _root_.PySem.wpAt _ (A.deeper (envF (supN qual st cc cda) f s.heap.objs.size)) (.func (defBody st) (envF (supN qual st cc cda) f s.heap.objs.size)) (execs (defBody st) (envF (supN qual st cc cda) f s.heap.objs.size)) _ _ _
  rw [hex]
  have hkc : (envF (supN qual st cc cda) f s.heap.objs.size).kindOf "__class__" = some .free := S.frk _ (List.mem_singleton.mpr rfl)
  have hks' : (envF (supN qual st cc cda) f s.heap.objs.size).kindOf "super" = some .globalImplicit := hks
  obtain ⟨pl, hE⟩ := hE s.heap.objs.size
  refine PySem.ks_wpAt_execs_cons (PySem.ks_wpAt_Expr_any (PySem.ks_wpAt_MethodCall (pl := pl) (PySem.ks_wpAt_super_base (f := f) (cc := cda) hks' hkc (by decide) rfl (I.kIn _ _ lk) rfl har rfl (I.kIn _ _ lc) rfl hvs PO.file PO.top ?_) hE) (hI _) (hSw _))
  obtain ⟨mb, hb1, hb2⟩ := I.mod.blt
  refine PySem.W.ks_loadName_global S.kind hks' (Calls.loadGlobal_builtin (env := envF (supN qual st cc cda) f s.heap.objs.size) (I.mod.glob.keeps I.bk) hsup (hb1.keeps I.bk) ((hb2 "super" (by decide)).trans PyProof.Rows.Boot.«super») ⟨rfl, ?_⟩)
  refine wpAny_loadName_free S.kind hkc rfl ⟨_, I.kIn _ _ lcc, rfl⟩ ?_
  cases r with
  | @cons _ u0 _ ur ra rw' =>
  obtain rfl : u0 = Value.ref a := ra
  have ndP : (ar.arg :: ps).Nodup := by
    have q := S.nd.sublist (List.take_sublist ((ar.arg :: ps).length + [("__class__" : Str)].length) N)
    rw [S.pre] at q
    exact (List.nodup_append.mp q).1
  refine wpAny_loadName_local S.kind (S.par _ List.mem_cons_self) hns (zip_look (i := 0) ndP rfl rfl) ?_
  have XI := I.kIn
  refine PySem.ks_wpAny_isType_cls (XI _ _ hC) rfl ⟨rfl, ?_⟩
  obtain ⟨t1, ho⟩ := exo_at I.hok ha
  refine PySem.ks_wpAny_call_super (XI _ _ hC) rfl ho rfl (fun c z => nomatch z) (PySem.W.looks_mroIn XI F.sub) (fun h2 hso kso => ?_)
  have I2 : Inv (supX CX P w K mg base N qual st cc cda f A outer s H E) [] (startF N (.ref a :: rv) [none]) H { s with heap := h2, toks := s.toks + ((ar.arg :: ps).zip (Value.ref a :: ur)).length } := I.kept kso
  have X2 := I2.kIn
  obtain ⟨t2, ho2⟩ := exo_at I2.hok ha
  have J2 : PySem.W.InstAt h2 a { cls := .ref C, dict := none, data := .fields #[.ref t2, .none, .none, .none, .bool false, .none] } C none := ⟨ho2, rfl, rfl, trivial⟩
  have hks2 := F.ks
  unfold PySem.W.ks_superIn at hks2
  rw [hcl] at hks2
  refine PySem.W.kxs_getMethod PySem.W.kxs_ValueError hso (PySem.W.looks_opaque X2 F.op) (l₀ := .ref C :: bm) (fun A Q E s k q => wpAny_bind ((PySem.W.looks_clsIn X2 hcl) A _ E s k (wpAny_pure q))) rfl X2 hks2 (J2.type.andThen (PySem.W.looks_subIn X2 F.ve)) (PySem.W.ks_ne X2 J2 hcl) (by decide) ?_
  have I3 : Inv (supX CX P w K mg base N qual st cc cda f A outer s H E) [(h2.objs.size, PySem.W.kxs_mw "ValueError.__init__" a)] (startF N (.ref a :: rv) [none]) H { s with heap := h2.push (PySem.W.kxs_mw "ValueError.__init__" a), toks := s.toks + ((ar.arg :: ps).zip (Value.ref a :: ur)).length + 1 } :=
    ClX.pin_new (s := { s with heap := h2, toks := s.toks + ((ar.arg :: ps).zip (Value.ref a :: ur)).length }) I2 (fun b u z => Heap.get?_push_of_some _ z) (Nat.le_refl _) (Heap.get?_push_at rfl rfl) (fun v z => nomatch z)
  show wpAny _ _ (callWith p3 (.ref h2.objs.size) [] (backTo p3 (starEach [e] (envF (supN qual st cc cda) f s.heap.objs.size))) []) _ _ _
  have hStL := hSt s.heap.objs.size
  have hpa : PA (supX CX P w K mg base N qual st cc cda f A outer s H E) [e] (tCons te tNil) := pa_cons hte pa_nil (by exact hStL)
  have hr3 := hpa.run p3 _ _ _ _ (fun xs H1 => match xs with | [_] => H1 a = some (exo a C none) ∧ ts { nx := fun _ H' => Q .non H', rt := Q } (startF N (.ref a :: rv) [none]) H1 | _ => False) I3 hrun
  rw [show starEach [e] (supX CX P w K mg base N qual st cc cda f A outer s H E).env = (false, eval e (envF (supN qual st cc cda) f s.heap.objs.size)) :: starEach [] (envF (supN qual st cc cda) f s.heap.objs.size) from hStL] at hr3
  rw [hStL]
  refine PySem.W.kxs_callWith (i := "ValueError.__init__") (x := a) (by rfl) (PySem.Calls.evalArgs_plain ?_)
  refine wpAny_mono hr3 (fun us2 s4 hh => ?_) (fun e s' hs => hs)
  obtain ⟨xs, H1, I4, r4, hq4⟩ := hh
  match xs, r4, hq4 with
  | [y], r4, hq4 =>
  obtain ⟨ha4, hts4⟩ := hq4
  have hu := ClX.pin_at I4
  refine ⟨hu, ?_⟩
  obtain ⟨t4, ho4⟩ := exo_at I4.hok ha4
  obtain ⟨h4, g4, d4, tk4, os4⟩ := s4
  have hus : us2.length ≤ sizeLine := by
    rw [← r4.length, sizeLine_eq]
    show 1 ≤ _
    omega
  refine call_mw hbm (I4.kIn _ _ hC) ho4 hu hus (fun h5 t5 k5' hx5 => ?_)
  have J := I4.write (t' := tk4) (x := a) (e := a) (o := exo a C none) (by rw [ha4]; exact True.intro) (.inl rfl) k5' ⟨_, hx5⟩ (exo_ok hx5)
  have eu : upd H1 a (exo a C none) = H1 := by
    funext b
    by_cases hb : b = a
    · rw [hb, upd_same, ha4]
    · rw [upd_ne hb]
  rw [eu] at J
  refine PySem.wpAt_of_wpAny ?_
  refine wpAny_mono ((pss_one hts).run _ _ _ _ _ J hts4) (fun fl s' hs => ?_) (fun e s' hs => hs)
  have fin : ∀ {σ' : L2.St} {H' : Hp} {v : V} {u : Value} {pn : List (Addr × Obj)}, Inv (supX CX P w K mg base N qual st cc cda f A outer s H E) pn σ' H' s' → L2.RelV v u → Q v H' → CE outer P w H s Q u s' :=
    fun {σ' H' v u pn} J rv q => ⟨v, H', J.os, J.bare, J.base, J.hok, rv, q⟩
  cases fl with
  | ret u =>
    obtain ⟨v, σ', H', J, rv, q⟩ := hs
    exact fin J rv q
  | next =>
    obtain ⟨σ', H', J, q⟩ := hs
    exact fin J (v := .non) rfl q
  | brk => exact (let ⟨_, _, _, q⟩ := hs; False.elim q)
  | cont => exact (let ⟨_, _, _, q⟩ := hs; False.elim q)
end
section
variable {P : Program} {w : World} {K : PySem.W.Frag} {C f cc cda : Addr} {qual : Str} {st : Stmt} {fd : FuncData} {ps : List Str}
theorem SupF.binds (F : SupF K C f cc cda qual st fd) (h : ∀ (kV doc pm : Value) (an : Option Addr) (ct : Value) (us : List Value), us.length = ps.length → bindArgs (PySem.W.ksFn "__init__" qual (defArgs st) (defBody st) (defScope st) .none kV doc pm an (.ref cda) ct cc) ⟨us, []⟩ = pure (ps.zip us)) : Binds K fd ps [] := by
  obtain ⟨oc, ct, kV, doc, pm, ccl, cl, od, an, cdd, cld, osl, ccs, csl, vs2, tf, rfl, lk, lc, hvs, lcc⟩ := F.ex
  exact .all (h kV doc pm an ct)
/-- the promise of such an __init__: one field -/
def OkY (y : V) : Prop := (∃ i : Int, y = .int i ∧ i.natAbs < 10 ^ 200) ∨ ∃ s : Str, y = .str s ∧ s.length ≤ 1000
def spXI (C : Addr) (fn : Str) : Sp := fun vs H Q _ => ∃ (a : Addr) (y : V), vs = [.ref a, y] ∧ OkY y ∧ H a = some (exo a C none) ∧ ∀ H1 dx, Ex H H1 → H1 dx = none → dx ≠ a → Q .non (upd (upd H1 dx (exd dx [(fn, y)])) a (exo a C (some dx)))
/-- the message: texts and the argument -/
theorem int_len {i : Int} (h : i.natAbs < 10 ^ 200) : (PySem.Str.ofString (toString i)).length ≤ 501 := by
  show (PySem.Str.ofString (toString i)).cps.size ≤ 501
  rw [← Array.length_toList, show_int i]
  have := dec_len_le 199 h
  unfold intL
  split
  · rw [List.length_cons]; omega
  · omega
theorem app_ln (a z : Str) : (a ++ z).length = a.length + z.length := by
  show (a ++ z).cps.size = a.cps.size + z.cps.size
  exact Array.size_append
theorem js_y {acc : Str} {n : Nat} {y : V} {te : TE} {ts : List TE} {σ : L2.St} {H : Hp} {Q : Str → Hp → Prop} (hy : OkY y) (h : Ev te σ H y) (ha : acc.length ≤ n) (hn : n ≤ 20000) (k : ∀ z H1, Ex H H1 → (acc ++ z).length ≤ n + 1000 → tJs ts (acc ++ z) σ H1 Q) : tJs (tFmt te :: ts) acc σ H Q :=
  h H (Ex.refl H) _ fun H1 e1 => by
    rcases hy with ⟨i, rfl, hi⟩ | ⟨s, rfl, hs⟩
    · have := int_len hi
      have hl : (acc ++ PySem.Str.ofString (toString i)).length ≤ n + 1000 := by rw [app_ln]; omega
      exact .inr ⟨i, rfl, log_ok (Nat.lt_of_lt_of_le hi (Nat.pow_le_pow_right (by decide) (by decide))), _, rfl, by rw [sizeLine_eq]; exact Nat.le_trans hl (by omega), k _ H1 e1 hl⟩
    · have hl : (acc ++ s).length ≤ n + 1000 := by rw [app_ln]; omega
      exact .inl ⟨s, rfl, by rw [sizeLine_eq]; omega, s, rfl, by rw [sizeLine_eq]; omega, k s H1 e1 hl⟩
theorem js_c {acc z : Str} {n : Nat} {ts : List TE} {σ : L2.St} {H : Hp} {Q : Str → Hp → Prop} (ha : acc.length ≤ n) (hn : n ≤ 20000) (hz : z.length ≤ 1000) (h : (acc ++ z).length ≤ n + 1000 → tJs ts (acc ++ z) σ H Q) : tJs (tC (.str z) :: ts) acc σ H Q := by
  have hl : (acc ++ z).length ≤ n + 1000 := by rw [app_ln]; omega
  exact ⟨z, rfl, by rw [sizeLine_eq]; omega, h hl⟩
end
section
variable {K : PySem.W.Frag} {σ : L2.St} {H : Hp}
/-- isinstance of the error that a suite holds, with a dict or without -/
def rIsXD (K : PySem.W.Frag) (D a : Addr) (cls : Value) (d : Option Addr) : List V → Hp → VK → Prop := fun xs H Q => cls = .ref D ∧ (d = none ∨ ∃ dd fs, d = some dd ∧ H dd = some (.xd fs)) ∧ rIsE K D a xs H Q
theorem call_isXD {X : Cx} {a D : Addr} {oe : Obj} {pn : List (Addr × Obj)} {cls : Value} {d : Option Addr} (C : ExcC X.K D) (hz : Zc cls d oe) (hf : ∃ vs, oe.data = .fields vs) : CallR (X.suite a ((a, oe) :: pn)) (.builtin "isinstance") (rIsXD X.K D a cls d) := by
  intro pins s σ H xs us Q I r h
  obtain ⟨rfl, hd, h⟩ := h
  rcases hd with rfl | ⟨dd, fs, rfl, hdd⟩
  · exact call_isE C hz hf pins s σ H xs us Q I r h
  obtain ⟨c, cv, b, rfl, hcv, e, q⟩ := h
  cases r with
  | cons rx rr =>
    cases rr with
    | cons rt rr =>
      cases rr
      cases rx
      have ec := hcv _ rt
      subst ec
      obtain ⟨hget, _⟩ := I.pin (a, oe) (List.mem_append.mpr (.inl List.mem_cons_self))
      obtain ⟨vs, hv⟩ := hf
      have hx : ObjOk X.prog X.w H s.heap dd (.xd fs) := I.hok dd _ hdd
      obtain ⟨mA, hns, hr⟩ := hx
      obtain ⟨od, ho, hl⟩ := lookIn_ns hns
      have J : PySem.W.InstAt s.heap a oe D (some od) := ⟨hget, hz.1, by unfold PySem.W.notCls; rw [hv] <;> rfl, by rw [hz.2]; exact ho⟩
      obtain ⟨cdD, hcD, _⟩ := PySem.W.any_some C.hd
      exact PySem.W.kia_one (PySem.W.kitx_exc (by rw [hcD]; rfl) C.hg C.hk C.hs C.ha C.hn C.ht C.hm) I.kIn J e (fun z => nomatch z) fun tk => ⟨.bl b, H, I.kept (t' := tk) fun _ _ z => z, rfl, q⟩
theorem rc_isXD {D a dd : Addr} {fs : List (Str × V)} {c : V} {cv : Value} {b : Bool} (hd : H dd = some (.xd fs)) (hc : ∀ u, RelV c u → u = cv) (hk : PySem.W.kitOne K (.ref D) cv = some b) : RC (rIsXD K D a (.ref D) (some dd)) [.ref a, c] H (.bl b) := fun H1 e _ q => ⟨rfl, .inr ⟨dd, fs, rfl, e _ _ hd⟩, c, cv, b, rfl, hc, hk, q H1 (Ex.refl H1)⟩
theorem rc_isX0 {D a : Addr} {c : V} {cv : Value} {b : Bool} (hc : ∀ u, RelV c u → u = cv) (hk : PySem.W.kitOne K (.ref D) cv = some b) : RC (rIsXD K D a (.ref D) none) [.ref a, c] H (.bl b) := fun H1 e _ q => ⟨rfl, .inl rfl, c, cv, b, rfl, hc, hk, q H1 (Ex.refl H1)⟩
/-- e.f -/
theorem ev_xf {a C dd : Addr} {f : Str} {fs : List (Str × V)} {v : V} {te : TE} (h : Ev te σ H (.ref a)) (hd : H dd = some (.xd fs)) (hl : fs.lookup f = some v) : Ev (tXf a (.ref C) (some dd) C f te) σ H v := fun H1 e Q q =>
  h H1 e _ fun H2 e2 => ⟨rfl, rfl, dd, fs, v, rfl, (e.trans e2) _ _ hd, hl, q H2 e2⟩
/-- raise C(e) -/
theorem mk_xi {C : Addr} {fn : Str} {y : V} {ta : TA} {Q : XK} (h : EvA ta σ H [y]) (hy : OkY y) (k : ∀ d H2, Ex H H2 → H2 d = some (.xd [(fn, y)]) → Q (.ref C) (some d) H2) : tMkO C (spXI C fn) [] ta σ H Q :=
  h H (Ex.refl H) _ fun H1 e1 => ⟨by show 1 ≤ 1000; decide, fun a na => ⟨a, y, rfl, hy, upd_same, fun H3 dx e3 ndx dne => by
    have ndx1 : H1 dx = none := by
      have := fresh_back e3 ndx
      rw [upd_ne dne] at this
      exact this
    refine ⟨rfl, dx, [(fn, y)], upd_same, by rw [upd_ne dne]; exact upd_same, ndx1, k dx _ (fun b o hb => ?_) upd_same⟩
    have h1 := e1 _ _ hb
    have nb : b ≠ a := ne_of_none h1 na
    have nx : b ≠ dx := ne_of_none h1 ndx1
    rw [upd_ne nx, del_ne nb, upd_ne nb, upd_ne nx]
    exact e3 _ _ (by rw [upd_ne nb]; exact h1)⟩⟩
/-- self.f = e, in such an __init__ -/
theorem s_ost {C a : Addr} {fn : Str} {y : V} {to te : TE} {D : Ends} (T : OexC K C) (hno : PySem.W.findIn K (.ref C) fn = some none) (ha : H a = some (exo a C none)) (ho : ∀ H1, Ev to σ H1 (.ref a)) (he : Ev te σ H y) (k : ∀ H1 dx, Ex H H1 → H1 dx = none → dx ≠ a → D.nx σ (upd (upd H1 dx (exd dx [(fn, y)])) a (exo a C (some dx)))) : tOst K fn to te D σ H :=
  he H (Ex.refl H) _ fun H1 e1 => ho H1 H1 (Ex.refl H1) _ fun H2 e2 => ⟨a, C, rfl, T, hno, .inl ⟨(e1.trans e2) _ _ ha, fun dx nd ne => k H2 dx (e1.trans e2) nd ne⟩⟩
end
end Gd

set_option Elab.async false
set_option linter.all false
set_option maxRecDepth 100000
set_option maxHeartbeats 4000000
/-! Of our own: values as data (Dp), dicts of ints, arguments that change the heap. -/
namespace Gd
open PySem PySem.Spec PyProof.Rows L2 Evl
/-! ### data under a heap that grows -/
section
variable {K : PySem.W.Frag} {H H' : Hp}
mutual
theorem dp_ex (e : Ex H H') : ∀ (d : PyData) (v : V), Dp K H v d → Dp K H' v d
  | .none, _, h => by cases h; exact .non
  | .bool _, _, h => by cases h; exact .bl _
  | .int _, _, h => by cases h; exact .int _
  | .str _, _, h => by cases h; exact .str _
  | .list ds, _, h => by cases h with | lst h1 h2 => exact .lst (ex_l e h1) (dpAll_ex e ds _ h2)
  | .tuple ds, _, h => by cases h with | tup h1 h2 => exact .tup (ex_t e h1) (dpAll_ex e ds _ h2)
  | .dict _, _, h => by cases h
theorem dpAll_ex (e : Ex H H') : ∀ (ds : List PyData) (vs : List V), DpAll K H vs ds → DpAll K H' vs ds
  | [], _, h => by cases h; exact .nil
  | d :: ds, _, h => by cases h with | cons a b => exact .cons (dp_ex e d _ a) (dpAll_ex e ds _ b)
end
theorem _root_.L2.Dp.ex {v : V} {d : PyData} (h : Dp K H v d) (e : Ex H H') : Dp K H' v d := dp_ex e d v h
theorem _root_.L2.DpAll.ex {vs : List V} {ds : List PyData} (h : DpAll K H vs ds) (e : Ex H H') : DpAll K H' vs ds := dpAll_ex e ds vs h
/-! data of tuples alone -/
mutual
def tupO : PyData → Bool
  | .none | .bool _ | .int _ | .str _ => true
  | .tuple ds => tupOs ds
  | .list _ | .dict _ => false
def tupOs : List PyData → Bool
  | [] => true
  | d :: r => tupO d && tupOs r
end
/-- no tuple, nor one that is locked -/
def NoTup (o : HO) : Prop := (∀ xs, o ≠ .tup xs) ∧ ∀ b xs, o ≠ .frz b (.tup xs)
theorem nt_lst {xs : List V} : NoTup (.lst xs) := ⟨fun _ h => (by cases h), fun _ _ h => (by cases h)⟩
theorem nt_dK {xs : List (Key × V)} : NoTup (.dK xs) := ⟨fun _ h => (by cases h), fun _ _ h => (by cases h)⟩
theorem nt_ins {C dx : Addr} {fs : List (Str × V)} : NoTup (.ins C dx fs) := ⟨fun _ h => (by cases h), fun _ _ h => (by cases h)⟩
theorem sqT_bu {L : List Addr} {a : Addr} {xs : List V} (b : Bu L H H') (n : ∀ c ∈ L, ∃ o, H c = some o ∧ NoTup o) (h : SqT K H a xs) : SqT K H' a xs := by
  have hn : ∀ o, H a = some o → ¬ NoTup o → H' a = some o := fun o ho hx => b a o (fun m => by
    obtain ⟨o2, h1, h2⟩ := n a m
    rw [ho] at h1
    cases h1
    exact hx h2) ho
  rcases h with (h | ⟨o, h⟩) | h
  · exact .inl (.inl (hn _ h fun z => z.1 _ rfl))
  · exact .inl (.inr ⟨o, hn _ h fun z => z.2 _ _ rfl⟩)
  · exact .inr h
mutual
theorem dp_bu {L : List Addr} (b : Bu L H H') (n : ∀ c ∈ L, ∃ o, H c = some o ∧ NoTup o) : ∀ (d : PyData) (v : V), tupO d = true → Dp K H v d → Dp K H' v d
  | .none, _, _, h => by cases h; exact .non
  | .bool _, _, _, h => by cases h; exact .bl _
  | .int _, _, _, h => by cases h; exact .int _
  | .str _, _, _, h => by cases h; exact .str _
  | .tuple ds, _, t, h => by cases h with | tup h1 h2 => exact .tup (sqT_bu b n h1) (dpAll_bu b n ds _ (by rw [tupO] at t; exact t) h2)
  | .list _, _, t, _ => by rw [tupO] at t; cases t
  | .dict _, _, t, _ => by rw [tupO] at t; cases t
theorem dpAll_bu {L : List Addr} (b : Bu L H H') (n : ∀ c ∈ L, ∃ o, H c = some o ∧ NoTup o) : ∀ (ds : List PyData) (vs : List V), tupOs ds = true → DpAll K H vs ds → DpAll K H' vs ds
  | [], _, _, h => by cases h; exact .nil
  | d :: ds, _, t, h => by
    rw [tupOs, Bool.and_eq_true] at t
    cases h with | cons x y => exact .cons (dp_bu b n d _ t.1 x) (dpAll_bu b n ds _ t.2 y)
end
/-- one object that is no tuple changes -/
theorem _root_.L2.Dp.upd {v : V} {d : PyData} {p : Addr} {o o' : HO} (h : Dp K H v d) (t : tupO d = true) (hp : H p = some o) (n : NoTup o) : Dp K (upd H p o') v d :=
  dp_bu (L := [p]) (fun a u m e => by rw [upd_ne (by simpa using m)]; exact e) (fun c m => by rw [List.mem_singleton.mp m]; exact ⟨o, hp, n⟩) d v t h
theorem _root_.L2.DpAll.upd {vs : List V} {ds : List PyData} {p : Addr} {o o' : HO} (h : DpAll K H vs ds) (t : tupOs ds = true) (hp : H p = some o) (n : NoTup o) : DpAll K (upd H p o') vs ds :=
  dpAll_bu (L := [p]) (fun a u m e => by rw [upd_ne (by simpa using m)]; exact e) (fun c m => by rw [List.mem_singleton.mp m]; exact ⟨o, hp, n⟩) ds vs t h
/-! ### what data stands for -/
theorem dpAll_ints_inv : ∀ {ns : List Int} {vs : List V}, DpAll K H vs (ns.map PyData.int) → vs = ns.map V.int
  | [], _, h => by cases h; rfl
  | n :: r, _, h => by cases h with | cons a b => cases a; rw [dpAll_ints_inv b]; rfl
theorem dp_ints_inv {v : V} {ns : List Int} (h : Dp K H v (.list (ns.map PyData.int))) : ∃ a, v = .ref a ∧ SqL K H a (ns.map V.int) := by
  cases h with | lst h1 h2 => rw [dpAll_ints_inv h2] at h1; exact ⟨_, rfl, h1⟩
theorem dp_intsT_inv {v : V} {ns : List Int} (h : Dp K H v (.tuple (ns.map PyData.int))) : ∃ a, v = .ref a ∧ SqT K H a (ns.map V.int) := by
  cases h with | tup h1 h2 => rw [dpAll_ints_inv h2] at h1; exact ⟨_, rfl, h1⟩
theorem dp_intsT {a : Addr} {ns : List Int} (h : SqT K H a (ns.map V.int)) : Dp K H (.ref a) (.tuple (ns.map PyData.int)) := .tup h (dpAll_ints ns)
theorem dp_tup_inv {v : V} {ds : List PyData} (h : Dp K H v (.tuple ds)) : ∃ a xs, v = .ref a ∧ SqT K H a xs ∧ DpAll K H xs ds := by
  cases h with | tup h1 h2 => exact ⟨_, _, rfl, h1, h2⟩
theorem dp_lst_inv {v : V} {ds : List PyData} (h : Dp K H v (.list ds)) : ∃ a xs, v = .ref a ∧ SqL K H a xs ∧ DpAll K H xs ds := by
  cases h with | lst h1 h2 => exact ⟨_, _, rfl, h1, h2⟩
theorem dp_int_inv {v : V} {i : Int} (h : Dp K H v (.int i)) : v = .int i := by cases h; rfl
theorem dpAll_len : ∀ {ds : List PyData} {vs : List V}, DpAll K H vs ds → vs.length = ds.length
  | [], _, h => by cases h; rfl
  | d :: r, _, h => by cases h with | cons a b => rw [List.length_cons, List.length_cons, dpAll_len b]
theorem dpAll_at : ∀ {ds : List PyData} {vs : List V} {i : Nat} {d : PyData}, DpAll K H vs ds → ds[i]? = some d → ∃ v, vs[i]? = some v ∧ Dp K H v d
  | [], _, _, _, _, e => by simp at e
  | d :: r, _, 0, _, h, e => by cases h with | cons a b => simp at e; subst e; exact ⟨_, rfl, a⟩
  | d :: r, _, i + 1, d', h, e => by
    cases h with
    | cons a b =>
      obtain ⟨w, h1, h2⟩ := dpAll_at (i := i) (d := d') b (by simpa using e)
      exact ⟨w, by simpa using h1, h2⟩
theorem _root_.L2.DpAll.app : ∀ {ds es : List PyData} {vs ws : List V}, DpAll K H vs ds → DpAll K H ws es → DpAll K H (vs ++ ws) (ds ++ es)
  | [], _, _, _, h, g => by cases h; exact g
  | d :: r, _, _, _, h, g => by cases h with | cons a b => exact .cons a (L2.DpAll.app b g)
theorem _root_.L2.DpAll.drop : ∀ {ds : List PyData} {vs : List V} (k : Nat), DpAll K H vs ds → DpAll K H (vs.drop k) (ds.drop k)
  | ds, vs, 0, h => h
  | [], _, k + 1, h => by cases h; exact .nil
  | d :: r, _, k + 1, h => by cases h with | cons a b => exact L2.DpAll.drop k b
theorem _root_.L2.DpAll.take : ∀ {ds : List PyData} {vs : List V} (k : Nat), DpAll K H vs ds → DpAll K H (vs.take k) (ds.take k)
  | ds, vs, 0, h => .nil
  | [], _, k + 1, h => by cases h; exact .nil
  | d :: r, _, k + 1, h => by cases h with | cons a b => exact .cons a (L2.DpAll.take k b)
def cutD (xs : List PyData) (lo hi : Option Int) : List PyData := (xs.drop (HT.sIx xs.length 0 lo)).take (HT.sIx xs.length xs.length hi - HT.sIx xs.length 0 lo)
theorem _root_.L2.DpAll.cut {ds : List PyData} {vs : List V} (h : DpAll K H vs ds) (lo hi : Option Int) : DpAll K H (cutV vs lo hi) (cutD ds lo hi) := by
  unfold cutV cutD
  rw [dpAll_len h]
  exact (h.drop _).take _
end
/-! ### what evaluates to data -/
def EvD (K : PySem.W.Frag) (te : TE) (σ : L2.St) (H : Hp) (d : PyData) : Prop := ∀ H1, Ex H H1 → ∀ Q : VK, (∀ v H2, Ex H1 H2 → Dp K H2 v d → Q v H2) → te σ H1 Q
def EvDA (K : PySem.W.Frag) (ta : TA) (σ : L2.St) (H : Hp) (ds : List PyData) : Prop := ∀ H1, Ex H H1 → ∀ Q : List V → Hp → Prop, (∀ vs H2, Ex H1 H2 → DpAll K H2 vs ds → Q vs H2) → ta σ H1 Q
/-- what a def that hands back data must be given -/
def RetD (K : PySem.W.Frag) (d : PyData) (H : Hp) (Q : VK) : Prop := ∀ v H2, Ex H H2 → Dp K H2 v d → Q v H2
section
variable {K : PySem.W.Frag} {H H1 H' : Hp} {σ : L2.St} {ta tb te : TE} {tt : TT} {t tr : TA} {D : Ends} {tz : TS} {d e : PyData} {v : V}
theorem EvD.mono (x : Ex H H') (h : EvD K te σ H d) : EvD K te σ H' d := fun H1 a Q q => h H1 (x.trans a) Q q
theorem ed_ev (h : Ev te σ H v) (hd : Dp K H v d) : EvD K te σ H d := fun H1 e Q q => h H1 e Q fun H2 e2 => q v H2 e2 (hd.ex (e.trans e2))
theorem ed_int {i : Int} (h : Ev te σ H (.int i)) : EvD K te σ H (.int i) := ed_ev h (.int i)
theorem ed_bl {b : Bool} (h : Ev te σ H (.bl b)) : EvD K te σ H (.bool b) := ed_ev h (.bl b)
theorem ed_non (h : Ev te σ H .non) : EvD K te σ H .none := ed_ev h .non
theorem ev_di {i : Int} (h : EvD K te σ H (.int i)) : Ev te σ H (.int i) := fun H1 e Q q => h H1 e Q fun v H2 e2 hd => by cases hd; exact q H2 e2
theorem ev_db {b : Bool} (h : EvD K te σ H (.bool b)) : Ev te σ H (.bl b) := fun H1 e Q q => h H1 e Q fun v H2 e2 hd => by cases hd; exact q H2 e2
theorem ed_L {xs : List V} {ds : List PyData} (h : EvL te σ H xs) (hd : DpAll K H xs ds) : EvD K te σ H (.list ds) := fun H1 e Q q => h H1 e Q fun p H2 _ e2 hp => q _ H2 e2 (.lst (sq_of hp) (hd.ex (e.trans e2)))
theorem ed_U {xs : List V} {ds : List PyData} (h : EvU te σ H xs) (hd : DpAll K H xs ds) : EvD K te σ H (.tuple ds) := fun H1 e Q q => h H1 e Q fun p H2 _ e2 hp => q _ H2 e2 (.tup (st_of hp) (hd.ex (e.trans e2)))
theorem eda_nil : EvDA K tNil σ H [] := fun H1 _ _ q => q [] H1 (Ex.refl H1) .nil
theorem eda_cons {ds : List PyData} (h : EvD K te σ H d) (hr : EvDA K tr σ H ds) : EvDA K (tCons te tr) σ H (d :: ds) := fun H1 e _ q =>
  h H1 e _ fun v H2 e2 hd => hr H2 (e.trans e2) _ fun vs H3 e3 hds => q _ H3 (e2.trans e3) (.cons (hd.ex e3) hds)
theorem ed_tup {ds : List PyData} (h : EvDA K t σ H ds) (hl : ds.length ≤ 100000) : EvD K (tTup t) σ H (.tuple ds) := fun H1 e _ q =>
  h H1 e _ fun vs H2 e2 hds => ⟨by rw [dpAll_len hds]; exact sz_of hl, fun p hp => q _ _ (e2.trans (Ex.new hp)) (.tup (st_of upd_same) (hds.ex (Ex.new hp)))⟩
theorem ed_lst {ds : List PyData} (h : EvDA K t σ H ds) (hl : ds.length ≤ 100000) : EvD K (tLst t) σ H (.list ds) := fun H1 e _ q =>
  h H1 e _ fun vs H2 e2 hds => ⟨by rw [dpAll_len hds]; exact sz_of hl, fun p hp => q _ _ (e2.trans (Ex.new hp)) (.lst (sq_of upd_same) (hds.ex (Ex.new hp)))⟩
theorem q_asgD {i : Nat} (h : EvD K te σ H d) (k : ∀ v H1, Ex H H1 → Dp K H1 v d → tz D (σ.set i (some v)) H1) : tSeq (tAsg te (gName i)) tz D σ H := h H (Ex.refl H) _ k
theorem s_asgD {i : Nat} (h : EvD K te σ H d) (k : ∀ v H1, Ex H H1 → Dp K H1 v d → D.nx (σ.set i (some v)) H1) : tAsg te (gName i) D σ H := h H (Ex.refl H) _ k
theorem s_retD (h : EvD K te σ H d) (k : RetD K d H D.rt) : tRet te D σ H := h H (Ex.refl H) _ k
theorem ed_call {sp : Sp} {dvs vs : List V} {E : XK} (h : EvA t σ H vs) (hs : ∀ H1, Ex H H1 → ∀ Q : VK, RetD K d H1 Q → sp (vs ++ dvs) H1 Q E) : EvD K (tCall sp dvs E t) σ H d := fun H1 e Q q =>
  h H1 e _ fun H2 e2 => hs H2 (e.trans e2) Q fun v H3 e3 hd => q v H3 (e2.trans e3) hd
theorem ed_callD {sp : Sp} {dvs : List V} {ds : List PyData} {E : XK} (h : EvDA K t σ H ds) (hs : ∀ vs H1, Ex H H1 → DpAll K H1 vs ds → ∀ Q : VK, RetD K d H1 Q → sp (vs ++ dvs) H1 Q E) : EvD K (tCall sp dvs E t) σ H d := fun H1 e Q q =>
  h H1 e _ fun vs H2 e2 hds => hs vs H2 (e.trans e2) hds Q fun v H3 e3 hd => q v H3 (e2.trans e3) hd
theorem ed_ixT {ds : List PyData} {i : Nat} (h : EvD K ta σ H (.tuple ds)) (hb : Ev tb σ H (.int (i : Int))) (hi : ds[i]? = some d) : EvD K (tOp (rIxT K) ta tb) σ H d := fun H1 e Q q =>
  h H1 e _ fun v H2 e2 hd => hb H2 (e.trans e2) _ fun H3 e3 => by
    obtain ⟨a, xs, rfl, h1, h2⟩ := dp_tup_inv hd
    obtain ⟨w, hw, hdw⟩ := dpAll_at h2 hi
    exact ⟨a, xs, (i : Int), w, rfl, rfl, ex_t e3 h1, atI_nat hw, q w H3 (e2.trans e3) (hdw.ex e3)⟩
theorem ed_ixL {ds : List PyData} {i : Nat} (h : EvD K ta σ H (.list ds)) (hb : Ev tb σ H (.int (i : Int))) (hi : ds[i]? = some d) : EvD K (tOp (rIxL K) ta tb) σ H d := fun H1 e Q q =>
  h H1 e _ fun v H2 e2 hd => hb H2 (e.trans e2) _ fun H3 e3 => by
    obtain ⟨a, xs, rfl, h1, h2⟩ := dp_lst_inv hd
    obtain ⟨w, hw, hdw⟩ := dpAll_at h2 hi
    exact ⟨a, xs, (i : Int), w, rfl, rfl, ex_l e3 h1, atI_nat hw, q w H3 (e2.trans e3) (hdw.ex e3)⟩
theorem atI_last {xs : List V} {w : V} (h : xs[xs.length - 1]? = some w) : atI xs (-1) = some w := by
  have hl : xs.length - 1 < xs.length := (List.getElem?_eq_some_iff.mp h).1
  show (ixN xs.length (-1)).bind (xs[·]?) = some w
  have e : ixN xs.length (-1) = some (xs.length - 1) := by
    unfold ixN
    split
    · omega
    · split
      · congr 1; omega
      · omega
  rw [e]
  exact h
theorem ed_lastL {ds : List PyData} (h : EvD K ta σ H (.list ds)) (hb : Ev tb σ H (.int (-1))) (hi : ds[ds.length - 1]? = some d) : EvD K (tOp (rIxL K) ta tb) σ H d := fun H1 e Q q =>
  h H1 e _ fun v H2 e2 hd => hb H2 (e.trans e2) _ fun H3 e3 => by
    obtain ⟨a, xs, rfl, h1, h2⟩ := dp_lst_inv hd
    obtain ⟨w, hw, hdw⟩ := dpAll_at h2 hi
    exact ⟨a, xs, -1, w, rfl, rfl, ex_l e3 h1, atI_last (by rw [dpAll_len h2]; exact hw), q w H3 (e2.trans e3) (hdw.ex e3)⟩
theorem ev_lenT {ds : List PyData} (h : EvD K ta σ H (.tuple ds)) : Ev (tCB (rLenS K) (tCons ta tNil)) σ H (.int (ds.length : Int)) := fun H1 e Q q =>
  h H1 e _ fun v H2 e2 hd => by
    obtain ⟨a, xs, rfl, h1, h2⟩ := dp_tup_inv hd
    refine ⟨a, xs, rfl, .inr h1, ?_⟩
    rw [dpAll_len h2]
    exact q H2 e2
theorem ev_lenLD {ds : List PyData} (h : EvD K ta σ H (.list ds)) : Ev (tCB (rLenS K) (tCons ta tNil)) σ H (.int (ds.length : Int)) := fun H1 e Q q =>
  h H1 e _ fun v H2 e2 hd => by
    obtain ⟨a, xs, rfl, h1, h2⟩ := dp_lst_inv hd
    refine ⟨a, xs, rfl, .inl h1, ?_⟩
    rw [dpAll_len h2]
    exact q H2 e2
theorem ed_slT {tl th : TO} {ds : List PyData} {lo hi : Option Int} (hn : ¬(HT.sIx ds.length 0 lo = 0 ∧ HT.sIx ds.length ds.length hi = ds.length)) (h : EvD K te σ H (.tuple ds)) (h1 : EvO tl σ H lo) (h2 : EvO th σ H hi) : EvD K (tSl (rSlT K) te tl th) σ H (.tuple (cutD ds lo hi)) := fun H1 e _ q =>
  h H1 e _ fun v H2 e2 hd => h1 H2 (e.trans e2) _ fun H3 e3 => h2 H3 ((e.trans e2).trans e3) _ fun H4 e4 => by
    obtain ⟨a, xs, rfl, g1, g2⟩ := dp_tup_inv hd
    exact ⟨a, xs, rfl, ex_t (e3.trans e4) g1, by rw [dpAll_len g2]; exact hn, fun p hp => q _ _ (((e2.trans e3).trans e4).trans (Ex.new hp)) (.tup (st_of upd_same) ((g2.ex (e3.trans e4)).cut lo hi |>.ex (Ex.new hp)))⟩
theorem ed_slL {tl th : TO} {ds : List PyData} {lo hi : Option Int} (h : EvD K te σ H (.list ds)) (h1 : EvO tl σ H lo) (h2 : EvO th σ H hi) : EvD K (tSl (rSlL K) te tl th) σ H (.list (cutD ds lo hi)) := fun H1 e _ q =>
  h H1 e _ fun v H2 e2 hd => h1 H2 (e.trans e2) _ fun H3 e3 => h2 H3 ((e.trans e2).trans e3) _ fun H4 e4 => by
    obtain ⟨a, xs, rfl, g1, g2⟩ := dp_lst_inv hd
    exact ⟨a, xs, rfl, ex_l (e3.trans e4) g1, fun p hp => q _ _ (((e2.trans e3).trans e4).trans (Ex.new hp)) (.lst (sq_of upd_same) ((g2.ex (e3.trans e4)).cut lo hi |>.ex (Ex.new hp)))⟩
/-- tuple(..) -/
theorem ed_tupOfT (h : EvD K te σ H (.tuple ds)) : EvD K (tCB (rTupOf K) (tCons te tNil)) σ H (.tuple ds) := fun H1 e _ q =>
  h H1 e _ fun v H2 e2 hd => by
    obtain ⟨a, xs, rfl, g1, g2⟩ := dp_tup_inv hd
    exact ⟨a, xs, rfl, .inr ⟨g1, q _ H2 e2 (.tup g1 g2)⟩⟩
theorem ed_tupOfL {ds : List PyData} (h : EvD K te σ H (.list ds)) : EvD K (tCB (rTupOf K) (tCons te tNil)) σ H (.tuple ds) := fun H1 e _ q =>
  h H1 e _ fun v H2 e2 hd => by
    obtain ⟨a, xs, rfl, g1, g2⟩ := dp_lst_inv hd
    exact ⟨a, xs, rfl, .inl ⟨g1, fun l hl => q _ _ (e2.trans (Ex.new hl)) (.tup (st_of upd_same) (g2.ex (Ex.new hl)))⟩⟩
theorem ed_lstOfT {ds : List PyData} (h : EvD K te σ H (.tuple ds)) : EvD K (tCB (rLstOf K) (tCons te tNil)) σ H (.list ds) := fun H1 e _ q =>
  h H1 e _ fun v H2 e2 hd => by
    obtain ⟨a, xs, rfl, g1, g2⟩ := dp_tup_inv hd
    exact ⟨a, xs, rfl, .inr g1, fun l hl => q _ _ (e2.trans (Ex.new hl)) (.lst (sq_of upd_same) (g2.ex (Ex.new hl)))⟩
/-- a new list of a tuple of ints -/
theorem el_lstOfT {ns : List Int} (h : EvD K te σ H (.tuple (ns.map PyData.int))) : EvL (tCB (rLstOf K) (tCons te tNil)) σ H (ns.map V.int) := fun H1 e _ q =>
  h H1 e _ fun v H2 e2 hd => by
    obtain ⟨a, rfl, g1⟩ := dp_intsT_inv hd
    exact ⟨a, _, rfl, .inr g1, fun l hl => q l _ (fresh_back e2 hl) (e2.trans (Ex.new hl)) upd_same⟩
/-! ### equality and repr of data -/
theorem eqv_refl_ints (ns ms : List Int) : PyData.eqv (.list (ns.map PyData.int)) (.list (ms.map PyData.int)) = decide (ns = ms) := by rw [PyData.eqv, eqv_ints]
theorem ev_eqD {d e : PyData} (ha : EvD K ta σ H d) (hb : EvD K tb σ H e) (hd : SeqAt.shaped d = true) (he : SeqAt.shaped e = true) : Ev (tOp (rEqD K) ta tb) σ H (.bl (PyData.eqv d e)) := fun H1 x Q q =>
  ha H1 x _ fun v H2 e2 h1 => hb H2 (x.trans e2) _ fun w H3 e3 h2 => ⟨d, e, h1.ex e3, h2, hd, he, q H3 (e2.trans e3)⟩
theorem ev_neD {d e : PyData} (ha : EvD K ta σ H d) (hb : EvD K tb σ H e) (hd : SeqAt.shaped d = true) (he : SeqAt.shaped e = true) : Ev (tOp (rNeD K) ta tb) σ H (.bl (!PyData.eqv d e)) := fun H1 x Q q =>
  ha H1 x _ fun v H2 e2 h1 => hb H2 (x.trans e2) _ fun w H3 e3 h2 => ⟨d, e, h1.ex e3, h2, hd, he, q H3 (e2.trans e3)⟩
/-- what repr may be asked of -/
structure Nice (d : PyData) : Prop where
  sh : d.showable = true
  nd : d.hasDict = false
  dp : d.depth ≤ 40
  ln : d.shown.length ≤ sizeLine
theorem ev_reprD {d : PyData} (h : EvD K te σ H d) (n : Nice d) : Ev (tCB (rRepr K) (tCons te tNil)) σ H (.str d.shown) := fun H1 e Q q =>
  h H1 e _ fun v H2 e2 hd => ⟨v, d, rfl, hd, n.sh, n.nd, n.dp, n.ln, q H2 e2⟩
end
/-! small data: ints below 10 ^ 100, no texts, no dicts -/
mutual
def smD : PyData → Bool
  | .none | .bool _ => true
  | .int i => decide (i.natAbs < 10 ^ 100)
  | .list ds | .tuple ds => smDs ds
  | .str _ | .dict _ => false
def smDs : List PyData → Bool
  | [] => true
  | d :: r => smD d && smDs r
end
theorem int_short {n : Int} (h : n.natAbs < 10 ^ 100) : (PyData.int n).leavesShort 101 = true := by
  rw [PyData.leavesShort]
  refine decide_eq_true ?_
  unfold PyData.shown
  have h := int_text_length_le10 (k := 100) (by decide) h
  have e : (Str.ofString (toString n)).length = (toString n).length := PySem.ofString_length _
  show (Str.ofString (toString n)).length ≤ 101
  rw [e]
  exact h
mutual
theorem sm_short : ∀ d : PyData, smD d = true → d.leavesShort 101 = true
  | .none, _ => by simp [PyData.leavesShort]
  | .bool _, _ => by simp [PyData.leavesShort]
  | .int i, h => int_short (by rw [smD] at h; exact of_decide_eq_true h)
  | .str _, h => by rw [smD] at h; cases h
  | .list ds, h => by rw [PyData.leavesShort]; exact sm_shorts ds (by rw [smD] at h; exact h)
  | .tuple ds, h => by rw [PyData.leavesShort]; exact sm_shorts ds (by rw [smD] at h; exact h)
  | .dict _, h => by rw [smD] at h; cases h
theorem sm_shorts : ∀ ds : List PyData, smDs ds = true → PyData.leavesShortAll 101 ds = true
  | [], _ => by simp [PyData.leavesShortAll]
  | d :: r, h => by
    rw [smDs, Bool.and_eq_true] at h
    rw [PyData.leavesShortAll, sm_short d h.1, sm_shorts r h.2]
    rfl
end
mutual
theorem sm_show : ∀ d : PyData, smD d = true → d.showable = true
  | .none, _ => by simp [PyData.showable]
  | .bool _, _ => by simp [PyData.showable]
  | .int i, h => by rw [PyData.showable]; exact decide_eq_true (log_lt (by rw [smD] at h; exact of_decide_eq_true h))
  | .str _, h => by rw [smD] at h; cases h
  | .list ds, h => by rw [PyData.showable]; exact sm_shows ds (by rw [smD] at h; exact h)
  | .tuple ds, h => by rw [PyData.showable]; exact sm_shows ds (by rw [smD] at h; exact h)
  | .dict _, h => by rw [smD] at h; cases h
theorem sm_shows : ∀ ds : List PyData, smDs ds = true → PyData.showableAll ds = true
  | [], _ => by simp [PyData.showableAll]
  | d :: r, h => by
    rw [smDs, Bool.and_eq_true] at h
    rw [PyData.showableAll, sm_show d h.1, sm_shows r h.2]
    rfl
end
mutual
theorem sm_dict : ∀ d : PyData, smD d = true → d.hasDict = false
  | .none, _ => by simp [PyData.hasDict]
  | .bool _, _ => by simp [PyData.hasDict]
  | .int i, h => by simp [PyData.hasDict]
  | .str _, h => by rw [smD] at h; cases h
  | .list ds, h => by rw [PyData.hasDict]; exact sm_dicts ds (by rw [smD] at h; exact h)
  | .tuple ds, h => by rw [PyData.hasDict]; exact sm_dicts ds (by rw [smD] at h; exact h)
  | .dict _, h => by rw [smD] at h; cases h
theorem sm_dicts : ∀ ds : List PyData, smDs ds = true → PyData.hasDictAll ds = false
  | [], _ => by simp [PyData.hasDictAll]
  | d :: r, h => by
    rw [smDs, Bool.and_eq_true] at h
    rw [PyData.hasDictAll, sm_dict d h.1, sm_dicts r h.2]
    rfl
end
theorem nice_sm {d : PyData} (h : smD d = true) (hd : d.depth ≤ 40) (hb : d.bulk ≤ 100000) : Nice d := by
  refine ⟨sm_show d h, sm_dict d h, hd, ?_⟩
  have hk := PyData.shown_le_bulk 101 (by decide) _ (sm_short d h)
  rw [sizeLine_eq]
  omega
theorem smDs_ints {ns : List Int} (h : ∀ n ∈ ns, n.natAbs < 10 ^ 100) : smDs (ns.map PyData.int) = true := by
  induction ns with
  | nil => simp [smDs]
  | cons n r ih =>
    rw [List.map_cons, smDs, smD, decide_eq_true (h n List.mem_cons_self), ih fun m hm => h m (List.mem_cons_of_mem _ hm)]
    rfl
theorem bulk_ints (ns : List Int) : PyData.bulkAll (ns.map PyData.int) = ns.length := by
  induction ns with
  | nil => simp [PyData.bulkAll]
  | cons n r ih => rw [List.map_cons, PyData.bulkAll, PyData.bulk, ih, List.length_cons]; omega
/-! ### dicts from ints to ints -/
def kvI (sd : List (Int × Int)) : List (Key × V) := sd.map fun p => (Sum.inl p.1, V.int p.2)
def getI : List (Int × Int) → Int → Option Int
  | [], _ => none
  | p :: r, k => if p.1 = k then some p.2 else getI r k
def putI (sd : List (Int × Int)) (k v : Int) : List (Int × Int) := if (sd.any fun p => decide (p.1 = k)) = true then sd.map (fun p => if p.1 = k then (p.1, v) else p) else sd ++ [(k, v)]
theorem kvI_get (sd : List (Int × Int)) (k : Int) : valV (kvI sd) (Sum.inl k) = (getI sd k).map V.int := by
  induction sd with
  | nil => rfl
  | cons p r ih =>
    unfold getI
    by_cases h : p.1 = k
    · rw [if_pos h]
      exact valV_pos (p := (Sum.inl p.1, V.int p.2)) (by rw [h])
    · rw [if_neg h, ← ih]
      exact valV_neg (p := (Sum.inl p.1, V.int p.2)) (fun z => h (Sum.inl.inj z))
theorem kvI_put (sd : List (Int × Int)) (k v : Int) : putK (kvI sd) (Sum.inl k) (V.int v) = kvI (putI sd k v) := by
  have ha : ((kvI sd).any fun kv => decide (kv.1 = Sum.inl k)) = sd.any fun p => decide (p.1 = k) := by
    unfold kvI
    rw [List.any_map]
    congr 1
    funext p
    show decide ((Sum.inl p.1 : Key) = Sum.inl k) = decide (p.1 = k)
    by_cases h : p.1 = k
    · rw [h]; simp
    · rw [decide_eq_false h, decide_eq_false (fun z => h (Sum.inl.inj z))]
  unfold putK putI
  rw [ha]
  by_cases a : (sd.any fun p => decide (p.1 = k)) = true
  · rw [if_pos a, if_pos a]
    unfold kvI
    rw [List.map_map, List.map_map]
    congr 1
    funext p
    show (if (Sum.inl p.1 : Key) = Sum.inl k then (Sum.inl p.1, V.int v) else (Sum.inl p.1, V.int p.2)) = (fun p : Int × Int => ((Sum.inl p.1 : Key), V.int p.2)) (if p.1 = k then (p.1, v) else p)
    by_cases h : p.1 = k
    · rw [if_pos (by rw [h]), if_pos h]
    · rw [if_neg (fun z => h (Sum.inl.inj z)), if_neg h]
  · rw [if_neg a, if_neg a]
    unfold kvI
    rw [List.map_append]
    rfl
theorem getI_put (sd : List (Int × Int)) (k j v : Int) : getI (putI sd k v) j = if j = k then some v else getI sd j := by
  have h := valV_put (kvI sd) (Sum.inl k) (Sum.inl j) (V.int v)
  rw [kvI_put, kvI_get, kvI_get] at h
  by_cases e : j = k
  · rw [if_pos e]
    rw [if_pos (by rw [e])] at h
    cases q : getI (putI sd k v) j with
    | none => rw [q] at h; cases h
    | some w => rw [q] at h; cases h; rfl
  · rw [if_neg e]
    rw [if_neg (fun z => e (Sum.inl.inj z))] at h
    cases q : getI (putI sd k v) j with
    | none => rw [q] at h; cases r : getI sd j with
      | none => rfl
      | some w => rw [r] at h; cases h
    | some w => rw [q] at h; cases r : getI sd j with
      | none => rw [r] at h; cases h
      | some u => rw [r] at h; cases h; rfl
theorem putI_len (sd : List (Int × Int)) (k v : Int) : (putI sd k v).length ≤ sd.length + 1 := by
  unfold putI
  split
  · rw [List.length_map]; omega
  · rw [List.length_append]; exact Nat.le_refl _
theorem kvI_len (sd : List (Int × Int)) : (kvI sd).length = sd.length := by unfold kvI; rw [List.length_map]
theorem kvI_keys (sd : List (Int × Int)) : (kvI sd).map (·.1) = (sd.map (·.1)).map Sum.inl := by unfold kvI; rw [List.map_map, List.map_map]; rfl
section
variable {K : PySem.W.Frag} {H H1 H' : Hp} {σ : L2.St} {ta tb te td ty tx tv : TE} {tt : TT} {t tr : TA} {D : Ends} {tz : TS} {a : Addr}
/-- d.get(k, x) -/
theorem ev_dget2 {kvs : List (Key × V)} {k : Key} {z : V} (h : Ev td σ H (.ref a)) (hd : H a = some (.dK kvs)) (hk : Ev ty σ H (kV k)) (hx : Ev tx σ H z) : Ev (tDGet2 td ty tx) σ H ((valV kvs k).getD z) := fun H1 e Q q =>
  h H1 e _ fun H2 e2 => ⟨a, rfl, .inl ⟨kvs, .inl (e2 _ _ (e _ _ hd))⟩, hk H2 (e.trans e2) _ fun H3 e3 => hx H3 ((e.trans e2).trans e3) _ fun H4 e4 => ⟨_, DGet.k (e4 _ _ (e3 _ _ (e2 _ _ (e _ _ hd)))), q H4 ((e2.trans e3).trans e4)⟩⟩
theorem ev_dget1 {kvs : List (Key × V)} {k : Key} (h : Ev td σ H (.ref a)) (hd : H a = some (.dK kvs)) (hk : Ev ty σ H (kV k)) : Ev (tDGet1 td ty) σ H ((valV kvs k).getD .non) := fun H1 e Q q =>
  h H1 e _ fun H2 e2 => ⟨a, rfl, .inl ⟨kvs, .inl (e2 _ _ (e _ _ hd))⟩, hk H2 (e.trans e2) _ fun H3 e3 => ⟨_, DGet.k (e3 _ _ (e2 _ _ (e _ _ hd))), q H3 (e2.trans e3)⟩⟩
theorem ev_getI {sd : List (Int × Int)} {k : Int} (h : Ev td σ H (.ref a)) (hd : H a = some (.dK (kvI sd))) (hk : Ev ty σ H (.int k)) (hx : Ev tx σ H (.int 0)) : Ev (tDGet2 td ty tx) σ H (.int ((getI sd k).getD 0)) := by
  have e := ev_dget2 (k := Sum.inl k) h hd hk hx
  rw [kvI_get] at e
  cases q : getI sd k with
  | none => rw [q] at e; exact e
  | some v => rw [q] at e; exact e
theorem ev_ixI {sd : List (Int × Int)} {k v : Int} (h : Ev td σ H (.ref a)) (hk : Ev ty σ H (.int k)) (hd : H a = some (.dK (kvI sd))) (hv : getI sd k = some v) : Ev (tDGet td ty) σ H (.int v) :=
  ev_dget (k := Sum.inl k) h hk hd (by rw [kvI_get, hv]; rfl)
theorem ev_inI {kvs : List (Key × V)} {k : Int} (hk : Ev ty σ H (.int k)) (h : Ev td σ H (.ref a)) (hd : H a = some (.dK kvs)) : Ev (tDIn ty td) σ H (.bl (valV kvs (Sum.inl k)).isSome) := fun H1 e Q q =>
  hk H1 e _ fun H2 e2 => h H2 (e.trans e2) _ fun H3 e3 => ⟨a, _, rfl, DGet.k (k := Sum.inl k) (e3 _ _ (e2 _ _ (e _ _ hd))), q H3 (e2.trans e3)⟩
theorem ev_niI {kvs : List (Key × V)} {k : Int} (hk : Ev ty σ H (.int k)) (h : Ev td σ H (.ref a)) (hd : H a = some (.dK kvs)) : Ev (tDNotIn ty td) σ H (.bl (!(valV kvs (Sum.inl k)).isSome)) := fun H1 e Q q =>
  hk H1 e _ fun H2 e2 => h H2 (e.trans e2) _ fun H3 e3 => ⟨a, _, rfl, DGet.k (k := Sum.inl k) (e3 _ _ (e2 _ _ (e _ _ hd))), q H3 (e2.trans e3)⟩
/-- d[k] = v, ints, within 100000 pairs; the value may change the heap -/
theorem s_dputI {P : V → Hp → Prop} {k : Int} (hv : EvP tv σ H P) (q : ∀ v H1, P v H1 → ∃ kvs, H1 a = some (.dK kvs) ∧ (∀ H2, Ex H1 H2 → Ev td σ H2 (.ref a)) ∧ (∀ H2, Ex H1 H2 → Ev ty σ H2 (.int k)) ∧ kvs.length < 100000 ∧ ∀ H2, Ex H1 H2 → D.nx σ (upd H2 a (.dK (putK kvs (Sum.inl k) v)))) : sDPut td ty tv D σ H :=
  hv _ fun v H1 h1 => by
    obtain ⟨kvs, hd, ha, hk, hz, g⟩ := q v H1 h1
    exact ha H1 (Ex.refl H1) H1 (Ex.refl H1) _ fun H2 e2 => hk H2 e2 H2 (Ex.refl H2) _ fun H3 e3 => ⟨a, _, rfl, DPut.k (k := Sum.inl k) (e3 _ _ (e2 _ _ hd)) (sz_lt hz), g H3 (e2.trans e3)⟩
theorem q_dputI {P : V → Hp → Prop} {k : Int} (hv : EvP tv σ H P) (q : ∀ v H1, P v H1 → ∃ kvs, H1 a = some (.dK kvs) ∧ (∀ H2, Ex H1 H2 → Ev td σ H2 (.ref a)) ∧ (∀ H2, Ex H1 H2 → Ev ty σ H2 (.int k)) ∧ kvs.length < 100000 ∧ ∀ H2, Ex H1 H2 → tz D σ (upd H2 a (.dK (putK kvs (Sum.inl k) v)))) : tSeq (sDPut td ty tv) tz D σ H :=
  s_dputI (D := { D with nx := tz D }) hv q
/-! ### arguments that change the heap -/
def EvAP (ta : TA) (σ : L2.St) (H : Hp) (PA : List V → Hp → Prop) : Prop := ∀ Q : List V → Hp → Prop, (∀ vs H', PA vs H' → Q vs H') → ta σ H Q
theorem eap_one {P : V → Hp → Prop} (h : EvP te σ H P) : EvAP (tCons te tNil) σ H (fun vs H' => ∃ v, vs = [v] ∧ P v H') := fun Q q => h _ fun v H1 h1 => q [v] H1 ⟨v, rfl, h1⟩
theorem ep_methP {sp : Sp} {E : XK} {PA : List V → Hp → Prop} {P : V → Hp → Prop} {C dx : Addr} {fs : List (Str × V)} {m : Str} (ha : Ev ta σ H (.ref a)) (ho : H a = some (.ins C dx fs)) (hl : fs.lookup m = none) (ht : ∀ H1, Ex H H1 → EvAP t σ H1 PA)
    (hs : ∀ vs H1, PA vs H1 → ∀ Q : VK, (∀ v H', P v H' → Q v H') → sp (.ref a :: (vs ++ [])) H1 Q E) : EvP (tMeth C m sp [] E ta t) σ H P := fun Q q =>
  ha H (Ex.refl H) _ fun H1 e1 => ⟨a, dx, fs, rfl, e1 _ _ ho, hl, ht H1 e1 _ fun vs H2 h2 => hs vs H2 h2 Q q⟩
/-- xs.append(e), e may change the heap -/
theorem s_appR {P : V → Hp → Prop} {xs : List V} (ha : Ev ta σ H (.ref a)) (hl : H a = some (.lst xs)) (h : ∀ H1, Ex H H1 → EvP te σ H1 P) (k : ∀ v H1, P v H1 → ∃ ys, H1 a = some (.lst ys) ∧ ys.length < 100000 ∧ D.nx σ (upd H1 a (.lst (ys ++ [v])))) :
    tDrop (tBM K "list" rAppend ta (tCons te tNil)) D σ H := ha H (Ex.refl H) _ fun H1 e1 =>
  ⟨.inl ⟨rfl, xs, sq_of (e1 a _ hl)⟩, h H1 e1 _ fun v H2 hv => by
    obtain ⟨ys, h1, h2, h3⟩ := k v H2 hv
    exact ⟨a, ys, v, rfl, rfl, h1, sz_lt h2, h3⟩⟩
theorem q_appR {P : V → Hp → Prop} {xs : List V} (ha : Ev ta σ H (.ref a)) (hl : H a = some (.lst xs)) (h : ∀ H1, Ex H H1 → EvP te σ H1 P) (k : ∀ v H1, P v H1 → ∃ ys, H1 a = some (.lst ys) ∧ ys.length < 100000 ∧ tz D σ (upd H1 a (.lst (ys ++ [v])))) :
    tSeq (tDrop (tBM K "list" rAppend ta (tCons te tNil))) tz D σ H := s_appR (D := { D with nx := tz D }) ha hl h k
theorem ep_opR {r : R2} {y : V} {P1 P : V → Hp → Prop} (ha : EvP ta σ H P1) (hb : ∀ v H1, P1 v H1 → Ev tb σ H1 y) (hr : ∀ v H1, P1 v H1 → ∀ H2, Ex H1 H2 → ∀ Q : VK, (∀ z H', P z H' → Q z H') → r v y H2 Q) : EvP (tOp r ta tb) σ H P := fun Q q =>
  ha _ fun v H1 h1 => hb v H1 h1 H1 (Ex.refl H1) _ fun H2 e2 => hr v H1 h1 H2 e2 Q q
theorem etp_val {P : V → Hp → Prop} {P2 : Bool → Hp → Prop} (h : EvP te σ H P) (k : ∀ v H1, P v H1 → ∃ b, v = .bl b ∧ P2 b H1) : EtP (tTest te) σ H P2 := fun Q q => h _ fun v H1 h1 => by
  obtain ⟨b, rfl, h2⟩ := k v H1 h1
  exact ⟨b, rfl, q b H1 h2⟩
end
section
variable {K : PySem.W.Frag} {H : Hp} {σ : L2.St} {te : TE} {tt : TT} {ta : TA} {d : PyData} {v : V} {Q : VK}
theorem go_ev (h : Ev te σ H v) (k : ∀ H1, Ex H H1 → Q v H1) : te σ H Q := h H (Ex.refl H) Q k
theorem go_ed (h : EvD K te σ H d) (k : ∀ v H1, Ex H H1 → Dp K H1 v d → Q v H1) : te σ H Q := h H (Ex.refl H) Q k
theorem go_et {b : Bool} {Q : Bool → Hp → Prop} (h : EvT tt σ H b) (k : ∀ H1, Ex H H1 → Q b H1) : tt σ H Q := h H (Ex.refl H) Q k
theorem go_ea {vs : List V} {Q : List V → Hp → Prop} (h : EvA ta σ H vs) (k : ∀ H1, Ex H H1 → Q vs H1) : ta σ H Q := h H (Ex.refl H) Q k
end
/-! ### sorted ints -/
def srt (ks : List Int) : List Int := ks.mergeSort (fun a b => decide (a ≤ b))
theorem srt_perm (ks : List Int) : (srt ks).Perm ks := List.mergeSort_perm ks _
theorem srt_sorted (ks : List Int) : (srt ks).Pairwise (· ≤ ·) := by
  have h := List.pairwise_mergeSort (le := fun a b : Int => decide (a ≤ b)) (fun a b c h1 h2 => by simp at *; omega) (fun a b => by simp; omega) ks
  exact h.imp fun h => by simpa using h
theorem srt_uniq {ks ns : List Int} (h : ns.Perm ks) (s : ns.Pairwise (· ≤ ·)) : ns = srt ks := PySem.W.ksm_same (h.trans (srt_perm ks).symm) s (srt_sorted ks)
end Gd

set_option Elab.async false
set_option linter.all false
set_option maxRecDepth 100000
set_option maxHeartbeats 4000000
/-! Of our own: comprehensions that give data; dict comprehensions; ranges by fours; tuples taken apart. -/
namespace Gd
open PySem PySem.Spec PyProof.Rows L2 Evl
/-- a new list of data -/
def EvLD (K : PySem.W.Frag) (te : TE) (σ : L2.St) (H : Hp) (ds : List PyData) : Prop := ∀ H1, Ex H H1 → ∀ Q : VK, (∀ p xs H2, H1 p = none → Ex H1 H2 → H2 p = some (.lst xs) → DpAll K H2 xs ds → Q (.ref p) H2) → te σ H1 Q
def givD (n : Nat) (b : Nat → Bool) (g : Nat → PyData) : List PyData := ((List.range n).filter b).map g
theorem givD_yes {n : Nat} {f : Nat → Bool} {v : Nat → PyData} (h : f n = true) : givD (n + 1) f v = givD n f v ++ [v n] := by
  unfold givD
  rw [List.range_succ, List.filter_append, List.map_append, List.filter_cons, if_pos h] <;> rfl
theorem givD_no {n : Nat} {f : Nat → Bool} {v : Nat → PyData} (h : f n = false) : givD (n + 1) f v = givD n f v := by
  unfold givD
  rw [List.range_succ, List.filter_append, List.map_append, List.filter_cons, if_neg (by rw [h]; decide)]
  show _ ++ [] = _
  rw [List.append_nil]
theorem givD_len (n : Nat) (f : Nat → Bool) (v : Nat → PyData) : (givD n f v).length ≤ n := by
  unfold givD
  rw [List.length_map]
  have h := List.length_filter_le f (List.range n)
  rw [List.length_range] at h
  exact h
theorem tupOs_at : ∀ {ds : List PyData}, (∀ d ∈ ds, tupO d = true) → tupOs ds = true
  | [], _ => by simp [tupOs]
  | d :: r, h => by rw [tupOs, h d List.mem_cons_self, tupOs_at fun e m => h e (List.mem_cons_of_mem _ m)]; rfl
theorem givD_tup {n : Nat} {b : Nat → Bool} {g : Nat → PyData} (h : ∀ i, i < n → tupO (g i) = true) : tupOs (givD n b g) = true := tupOs_at fun d m => by
  unfold givD at m
  obtain ⟨i, hi, rfl⟩ := List.mem_map.mp m
  exact h i (by have := (List.mem_filter.mp hi).1; simpa using this)
/-- what xs.map with a test gives, by places -/
theorem filter_range_map {α : Type} (l : List α) (p : α → Bool) (g : α → PyData) (z : α) : givD l.length (fun i => p (l.getD i z)) (fun i => g (l.getD i z)) = (l.filter p).map g := by
  have key : ∀ k, k ≤ l.length → givD k (fun i => p (l.getD i z)) (fun i => g (l.getD i z)) = ((l.take k).filter p).map g := by
    intro k
    induction k with
    | zero => intro _; rfl
    | succ k ih =>
      intro hk
      have hlt : k < l.length := by omega
      have hg : l[k]? = some l[k] := List.getElem?_eq_getElem hlt
      have hd : l.getD k z = l[k] := by rw [List.getD_eq_getElem?_getD, hg]; rfl
      rw [take_snoc hg, List.filter_append, List.map_append]
      cases hp : p l[k] with
      | true =>
        rw [givD_yes (by rw [hd]; exact hp), ih (by omega), hd]
        simp [hp]
      | false =>
        rw [givD_no (by rw [hd]; exact hp), ih (by omega)]
        simp [hp]
  have := key l.length (Nat.le_refl _)
  rw [List.take_length] at this
  exact this
section
variable {K : PySem.W.Frag} {σ : L2.St} {H H1 H' : Hp} {ta tb te tl tk tv : TE} {tt t u : TT} {D : Ends} {tz tu : TS} {vs : List Nat} {j : Nat}
theorem ed_LD {ds : List PyData} (h : EvLD K te σ H ds) : EvD K te σ H (.list ds) := fun H1 e Q q => h H1 e Q fun p xs H2 _ e2 hp hd => q _ H2 e2 (.lst (sq_of hp) hd)
theorem et_yes : EvT tYes σ H true := fun H1 _ _ q => q H1 (Ex.refl H1)
theorem q_asgLD {i : Nat} {ds : List PyData} (h : EvLD K te σ H ds) (k : ∀ p xs H1, H p = none → Ex H H1 → H1 p = some (.lst xs) → DpAll K H1 xs ds → tz D (σ.set i (some (.ref p))) H1) : tSeq (tAsg te (gName i)) tz D σ H := h H (Ex.refl H) _ k
theorem s_retLD {ds : List PyData} (h : EvLD K te σ H ds) (k : ∀ p xs H1, H p = none → Ex H H1 → H1 p = some (.lst xs) → DpAll K H1 xs ds → D.rt (.ref p) H1) : tRet te D σ H := h H (Ex.refl H) _ k
theorem eld_L {xs : List V} {ds : List PyData} (h : EvL te σ H xs) (hd : DpAll K H xs ds) : EvLD K te σ H ds := fun H1 e Q q => h H1 e Q fun p H2 hp e2 h2 => q p xs H2 hp e2 h2 (hd.ex (e.trans e2))
/-- EvLD of ints is EvL -/
theorem el_ints {ns : List Int} (h : EvLD K te σ H (ns.map PyData.int)) : EvL te σ H (ns.map V.int) := fun H1 e Q q => h H1 e Q fun p xs H2 hp e2 h2 hd => q p H2 hp e2 (by rw [← dpAll_ints_inv hd]; exact h2)
theorem lc_data {J : It} {n : Nat} {G : Hp → Prop} {Y : Nat → Hp → V → Hp → Prop} {b : Nat → Bool} {g : Nat → PyData} {Dl : Addr} {Qd : Hp → Prop} (w : Walk J n G Y) (xi : Nat → V) (hY : ∀ i H x H', i < n → Y i H x H' → H' = H ∧ x = xi i) (hz : n ≤ 90000)
    (hw : ∀ x, wipe ((wipe σ vs).set j (some x)) vs = wipe σ vs) (hG : ∀ H', Ex H1 H' → G H') (ht : ∀ i, i < n → tupO (g i) = true)
    (hb : ∀ i, i < n → ∀ H', Ex H1 H' → EvT tt ((wipe σ vs).set j (some (xi i))) H' (b i)) (he : ∀ i, i < n → b i = true → ∀ H', Ex H1 H' → EvD K te ((wipe σ vs).set j (some (xi i))) H' (g i)) (hD : H1 Dl = none)
    (k : ∀ xs H', Ex H1 H' → H' Dl = some (.lst xs) → DpAll K H' xs (givD n b g) → Qd H') :
    ∃ W : Nat → Nat → Hp → Prop, (∃ m, W 0 m (upd H1 Dl (.lst []))) ∧ ∀ i m H, W i m H →
      (J.stop i H ∧ Qd H) ∨ (J.go i H ∧ ∃ Nx : Hp → Prop, (∀ H', Nx H' → ∃ m', m' < m ∧ W (i + 1) m' H') ∧ ∀ x H', J.yld i H x H' → gName j x (wipe σ vs) H' fun σ2 H2 => wipe σ2 vs = wipe σ vs ∧ tt σ2 H2 fun b H3 =>
        if b = true then te σ2 H3 fun y H4 => ∃ acc, H4 Dl = some (.lst acc) ∧ acc.length < sizeLine ∧ Nx (upd H4 Dl (.lst (acc ++ [y]))) else Nx H3) := by
  refine lc_it w (fun i H' => Ex H1 H' ∧ ∃ xs, H' Dl = some (.lst xs) ∧ DpAll K H' xs (givD i b g)) ⟨Ex.new hD, [], upd_same, .nil⟩ (fun i H' _ p => hG H' p.1) ?_ (fun H' p => let ⟨xs, h1, h2⟩ := p.2; k xs H' p.1 h1 h2)
  intro i x H2 H3 hi p y
  obtain ⟨e, hx⟩ := hY i H2 x H3 hi y
  subst e hx
  obtain ⟨p1, xs, p2, p3⟩ := p
  refine ⟨hw _, hb i hi H3 p1 H3 (Ex.refl H3) _ fun H4 e4 => ?_⟩
  cases hbi : b i with
  | true =>
    rw [if_pos rfl]
    refine he i hi hbi H4 (p1.trans e4) H4 (Ex.refl H4) _ fun v H5 e5 hd => ⟨xs, e5 _ _ (e4 _ _ p2), sz_lt (by rw [dpAll_len p3]; have := givD_len i b g; omega), Ex.mut (p1.trans (e4.trans e5)) hD, _, upd_same, ?_⟩
    rw [givD_yes hbi]
    refine DpAll.app ((p3.ex (e4.trans e5)).upd (givD_tup fun m hm => ht m (by omega)) (e5 _ _ (e4 _ _ p2)) nt_lst) ?_
    exact .cons (hd.upd (ht i hi) (e5 _ _ (e4 _ _ p2)) nt_lst) .nil
  | false =>
    rw [if_neg Bool.false_ne_true]
    exact ⟨p1.trans e4, xs, e4 _ _ p2, by rw [givD_no hbi]; exact p3.ex e4⟩
/-- [e for x in range(i, j, c) if t] -/
theorem eld_lcC {tr : TA} {i0 j0 c0 : Int} {n : Nat} {b : Nat → Bool} {g : Nat → PyData} (h : EvA tr σ H [.int i0, .int j0, .int c0]) (hr : RgC i0 j0 c0 n) (hz : n ≤ 90000) (hw : ∀ x, wipe ((wipe σ vs).set j (some x)) vs = wipe σ vs) (ht : ∀ i, i < n → tupO (g i) = true)
    (hb : ∀ i, i < n → ∀ H', Ex H H' → EvT tt ((wipe σ vs).set j (some (.int (i0 + (i : Nat) * c0)))) H' (b i)) (he : ∀ i, i < n → b i = true → ∀ H', Ex H H' → EvD K te ((wipe σ vs).set j (some (.int (i0 + (i : Nat) * c0)))) H' (g i)) :
    EvLD K (tLc (iRng3 tr) (gName j) tt te vs) σ H (givD n b g) := fun H0 e Q q => h H0 e _ fun H1 e1 => ⟨i0, j0, c0, n, rfl, hr, fun Dl hD =>
  lc_data walk_rangeC (fun i => .int (i0 + (i : Nat) * c0)) (fun _ _ _ _ _ y => y) hz hw (fun _ _ => trivial) ht (fun i hi H' e' => hb i hi H' ((e.trans e1).trans e')) (fun i hi hbi H' e' => he i hi hbi H' ((e.trans e1).trans e')) hD
    (fun xs H' e' h1 h2 => q Dl xs H' (fresh_back e1 hD) (e1.trans e') h1 h2)⟩
/-- [e for x in range(n) if t] -/
theorem eld_lcR1 {tr : TA} {n : Nat} {b : Nat → Bool} {g : Nat → PyData} (h : EvA tr σ H [.int (n : Int)]) (hz : n ≤ 90000) (hw : ∀ x, wipe ((wipe σ vs).set j (some x)) vs = wipe σ vs) (ht : ∀ i, i < n → tupO (g i) = true)
    (hb : ∀ i, i < n → ∀ H', Ex H H' → EvT tt ((wipe σ vs).set j (some (.int (i : Int)))) H' (b i)) (he : ∀ i, i < n → b i = true → ∀ H', Ex H H' → EvD K te ((wipe σ vs).set j (some (.int (i : Int)))) H' (g i)) :
    EvLD K (tLc (iRng1 tr) (gName j) tt te vs) σ H (givD n b g) := fun H0 e Q q => h H0 e _ fun H1 e1 => ⟨(n : Int), rfl, by omega, by omega, fun Dl hD => by
  have z : ∀ i : Nat, (0 : Int) + (i : Int) = (i : Int) := fun i => Int.zero_add _
  exact lc_data (walk_range (lo := 0) (n := n)) (fun i => .int (i : Int)) (fun i H x H' _ y => by obtain ⟨y1, y2⟩ := y; exact ⟨y1, by rw [y2]; show V.int ((0 : Int) + (i : Int)) = _; rw [z]⟩) hz hw (fun _ _ => trivial) ht (fun i hi H' e' => hb i hi H' ((e.trans e1).trans e')) (fun i hi hbi H' e' => he i hi hbi H' ((e.trans e1).trans e')) hD
    (fun xs H' e' h1 h2 => q Dl xs H' (fresh_back e1 hD) (e1.trans e') h1 h2)⟩
/-- [e for x in l if t], l a list that stays -/
theorem eld_lcL {a : Addr} {xs : List V} {b : Nat → Bool} {g : Nat → PyData} (h : Ev tl σ H (.ref a)) (hx : SqL K H a xs) (hz : xs.length ≤ 90000) (hw : ∀ x, wipe ((wipe σ vs).set j (some x)) vs = wipe σ vs) (ht : ∀ i, i < xs.length → tupO (g i) = true)
    (hb : ∀ i x, xs[i]? = some x → ∀ H', Ex H H' → EvT tt ((wipe σ vs).set j (some x)) H' (b i)) (he : ∀ i x, xs[i]? = some x → b i = true → ∀ H', Ex H H' → EvD K te ((wipe σ vs).set j (some x)) H' (g i)) :
    EvLD K (tLc (iList K tl) (gName j) tt te vs) σ H (givD xs.length b g) := fun H0 e Q q => h H0 e _ fun H1 e1 => ⟨a, rfl, ⟨xs, ex_l (e.trans e1) hx⟩, fun Dl hD =>
  have g0 : ∀ i, i < xs.length → xs[i]? = some (xs.getD i .non) := fun i hi => by rw [List.getD_eq_getElem?_getD, List.getElem?_eq_getElem hi]; rfl
  lc_data walk_list (fun i => xs.getD i .non) (fun i H x H' hi y => ⟨y.1, Option.some.inj (y.2.symm.trans (g0 i hi))⟩) hz hw (fun H' e' => ex_l ((e.trans e1).trans e') hx) ht (fun i hi H' e' => hb i _ (g0 i hi) H' ((e.trans e1).trans e')) (fun i hi hbi H' e' => he i _ (g0 i hi) hbi H' ((e.trans e1).trans e')) hD
    (fun xs H' e' h1 h2 => q Dl xs H' (fresh_back e1 hD) (e1.trans e') h1 h2)⟩
/-- .. l a list made on the way -/
theorem eld_lcNL {xs : List V} {b : Nat → Bool} {g : Nat → PyData} (h : EvL tl σ H xs) (hz : xs.length ≤ 90000) (hw : ∀ x, wipe ((wipe σ vs).set j (some x)) vs = wipe σ vs) (ht : ∀ i, i < xs.length → tupO (g i) = true)
    (hb : ∀ i x, xs[i]? = some x → ∀ H', Ex H H' → EvT tt ((wipe σ vs).set j (some x)) H' (b i)) (he : ∀ i x, xs[i]? = some x → b i = true → ∀ H', Ex H H' → EvD K te ((wipe σ vs).set j (some x)) H' (g i)) :
    EvLD K (tLc (iList K tl) (gName j) tt te vs) σ H (givD xs.length b g) := fun H0 e Q q => h H0 e _ fun a H1 ha e1 h1 => ⟨a, rfl, ⟨xs, sq_of h1⟩, fun Dl hD =>
  have g0 : ∀ i, i < xs.length → xs[i]? = some (xs.getD i .non) := fun i hi => by rw [List.getD_eq_getElem?_getD, List.getElem?_eq_getElem hi]; rfl
  lc_data walk_list (fun i => xs.getD i .non) (fun i H x H' hi y => ⟨y.1, Option.some.inj (y.2.symm.trans (g0 i hi))⟩) hz hw (fun H' e' => sq_of (e' _ _ h1)) ht (fun i hi H' e' => hb i _ (g0 i hi) H' ((e.trans e1).trans e')) (fun i hi hbi H' e' => he i _ (g0 i hi) hbi H' ((e.trans e1).trans e')) hD
    (fun xs H' e' h1 h2 => q Dl xs H' (fresh_back e1 hD) (e1.trans e') h1 h2)⟩
/-- {k: v for x in ..}, by a word of the turn and the heap -/
theorem dc_it {J : It} {n : Nat} {G : Hp → Prop} {Y : Nat → Hp → V → Hp → Prop} (w : Walk J n G Y) {g : TG} {Dl : Addr} {Qd : Hp → Prop} (Pv : Nat → Hp → Prop) (h0 : Pv 0 (upd H1 Dl (.dK []))) (hG : ∀ i H, i ≤ n → Pv i H → G H)
    (hs : ∀ i x H H', i < n → Pv i H → Y i H x H' → g x (wipe σ vs) H' fun σ2 H2 => wipe σ2 vs = wipe σ vs ∧ tt σ2 H2 fun b H3 =>
      if b = true then tk σ2 H3 fun y H4 => tv σ2 H4 fun z H5 => ∃ kvs k, y = kV k ∧ H5 Dl = some (.dK kvs) ∧ kvs.length < sizeLine ∧ Pv (i + 1) (upd H5 Dl (.dK (putK kvs k z))) else Pv (i + 1) H3) (hd : ∀ H, Pv n H → Qd H) :
    ∃ W : Nat → Nat → Hp → Prop, (∃ m, W 0 m (upd H1 Dl (.dK []))) ∧ ∀ i m H, W i m H →
      (J.stop i H ∧ Qd H) ∨ (J.go i H ∧ ∃ Nx : Hp → Prop, (∀ H', Nx H' → ∃ m', m' < m ∧ W (i + 1) m' H') ∧ ∀ x H', J.yld i H x H' → g x (wipe σ vs) H' fun σ2 H2 => wipe σ2 vs = wipe σ vs ∧ tt σ2 H2 fun b H3 =>
        if b = true then tk σ2 H3 fun y H4 => tv σ2 H4 fun z H5 => ∃ kvs k, y = kV k ∧ H5 Dl = some (.dK kvs) ∧ kvs.length < sizeLine ∧ Nx (upd H5 Dl (.dK (putK kvs k z))) else Nx H3) := by
  refine ⟨fun i m H => m = n - i ∧ i ≤ n ∧ Pv i H, ⟨n, by simp, Nat.zero_le _, h0⟩, ?_⟩
  rintro i m H ⟨rfl, hi, p⟩
  have q := hG i H hi p
  by_cases hlt : i < n
  · exact .inr ⟨w.goes i H hlt q, Pv (i + 1), fun H' p' => ⟨n - (i + 1), by omega, rfl, hlt, p'⟩, fun x H' y => hs i x H H' hlt p (w.yields i H x H' hlt q y)⟩
  · have e : i = n := by omega
    subst e
    exact .inl ⟨w.stops H q, hd H p⟩
end
section
variable {K : PySem.W.Frag} {σ : L2.St} {H : Hp} {ta tv : TE} {D : Ends} {tz : TS} {a C dx : Addr} {fs : List (Str × V)} {f : Str}
theorem s_fldLD {ds : List PyData} (hv : EvLD K tv σ H ds) (ha : Ev ta σ H (.ref a)) (ho : H a = some (.ins C dx fs)) (hc : Cls K C) (hn : NoAttr K C f) (hz : fs.length < 1000) (k : ∀ p xs H1, H p = none → Ex H H1 → H1 p = some (.lst xs) → DpAll K H1 xs ds → D.nx σ (upd H1 a (.ins C dx (putF f (.ref p) fs)))) : sFld K ta tv f D σ H :=
  hv H (Ex.refl H) _ fun p xs H1 hp e1 h1 hd => ha H1 e1 _ fun H2 e2 => ⟨a, C, dx, fs, rfl, e2 _ _ (e1 _ _ ho), hc, hn, hz, k p xs H2 hp (e1.trans e2) (e2 _ _ h1) (hd.ex e2)⟩
theorem q_fldLD {ds : List PyData} (hv : EvLD K tv σ H ds) (ha : Ev ta σ H (.ref a)) (ho : H a = some (.ins C dx fs)) (hc : Cls K C) (hn : NoAttr K C f) (hz : fs.length < 1000) (k : ∀ p xs H1, H p = none → Ex H H1 → H1 p = some (.lst xs) → DpAll K H1 xs ds → tz D σ (upd H1 a (.ins C dx (putF f (.ref p) fs)))) : tSeq (sFld K ta tv f) tz D σ H :=
  s_fldLD (D := { D with nx := tz D }) hv ha ho hc hn hz k
end
section
variable {K : PySem.W.Frag} {σ : L2.St} {H : Hp} {tl tk tv : TE} {tt : TT} {g : TG} {vs : List Nat} {P : V → Hp → Prop} {a : Addr} {xs : List V}
/-- what one turn of a dict comprehension is asked -/
def DcTurn (g : TG) (tt : TT) (tk tv : TE) (vs : List Nat) (σ : L2.St) (Dt : Addr) (N : Hp → Prop) (x : V) (H : Hp) : Prop := g x (wipe σ vs) H fun σ2 H2 => wipe σ2 vs = wipe σ vs ∧ tt σ2 H2 fun b H3 =>
      if b = true then tk σ2 H3 fun y H4 => tv σ2 H4 fun z H5 => ∃ kvs k, y = kV k ∧ H5 Dt = some (.dK kvs) ∧ kvs.length < sizeLine ∧ N (upd H5 Dt (.dK (putK kvs k z))) else N H3
theorem ep_dcL (h : Ev tl σ H (.ref a)) (hx : SqL K H a xs) (k : ∀ H4, Ex H H4 → ∀ Dt, H4 Dt = none → ∃ Pv : Nat → Hp → Prop, Pv 0 (upd H4 Dt (.dK [])) ∧ (∀ i H', i ≤ xs.length → Pv i H' → SqL K H' a xs) ∧
    (∀ i x H', xs[i]? = some x → Pv i H' → DcTurn g tt tk tv vs σ Dt (Pv (i + 1)) x H') ∧ ∀ H', Pv xs.length H' → P (.ref Dt) H') : EvP (tDc (iList K tl) g tt tk tv vs) σ H P := fun Q q =>
  h H (Ex.refl H) _ fun H4 e4 => ⟨a, rfl, ⟨xs, ex_l e4 hx⟩, fun Dt nDt => by
    obtain ⟨Pv, h0, hG, hs, hd⟩ := k H4 e4 Dt nDt
    exact dc_it (walk_list (xs := xs)) Pv h0 hG (fun i x H5 H6 hi p y => by
      obtain ⟨e, hv⟩ := y
      subst e
      exact hs i x _ hv p) (fun H' p => q _ H' (hd H' p))⟩
theorem ep_dcT (h : Ev tl σ H (.ref a)) (hx : SqT K H a xs) (k : ∀ H4, Ex H H4 → ∀ Dt, H4 Dt = none → ∃ Pv : Nat → Hp → Prop, Pv 0 (upd H4 Dt (.dK [])) ∧ (∀ i H', i ≤ xs.length → Pv i H' → SqT K H' a xs) ∧
    (∀ i x H', xs[i]? = some x → Pv i H' → DcTurn g tt tk tv vs σ Dt (Pv (i + 1)) x H') ∧ ∀ H', Pv xs.length H' → P (.ref Dt) H') : EvP (tDc (iTup K tl) g tt tk tv vs) σ H P := fun Q q =>
  h H (Ex.refl H) _ fun H4 e4 => ⟨a, rfl, ⟨xs, ex_t e4 hx⟩, fun Dt nDt => by
    obtain ⟨Pv, h0, hG, hs, hd⟩ := k H4 e4 Dt nDt
    exact dc_it (walk_tup (xs := xs)) Pv h0 hG (fun i x H5 H6 hi p y => by
      obtain ⟨e, hv⟩ := y
      subst e
      exact hs i x _ hv p) (fun H' p => q _ H' (hd H' p))⟩
end
theorem filter_all {α : Type} (l : List α) : l.filter (fun _ => true) = l := by induction l with
  | nil => rfl
  | cons a r ih => rw [List.filter_cons, if_pos rfl, ih]
/-! ### range(0, len - 3, 4) -/
theorem rgC4 (L : Nat) (h : L ≤ 100000) : RgC 0 ((L : Int) - 3) 4 (L / 4) := by
  have hs : Builtin.Range.rangeSize 0 ((L : Int) - 3) 4 = ((L / 4 : Nat) : Int) := by
    unfold Builtin.Range.rangeSize
    simp only [show (4 : Int) > 0 by decide, if_true]
    split
    · omega
    · omega
  refine ⟨by decide, by decide, ?_, hs⟩
  unfold Builtin.Range.small
  rw [hs]
  simp only [Builtin.Range.rangeFitsLong, Bool.and_eq_true, Bool.or_eq_true, decide_eq_true_eq, beq_iff_eq, show (4 : Int) > 0 by decide, if_true]
  omega
/-! ### a tuple of two ints taken apart -/
theorem g_tup2 {K : PySem.W.Frag} {σ : L2.St} {H : Hp} {a : Addr} {x y : V} {i j : Nat} {Q : L2.St → Hp → Prop} (h : SqT K H a [x, y]) (q : Q ((σ.set i (some x)).set j (some y)) H) : gTup K 2 (gCons (gName i) (gCons (gName j) gNil)) (.ref a) σ H Q :=
  ⟨a, [x, y], rfl, h, rfl, x, [y], rfl, y, [], rfl, rfl, q⟩
end Gd

set_option Elab.async false
set_option linter.all false
set_option maxRecDepth 100000
set_option maxHeartbeats 4000000
/-! Of our own: walks over enumerate. -/
namespace Gd
open PySem PySem.Spec PyProof.Rows L2 Evl
section
variable {K : PySem.W.Frag} {σ : L2.St} {H : Hp} {D : Ends} {tu tz : TS} {te : TE} {a : Addr} {xs : List V} {j1 j2 : Nat}
theorem s_forE (h : Ev te σ H (.ref a)) (hx : SqL K H a xs) (Pv : Nat → L2.St → Hp → Prop) (h0 : ∀ H1, Ex H H1 → Pv 0 σ H1) (hG : ∀ i σ' H', i ≤ xs.length → Pv i σ' H' → SqL K H' a xs)
    (hs : ∀ i x σ' H' H'', xs[i]? = some x → Pv i σ' H' → Ex H' H'' → tu { D with nx := Pv (i + 1), ct := Pv (i + 1), bk := D.nx } ((σ'.set j1 (some (.int (i : Int)))).set j2 (some x)) H'') (hd : ∀ σ' H', Pv xs.length σ' H' → D.nx σ' H') :
    tFor (iEnum K (tCons te tNil)) (gTup K 2 (gCons (gName j1) (gCons (gName j2) gNil))) tu D σ H :=
  h H (Ex.refl H) _ fun H1 e1 => ⟨a, xs, rfl, ex_l e1 hx, for_it walk_enum Pv (h0 H1 e1) hG (fun i x σ' H' H'' hi p y => by
    obtain ⟨T, u, v, rfl, hT, rfl, h1, h2⟩ := y
    have h1 : u = .int (i : Int) := (Option.some.inj h1).symm
    subst h1
    exact g_tup2 (st_of upd_same) (hs i v σ' H' _ h2 p (Ex.new hT))) hd⟩
theorem q_forE (h : Ev te σ H (.ref a)) (hx : SqL K H a xs) (Pv : Nat → L2.St → Hp → Prop) (h0 : ∀ H1, Ex H H1 → Pv 0 σ H1) (hG : ∀ i σ' H', i ≤ xs.length → Pv i σ' H' → SqL K H' a xs)
    (hs : ∀ i x σ' H' H'', xs[i]? = some x → Pv i σ' H' → Ex H' H'' → tu { D with nx := Pv (i + 1), ct := Pv (i + 1), bk := tz D } ((σ'.set j1 (some (.int (i : Int)))).set j2 (some x)) H'') (hd : ∀ σ' H', Pv xs.length σ' H' → tz D σ' H') :
    tSeq (tFor (iEnum K (tCons te tNil)) (gTup K 2 (gCons (gName j1) (gCons (gName j2) gNil))) tu) tz D σ H := s_forE (D := { D with nx := tz D }) h hx Pv h0 hG hs hd
end
end Gd

set_option Elab.async false
set_option linter.all false
set_option maxRecDepth 100000
set_option maxHeartbeats 4000000
set_option exponentiation.threshold 600
namespace K15
open PySem PySem.Spec PyProof.Rows L2 Evl Gd
open PySem.NumText (AllDigits digitsVal)
/-! ### the text -/
def topS (i : Nat) : Stmt := PySem.Challenge.pw_plinth_k15_write_digits.main.body.getD i (.Pass ⟨0, 0, 0, 0⟩)
abbrev sI_NotWritable : Stmt := inClass (topS 4) 0
abbrev s_is_character : Stmt := topS 8
abbrev N_is_character : List Str := ["code"]
theorem sc_is_character : FnScope N_is_character ["code"] (defScope s_is_character) := ⟨rfl, rfl, rfl, by decide +kernel, rfl, by decide +kernel, by decide +kernel⟩
abbrev s_is_digit : Stmt := topS 9
abbrev N_is_digit : List Str := ["code"]
theorem sc_is_digit : FnScope N_is_digit ["code"] (defScope s_is_digit) := ⟨rfl, rfl, rfl, by decide +kernel, rfl, by decide +kernel, by decide +kernel⟩
abbrev s_with_digit : Stmt := topS 10
abbrev N_with_digit : List Str := ["number", "code"]
theorem sc_with_digit : FnScope N_with_digit ["number", "code"] (defScope s_with_digit) := ⟨rfl, rfl, rfl, by decide +kernel, rfl, by decide +kernel, by decide +kernel⟩
abbrev s_codes_of : Stmt := topS 11
abbrev N_codes_of : List Str := ["text", "codes", "character", "code"]
theorem sc_codes_of : FnScope N_codes_of ["text"] (defScope s_codes_of) := ⟨rfl, rfl, rfl, by decide +kernel, rfl, by decide +kernel, by decide +kernel⟩
abbrev s_readable : Stmt := topS 12
abbrev N_readable : List Str := ["codes", "part", "code"]
theorem sc_readable : FnScope N_readable ["codes"] (defScope s_readable) := ⟨rfl, rfl, rfl, by decide +kernel, rfl, by decide +kernel, by decide +kernel⟩
abbrev s_has_numeral : Stmt := topS 13
abbrev N_has_numeral : List Str := ["number"]
theorem sc_has_numeral : FnScope N_has_numeral ["number"] (defScope s_has_numeral) := ⟨rfl, rfl, rfl, by decide +kernel, rfl, by decide +kernel, by decide +kernel⟩
abbrev s_numeral : Stmt := topS 14
abbrev N_numeral : List Str := ["number"]
theorem sc_numeral : FnScope N_numeral ["number"] (defScope s_numeral) := ⟨rfl, rfl, rfl, by decide +kernel, rfl, by decide +kernel, by decide +kernel⟩
abbrev s_read_digits : Stmt := topS 16
abbrev N_read_digits : List Str := ["codes", "numbers", "value", "code"]
theorem sc_read_digits : FnScope N_read_digits ["codes"] (defScope s_read_digits) := ⟨rfl, rfl, rfl, by decide +kernel, rfl, by decide +kernel, by decide +kernel⟩
abbrev s_write_digits : Stmt := topS 17
abbrev N_write_digits : List Str := ["numbers", "at", "number"]
theorem sc_write_digits : FnScope N_write_digits ["numbers"] (defScope s_write_digits) := ⟨rfl, rfl, rfl, by decide +kernel, rfl, by decide +kernel, by decide +kernel⟩
abbrev s_law_number : Stmt := topS 19
abbrev N_law_number : List Str := ["cell"]
theorem sc_law_number : FnScope N_law_number ["cell"] (defScope s_law_number) := ⟨rfl, rfl, rfl, by decide +kernel, rfl, by decide +kernel, by decide +kernel⟩
abbrev s_law_draws : Stmt := topS 20
abbrev N_law_draws : List Str := ["script", "draws", "seed", "cell", "rest", "k", "once", "twice"]
theorem sc_law_draws : FnScope N_law_draws ["script"] (defScope s_law_draws) := ⟨rfl, rfl, rfl, by decide +kernel, rfl, by decide +kernel, by decide +kernel⟩
abbrev s_law_draw : Stmt := topS 21
abbrev N_law_draw : List Str := ["draws"]
theorem sc_law_draw : FnScope N_law_draw ["draws"] (defScope s_law_draw) := ⟨rfl, rfl, rfl, by decide +kernel, rfl, by decide +kernel, by decide +kernel⟩
abbrev s_law_pick : Stmt := topS 22
abbrev N_law_pick : List Str := ["draws", "many"]
theorem sc_law_pick : FnScope N_law_pick ["draws", "many"] (defScope s_law_pick) := ⟨rfl, rfl, rfl, by decide +kernel, rfl, by decide +kernel, by decide +kernel⟩
abbrev s_law_is_integer : Stmt := topS 23
abbrev N_law_is_integer : List Str := ["actual"]
theorem sc_law_is_integer : FnScope N_law_is_integer ["actual"] (defScope s_law_is_integer) := ⟨rfl, rfl, rfl, by decide +kernel, rfl, by decide +kernel, by decide +kernel⟩
abbrev s_law_is_cells : Stmt := topS 24
abbrev N_law_is_cells : List Str := ["actual", "number"]
theorem sc_law_is_cells : FnScope N_law_is_cells ["actual"] (defScope s_law_is_cells) := ⟨rfl, rfl, rfl, by decide +kernel, rfl, by decide +kernel, by decide +kernel⟩
abbrev s_law_entry : Stmt := topS 25
abbrev N_law_entry : List Str := ["draws", "good", "kind"]
theorem sc_law_entry : FnScope N_law_entry ["draws", "good"] (defScope s_law_entry) := ⟨rfl, rfl, rfl, by decide +kernel, rfl, by decide +kernel, by decide +kernel⟩
abbrev s_law_written : Stmt := topS 26
abbrev N_law_written : List Str := ["number", "digits", "k", "char"]
theorem sc_law_written : FnScope N_law_written ["number"] (defScope s_law_written) := ⟨rfl, rfl, rfl, by decide +kernel, rfl, by decide +kernel, by decide +kernel⟩
abbrev s_law_due : Stmt := topS 27
abbrev N_law_due : List Str := ["numbers", "codes", "at"]
theorem sc_law_due : FnScope N_law_due ["numbers"] (defScope s_law_due) := ⟨rfl, rfl, rfl, by decide +kernel, rfl, by decide +kernel, by decide +kernel⟩
abbrev s_law_told : Stmt := topS 28
abbrev N_law_told : List Str := ["numbers", "e"]
theorem sc_law_told : FnScope N_law_told ["numbers"] (defScope s_law_told) := ⟨rfl, rfl, rfl, by decide +kernel, rfl, by decide +kernel, by decide +kernel⟩
abbrev s_law : Stmt := topS 29
abbrev N_law : List Str := ["script", "draws", "good", "numbers", "k", "passed", "told"]
theorem sc_law : FnScope N_law ["script"] (defScope s_law) := ⟨rfl, rfl, rfl, by decide +kernel, rfl, by decide +kernel, by decide +kernel⟩
/-! ### what the top has written -/
structure Txt (K : PySem.W.Frag) (mg : Str → Option Value) where
  f_is_character : Addr
  d_is_character : FuncData
  F_is_character : Fun K "is_character" "is_character" s_is_character f_is_character d_is_character
  b_is_character : Binds K d_is_character ["code"] []
  g_is_character : mg "is_character" = some (.ref f_is_character)
  f_is_digit : Addr
  d_is_digit : FuncData
  F_is_digit : Fun K "is_digit" "is_digit" s_is_digit f_is_digit d_is_digit
  b_is_digit : Binds K d_is_digit ["code"] []
  g_is_digit : mg "is_digit" = some (.ref f_is_digit)
  f_with_digit : Addr
  d_with_digit : FuncData
  F_with_digit : Fun K "with_digit" "with_digit" s_with_digit f_with_digit d_with_digit
  b_with_digit : Binds K d_with_digit ["number", "code"] []
  g_with_digit : mg "with_digit" = some (.ref f_with_digit)
  f_codes_of : Addr
  d_codes_of : FuncData
  F_codes_of : Fun K "codes_of" "codes_of" s_codes_of f_codes_of d_codes_of
  b_codes_of : Binds K d_codes_of ["text"] []
  g_codes_of : mg "codes_of" = some (.ref f_codes_of)
  f_readable : Addr
  d_readable : FuncData
  F_readable : Fun K "readable" "readable" s_readable f_readable d_readable
  b_readable : Binds K d_readable ["codes"] []
  g_readable : mg "readable" = some (.ref f_readable)
  f_has_numeral : Addr
  d_has_numeral : FuncData
  F_has_numeral : Fun K "has_numeral" "has_numeral" s_has_numeral f_has_numeral d_has_numeral
  b_has_numeral : Binds K d_has_numeral ["number"] []
  g_has_numeral : mg "has_numeral" = some (.ref f_has_numeral)
  f_numeral : Addr
  d_numeral : FuncData
  F_numeral : Fun K "numeral" "numeral" s_numeral f_numeral d_numeral
  b_numeral : Binds K d_numeral ["number"] []
  g_numeral : mg "numeral" = some (.ref f_numeral)
  f_read_digits : Addr
  d_read_digits : FuncData
  F_read_digits : Fun K "read_digits" "read_digits" s_read_digits f_read_digits d_read_digits
  b_read_digits : Binds K d_read_digits ["codes"] []
  g_read_digits : mg "read_digits" = some (.ref f_read_digits)
  f_write_digits : Addr
  d_write_digits : FuncData
  F_write_digits : Fun K "write_digits" "write_digits" s_write_digits f_write_digits d_write_digits
  b_write_digits : Binds K d_write_digits ["numbers"] []
  g_write_digits : mg "write_digits" = some (.ref f_write_digits)
  f_law_number : Addr
  d_law_number : FuncData
  F_law_number : Fun K "_law_number" "_law_number" s_law_number f_law_number d_law_number
  b_law_number : Binds K d_law_number ["cell"] []
  g_law_number : mg "_law_number" = some (.ref f_law_number)
  f_law_draws : Addr
  d_law_draws : FuncData
  F_law_draws : Fun K "_law_draws" "_law_draws" s_law_draws f_law_draws d_law_draws
  b_law_draws : Binds K d_law_draws ["script"] []
  g_law_draws : mg "_law_draws" = some (.ref f_law_draws)
  f_law_draw : Addr
  d_law_draw : FuncData
  F_law_draw : Fun K "_law_draw" "_law_draw" s_law_draw f_law_draw d_law_draw
  b_law_draw : Binds K d_law_draw ["draws"] []
  g_law_draw : mg "_law_draw" = some (.ref f_law_draw)
  f_law_pick : Addr
  d_law_pick : FuncData
  F_law_pick : Fun K "_law_pick" "_law_pick" s_law_pick f_law_pick d_law_pick
  b_law_pick : Binds K d_law_pick ["draws", "many"] []
  g_law_pick : mg "_law_pick" = some (.ref f_law_pick)
  f_law_is_integer : Addr
  d_law_is_integer : FuncData
  F_law_is_integer : Fun K "_law_is_integer" "_law_is_integer" s_law_is_integer f_law_is_integer d_law_is_integer
  b_law_is_integer : Binds K d_law_is_integer ["actual"] []
  g_law_is_integer : mg "_law_is_integer" = some (.ref f_law_is_integer)
  f_law_is_cells : Addr
  d_law_is_cells : FuncData
  F_law_is_cells : Fun K "_law_is_cells" "_law_is_cells" s_law_is_cells f_law_is_cells d_law_is_cells
  b_law_is_cells : Binds K d_law_is_cells ["actual"] []
  g_law_is_cells : mg "_law_is_cells" = some (.ref f_law_is_cells)
  f_law_entry : Addr
  d_law_entry : FuncData
  F_law_entry : Fun K "_law_entry" "_law_entry" s_law_entry f_law_entry d_law_entry
  b_law_entry : Binds K d_law_entry ["draws", "good"] []
  g_law_entry : mg "_law_entry" = some (.ref f_law_entry)
  f_law_written : Addr
  d_law_written : FuncData
  F_law_written : Fun K "_law_written" "_law_written" s_law_written f_law_written d_law_written
  b_law_written : Binds K d_law_written ["number"] []
  g_law_written : mg "_law_written" = some (.ref f_law_written)
  f_law_due : Addr
  d_law_due : FuncData
  F_law_due : Fun K "_law_due" "_law_due" s_law_due f_law_due d_law_due
  b_law_due : Binds K d_law_due ["numbers"] []
  g_law_due : mg "_law_due" = some (.ref f_law_due)
  f_law_told : Addr
  d_law_told : FuncData
  F_law_told : Fun K "_law_told" "_law_told" s_law_told f_law_told d_law_told
  b_law_told : Binds K d_law_told ["numbers"] []
  g_law_told : mg "_law_told" = some (.ref f_law_told)
  f_law : Addr
  d_law : FuncData
  F_law : Fun K "law" "law" s_law f_law d_law
  b_law : Binds K d_law ["script"] []
  g_law : mg "law" = some (.ref f_law)
  h_law : ∀ (s : Shared) (v : Value), BindsTo s d_law ⟨[v], []⟩ [("script", v)]
  C_PlinthError : Addr
  g_PlinthError : mg "PlinthError" = some (.ref C_PlinthError)
  k_PlinthError : PySem.W.keepIn K (.ref C_PlinthError) = true
  x_PlinthError : PySem.W.excIn K C_PlinthError [.type "ValueError", .type "Exception", .type "BaseException", .type "object"] "ValueError.__new__" = true
  b_PlinthError : PySem.W.subIn K (.ref C_PlinthError) (.type "BaseException") = some true
  t_PlinthError : PySem.W.typeIn K (.ref C_PlinthError) = some (.type "type")
  hd_PlinthError : PySem.W.hasDictIn K C_PlinthError = true
  s_PlinthError : PySem.W.subIn K (.ref C_PlinthError) (.ref C_PlinthError) = some true
  i_PlinthError : PySem.W.isClsIn K C_PlinthError = true
  C_NotText : Addr
  g_NotText : mg "NotText" = some (.ref C_NotText)
  k_NotText : PySem.W.keepIn K (.ref C_NotText) = true
  x_NotText : PySem.W.excIn K C_NotText [.type "ValueError", .type "Exception", .type "BaseException", .type "object"] "ValueError.__new__" = true
  b_NotText : PySem.W.subIn K (.ref C_NotText) (.type "BaseException") = some true
  t_NotText : PySem.W.typeIn K (.ref C_NotText) = some (.type "type")
  hd_NotText : PySem.W.hasDictIn K C_NotText = true
  s_NotText : PySem.W.subIn K (.ref C_NotText) (.ref C_NotText) = some true
  i_NotText : PySem.W.isClsIn K C_NotText = true
  C_NotNumeral : Addr
  g_NotNumeral : mg "NotNumeral" = some (.ref C_NotNumeral)
  k_NotNumeral : PySem.W.keepIn K (.ref C_NotNumeral) = true
  x_NotNumeral : PySem.W.excIn K C_NotNumeral [.type "ValueError", .type "Exception", .type "BaseException", .type "object"] "ValueError.__new__" = true
  b_NotNumeral : PySem.W.subIn K (.ref C_NotNumeral) (.type "BaseException") = some true
  t_NotNumeral : PySem.W.typeIn K (.ref C_NotNumeral) = some (.type "type")
  hd_NotNumeral : PySem.W.hasDictIn K C_NotNumeral = true
  s_NotNumeral : PySem.W.subIn K (.ref C_NotNumeral) (.ref C_NotNumeral) = some true
  i_NotNumeral : PySem.W.isClsIn K C_NotNumeral = true
  C_NotWritable : Addr
  g_NotWritable : mg "NotWritable" = some (.ref C_NotWritable)
  k_NotWritable : PySem.W.keepIn K (.ref C_NotWritable) = true
  fI_NotWritable : Addr
  dI_NotWritable : FuncData
  cc_NotWritable : Addr
  cda_NotWritable : Addr
  supf_NotWritable : Gd.SupF K C_NotWritable fI_NotWritable cc_NotWritable cda_NotWritable "NotWritable.__init__" sI_NotWritable dI_NotWritable
  oex_NotWritable : OexC K C_NotWritable
  ii_NotWritable : PySem.W.findIn K (.ref C_NotWritable) "__init__" = some (some (.ref fI_NotWritable))
  ti_NotWritable : PySem.W.typeIn K (.ref fI_NotWritable) = some (.type "function")
  na_NotWritable : PySem.W.findIn K (.ref C_NotWritable) "at" = some none
  bI_NotWritable : Binds K dI_NotWritable ["self", "at"] []
  b_NotWritable : PySem.W.subIn K (.ref C_NotWritable) (.type "BaseException") = some true
  t_NotWritable : PySem.W.typeIn K (.ref C_NotWritable) = some (.type "type")
  hd_NotWritable : PySem.W.hasDictIn K C_NotWritable = true
  s_NotWritable : PySem.W.subIn K (.ref C_NotWritable) (.ref C_NotWritable) = some true
  i_NotWritable : PySem.W.isClsIn K C_NotWritable = true
  ga_NotWritable : PySem.W.findIn K (.ref C_NotWritable) "__getattribute__" = some (some (.builtin "BaseException.__getattribute__"))
  gg_NotWritable : PySem.W.findIn K (.ref C_NotWritable) "__getattr__" = some none
  gc_NotWritable : PySem.W.findIn K (.ref C_NotWritable) "__class__" = some (some (.builtin "object.__class__"))
  gs_NotWritable : PySem.W.specialIn K (.builtin "object.__class__") "__get__" = some (some (.builtin "getset_descriptor.__get__"))
  gt_NotWritable : PySem.W.takesIn K (.builtin "object.__class__") = some true
  gm_NotWritable : PySem.W.mroIn K C_NotWritable (.type "object") = some true
  C_NotListable : Addr
  g_NotListable : mg "NotListable" = some (.ref C_NotListable)
  k_NotListable : PySem.W.keepIn K (.ref C_NotListable) = true
  b_NotListable : PySem.W.subIn K (.ref C_NotListable) (.type "BaseException") = some true
  t_NotListable : PySem.W.typeIn K (.ref C_NotListable) = some (.type "type")
  hd_NotListable : PySem.W.hasDictIn K C_NotListable = true
  s_NotListable : PySem.W.subIn K (.ref C_NotListable) (.ref C_NotListable) = some true
  i_NotListable : PySem.W.isClsIn K C_NotListable = true
  sub_NotWritable_PlinthError : PySem.W.subIn K (.ref C_NotWritable) (.ref C_PlinthError) = some true
  kit_NotWritable_NotWritable : PySem.W.kitOne K (.ref C_NotWritable) (.ref C_NotWritable) = some true
  kit_NotWritable_NotListable : PySem.W.kitOne K (.ref C_NotWritable) (.ref C_NotListable) = some false
  t_NEWLINE : Tok
  c_NEWLINE : mg "NEWLINE" = some (.int 10 t_NEWLINE)
  n_abs : mg "abs" = none
  n_bool : mg "bool" = none
  n_enumerate : mg "enumerate" = none
  n_int : mg "int" = none
  n_isinstance : mg "isinstance" = none
  n_len : mg "len" = none
  n_list : mg "list" = none
  n_ord : mg "ord" = none
  n_range : mg "range" = none
  n_str : mg "str" = none
  n_super : mg "super" = none

end K15

set_option Elab.async false
set_option linter.all false
set_option maxRecDepth 100000
set_option maxHeartbeats 4000000
set_option exponentiation.threshold 600
namespace K15
open PySem PySem.Spec PyProof.Rows L2 Evl Gd
open PySem.NumText (AllDigits digitsVal)
/-! ### how expressions are evaluated, without a word of ours -/
local macro_rules | `(tactic| walk_at "ev") => `(tactic| exact ev_c)
local macro_rules | `(tactic| walk_at "ev") => `(tactic| exact ev_var rfl)
local macro_rules | `(tactic| walk_at "ev") => `(tactic| (refine' ev_op ?k1 ?k2 ?k3; (case k1 => walk_at "ev"); (case k2 => walk_at "ev"); (case k3 => walk_at "rv")))
local macro_rules | `(tactic| walk_at "ev") => `(tactic| (refine' ev_cb ?k1 ?k2; (case k1 => walk_at "ea"); (case k2 => walk_at "rc")))
local macro_rules | `(tactic| walk_at "ev") => `(tactic| (refine' ev_call ?k1 ?k2; (case k1 => walk_at "ea"); (case k2 => walk_at "sp")))
local macro_rules | `(tactic| walk_at "ev") => `(tactic| (refine' ev_chain ?k1 ?k2 ?k3 (fun _ => ?k4) (fun _ => ?k5); (case k1 => walk_at "ev"); (case k2 => walk_at "ev"); (case k3 => walk_at "rv"); (case k4 => walk_at "ev"); (case k5 => walk_at "rv")))
local macro_rules | `(tactic| walk_at "ev") => `(tactic| (refine' ev_orV ?k1 (fun _ => ?k2); (case k1 => walk_at "ev"); (case k2 => walk_at "ev")))
local macro_rules | `(tactic| walk_at "ev") => `(tactic| (refine' ev_andV ?k1 (fun _ => ?k2); (case k1 => walk_at "ev"); (case k2 => walk_at "ev")))
local macro_rules | `(tactic| walk_at "ev") => `(tactic| (refine' ev_notV ?k1; (case k1 => walk_at "ev")))
local macro_rules | `(tactic| walk_at "ea") => `(tactic| exact ea_nil)
local macro_rules | `(tactic| walk_at "ea") => `(tactic| (refine' ea_cons ?k1 ?k2; (case k1 => walk_at "ev"); (case k2 => walk_at "ea")))
local macro_rules | `(tactic| walk_at "rv") => `(tactic| exact rv_I0)
local macro_rules | `(tactic| walk_at "rv") => `(tactic| exact rv_eqI)
local macro_rules | `(tactic| walk_at "rv") => `(tactic| exact rv_neI)
local macro_rules | `(tactic| walk_at "rv") => `(tactic| exact rv_eqS)
local macro_rules | `(tactic| walk_at "rv") => `(tactic| exact rv_neS)
local macro_rules | `(tactic| walk_at "rv") => `(tactic| exact rv_mod (by decide))
local macro_rules | `(tactic| walk_at "rv") => `(tactic| exact rv_fdiv (by decide) (by decide))
local macro_rules | `(tactic| walk_at "rv") => `(tactic| exact rv_mulR (by decide))
local macro_rules | `(tactic| walk_at "rv") => `(tactic| exact rv_pow (by decide))
local macro_rules | `(tactic| walk_at "rc") => `(tactic| exact rc_int)
local macro_rules | `(tactic| walk_at "rc") => `(tactic| exact rc_ord)
local macro_rules | `(tactic| walk_at "et") => `(tactic| (refine' et_test ?k1; (case k1 => walk_at "ev")))
local macro_rules | `(tactic| walk_at "et") => `(tactic| (refine' et_B ?k1; (case k1 => walk_at "ev")))
local macro_rules | `(tactic| walk_at "et") => `(tactic| (refine' et_not ?k1; (case k1 => walk_at "et")))
local macro_rules | `(tactic| walk_at "et") => `(tactic| (refine' et_or ?k1 (fun _ => ?k2); (case k1 => walk_at "et"); (case k2 => walk_at "et")))
local macro_rules | `(tactic| walk_at "et") => `(tactic| (refine' et_and ?k1 (fun _ => ?k2); (case k1 => walk_at "et"); (case k2 => walk_at "et")))
section
variable {P : Program} {w : World} {K : PySem.W.Frag} {mg : Str → Option Value} {base : Heap}
/-! ### the draws -/
def sp_law_number (K : PySem.W.Frag) : Sp := fun vs H Q _ => ∃ c : Int, vs = [.int c] ∧ ∀ d : Int, RetV (.int (if c < 0 then 0 - c else c)) H Q
theorem v_law_number {c : Int} {H : Hp} : SpV (sp_law_number K) [.int c] H (.int (if c < 0 then 0 - c else c)) := fun _ _ _ q _ => ⟨c, rfl, fun _ => q⟩
theorem ok_law_number (T : Txt K mg) : FnOk P w K mg base CX0 1 T.f_law_number T.d_law_number ["cell"] (sp_law_number K) := by
  refine T.F_law_number.ok sc_law_number (fun vs H Q E h => ?_) (fun cdv A outer s H vs Q E hr h => ?_)
  · obtain ⟨c, rfl, _⟩ := h
    rfl
  · obtain ⟨c, rfl, k⟩ := h
    refine ⟨_, (pss_cons (ps_if (pt_cmpR op_lt (pv 0) pe_int (nomark _)) (pss_one (ps_ret (pe_op op_sub pe_int (pv 0)))) pss_nil)
        (pss_one (ps_ret (pv 0)))), ?_⟩
    have k := k 0
    refine q_when (b := decide (c < 0)) (by walk_at "et") (fun hb H1 e1 => ?_) (fun hb H1 e1 => ?_)
    · rw [if_pos (of_decide_eq_true hb)] at k
      exact s_ret (by walk_at "ev") fun H2 e2 => k H2 (e1.trans e2)
    · rw [if_neg (of_decide_eq_false hb)] at k
      exact s_ret (ev_var rfl) fun H2 e2 => k H2 (e1.trans e2)
def sp_law_draws (K : PySem.W.Frag) : Sp := fun vs H Q _ => ∃ (a : Addr) (ns : List Int), vs = [.ref a] ∧ SqL K H a (ns.map V.int) ∧ ns.length ≤ 63 ∧ ∀ p H2, H p = none → Ex H H2 → Drw p H2 → Q (.ref p) H2
theorem ok_law_draws (T : Txt K mg) : FnOk P w K mg base CX0 2 T.f_law_draws T.d_law_draws ["script"] (sp_law_draws K) := by
  refine T.F_law_draws.ok sc_law_draws (fun vs H Q E h => ?_) (fun cdv A outer s H vs Q E hr h => ?_)
  · obtain ⟨a, ns, rfl, _⟩ := h
    rfl
  · obtain ⟨a, ns, rfl, hS, hl, k⟩ := h
    refine ⟨_, (pss_cons (ps_set (i := 1) sc_law_draws.nd rfl (Or.inl rfl) (pe_lst pa_nil))
        (pss_cons (ps_set (i := 2) sc_law_draws.nd rfl (Or.inl rfl) pe_int)
        (pss_cons (ps_for PassesOwn.never rfl (pi_list (pv 0)) (pg_name (i := 3) sc_law_draws.nd rfl (Or.inl rfl)) (pss_cons (ps_set (i := 4) sc_law_draws.nd rfl (Or.inl rfl) (pe_call (ok_law_number (P := P) T) (hr.mono (by decide)) (by rfl) T.g_law_number T.F_law_number.kp T.b_law_number .nil pass0 (pa_cons (pv 3) pa_nil)))
        (pss_cons (ps_set (i := 2) sc_law_draws.nd rfl (Or.inl rfl) (pe_op op_modN (pe_callTy call_int1 (by rfl) T.n_int (by decide +kernel) (pa_cons (pe_op op_add (pe_op op_mul (pv 2) pe_int) (pv 4)) pa_nil)) pe_int))
        (pss_one (ps_if (pt_cmpR op_ge (pv 4) pe_int (nomark _)) (pss_one (ps_for PassesOwn.never rfl (pi_range1 (by rfl) T.n_range (pa_cons pe_int pa_nil)) (pg_name (i := 5) sc_law_draws.nd rfl (Or.inl rfl)) (pss_cons (ps_if (pt_cmpR op_eq (pv 4) pe_int (nomark _)) (pss_one ps_break) pss_nil)
        (pss_cons (ps_expr (pe_bm PySem.F.plainAttrs_list PySem.F.slot_list_append PySem.F.type_list_append mt_append (pv 1) (pa_cons (pe_op op_modN (pe_callTy call_int1 (by rfl) T.n_int (by decide +kernel) (pa_cons (pv 4) pa_nil)) pe_int) pa_nil)))
        (pss_one (ps_set (i := 4) sc_law_draws.nd rfl (Or.inl rfl) (pe_op op_fdivN (pv 4) pe_int))))))) (pss_cons (ps_set (i := 6) sc_law_draws.nd rfl (Or.inl rfl) (pe_op op_modN (pe_callTy call_int1 (by rfl) T.n_int (by decide +kernel) (pa_cons (pe_op op_add (pe_op op_mul (pv 4) pe_int) pe_int) pa_nil)) pe_int))
        (pss_cons (ps_set (i := 7) sc_law_draws.nd rfl (Or.inl rfl) (pe_op op_modN (pe_callTy call_int1 (by rfl) T.n_int (by decide +kernel) (pa_cons (pe_op op_add (pe_op op_mul (pv 6) pe_int) (pv 4)) pa_nil)) pe_int))
        (pss_one (ps_expr (pe_bm PySem.F.plainAttrs_list PySem.F.slot_list_extend PySem.F.type_list_extend mt_extend (pv 1) (pa_cons (pe_lst (pa_cons (pe_op op_modN (pe_callTy call_int1 (by rfl) T.n_int (by decide +kernel) (pa_cons (pv 4) pa_nil)) pe_int) (pa_cons (pe_op op_modN (pe_callTy call_int1 (by rfl) T.n_int (by decide +kernel) (pa_cons (pv 6) pa_nil)) pe_int) (pa_cons (pe_op op_modN (pe_callTy call_int1 (by rfl) T.n_int (by decide +kernel) (pa_cons (pv 7) pa_nil)) pe_int) pa_nil)))) pa_nil)))))))))))
        (pss_cons (ps_for PassesOwn.never rfl (pi_range1 (by rfl) T.n_range (pa_cons pe_int pa_nil)) (pg_name (i := 5) sc_law_draws.nd rfl (Or.inl rfl)) (pss_cons (ps_set (i := 2) sc_law_draws.nd rfl (Or.inl rfl) (pe_op op_modN (pe_callTy call_int1 (by rfl) T.n_int (by decide +kernel) (pa_cons (pe_op op_add (pe_op op_mul (pv 2) pe_int) pe_int) pa_nil)) pe_int))
        (pss_one (ps_expr (pe_bm PySem.F.plainAttrs_list PySem.F.slot_list_append PySem.F.type_list_append mt_append (pv 1) (pa_cons (pe_op op_modN (pe_callTy call_int1 (by rfl) T.n_int (by decide +kernel) (pa_cons (pe_op op_fdivN (pv 2) pe_int) pa_nil)) pe_int) pa_nil))))))
        (pss_cons (ps_expr (pe_bm0 PySem.F.plainAttrs_list PySem.F.slot_list_reverse PySem.F.type_list_reverse mt_reverse (pv 1)))
        (pss_one (ps_ret (pv 1)))))))), ?_⟩
    refine q_asgL (el_lst ea_nil (by decide)) (fun p H1 hp e1 d1 => ?_)
    refine q_asg ev_c (fun H2 e2 => ?_)
    have hS2 := ex_l (e1.trans e2) hS
    refine q_forLn (ev_var rfl) hS2 (fun i σ' H' => Ex H H' ∧ ∃ (ds : List Int) (sd : Int) (y3 y4 y5 y6 y7 : Option V), H' p = some (.lst (ds.map V.int)) ∧ (∀ d ∈ ds, 0 ≤ d ∧ d < 1000) ∧ ds.length ≤ 60 * i ∧
      σ' = [some (.ref a), some (.ref p), some (.int sd), y3, y4, y5, y6, y7]) ?_ ?_ ?_ ?_
    · intro H3 e3
      exact ⟨e1.trans (e2.trans e3), [], 7, none, none, none, none, none, e3 _ _ (e2 _ _ d1), Small.nil.1, Nat.zero_le _, rfl⟩
    · rintro i σ' H' _ ⟨e3, _⟩
      exact ex_l e3 hS
    · rintro i x σ' H' hx ⟨e3, ds, sd, y3, y4, y5, y6, y7, hd, hs, hlen, rfl⟩
      obtain ⟨c, hc, rfl⟩ := map_at hx
      have hi : i < 63 := by
        have := (List.getElem?_eq_some_iff.mp hc).1
        omega
      refine q_asg (ev_call (ea_cons (ev_var rfl) ea_nil) v_law_number) (fun H4 e4 => ?_)
      generalize (if c < 0 then 0 - c else c) = rest
      refine q_asg (ev_op (ev_cb (ea_cons (ev_op (ev_op (ev_var rfl) ev_c (rv_mulR (by decide))) (ev_var rfl) rv_I0) ea_nil) rc_int) ev_c (rv_mod (by decide))) (fun H5 e5 => ?_)
      generalize (sd * 48271 + rest).fmod 2147483647 = sd
      refine s_if (b := decide (1000000000000000000 ≤ rest)) (by walk_at "et") (fun hb H6 e6 => ?_) (fun hb H6 e6 => ?_)
      · refine s_forR1 (n := 60) (ea_cons ev_c ea_nil) (by decide) (fun j σ' H' => Ex H H' ∧ ∃ (es : List Int) (rs : Int) (y5 : Option V), H' p = some (.lst (es.map V.int)) ∧ (∀ d ∈ es, 0 ≤ d ∧ d < 1000) ∧ es.length ≤ 60 * i + j ∧
          σ' = [some (.ref a), some (.ref p), some (.int sd), some (.int c), some (.int rs), y5, y6, y7]) ?_ ?_ ?_
        · intro H7 e7
          exact ⟨e3.trans (e4.trans (e5.trans (e6.trans e7))), ds, rest, y5, e7 _ _ (e6 _ _ (e5 _ _ (e4 _ _ hd))), hs, hlen, rfl⟩
        · rintro j σ' H' hj ⟨e7, es, rs, z5, he, hes, hel, rfl⟩
          refine q_when (b := decide (rs = 0)) (by walk_at "et") (fun hb H8 e8 => ?_) (fun hb H8 e8 => ?_)
          · exact ⟨e7.trans e8, es, sd, _, _, _, _, _, e8 _ _ he, hes, by omega, rfl⟩
          · refine q_app (e8 _ _ he) (ev_var rfl) (ev_op (ev_cb (ea_cons (ev_var rfl) ea_nil) rc_int) ev_c (rv_mod (by decide))) (by rw [List.length_map]; omega) (fun H9 e9 => ?_)
            refine s_asg (ev_op (ev_var rfl) ev_c (rv_fdiv (by decide) (by decide))) (fun H10 e10 => ?_)
            refine ⟨((Ex.mut ((e7.trans e8).trans e9) hp).trans e10), es ++ [rs.fmod 1000], rs.fdiv 1000, some (.int (j : Int)), ?_, Small.one hes (fmod_in rs (by decide)), by rw [List.length_append]; simp; omega, rfl⟩
            rw [List.map_append]
            exact e10 _ _ upd_same
        · rintro σ' H' ⟨e7, es, rs, z5, he, hes, hel, rfl⟩
          exact ⟨e7, es, sd, _, _, _, _, _, he, hes, by have : ((60 : Int).toNat) = 60 := rfl; omega, rfl⟩
      · refine q_asg (ev_op (ev_cb (ea_cons (ev_op (ev_op (ev_var rfl) ev_c (rv_mulR (by decide))) ev_c rv_I0) ea_nil) rc_int) ev_c (rv_mod (by decide))) (fun H7 e7 => ?_)
        refine q_asg (ev_op (ev_cb (ea_cons (ev_op (ev_op (ev_var rfl) ev_c (rv_mulR (by decide))) (ev_var rfl) rv_I0) ea_nil) rc_int) ev_c (rv_mod (by decide))) (fun H8 e8 => ?_)
        generalize (rest * 48271 + 11).fmod 2147483647 = once
        generalize (once * 69621 + rest).fmod 2147483629 = twice
        refine s_ext (xs := ds.map V.int) (e8 _ _ (e7 _ _ (e6 _ _ (e5 _ _ (e4 _ _ hd))))) (ev_var rfl) (el_lst (vs := [.int (rest.fmod 1000), .int (once.fmod 1000), .int (twice.fmod 1000)]) (ea_cons (ev_op (ev_cb (ea_cons (ev_var rfl) ea_nil) rc_int) ev_c (rv_mod (by decide))) (ea_cons (ev_op (ev_cb (ea_cons (ev_var rfl) ea_nil) rc_int) ev_c (rv_mod (by decide))) (ea_cons (ev_op (ev_cb (ea_cons (ev_var rfl) ea_nil) rc_int) ev_c (rv_mod (by decide))) ea_nil))) (by show 3 ≤ 100000; decide)) (by rw [List.length_map]; show ds.length + 3 ≤ 100000; omega) (fun H9 e9 => ?_)
        refine ⟨Ex.mut (e3.trans (e4.trans (e5.trans (e6.trans (e7.trans (e8.trans e9)))))) hp, ds ++ [rest.fmod 1000, once.fmod 1000, twice.fmod 1000], sd, _, _, _, _, _, ?_, Small.app hs ?_, ?_, rfl⟩
        · rw [List.map_append]
          exact upd_same
        · intro d hd'
          simp only [List.mem_cons, List.not_mem_nil, or_false] at hd'
          rcases hd' with rfl | rfl | rfl <;> exact fmod_in _ (by decide)
        · rw [List.length_append]
          show ds.length + 3 ≤ 60 * (i + 1)
          omega
    · rintro σ' H' ⟨e3, ds, sd, y3, y4, y5, y6, y7, hd, hs, hlen, rfl⟩
      rw [List.length_map] at hlen
      refine q_forR1 (n := 200) (ea_cons ev_c ea_nil) (by decide) (fun j σ' H' => Ex H H' ∧ ∃ (es : List Int) (sd : Int) (y5 : Option V), H' p = some (.lst (es.map V.int)) ∧ (∀ d ∈ es, 0 ≤ d ∧ d < 1000) ∧ es.length ≤ 60 * 63 + j ∧
          σ' = [some (.ref a), some (.ref p), some (.int sd), y3, y4, y5, y6, y7]) ?_ ?_ ?_
      · intro H4 e4
        exact ⟨e3.trans e4, ds, sd, y5, e4 _ _ hd, hs, by omega, rfl⟩
      · rintro j σ' H' hj ⟨e4, es, sd, z5, he, hes, hel, rfl⟩
        refine q_asg (ev_op (ev_cb (ea_cons (ev_op (ev_op (ev_var rfl) ev_c (rv_mulR (by decide))) ev_c rv_I0) ea_nil) rc_int) ev_c (rv_mod (by decide))) (fun H5 e5 => ?_)
        generalize (sd * 48271 + 12345).fmod 2147483647 = sd
        refine s_app (e5 _ _ he) (ev_var rfl) (ev_op (ev_cb (ea_cons (ev_op (ev_var rfl) ev_c (rv_fdiv (by decide) (by decide))) ea_nil) rc_int) ev_c (rv_mod (by decide))) (by rw [List.length_map]; omega) (fun H6 e6 => ?_)
        refine ⟨Ex.mut (e4.trans (e5.trans e6)) hp, es ++ [(sd.fdiv 7).fmod 1000], sd, some (.int (j : Int)), ?_, Small.one hes (fmod_in _ (by decide)), by rw [List.length_append]; simp; omega, rfl⟩
        rw [List.map_append]
        exact upd_same
      · rintro σ' H' ⟨e4, es, sd, z5, he, hes, hel, rfl⟩
        refine q_rev he (ev_var rfl) (fun H5 e5 => ?_)
        refine s_ret (ev_var rfl) (fun H6 e6 => k p H6 hp ((Ex.mut (e4.trans e5) hp).trans e6) ⟨es.reverse, ?_, fun d hd' => hes d (List.mem_reverse.mp hd'), ?_⟩)
        · rw [List.map_reverse]
          exact e6 _ _ upd_same
        · rw [List.length_reverse]
          have : ((200 : Int).toNat) = 200 := rfl
          omega
def sp_law_draw (K : PySem.W.Frag) : Sp := fun vs H Q _ => ∃ p : Addr, vs = [.ref p] ∧ Drw p H ∧ ∀ v H', DP p H (fun d => 0 ≤ d ∧ d < 1000) v H' → Q v H'
theorem ok_law_draw (T : Txt K mg) : FnOk P w K mg base CX0 1 T.f_law_draw T.d_law_draw ["draws"] (sp_law_draw K) := by
  refine T.F_law_draw.ok sc_law_draw (fun vs H Q E h => ?_) (fun cdv A outer s H vs Q E hr h => ?_)
  · obtain ⟨p, rfl, _⟩ := h
    rfl
  · obtain ⟨p, rfl, hD, k⟩ := h
    refine ⟨_, (pss_cons (ps_if (pt_truth (pv 0) (by intro _; rfl)) (pss_one (ps_ret (pe_bm0 PySem.F.plainAttrs_list PySem.F.slot_list_pop PySem.F.type_list_pop mt_pop (pv 0)))) pss_nil)
        (pss_one (ps_ret pe_int))), ?_⟩
    obtain ⟨ds, hd, hs, hlen⟩ := hD
    refine q_when (et_truL (K := K) (ev_var rfl) (sq_of hd)) (fun hb H1 e1 => ?_) (fun hb H1 e1 => ?_)
    · have hne : ds ≠ [] := by intro z; subst z; cases hb
      obtain ⟨es, d, rfl⟩ : ∃ es d, ds = es ++ [d] := ⟨ds.dropLast, ds.getLast hne, (List.dropLast_concat_getLast hne).symm⟩
      have hm : (es ++ [d]).map V.int = es.map V.int ++ [.int d] := by rw [List.map_append]; rfl
      rw [hm] at hd
      refine ⟨_, rfl, .inl ⟨rfl, _, sq_of (e1 _ _ hd)⟩, p, es.map V.int ++ [.int d], .int d, rfl, rfl, e1 _ _ hd, ?_, ?_⟩
      · rw [List.length_append]
        simp
      · have hd2 := hs d (List.mem_append_right _ (List.mem_singleton.mpr rfl))
        refine k _ _ ⟨d, rfl, hd2, ⟨es, ?_, fun x hx => hs x (List.mem_append_left _ hx), ?_⟩, but_mut (ex_but e1) rfl⟩
        · rw [List.dropLast_concat]
          exact upd_same
        · rw [List.length_append] at hlen
          omega
    · exact s_ret ev_c fun H2 e2 => k _ H2 ⟨0, rfl, by decide, ⟨ds, e2 _ _ (e1 _ _ hd), hs, hlen⟩, ex_but (e1.trans e2)⟩
theorem ep_draw {p : Addr} {i : Nat} {σ : L2.St} {H : Hp} (hi : σ[i]? = some (some (.ref p))) (hD : Drw p H) : EvP (tCall (sp_law_draw K) [] E0 (tCons (tVar i) tNil)) σ H (DP p H fun d => 0 ≤ d ∧ d < 1000) := fun Q q => ⟨_, hi, p, rfl, hD, q⟩
def sp_law_pick (K : PySem.W.Frag) : Sp := fun vs H Q _ => ∃ (p : Addr) (m : Int), vs = [.ref p, .int m] ∧ Drw p H ∧ 0 < m ∧ ∀ v H', DP p H (fun d => 0 ≤ d ∧ d < m) v H' → Q v H'
theorem ok_law_pick (T : Txt K mg) : FnOk P w K mg base CX0 2 T.f_law_pick T.d_law_pick ["draws", "many"] (sp_law_pick K) := by
  refine T.F_law_pick.ok sc_law_pick (fun vs H Q E h => ?_) (fun cdv A outer s H vs Q E hr h => ?_)
  · obtain ⟨p, m, rfl, _⟩ := h
    rfl
  · obtain ⟨p, m, rfl, hD, hm, k⟩ := h
    refine ⟨_, (pss_one (ps_ret (pe_op op_modN (pe_callTy call_int1 (by rfl) T.n_int (by decide +kernel) (pa_cons (pe_call (ok_law_draw (P := P) T) (hr.mono (by decide)) (by rfl) T.g_law_draw T.F_law_draw.kp T.b_law_draw .nil pass0 (pa_cons (pv 0) pa_nil)) pa_nil)) (pv 1)))), ?_⟩
    refine ⟨_, rfl, p, rfl, hD, fun v H1 hv => ?_⟩
    obtain ⟨d, rfl, hd, hD1, b⟩ := hv
    refine .inl ⟨d, rfl, _, rfl, d, m, rfl, rfl, by omega, ?_⟩
    exact k _ H1 ⟨_, rfl, fmod_in d hm, hD1, b⟩
theorem ep_pick {p : Addr} {i : Nat} {m : Int} {σ : L2.St} {H : Hp} {tm : TE} (hi : σ[i]? = some (some (.ref p))) (hD : Drw p H) (hm : Ev tm σ H (.int m)) (h0 : 0 < m) : EvP (tCall (sp_law_pick K) [] E0 (tCons (tVar i) (tCons tm tNil))) σ H (DP p H fun d => 0 ≤ d ∧ d < m) := fun Q q =>
  ⟨_, hi, hm H (Ex.refl H) _ fun H2 e2 => ⟨p, m, rfl, hD.ex e2, h0, fun v H' ⟨d, hv, hd, hD', b⟩ => q v H' ⟨d, hv, hd, hD', (ex_but e2).trans b⟩⟩⟩
def sp_law_is_integer (K : PySem.W.Frag) : Sp := fun vs H Q _ => ∃ i : Int, vs = [.int i] ∧ RetV (.bl true) H Q
theorem v_law_is_integer {i : Int} {H : Hp} : SpV (sp_law_is_integer K) [.int i] H (.bl true) := fun _ _ _ q _ => ⟨i, rfl, q⟩
theorem ok_law_is_integer (T : Txt K mg) : FnOk P w K mg base CX0 1 T.f_law_is_integer T.d_law_is_integer ["actual"] (sp_law_is_integer K) := by
  refine T.F_law_is_integer.ok sc_law_is_integer (fun vs H Q E h => ?_) (fun cdv A outer s H vs Q E hr h => ?_)
  · obtain ⟨i, rfl, _⟩ := h
    rfl
  · obtain ⟨i, rfl, k⟩ := h
    refine ⟨_, (pss_one (ps_ret (pe_and (pe_callB call_isi (by rfl) T.n_isinstance (by decide +kernel) (pa_cons (pv 0) (pa_cons (pe_bltn (v := .ty "int") (by rfl) T.n_int (by decide +kernel) rfl) pa_nil))) (pe_one (pe_not (pe_callB call_isi (by rfl) T.n_isinstance (by decide +kernel) (pa_cons (pv 0) (pa_cons (pe_bltn (v := .ty "bool") (by rfl) T.n_bool (by decide +kernel) rfl) pa_nil)))))))), ?_⟩
    exact s_ret (v := .bl (true && !false)) (ev_andV (ev_cb (ea_cons (ev_var rfl) (ea_cons ev_c ea_nil)) rc_isInt) (fun _ => ev_notV (ev_cb (ea_cons (ev_var rfl) (ea_cons ev_c ea_nil)) rc_isIntB))) k
def sp_law_is_cells (K : PySem.W.Frag) : Sp := fun vs H Q _ => ∃ (p : Addr) (ns : List Int), vs = [.ref p] ∧ H p = some (.lst (ns.map V.int)) ∧ RetV (.bl true) H Q
theorem v_law_is_cells {p : Addr} {ns : List Int} {H : Hp} (h : H p = some (.lst (ns.map V.int))) : SpV (sp_law_is_cells K) [.ref p] H (.bl true) := fun _ e _ q _ => ⟨p, ns, rfl, e _ _ h, q⟩
theorem ok_law_is_cells (T : Txt K mg) : FnOk P w K mg base CX0 2 T.f_law_is_cells T.d_law_is_cells ["actual"] (sp_law_is_cells K) := by
  refine T.F_law_is_cells.ok sc_law_is_cells (fun vs H Q E h => ?_) (fun cdv A outer s H vs Q E hr h => ?_)
  · obtain ⟨p, ns, rfl, _⟩ := h
    rfl
  · obtain ⟨p, ns, rfl, hp, k⟩ := h
    refine ⟨_, (pss_cons (ps_if (pt_not (pt_val (pe_callB call_isi (by rfl) T.n_isinstance (by decide +kernel) (pa_cons (pv 0) (pa_cons (pe_bltn (v := .ty "list") (by rfl) T.n_list (by decide +kernel) rfl) pa_nil))))) (pss_one (ps_ret pe_bl)) pss_nil)
        (pss_cons (ps_for PassesOwn.never rfl (pi_list (pv 0)) (pg_name (i := 1) sc_law_is_cells.nd rfl (Or.inl rfl)) (pss_one (ps_if (pt_not (pt_val (pe_call (ok_law_is_integer (P := P) T) (hr.mono (by decide)) (by rfl) T.g_law_is_integer T.F_law_is_integer.kp T.b_law_is_integer .nil pass0 (pa_cons (pv 1) pa_nil)))) (pss_one (ps_ret pe_bl)) pss_nil)))
        (pss_one (ps_ret pe_bl)))), ?_⟩
    refine q_when (b := !true) (et_not (et_B (ev_cb (ea_cons (ev_var rfl) (ea_cons ev_c ea_nil)) (rc_isList hp)))) (fun hb => nomatch hb) (fun _ H1 e1 => ?_)
    refine q_forLn (ev_var rfl) (sq_of (e1 _ _ hp)) (fun i σ' H' => Ex H H' ∧ ∃ y, σ' = [some (.ref p), y]) (fun H2 e2 => ⟨e1.trans e2, none, rfl⟩) (fun i σ' H' _ hq => sq_of (hq.1 _ _ hp)) ?_ ?_
    · rintro i x σ' H' hx ⟨e2, y, rfl⟩
      obtain ⟨c, hc, rfl⟩ := map_at hx
      exact s_when (b := !true) (et_not (et_B (ev_call (ea_cons (ev_var rfl) ea_nil) v_law_is_integer))) (fun hb => nomatch hb) (fun _ H3 e3 => ⟨e2.trans e3, _, rfl⟩)
    · rintro σ' H' ⟨e2, y, rfl⟩
      exact s_ret ev_c fun H3 e3 => k H3 (e2.trans e3)

/-! ### digits read -/
def sp_is_digit (K : PySem.W.Frag) : Sp := fun vs H Q _ => ∃ c : Int, vs = [.int c] ∧ RetV (.bl (isDg c)) H Q
theorem v_is_digit {c : Int} {H : Hp} : SpV (sp_is_digit K) [.int c] H (.bl (isDg c)) := fun _ _ _ q _ => ⟨c, rfl, q⟩
theorem ok_is_digit (T : Txt K mg) : FnOk P w K mg base CX0 1 T.f_is_digit T.d_is_digit ["code"] (sp_is_digit K) := by
  refine T.F_is_digit.ok sc_is_digit (fun vs H Q E h => ?_) (fun cdv A outer s H vs Q E hr h => ?_)
  · obtain ⟨c, rfl, _⟩ := h
    rfl
  · obtain ⟨c, rfl, k⟩ := h
    refine ⟨_, (pss_one (ps_ret (pe_chain op_le op_le pe_int (pv 0) pe_int))), ?_⟩
    exact s_ret (by walk_at "ev") k
def sp_with_digit (K : PySem.W.Frag) : Sp := fun vs H Q _ => ∃ n c : Int, vs = [.int n, .int c] ∧ RetV (.int (10 * n + c - 48)) H Q
theorem v_with_digit {n c : Int} {H : Hp} : SpV (sp_with_digit K) [.int n, .int c] H (.int (10 * n + c - 48)) := fun _ _ _ q _ => ⟨n, c, rfl, q⟩
theorem ok_with_digit (T : Txt K mg) : FnOk P w K mg base CX0 1 T.f_with_digit T.d_with_digit ["number", "code"] (sp_with_digit K) := by
  refine T.F_with_digit.ok sc_with_digit (fun vs H Q E h => ?_) (fun cdv A outer s H vs Q E hr h => ?_)
  · obtain ⟨n, c, rfl, _⟩ := h
    rfl
  · obtain ⟨n, c, rfl, k⟩ := h
    refine ⟨_, (pss_one (ps_ret (pe_op op_sub (pe_op op_add (pe_op op_mul pe_int (pv 0)) (pv 1)) pe_int))), ?_⟩
    exact s_ret (ev_op (ev_op (ev_op ev_c (ev_var rfl) (rv_mulL (by decide))) (ev_var rfl) rv_I0) ev_c rv_I0) k

def sp_readable (K : PySem.W.Frag) : Sp := fun vs H Q _ => ∃ (a : Addr) (ns : List Int), vs = [.ref a] ∧ SqL K H a (ns.map V.int) ∧ ns.length ≤ 5000 ∧ RetL ((ns.takeWhile nn).map V.int) H Q
theorem l_readable {a : Addr} {ns : List Int} {H : Hp} (h : SqL K H a (ns.map V.int)) (hl : ns.length ≤ 5000) : SpL (sp_readable K) [.ref a] H ((ns.takeWhile nn).map V.int) := fun _ e _ q _ => ⟨a, ns, rfl, ex_l e h, hl, q⟩
theorem ok_readable (T : Txt K mg) : FnOk P w K mg base CX0 1 T.f_readable T.d_readable ["codes"] (sp_readable K) := by
  refine T.F_readable.ok sc_readable (fun vs H Q E h => ?_) (fun cdv A outer s H vs Q E hr h => ?_)
  · obtain ⟨a, ns, rfl, _⟩ := h
    rfl
  · obtain ⟨a, ns, rfl, hS, hl, k⟩ := h
    refine ⟨_, (pss_cons (ps_set (i := 1) sc_readable.nd rfl (Or.inl rfl) (pe_lst pa_nil))
        (pss_cons (ps_for PassesOwn.never rfl (pi_list (pv 0)) (pg_name (i := 2) sc_readable.nd rfl (Or.inl rfl)) (pss_cons (ps_if (pt_cmpR op_lt (pv 2) pe_int (nomark _)) (pss_one ps_break) pss_nil)
        (pss_one (ps_expr (pe_bm PySem.F.plainAttrs_list PySem.F.slot_list_append PySem.F.type_list_append mt_append (pv 1) (pa_cons (pv 2) pa_nil))))))
        (pss_one (ps_ret (pv 1))))), ?_⟩
    refine q_asgL (el_lst ea_nil (by decide)) (fun p H1 hp e1 d1 => ?_)
    refine q_forLn (ev_var rfl) (ex_l e1 hS) (fun i σ' H' => Ex H H' ∧ (ns.take i).takeWhile nn = ns.take i ∧ H' p = some (.lst ((ns.take i).map V.int)) ∧ ∃ y, σ' = [some (.ref a), some (.ref p), y]) ?_ ?_ ?_ ?_
    · intro H2 e2
      exact ⟨e1.trans e2, rfl, e2 _ _ d1, none, rfl⟩
    · rintro i σ' H' _ ⟨e2, _⟩
      exact ex_l e2 hS
    · rintro i x σ' H' hx ⟨e2, ht, hd, y, rfl⟩
      obtain ⟨c, hc, rfl⟩ := map_at hx
      have hi := (List.getElem?_eq_some_iff.mp hc).1
      refine q_when (b := decide (c < 0)) (by walk_at "et") (fun hb H3 e3 => ?_) (fun hb H3 e3 => ?_)
      · have e : ns.takeWhile nn = ns.take i := tw_stop hc (by unfold nn; have := of_decide_eq_true hb; exact decide_eq_false (by omega)) ht
        rw [e] at k
        exact s_ret (ev_var rfl) fun H4 e4 => k p H4 hp (e2.trans (e3.trans e4)) (e4 _ _ (e3 _ _ hd))
      · have h0 : nn c = true := by unfold nn; have := of_decide_eq_false hb; exact decide_eq_true (by omega)
        refine s_app (e3 _ _ hd) (ev_var rfl) (ev_var rfl) (by rw [List.length_map, List.length_take]; omega) (fun H4 e4 => ?_)
        refine ⟨Ex.mut ((e2.trans e3).trans e4) hp, ?_, ?_, _, rfl⟩
        · rw [take_snoc hc, List.takeWhile_append_of_pos (fun z hz => takeWhile_pos ht z hz), List.takeWhile_cons, h0]
          rfl
        · rw [take_snoc hc, List.map_append]
          exact upd_same
    · rintro σ' H' ⟨e2, ht, hd, y, rfl⟩
      rw [List.length_map, List.take_length] at ht hd
      rw [ht] at k
      exact s_ret (ev_var rfl) fun H4 e4 => k p H4 hp (e2.trans e4) (e4 _ _ hd)

def sp_read_digits (K : PySem.W.Frag) : Sp := fun vs H Q _ => ∃ (a : Addr) (ns : List Int), vs = [.ref a] ∧ SqL K H a (ns.map V.int) ∧ ns.length ≤ 5000 ∧ RetL ((rd ns).map V.int) H Q
theorem l_read_digits {a : Addr} {ns : List Int} {H : Hp} (h : SqL K H a (ns.map V.int)) (hl : ns.length ≤ 5000) : SpL (sp_read_digits K) [.ref a] H ((rd ns).map V.int) := fun _ e _ q _ => ⟨a, ns, rfl, ex_l e h, hl, q⟩
theorem ok_read_digits (T : Txt K mg) : FnOk P w K mg base CX0 2 T.f_read_digits T.d_read_digits ["codes"] (sp_read_digits K) := by
  refine T.F_read_digits.ok sc_read_digits (fun vs H Q E h => ?_) (fun cdv A outer s H vs Q E hr h => ?_)
  · obtain ⟨a, ns, rfl, _⟩ := h
    rfl
  · obtain ⟨a, ns, rfl, hS, hl, k⟩ := h
    refine ⟨_, (pss_cons (ps_set (i := 1) sc_read_digits.nd rfl (Or.inl rfl) (pe_lst pa_nil))
        (pss_cons (ps_set (i := 2) sc_read_digits.nd rfl (Or.inl rfl) pe_non)
        (pss_cons (ps_for PassesOwn.never rfl (pi_list (pe_call (ok_readable (P := P) T) (hr.mono (by decide)) (by rfl) T.g_readable T.F_readable.kp T.b_readable .nil pass0 (pa_cons (pv 0) pa_nil))) (pg_name (i := 3) sc_read_digits.nd rfl (Or.inl rfl)) (pss_one (ps_if (pt_val (pe_call (ok_is_digit (P := P) T) (hr.mono (by decide)) (by rfl) T.g_is_digit T.F_is_digit.kp T.b_is_digit .nil pass0 (pa_cons (pv 3) pa_nil))) (pss_one (ps_set (i := 2) sc_read_digits.nd rfl (Or.inl rfl) (pe_call (ok_with_digit (P := P) T) (hr.mono (by decide)) (by rfl) T.g_with_digit T.F_with_digit.kp T.b_with_digit .nil pass0 (pa_cons (pe_orT (pv 2) (pe_one pe_int)) (pa_cons (pv 3) pa_nil))))) (pss_one (ps_if (pt_cmpR op_notN (pv 2) pe_non (nomark _)) (pss_cons (ps_expr (pe_bm PySem.F.plainAttrs_list PySem.F.slot_list_append PySem.F.type_list_append mt_append (pv 1) (pa_cons (pv 2) pa_nil)))
        (pss_one (ps_set (i := 2) sc_read_digits.nd rfl (Or.inl rfl) pe_non))) pss_nil)))))
        (pss_cons (ps_if (pt_cmpR op_notN (pv 2) pe_non (nomark _)) (pss_one (ps_expr (pe_bm PySem.F.plainAttrs_list PySem.F.slot_list_append PySem.F.type_list_append mt_append (pv 1) (pa_cons (pv 2) pa_nil)))) pss_nil)
        (pss_one (ps_ret (pv 1))))))), ?_⟩
    refine q_asgL (el_lst ea_nil (by decide)) (fun p H1 hp e1 d1 => ?_)
    refine q_asg ev_c (fun H2 e2 => ?_)
    have hS2 := ex_l (e1.trans e2) hS
    have hw : (ns.takeWhile nn).length ≤ 5000 := Nat.le_trans (tw_len ns) hl
    unfold rd at k
    have hR : SpL (sp_readable K) [.ref a] H2 ((ns.takeWhile nn).map V.int) := l_readable hS2 hl
    generalize ns.takeWhile nn = rs at hw k hR
    refine q_forNLn (xs := rs.map V.int) (el_call (ea_cons (ev_var rfl) ea_nil) hR) (fun q i σ' H' => Ex H H' ∧ H' q = some (.lst (rs.map V.int)) ∧ q ≠ p ∧ H' p = some (.lst ((rdGo (rs.take i)).1.map V.int)) ∧
      ∃ y, σ' = [some (.ref a), some (.ref p), some (optV (rdGo (rs.take i)).2), y]) ?_ ?_ ?_ ?_
    · intro q H3 hq e3 h3
      exact ⟨e1.trans (e2.trans e3), h3, (fun e => by rw [e, e2 _ _ d1] at hq; cases hq), e3 _ _ (e2 _ _ d1), none, rfl⟩
    · rintro q i σ' H' _ ⟨_, h3, _⟩
      exact sq_of h3
    · rintro q i x σ' H' hx ⟨e3, h3, hqp, hd, y, rfl⟩
      obtain ⟨c, hc, rfl⟩ := map_at hx
      have hi := (List.getElem?_eq_some_iff.mp hc).1
      have hlen := rdGo_len (rs.take i)
      rw [List.length_take] at hlen
      rw [rdGo_snoc hc]
      generalize rdGo (rs.take i) = st at hd hlen
      obtain ⟨xs, o⟩ := st
      refine s_if (b := isDg c) (et_B (ev_call (ea_cons (ev_var rfl) ea_nil) v_is_digit)) (fun hb H4 e4 => ?_) (fun hb H4 e4 => ?_)
      · refine s_asg (ev_call (ea_cons (ev_or0 (ev_var rfl)) (ea_cons (ev_var rfl) ea_nil)) v_with_digit) (fun H5 e5 => ?_)
        unfold rdStep
        rw [if_pos hb]
        exact ⟨e3.trans (e4.trans e5), e5 _ _ (e4 _ _ h3), hqp, e5 _ _ (e4 _ _ hd), _, rfl⟩
      · refine s_when (b := o.isSome) (et_test (ev_op (ev_var rfl) ev_c rv_notN)) (fun ho H5 e5 => ?_) (fun ho H5 e5 => ?_)
        · cases o with
          | none => cases ho
          | some v =>
            refine q_app (e5 _ _ (e4 _ _ hd)) (ev_var rfl) (ev_var rfl) (by rw [List.length_map]; show xs.length < 100000; have h2 : xs.length ≤ min i rs.length := hlen; omega) (fun H6 e6 => ?_)
            refine s_asg ev_c (fun H7 e7 => ?_)
            unfold rdStep
            rw [hb, if_neg Bool.false_ne_true]
            refine ⟨(Ex.mut (e3.trans (e4.trans (e5.trans e6))) hp).trans e7, e7 _ _ ?_, hqp, ?_, _, rfl⟩
            · rw [upd_ne hqp]
              exact e6 _ _ (e5 _ _ (e4 _ _ h3))
            · show H7 p = some (.lst ((xs ++ [v]).map V.int))
              rw [List.map_append]
              exact e7 _ _ upd_same
        · cases o with
          | some v => cases ho
          | none =>
            unfold rdStep
            rw [hb, if_neg Bool.false_ne_true]
            exact ⟨e3.trans (e4.trans e5), e5 _ _ (e4 _ _ h3), hqp, e5 _ _ (e4 _ _ hd), _, rfl⟩
    · rintro q σ' H' ⟨e3, h3, hqp, hd, y, rfl⟩
      rw [List.length_map, List.take_length] at hd ⊢
      have hlen := rdGo_len rs
      generalize rdGo rs = st at hd hlen k
      obtain ⟨xs, o⟩ := st
      refine q_when (b := o.isSome) (et_test (ev_op (ev_var rfl) ev_c rv_notN)) (fun ho H4 e4 => ?_) (fun ho H4 e4 => ?_)
      · cases o with
        | none => cases ho
        | some v =>
          refine s_app (e4 _ _ hd) (ev_var rfl) (ev_var rfl) (by rw [List.length_map]; show xs.length < 100000; have h2 : xs.length ≤ rs.length := hlen; omega) (fun H5 e5 => ?_)
          refine s_ret (ev_var rfl) (fun H6 e6 => k p H6 hp ((Ex.mut (e3.trans (e4.trans e5)) hp).trans e6) (e6 _ _ ?_))
          show _ = some (HO.lst ((xs ++ [v]).map V.int))
          rw [List.map_append]
          exact upd_same
      · cases o with
        | some v => cases ho
        | none => exact s_ret (ev_var rfl) fun H6 e6 => k p H6 hp (e3.trans (e4.trans e6)) (e6 _ _ (e4 _ _ hd))

def dv (l : List Nat) : Int := l.foldl (fun (a : Int) (c : Nat) => 10 * a + (c : Int) - 48) 0
theorem dv_val : ∀ (l : List Nat), AllDigits l → dv l = ((digitsVal l : Nat) : Int) := by
  intro l hl
  have key : ∀ (l : List Nat) (b : Nat), AllDigits l → l.foldl (fun (a : Int) (c : Nat) => 10 * a + (c : Int) - 48) (b : Int) = ((l.foldl (fun acc c => acc * 10 + (c - 48)) b : Nat) : Int) := by
    intro l
    induction l with
    | nil => intro b _; rfl
    | cons c r ih =>
      intro b h
      have hc := h.head
      rw [List.foldl_cons, List.foldl_cons, ← ih _ h.tail]
      congr 1
      omega
  exact key l 0 hl


end
end K15

set_option Elab.async false
set_option linter.all false
set_option maxRecDepth 100000
set_option maxHeartbeats 4000000
set_option exponentiation.threshold 600
namespace K15
open PySem PySem.Spec PyProof.Rows L2 Evl Gd
open PySem.NumText (AllDigits digitsVal)
/-! ### how expressions are evaluated, without a word of ours -/
local macro_rules | `(tactic| walk_at "ev") => `(tactic| exact ev_c)
local macro_rules | `(tactic| walk_at "ev") => `(tactic| exact ev_var rfl)
local macro_rules | `(tactic| walk_at "ev") => `(tactic| (refine' ev_op ?k1 ?k2 ?k3; (case k1 => walk_at "ev"); (case k2 => walk_at "ev"); (case k3 => walk_at "rv")))
local macro_rules | `(tactic| walk_at "ev") => `(tactic| (refine' ev_cb ?k1 ?k2; (case k1 => walk_at "ea"); (case k2 => walk_at "rc")))
local macro_rules | `(tactic| walk_at "ev") => `(tactic| (refine' ev_call ?k1 ?k2; (case k1 => walk_at "ea"); (case k2 => walk_at "sp")))
local macro_rules | `(tactic| walk_at "ev") => `(tactic| (refine' ev_chain ?k1 ?k2 ?k3 (fun _ => ?k4) (fun _ => ?k5); (case k1 => walk_at "ev"); (case k2 => walk_at "ev"); (case k3 => walk_at "rv"); (case k4 => walk_at "ev"); (case k5 => walk_at "rv")))
local macro_rules | `(tactic| walk_at "ev") => `(tactic| (refine' ev_orV ?k1 (fun _ => ?k2); (case k1 => walk_at "ev"); (case k2 => walk_at "ev")))
local macro_rules | `(tactic| walk_at "ev") => `(tactic| (refine' ev_andV ?k1 (fun _ => ?k2); (case k1 => walk_at "ev"); (case k2 => walk_at "ev")))
local macro_rules | `(tactic| walk_at "ev") => `(tactic| (refine' ev_notV ?k1; (case k1 => walk_at "ev")))
local macro_rules | `(tactic| walk_at "ea") => `(tactic| exact ea_nil)
local macro_rules | `(tactic| walk_at "ea") => `(tactic| (refine' ea_cons ?k1 ?k2; (case k1 => walk_at "ev"); (case k2 => walk_at "ea")))
local macro_rules | `(tactic| walk_at "rv") => `(tactic| exact rv_I0)
local macro_rules | `(tactic| walk_at "rv") => `(tactic| exact rv_eqI)
local macro_rules | `(tactic| walk_at "rv") => `(tactic| exact rv_neI)
local macro_rules | `(tactic| walk_at "rv") => `(tactic| exact rv_eqS)
local macro_rules | `(tactic| walk_at "rv") => `(tactic| exact rv_neS)
local macro_rules | `(tactic| walk_at "rv") => `(tactic| exact rv_mod (by decide))
local macro_rules | `(tactic| walk_at "rv") => `(tactic| exact rv_fdiv (by decide) (by decide))
local macro_rules | `(tactic| walk_at "rv") => `(tactic| exact rv_mulR (by decide))
local macro_rules | `(tactic| walk_at "rv") => `(tactic| exact rv_pow (by decide))
local macro_rules | `(tactic| walk_at "rc") => `(tactic| exact rc_int)
local macro_rules | `(tactic| walk_at "rc") => `(tactic| exact rc_ord)
local macro_rules | `(tactic| walk_at "et") => `(tactic| (refine' et_test ?k1; (case k1 => walk_at "ev")))
local macro_rules | `(tactic| walk_at "et") => `(tactic| (refine' et_B ?k1; (case k1 => walk_at "ev")))
local macro_rules | `(tactic| walk_at "et") => `(tactic| (refine' et_not ?k1; (case k1 => walk_at "et")))
local macro_rules | `(tactic| walk_at "et") => `(tactic| (refine' et_or ?k1 (fun _ => ?k2); (case k1 => walk_at "et"); (case k2 => walk_at "et")))
local macro_rules | `(tactic| walk_at "et") => `(tactic| (refine' et_and ?k1 (fun _ => ?k2); (case k1 => walk_at "et"); (case k2 => walk_at "et")))
section
variable {P : Program} {w : World} {K : PySem.W.Frag} {mg : Str → Option Value} {base : Heap}
/-! ### numerals -/
def big60 : Int := 10 ^ 60
def sp_has_numeral (K : PySem.W.Frag) : Sp := fun vs H Q _ => ∃ i : Int, vs = [.int i] ∧ RetV (.bl (decide (i.natAbs < 10 ^ 60))) H Q
theorem v_has_numeral {i : Int} {H : Hp} : SpV (sp_has_numeral K) [.int i] H (.bl (decide (i.natAbs < 10 ^ 60))) := fun _ _ _ q _ => ⟨i, rfl, q⟩
theorem abs_lt {i : Int} : decide ((if i < 0 then -i else i) < (10 : Int) ^ (60 : Int).toNat) = decide (i.natAbs < 10 ^ 60) := by
  have e : (10 : Int) ^ (60 : Int).toNat = ((10 ^ 60 : Nat) : Int) := by decide +kernel
  rw [e]
  generalize 10 ^ 60 = b
  by_cases h : i < 0
  · rw [if_pos h]
    exact decide_eq_decide.mpr ⟨fun g => by omega, fun g => by omega⟩
  · rw [if_neg h]
    exact decide_eq_decide.mpr ⟨fun g => by omega, fun g => by omega⟩
theorem ok_has_numeral (T : Txt K mg) : FnOk P w K mg base CX0 1 T.f_has_numeral T.d_has_numeral ["number"] (sp_has_numeral K) := by
  refine T.F_has_numeral.ok sc_has_numeral (fun vs H Q E h => ?_) (fun cdv A outer s H vs Q E hr h => ?_)
  · obtain ⟨i, rfl, _⟩ := h
    rfl
  · obtain ⟨i, rfl, k⟩ := h
    refine ⟨_, (pss_one (ps_ret (pe_cmpR op_lt (pe_callB call_abs (by rfl) T.n_abs (by decide +kernel) (pa_cons (pv 0) pa_nil)) (pe_op op_pow pe_int pe_int) (nomark _)))), ?_⟩
    rw [← abs_lt] at k
    exact s_ret (ev_op (ev_cb (ea_cons (ev_var rfl) ea_nil) rc_abs) (ev_op ev_c ev_c (rv_pow (by decide))) rv_I0) k
def sp_numeral (K : PySem.W.Frag) (C : Addr) : Sp := fun vs H Q E => ∃ i : Int, vs = [.int i] ∧ i.natAbs < 10 ^ 500 ∧ (i.natAbs < 10 ^ 60 → RetV (.str (toString i)) H Q) ∧ (¬ i.natAbs < 10 ^ 60 → ∀ H2, Ex H H2 → E (.ref C) none H2)
theorem ok_numeral (T : Txt K mg) : FnOk P w K mg base (L2.CX P w) 2 T.f_numeral T.d_numeral ["number"] (sp_numeral K T.C_NotNumeral) := by
  refine T.F_numeral.okX sc_numeral (fun vs H Q E h => ?_) (fun cdv A outer s H vs Q E hr h => ?_)
  · obtain ⟨i, rfl, _⟩ := h
    rfl
  · obtain ⟨i, rfl, hb, kG, kB⟩ := h
    refine ⟨_, (pss_cons (ps_if (pt_not (pt_val (pe_call (ok_has_numeral (P := P) T) (hr.mono (by decide)) (by rfl) T.g_has_numeral T.F_has_numeral.kp T.b_has_numeral .nil pass0 (pa_cons (pv 0) pa_nil)))) (pss_one (ps_raise rfl (takes_of rfl rfl rfl rfl) (pmk_own PySem.F.excBase_ValueError T.x_NotNumeral T.g_NotNumeral T.k_NotNumeral (raises_own T.b_NotNumeral T.t_NotNumeral) (by rfl)))) pss_nil)
        (pss_one (ps_ret (pe_callTy call_str_int (by rfl) T.n_str (by decide +kernel) (pa_cons (pv 0) pa_nil))))), ?_⟩
    refine q_when (b := !decide (i.natAbs < 10 ^ 60)) (et_not (et_B (ev_call (ea_cons (ev_var rfl) ea_nil) v_has_numeral))) (fun hb H1 e1 => kB (by simpa using hb) H1 e1) (fun h1 H1 e1 => ?_)
    have h1 : i.natAbs < 10 ^ 60 := by simpa using h1
    exact s_ret (ev_cb (ea_cons (ev_var rfl) ea_nil) (rc_strI hb)) fun H2 e2 => kG h1 H2 (e1.trans e2)

def isCh (c : Int) : Bool := decide (c = 10) || (decide (32 ≤ c) && decide (c ≤ 36) || decide (38 ≤ c) && decide (c ≤ 126))
def sp_is_character (K : PySem.W.Frag) : Sp := fun vs H Q _ => ∃ c : Int, vs = [.int c] ∧ RetV (.bl (isCh c)) H Q
theorem v_is_character {c : Int} {H : Hp} : SpV (sp_is_character K) [.int c] H (.bl (isCh c)) := fun _ _ _ q _ => ⟨c, rfl, q⟩
local macro_rules | `(tactic| walk_at "sp") => `(tactic| exact v_is_character)
theorem ok_is_character (T : Txt K mg) : FnOk P w K mg base CX0 1 T.f_is_character T.d_is_character ["code"] (sp_is_character K) := by
  refine T.F_is_character.ok sc_is_character (fun vs H Q E h => ?_) (fun cdv A outer s H vs Q E hr h => ?_)
  · obtain ⟨c, rfl, _⟩ := h
    rfl
  · obtain ⟨c, rfl, k⟩ := h
    refine ⟨_, (pss_one (ps_ret (pe_or (pe_cmpR op_eq (pv 0) (pe_glob (v := .int 10) (by rfl) T.c_NEWLINE ⟨_, rfl⟩) (nomark _)) (pe_or (pe_chain op_le op_le pe_int (pv 0) pe_int) (pe_one (pe_chain op_le op_le pe_int (pv 0) pe_int)))))), ?_⟩
    exact s_ret (v := .bl (isCh c)) (by walk_at "ev") k
/-- the codes of a text -/
def codes (z : Str) : List Int := z.cps.toList.map fun (c : Nat) => (c : Int)
def sp_codes_of (K : PySem.W.Frag) (C : Addr) : Sp := fun vs H Q E => ∃ z : Str, vs = [.str z] ∧ z.cps.size ≤ 1000 ∧
  ((codes z).all isCh = true → RetL ((codes z).map V.int) H Q) ∧ ((codes z).all isCh = false → ∀ H2, Ex H H2 → E (.ref C) none H2)
theorem l_codes_of {C : Addr} {z : Str} {H : Hp} (hz : z.cps.size ≤ 1000) (h : (codes z).all isCh = true) : SpL (sp_codes_of K C) [.str z] H ((codes z).map V.int) := fun _ _ _ q _ => ⟨z, rfl, hz, fun _ => q, fun z => by rw [h] at z; cases z⟩
theorem ok_codes_of (T : Txt K mg) : FnOk P w K mg base (L2.CX P w) 2 T.f_codes_of T.d_codes_of ["text"] (sp_codes_of K T.C_NotText) := by
  refine T.F_codes_of.okX sc_codes_of (fun vs H Q E h => ?_) (fun cdv A outer s H vs Q E hr h => ?_)
  · obtain ⟨z, rfl, _⟩ := h
    rfl
  · obtain ⟨z, rfl, hz, kG, kB⟩ := h
    refine ⟨_, (pss_cons (ps_setLc (i := 1) (own := [("character", 2)]) (by rfl) sc_codes_of.nd rfl rfl (sw_true rfl rfl rfl (by decide +kernel)) (pi_str (pv 0)) (blkOk_by (own := [("character", 2)]) (N := N_codes_of) (sc := defScope s_codes_of) (by decide +kernel)) (fun _ _ _ _ _ => pg_name (i := 2) sc_codes_of.nd rfl (Or.inl rfl)) (fun _ _ _ _ _ => pts_nil) (fun _ _ _ _ _ => (pe_callB call_ord (by rfl) T.n_ord (by decide +kernel) (pa_cons (pv 2) pa_nil))))
        (pss_cons (ps_for (passes_of rfl) rfl (pi_list (pv 1)) (pg_name (i := 3) sc_codes_of.nd rfl (Or.inl rfl)) (pss_one (ps_if (pt_not (pt_val (pe_call (ok_is_character (P := P) T) (hr.mono (by decide)) (by rfl) T.g_is_character T.F_is_character.kp T.b_is_character .nil pass0 (pa_cons (pv 3) pa_nil)))) (pss_one (ps_raise rfl (takes_of rfl rfl rfl rfl) (pmk_own PySem.F.excBase_ValueError T.x_NotText T.g_NotText T.k_NotText (raises_own T.b_NotText T.t_NotText) (by rfl)))) pss_nil)))
        (pss_one (ps_ret (pv 1))))), ?_⟩
    refine q_asgL (el_mapS (fun v => match v with | .str x => V.int ((x.cps.getD 0 0 : Nat) : Int) | _ => .non) (ev_var rfl) (by omega) (fun _ => rfl) (fun c _ H1 _ => by walk_at "ev")) (fun p H1 hp e1 h1 => ?_)
    have hm : (sgns z).map (fun v => match v with | .str x => V.int ((x.cps.getD 0 0 : Nat) : Int) | _ => .non) = (codes z).map V.int := by
      rw [sgns_map]
      unfold codes
      rw [List.map_map]
      rfl
    rw [hm] at h1
    refine q_forLn (j := 3) (ev_var rfl) (sq_of h1) (fun i σ' H' => Ex H1 H' ∧ (∃ y, σ' = [some (.str z), some (.ref p), none, y]) ∧ ((codes z).take i).all isCh = true) (fun H2 e2 => ⟨e2, ⟨none, rfl⟩, rfl⟩)
      (fun i σ' H' _ hp => ex_l hp.1 (sq_of h1)) ?_ ?_
    · rintro i x σ' H' hx ⟨e2, ⟨y, rfl⟩, hall⟩
      obtain ⟨c, hc, rfl⟩ := map_at hx
      refine s_when (b := !isCh c) (by walk_at "et") (fun hb H3 e3 => ?_) (fun hb H3 e3 => ?_)
      · refine kB ?_ H3 (e1.trans (e2.trans e3))
        refine List.all_eq_false.mpr ⟨c, List.mem_of_getElem? hc, ?_⟩
        simpa using hb
      · refine ⟨e2.trans e3, ⟨_, rfl⟩, ?_⟩
        rw [take_snoc hc, List.all_append, hall]
        simpa using hb
    · rintro σ' H' ⟨e2, ⟨y, rfl⟩, hall⟩
      rw [List.length_map, List.take_length] at hall
      exact s_ret (ev_var rfl) fun H3 e3 => kG hall p H3 hp (e1.trans (e2.trans e3)) (e3 _ _ (e2 _ _ h1))

abbrev NI_NotWritable : List Str := ["self", "at", "__class__"]
theorem nsc_NotWritable : NdefX.NScope NI_NotWritable ["self", "at"] ["__class__"] (defScope sI_NotWritable) := NdefX.nscope_by (by decide +kernel)
theorem ok_NotWritable_init [ProgOk P] (T : Txt K mg) : FnOk P w K mg base CX0 1 T.fI_NotWritable T.dI_NotWritable ["self", "at"] (spXI T.C_NotWritable "at") := by
  refine sup_ok (k := 0) (N := NI_NotWritable) T.supf_NotWritable T.oex_NotWritable T.n_super nsc_NotWritable rfl rfl rfl (fun _ => rfl) (fun _ => rfl) (fun _ => rfl) (fun _ => ⟨_, rfl⟩) (fun vs H Q E h => ?_) (fun A outer s H vs Q E hr h => ?_)
  · obtain ⟨a, y, rfl, _⟩ := h
    rfl
  · obtain ⟨a, y, rfl, hy, ha, k⟩ := h
    refine ⟨a, [y], _, _, rfl, ha, pe_joined (.cons pe_str (.cons (pe_fmt (pv 1)) (.cons pe_str .nil))), ps_ost (pv 0) (pv 1), ?_⟩
    refine js_c (n := 0) (by decide) (by decide) (by decide) fun lz => ?_
    refine js_y hy (ev_var rfl) lz (by decide) fun z H1 e1 lz => ?_
    refine js_c lz (by decide) (by decide) fun lz => ?_
    exact ⟨e1 _ _ ha, s_ost T.oex_NotWritable T.na_NotWritable (e1 _ _ ha) (fun _ => ev_var rfl) (ev_var rfl) fun H2 dx e2 nd ne => k H2 dx (e1.trans e2) nd ne⟩


end
end K15

set_option Elab.async false
set_option linter.all false
set_option maxRecDepth 100000
set_option maxHeartbeats 4000000
set_option exponentiation.threshold 600
namespace K15
open PySem PySem.Spec PyProof.Rows L2 Evl Gd
open PySem.NumText (AllDigits digitsVal)
/-! ### how expressions are evaluated, without a word of ours -/
local macro_rules | `(tactic| walk_at "ev") => `(tactic| exact ev_c)
local macro_rules | `(tactic| walk_at "ev") => `(tactic| exact ev_var rfl)
local macro_rules | `(tactic| walk_at "ev") => `(tactic| (refine' ev_op ?k1 ?k2 ?k3; (case k1 => walk_at "ev"); (case k2 => walk_at "ev"); (case k3 => walk_at "rv")))
local macro_rules | `(tactic| walk_at "ev") => `(tactic| (refine' ev_cb ?k1 ?k2; (case k1 => walk_at "ea"); (case k2 => walk_at "rc")))
local macro_rules | `(tactic| walk_at "ev") => `(tactic| (refine' ev_call ?k1 ?k2; (case k1 => walk_at "ea"); (case k2 => walk_at "sp")))
local macro_rules | `(tactic| walk_at "ev") => `(tactic| (refine' ev_chain ?k1 ?k2 ?k3 (fun _ => ?k4) (fun _ => ?k5); (case k1 => walk_at "ev"); (case k2 => walk_at "ev"); (case k3 => walk_at "rv"); (case k4 => walk_at "ev"); (case k5 => walk_at "rv")))
local macro_rules | `(tactic| walk_at "ev") => `(tactic| (refine' ev_orV ?k1 (fun _ => ?k2); (case k1 => walk_at "ev"); (case k2 => walk_at "ev")))
local macro_rules | `(tactic| walk_at "ev") => `(tactic| (refine' ev_andV ?k1 (fun _ => ?k2); (case k1 => walk_at "ev"); (case k2 => walk_at "ev")))
local macro_rules | `(tactic| walk_at "ev") => `(tactic| (refine' ev_notV ?k1; (case k1 => walk_at "ev")))
local macro_rules | `(tactic| walk_at "ea") => `(tactic| exact ea_nil)
local macro_rules | `(tactic| walk_at "ea") => `(tactic| (refine' ea_cons ?k1 ?k2; (case k1 => walk_at "ev"); (case k2 => walk_at "ea")))
local macro_rules | `(tactic| walk_at "rv") => `(tactic| exact rv_I0)
local macro_rules | `(tactic| walk_at "rv") => `(tactic| exact rv_eqI)
local macro_rules | `(tactic| walk_at "rv") => `(tactic| exact rv_neI)
local macro_rules | `(tactic| walk_at "rv") => `(tactic| exact rv_eqS)
local macro_rules | `(tactic| walk_at "rv") => `(tactic| exact rv_neS)
local macro_rules | `(tactic| walk_at "rv") => `(tactic| exact rv_mod (by decide))
local macro_rules | `(tactic| walk_at "rv") => `(tactic| exact rv_fdiv (by decide) (by decide))
local macro_rules | `(tactic| walk_at "rv") => `(tactic| exact rv_mulR (by decide))
local macro_rules | `(tactic| walk_at "rv") => `(tactic| exact rv_pow (by decide))
local macro_rules | `(tactic| walk_at "rc") => `(tactic| exact rc_int)
local macro_rules | `(tactic| walk_at "rc") => `(tactic| exact rc_ord)
local macro_rules | `(tactic| walk_at "et") => `(tactic| (refine' et_test ?k1; (case k1 => walk_at "ev")))
local macro_rules | `(tactic| walk_at "et") => `(tactic| (refine' et_B ?k1; (case k1 => walk_at "ev")))
local macro_rules | `(tactic| walk_at "et") => `(tactic| (refine' et_not ?k1; (case k1 => walk_at "et")))
local macro_rules | `(tactic| walk_at "et") => `(tactic| (refine' et_or ?k1 (fun _ => ?k2); (case k1 => walk_at "et"); (case k2 => walk_at "et")))
local macro_rules | `(tactic| walk_at "et") => `(tactic| (refine' et_and ?k1 (fun _ => ?k2); (case k1 => walk_at "et"); (case k2 => walk_at "et")))
section
variable {P : Program} {w : World} {K : PySem.W.Frag} {mg : Str → Option Value} {base : Heap}
variable [ProgOk P]
/-! ### digits written -/
def badI (i : Int) : Bool := decide (i < 0) || !decide (i.natAbs < 10 ^ 60)
def joinN : List (List Nat) → List Nat := TL.joinL [32]
theorem joinN_snoc : ∀ (xs : List (List Nat)) (y : List Nat), joinN (xs ++ [y]) = if xs = [] then y else joinN xs ++ 32 :: y
  | [], y => rfl
  | [p], y => by rw [if_neg (by simp)]; rfl
  | p :: q :: r, y => by
    rw [if_neg (by simp)]
    show p ++ ([32] ++ joinN (q :: r ++ [y])) = (p ++ ([32] ++ joinN (q :: r))) ++ 32 :: y
    rw [joinN_snoc (q :: r) y, if_neg (by simp)]
    simp
def wrN (ns : List Int) : List Nat := joinN (ns.map fun i => decL i.natAbs)
def wrL (ns : List Int) : List Int := (wrN ns).map fun (c : Nat) => (c : Int)
theorem wrN_snoc (ns : List Int) (i : Int) : wrN (ns ++ [i]) = if ns = [] then decL i.natAbs else wrN ns ++ 32 :: decL i.natAbs := by
  unfold wrN
  rw [List.map_append, List.map_cons, List.map_nil, joinN_snoc]
  cases ns <;> rfl
theorem good_i {i : Int} (h : badI i = false) : 0 ≤ i ∧ i.natAbs < 10 ^ 60 := by
  unfold badI at h
  simp only [Bool.or_eq_false_iff, Bool.not_eq_false', decide_eq_false_iff_not, decide_eq_true_eq] at h
  exact ⟨by omega, h.2⟩
theorem dec60 {i : Int} (h : i.natAbs < 10 ^ 60) : (decL i.natAbs).length ≤ 60 := dec_len_le 59 h
theorem wrN_len : ∀ (ns : List Int), (∀ i ∈ ns, i.natAbs < 10 ^ 60) → (wrN ns).length ≤ 61 * ns.length
  | [], _ => Nat.le_refl _
  | [i], h => by
    have := dec60 (h i (List.mem_singleton.mpr rfl))
    show (decL i.natAbs).length ≤ 61 * 1
    omega
  | i :: j :: r, h => by
    have h1 := dec60 (h i List.mem_cons_self)
    have h2 := wrN_len (j :: r) (fun x m => h x (List.mem_cons_of_mem _ m))
    show (decL i.natAbs ++ ([32] ++ wrN (j :: r))).length ≤ _
    rw [List.length_append, List.length_append]
    simp only [List.length_cons, List.length_nil] at *
    omega
theorem wr_isCh (ns : List Int) : (wrL ns).all isCh = true := by
  have hd : ∀ c : Nat, 48 ≤ c ∧ c ≤ 57 → isCh (c : Int) = true := fun c hc => by
    unfold isCh
    rw [decide_eq_true (show (38 : Int) ≤ (c : Int) by omega), decide_eq_true (show (c : Int) ≤ 126 by omega)]
    simp
  have key : ∀ l : List (List Nat), (∀ p ∈ l, ∀ c ∈ p, 48 ≤ c ∧ c ≤ 57) → ∀ c ∈ joinN l, isCh (c : Int) = true := by
    intro l
    induction l with
    | nil => intro _ c hc; cases hc
    | cons p r ih =>
      intro h c hc
      cases r with
      | nil => exact hd c (h p List.mem_cons_self c hc)
      | cons q r =>
        have hc : c ∈ p ++ ([32] ++ joinN (q :: r)) := hc
        rcases List.mem_append.mp hc with m | m
        · exact hd c (h p List.mem_cons_self c m)
        rcases List.mem_append.mp m with m | m
        · rw [List.mem_singleton.mp m]; decide
        · exact ih (fun x hx => h x (List.mem_cons_of_mem _ hx)) c m
  unfold wrL
  rw [List.all_map, List.all_eq_true]
  intro c hc
  exact key _ (fun p hp => by
    obtain ⟨i, _, rfl⟩ := List.mem_map.mp hp
    exact dec_all i.natAbs) c hc
theorem wr_join (ns : List Int) (h : ∀ i ∈ ns, 0 ≤ i) : (Txt.join " " (ns.map fun i => (toString i : Str))).cps.toList = wrN ns := by
  rw [TL.join_eq]
  show TL.tl _ = _
  rw [TL.tl_join]
  show joinN _ = joinN _
  congr 1
  rw [List.map_map]
  refine List.map_congr_left fun i hi => ?_
  show (PySem.Str.ofString (toString i)).cps.toList = _
  rw [show_int i]
  unfold intL
  rw [if_neg (by have := h i hi; omega)]
/-- what was written is read -/
theorem rd_fold : ∀ (l : List Nat), (∀ c ∈ l, 48 ≤ c ∧ c ≤ 57) → ∀ (acc : List Int) (v : Int), (l.map fun (c : Nat) => (c : Int)).foldl rdStep (acc, some v) = (acc, some (l.foldl (fun (a : Int) (c : Nat) => 10 * a + (c : Int) - 48) v))
  | [], _, _, _ => rfl
  | c :: r, h, acc, v => by
    have hc := h c List.mem_cons_self
    rw [List.map_cons, List.foldl_cons, List.foldl_cons]
    have : rdStep (acc, some v) (c : Int) = (acc, some (10 * v + (c : Int) - 48)) := by
      unfold rdStep isDg
      rw [decide_eq_true (show (48 : Int) ≤ (c : Int) by omega), decide_eq_true (show (c : Int) ≤ 57 by omega)]
      rfl
    rw [this]
    exact rd_fold r (fun x m => h x (List.mem_cons_of_mem _ m)) acc _
theorem rd_dec (n : Nat) (acc : List Int) : ((decL n).map fun (c : Nat) => (c : Int)).foldl rdStep (acc, none) = (acc, some (n : Int)) := by
  have ha := dec_all n
  have hv : dv (decL n) = (n : Int) := by
    rw [dv_val _ (fun c hc => ha c hc), dec_val]
  cases hd : decL n with
  | nil => exact absurd hd (dec_ne n)
  | cons c r =>
    rw [hd] at ha hv
    have hc := ha c List.mem_cons_self
    rw [List.map_cons, List.foldl_cons]
    have : rdStep (acc, none) (c : Int) = (acc, some (10 * 0 + (c : Int) - 48)) := by
      unfold rdStep isDg
      rw [decide_eq_true (show (48 : Int) ≤ (c : Int) by omega), decide_eq_true (show (c : Int) ≤ 57 by omega)]
      rfl
    rw [this, rd_fold r (fun x m => ha x (List.mem_cons_of_mem _ m))]
    unfold dv at hv
    rw [List.foldl_cons] at hv
    rw [hv]
theorem tw_all : ∀ {l : List Int}, (∀ c ∈ l, nn c = true) → l.takeWhile nn = l
  | [], _ => rfl
  | c :: r, h => by rw [List.takeWhile_cons, h c List.mem_cons_self, if_pos rfl, tw_all fun x m => h x (List.mem_cons_of_mem _ m)]
theorem rd_wr : ∀ (ns : List Int), (∀ i ∈ ns, 0 ≤ i) → rd (wrL ns) = ns := by
  have key : ∀ (ns : List Int), (∀ i ∈ ns, 0 ≤ i) → ∀ acc : List Int, ns ≠ [] → ∃ m, ns.getLast? = some m ∧ (wrL ns).foldl rdStep (acc, none) = (acc ++ ns.dropLast, some m) := by
    intro ns
    induction ns with
    | nil => intro _ _ h; exact absurd rfl h
    | cons i r ih =>
      intro h acc _
      have hi := h i List.mem_cons_self
      have hz : ((i.natAbs : Nat) : Int) = i := by omega
      cases r with
      | nil =>
        refine ⟨i, rfl, ?_⟩
        have := rd_dec i.natAbs acc
        rw [hz] at this
        show ((decL i.natAbs).map _).foldl rdStep (acc, none) = _
        rw [this]
        simp
      | cons j r =>
        obtain ⟨m, hm, hf⟩ := ih (fun x mm => h x (List.mem_cons_of_mem _ mm)) (acc ++ [i]) (by simp)
        refine ⟨m, by rw [← hm]; rfl, ?_⟩
        have e : wrL (i :: j :: r) = ((decL i.natAbs).map fun (c : Nat) => (c : Int)) ++ (32 :: wrL (j :: r)) := by
          show ((decL i.natAbs ++ ([32] ++ wrN (j :: r))).map fun (c : Nat) => (c : Int)) = _
          rw [List.map_append, List.map_append]
          rfl
        rw [e, List.foldl_append, rd_dec, List.foldl_cons, hz]
        have : rdStep (acc, some i) 32 = (acc ++ [i], none) := rfl
        rw [this, hf]
        simp
  intro ns h
  have hnn : (wrL ns).takeWhile nn = wrL ns := by
    refine tw_all fun c hc => ?_
    unfold wrL at hc
    obtain ⟨x, _, rfl⟩ := List.mem_map.mp hc
    unfold nn
    exact decide_eq_true (by omega)
  unfold rd
  rw [hnn]
  by_cases he : ns = []
  · subst he; rfl
  obtain ⟨m, hm, hf⟩ := key ns h [] he
  unfold rdGo
  rw [hf]
  unfold rdFin
  show [] ++ ns.dropLast ++ [m] = ns
  rw [List.nil_append]
  have := List.dropLast_concat_getLast he
  rw [List.getLast?_eq_some_getLast he] at hm
  rw [← Option.some.inj hm]
  exact this
def firstBad (ns : List Int) : Option Nat := ns.findIdx? badI
theorem first_at {ns : List Int} {i : Nat} {x : Int} (h : ns[i]? = some x) (hb : badI x = true) (hp : ∀ y ∈ ns.take i, badI y = false) : firstBad ns = some i := by
  unfold firstBad
  have hi := (List.getElem?_eq_some_iff.mp h).1
  have hx : ns[i] = x := by rw [List.getElem?_eq_getElem hi] at h; exact Option.some.inj h
  refine List.findIdx?_eq_some_iff_getElem.mpr ⟨hi, by rw [hx]; exact hb, fun j hj => ?_⟩
  rw [hp (ns[j]'(by omega)) (List.mem_take_iff_getElem.mpr ⟨j, by omega, rfl⟩)]
  exact Bool.false_ne_true
theorem first_no {ns : List Int} (hp : ∀ y ∈ ns, badI y = false) : firstBad ns = none := List.findIdx?_eq_none_iff.mpr hp
theorem sum_len : ∀ (ns : List Int), (∀ i ∈ ns, 0 ≤ i) → (∀ i ∈ ns, i.natAbs < 10 ^ 60) → ((ns.map fun i => (toString i : Str)).map (·.length)).sum ≤ ns.length * 60
  | [], _, _ => Nat.le_refl _
  | c :: r, hpos, hsm => by
    rw [List.map_cons, List.map_cons, List.sum_cons, List.length_cons]
    have h1 := sum_len r (fun i hi => hpos i (List.mem_cons_of_mem _ hi)) (fun i hi => hsm i (List.mem_cons_of_mem _ hi))
    have h2 : (toString c : Str).length ≤ 60 := by
      show (PySem.Str.ofString (toString c)).cps.size ≤ 60
      rw [← Array.length_toList, show_int c]
      unfold intL
      rw [if_neg (by have := hpos c List.mem_cons_self; omega)]
      exact dec60 (hsm c List.mem_cons_self)
    omega
def sp_write_digits (K : PySem.W.Frag) (C : Addr) : Sp := fun vs H Q E => ∃ (a : Addr) (ns : List Int), vs = [.ref a] ∧ SqL K H a (ns.map V.int) ∧ ns.length ≤ 12 ∧ (∀ i ∈ ns, i.natAbs < 10 ^ 200) ∧
  (firstBad ns = none → RetL ((wrL ns).map V.int) H Q) ∧ (∀ i, firstBad ns = some i → ∀ d H2, Ex H H2 → H2 d = some (.xd [("at", .int (i : Int))]) → E (.ref C) (some d) H2)
theorem ok_write_digits (T : Txt K mg) : FnOk P w K mg base (L2.CX P w) 3 T.f_write_digits T.d_write_digits ["numbers"] (sp_write_digits K T.C_NotWritable) := by
  refine T.F_write_digits.okX sc_write_digits (fun vs H Q E h => ?_) (fun cdv A outer s H vs Q E hr h => ?_)
  · obtain ⟨a, ns, rfl, _⟩ := h
    rfl
  · obtain ⟨a, ns, rfl, hS, hl, hb, kG, kB⟩ := h
    refine ⟨_, (pss_cons (ps_for (passes_of rfl) rfl (pi_enum (by rfl) T.n_enumerate (pa_cons (pv 0) pa_nil)) (pg_tup (by rfl) (pgs_cons (pg_name (i := 1) sc_write_digits.nd rfl (Or.inl rfl)) (pgs_cons (pg_name (i := 2) sc_write_digits.nd rfl (Or.inl rfl)) pgs_nil))) (pss_one (ps_if (PW.pt (pw_or (pt_cmpR op_lt (pv 2) pe_int (nomark _)) (pw_or1 (pt_not (pt_val (pe_call (ok_has_numeral (P := P) T) (hr.mono (by decide)) (by rfl) T.g_has_numeral T.F_has_numeral.kp T.b_has_numeral .nil pass0 (pa_cons (pv 2) pa_nil))))))) (pss_one (ps_raise rfl (takes_of rfl rfl rfl rfl) (pmk_oex T.oex_NotWritable T.ii_NotWritable T.ti_NotWritable (ok_NotWritable_init (P := P) T) (hr.mono (by decide)) T.bI_NotWritable .nil pass0 (by rfl) T.g_NotWritable (pa_cons (pv 1) pa_nil)))) pss_nil)))
        (pss_one (ps_ret (pe_call (ok_codes_of (P := P) T) (hr.mono (by decide)) (by rfl) T.g_codes_of T.F_codes_of.kp T.b_codes_of .nil passL (pa_cons (pe_join pe_str (pe_lc (own := [("number", 2)]) (by rfl) sc_write_digits.nd (pi_list (pv 0)) (blkOk_by (own := [("number", 2)]) (N := N_write_digits) (sc := defScope s_write_digits) (by decide +kernel)) (fun _ _ _ _ _ => pg_name (i := 2) sc_write_digits.nd rfl (Or.inl rfl)) (fun _ _ _ _ _ => pts_nil) (fun _ _ _ _ _ => (pe_call (ok_numeral (P := P) T) (hr.mono (by decide)) (by rfl) T.g_numeral T.F_numeral.kp T.b_numeral .nil passL (pa_cons (pv 2) pa_nil))))) pa_nil))))), ?_⟩
    refine q_forE (ev_var rfl) hS (fun i σ' H' => Ex H H' ∧ (∀ y ∈ ns.take i, badI y = false) ∧ ∃ y z, σ' = [some (.ref a), y, z]) (fun H1 e1 => ⟨e1, (fun y hy => by cases hy), _, _, rfl⟩) (fun i σ' H' _ p => ex_l p.1 hS) ?_ ?_
    · rintro i x σ' H' H'' hx ⟨e1, hall, y, z, rfl⟩ e2
      obtain ⟨c, hc, rfl⟩ := map_at hx
      have hcm := List.mem_of_getElem? hc
      refine s_when (b := decide (c < 0) || !decide (c.natAbs < 10 ^ 60)) (et_or (et_test (ev_op (ev_var rfl) ev_c rv_I0)) (fun _ => et_not (et_B (ev_call (ea_cons (ev_var rfl) ea_nil) v_has_numeral)))) (fun hbad H3 e3 => ?_) (fun hok H3 e3 => ?_)
      · have hi : i < 12 := by have := (List.getElem?_eq_some_iff.mp hc).1; omega
        refine mk_xi (ea_cons (ev_var rfl) ea_nil) (.inl ⟨(i : Int), rfl, ?_⟩) (fun d H4 e4 hd => ?_)
        · have : 12 < 10 ^ 200 := by decide +kernel
          show ((i : Int)).natAbs < 10 ^ 200
          omega
        · exact kB i (first_at hc hbad hall) d H4 (e1.trans (e2.trans (e3.trans e4))) hd
      · refine ⟨e1.trans (e2.trans e3), ?_, _, _, rfl⟩
        rw [take_snoc hc]
        intro y hy
        rcases List.mem_append.mp hy with m | m
        · exact hall y m
        · rw [List.mem_singleton.mp m]; exact hok
    · rintro σ' H1 ⟨e1, hall, y, z, rfl⟩
      rw [List.length_map, List.take_length] at hall
      have kG := kG (first_no hall)
      have hpos : ∀ i ∈ ns, 0 ≤ i := fun i hi => (good_i (hall i hi)).1
      have hsm : ∀ i ∈ ns, i.natAbs < 10 ^ 60 := fun i hi => (good_i (hall i hi)).2
      have hj := wr_join ns hpos
      have hcd : codes (Txt.join " " (ns.map fun i => (toString i : Str))) = wrL ns := by
        unfold codes wrL
        rw [hj]
      have hsz : (Txt.join " " (ns.map fun i => (toString i : Str))).cps.size ≤ 1000 := by
        rw [← Array.length_toList, hj]
        have := wrN_len ns hsm
        omega
      let f : V → V := fun v => match v with | .int c => .str (toString c) | _ => .non
      have hE : EvL _ [some (.ref a), y, z] H1 ((ns.map V.int).map f) := el_mapL (K := K) (σ := [some (.ref a), y, z]) (H := H1) (te := tCall (sp_numeral K T.C_NotNumeral) [] E0 (tCons (tVar 2) tNil)) (tl := tVar 0) (j := 2) (vs := [2]) f (ev_var rfl) (ex_l e1 hS) (by rw [List.length_map]; omega) (fun _ => rfl) (fun x hx H2 e2 => by
        obtain ⟨c, hcm, rfl⟩ := List.mem_map.mp hx
        refine ev_call (ea_cons (ev_var rfl) ea_nil) (fun H3 _ Q q E => ⟨c, rfl, ?_, fun _ => q, fun z => absurd (hsm c hcm) z⟩)
        exact Nat.lt_of_lt_of_le (hsm c hcm) (Nat.pow_le_pow_right (by decide) (by decide)))
      have hm : (ns.map V.int).map f = (ns.map fun i => (toString i : Str)).map V.str := by
        rw [List.map_map, List.map_map]
        rfl
      rw [hm] at hE
      refine s_retL (el_call (ea_cons (ev_joinL ev_c hE ?_) ea_nil) (fun H2 e2 Q q E => ⟨_, rfl, hsz, fun _ => ?_, fun z => ?_⟩)) (fun p H2 np e2 hp => kG p H2 (fresh_back e1 np) (e1.trans e2) hp)
      · have hs := sum_len ns hpos hsm
        have h1 : (" " : Str).length = 1 := by decide
        rw [List.length_map, h1]
        omega
      · rw [hcd]; exact q
      · rw [hcd, wr_isCh] at z; cases z
/-! ### the law's own writing -/
theorem dig_tab : ∀ k < 10, ("0123456789" : Str).cps.toList[k]? = some (k + 48) := by decide +kernel
theorem dec_split (n : Nat) : decL n = decZ (n / 10) ++ [48 + n % 10] := by
  by_cases h : n < 10
  · have : n / 10 = 0 := by omega
    rw [this, dec_small h, show n % 10 = n by omega]
    rfl
  · rw [dec_step (by omega)]
    unfold decZ
    rw [if_neg (by omega)]
def sp_law_written (K : PySem.W.Frag) : Sp := fun vs H Q _ => ∃ n : Int, vs = [.int n] ∧ 0 ≤ n ∧ n.natAbs < 10 ^ 60 ∧ RetL (((decL n.natAbs).map fun (c : Nat) => (c : Int)).map V.int) H Q
theorem l_law_written {n : Int} {H : Hp} (h0 : 0 ≤ n) (h : n.natAbs < 10 ^ 60) : SpL (sp_law_written K) [.int n] H (((decL n.natAbs).map fun (c : Nat) => (c : Int)).map V.int) := fun _ _ _ q _ => ⟨n, rfl, h0, h, q⟩
theorem ok_law_written (T : Txt K mg) : FnOk P w K mg base CX0 1 T.f_law_written T.d_law_written ["number"] (sp_law_written K) := by
  refine T.F_law_written.ok sc_law_written (fun vs H Q E h => ?_) (fun cdv A outer s H vs Q E hr h => ?_)
  · obtain ⟨n, rfl, _⟩ := h
    rfl
  · obtain ⟨n, rfl, h0, hb, k⟩ := h
    refine ⟨_, (pss_cons (ps_set (i := 1) sc_law_written.nd rfl (Or.inl rfl) pe_str)
        (pss_cut (ps_for PassesOwn.never rfl (pi_range1 (by rfl) T.n_range (pa_cons pe_int pa_nil)) (pg_name (i := 2) sc_law_written.nd rfl (Or.inl rfl)) (pss_cons (ps_set (i := 1) sc_law_written.nd rfl (Or.inl rfl) (pe_op op_add_str (pe_ix ix_str pe_str (pe_op op_modN (pe_callTy call_int1 (by rfl) T.n_int (by decide +kernel) (pa_cons (pv 0) pa_nil)) pe_int) (fun _ _ => rfl)) (pv 1)))
        (pss_cons (ps_set (i := 0) sc_law_written.nd rfl (Or.inl rfl) (pe_op op_fdivN (pv 0) pe_int))
        (pss_one (ps_if (pt_cmpR op_eq (pv 0) pe_int (nomark _)) (pss_one ps_break) pss_nil)))))
        (pss_one (ps_ret (pe_lc (own := [("char", 3)]) (by rfl) sc_law_written.nd (pi_str (pv 1)) (blkOk_by (own := [("char", 3)]) (N := N_law_written) (sc := defScope s_law_written) (by decide +kernel)) (fun _ _ _ _ _ => pg_name (i := 3) sc_law_written.nd rfl (Or.inl rfl)) (fun _ _ _ _ _ => pts_nil) (fun _ _ _ _ _ => (pe_callB call_ord (by rfl) T.n_ord (by decide +kernel) (pa_cons (pv 3) pa_nil)))))))), ?_⟩
    obtain ⟨m, rfl⟩ : ∃ m : Nat, n = (m : Int) := ⟨n.toNat, by omega⟩
    have hb : m < 10 ^ 60 := by simpa using hb
    have hln : ((m : Int)).natAbs = m := by simp
    rw [hln] at k
    have hl60 : (decL m).length ≤ 60 := dec_len_le 59 hb
    refine q_asg ev_c (fun H1 e1 => ?_)
    refine q_cut (M := fun σ' H' => Ex H H' ∧ ∃ (ds : Str) (x y : Option V), ds.cps.toList = decL m ∧ σ' = [x, some (.str ds), y, none]) ?_ ?_
    · refine s_forR1 (n := 61) (ea_cons ev_c ea_nil) (by decide) (fun i σ' H' => Ex H H' ∧ ∃ (r : Nat) (ds : Str) (y : Option V), (i = 0 → r = m ∧ ds.cps.toList = []) ∧ (0 < i → decL m = decZ r ++ ds.cps.toList ∧ r ≠ 0) ∧ r < 10 ^ (61 - i) ∧ ds.cps.toList.length = i ∧ σ' = [some (.int (r : Int)), some (.str ds), y, none]) ?_ ?_ ?_
      · intro H2 e2
        exact ⟨e1.trans e2, m, _, _, fun _ => ⟨rfl, rfl⟩, fun z => absurd z (Nat.lt_irrefl 0), Nat.lt_of_lt_of_le hb (Nat.pow_le_pow_right (by decide) (by decide)), rfl, rfl⟩
      · rintro i σ' H' hi ⟨fr, r, ds, y, hz, hp, hr, hdl, rfl⟩
        have hi61 : i < 61 := by omega
        have hmod : ((r : Int)).fmod 10 = ((r % 10 : Nat) : Int) := by
          rw [Int.fmod_eq_emod_of_nonneg _ (by decide)]
          omega
        have hdiv : ((r : Int)).fdiv 10 = ((r / 10 : Nat) : Int) := by
          rw [Int.fdiv_eq_ediv_of_nonneg _ (by decide)]
          omega
        have hnew : decL m = decZ (r / 10) ++ (48 + r % 10) :: ds.cps.toList := by
          rcases Nat.eq_zero_or_pos i with z | z
          · obtain ⟨rfl, hd⟩ := hz z
            rw [hd]
            exact dec_split r
          · rw [(hp z).1, decZ_step (hp z).2]
            simp
        have hix : atI ("0123456789" : Str).cps.toList ((r : Int).fmod 10) = some (48 + r % 10) := by
          rw [hmod]
          refine atI_nat ?_
          rw [dig_tab _ (by omega), Nat.add_comm]
        have hsz : ds.cps.size = i := by rw [← Array.length_toList]; exact hdl
        refine q_asg (v := .str (⟨#[48 + r % 10]⟩ ++ ds)) (ev_op (ev_op ev_c (ev_op (ev_cb (ea_cons (ev_var rfl) ea_nil) rc_int) ev_c (rv_mod (by decide))) (rv_ixS (by decide) hix)) (ev_var rfl) (rv_addS (i := ⟨#[48 + r % 10]⟩) (j := ds) (by show 1 + ds.cps.size ≤ 100000; omega))) (fun H2 e2 => ?_)
        have hd2 : (⟨#[48 + r % 10]⟩ ++ ds : Str).cps.toList = (48 + r % 10) :: ds.cps.toList := by rw [app_toList]; rfl
        refine q_asg (v := .int ((r / 10 : Nat) : Int)) (by rw [← hdiv]; exact ev_op (ev_var rfl) ev_c (rv_fdiv (by decide) (by decide))) (fun H3 e3 => ?_)
        refine s_when (b := decide (((r / 10 : Nat) : Int) = 0)) (et_test (ev_op (ev_var rfl) ev_c rv_eqI)) (fun hb H4 e4 => ?_) (fun hb H4 e4 => ?_)
        · have hr0 : r / 10 = 0 := by have := of_decide_eq_true hb; omega
          refine ⟨fr.trans (e2.trans (e3.trans e4)), _, _, _, ?_, rfl⟩
          rw [hd2, hnew, hr0]
          rfl
        · have hr0 : r / 10 ≠ 0 := by have := of_decide_eq_false hb; omega
          refine ⟨fr.trans (e2.trans (e3.trans e4)), r / 10, _, _, fun z => absurd z (by omega), fun _ => ⟨by rw [hd2]; exact hnew, hr0⟩, ?_, by rw [hd2, List.length_cons, hdl], rfl⟩
          have e : 61 - i = (61 - (i + 1)) + 1 := by omega
          rw [e, Nat.pow_succ] at hr
          omega
      · rintro σ' H' ⟨fr, r, ds, y, hz, hp, hr, hdl, rfl⟩
        have : ((61 : Int).toNat) = 61 := rfl
        rw [this] at hp hr
        have := (hp (by decide)).2
        simp at hr
        omega
    · rintro σ' H2 ⟨fr, ds, x, y, hd, rfl⟩
      have hsz : ds.cps.size ≤ 60 := by rw [← Array.length_toList, hd]; exact hl60
      refine s_retL (el_mapS (fun v => match v with | .str x => V.int ((x.cps.getD 0 0 : Nat) : Int) | _ => .non) (ev_var rfl) (by omega) (fun _ => rfl) (fun c _ H1 _ => by walk_at "ev")) (fun p H3 np e3 hp => ?_)
      have hm : (sgns ds).map (fun v => match v with | .str x => V.int ((x.cps.getD 0 0 : Nat) : Int) | _ => .non) = ((decL m).map fun (c : Nat) => (c : Int)).map V.int := by
        rw [sgns_map, ← hd, List.map_map]
        rfl
      rw [hm] at hp
      exact k p H3 (fresh_back fr np) (fr.trans e3) hp
/-! ### what is due -/
theorem ed_str {σ : L2.St} {H : Hp} {te : TE} {x : Str} (h : Ev te σ H (.str x)) : EvD K te σ H (.str x) := ed_ev h (.str x)
def dueD (ns : List Int) : PyData := match firstBad ns with
  | some i => .tuple [.str "refused", .int (i : Int)]
  | none => .tuple [.str "written", .list ((wrL ns).map PyData.int)]
def sp_law_due (K : PySem.W.Frag) : Sp := fun vs H Q _ => ∃ (a : Addr) (ns : List Int), vs = [.ref a] ∧ SqL K H a (ns.map V.int) ∧ ns.length ≤ 12 ∧ RetD K (dueD ns) H Q
theorem ed_due {H : Hp} {σ : L2.St} {t1 : TE} {E : XK} {a : Addr} {ns : List Int} (h1 : Ev t1 σ H (.ref a)) (hS : SqL K H a (ns.map V.int)) (hl : ns.length ≤ 12) : EvD K (tCall (sp_law_due K) [] E (tCons t1 tNil)) σ H (dueD ns) :=
  ed_call (ea_cons h1 ea_nil) fun H1 e1 Q q => ⟨a, ns, rfl, ex_l e1 hS, hl, q⟩
theorem bad_law {c : Int} : (decide (c < 0) || decide (c > (10 : Int) ^ (60 : Int).toNat - 1)) = badI c := by
  unfold badI
  have e : (10 : Int) ^ (60 : Int).toNat = ((10 ^ 60 : Nat) : Int) := by decide +kernel
  rw [e]
  generalize 10 ^ 60 = b
  by_cases h : c < 0
  · rw [decide_eq_true h]; rfl
  · rw [decide_eq_false h, Bool.false_or, Bool.false_or]
    by_cases g : c.natAbs < b
    · rw [decide_eq_true g, decide_eq_false (by omega)]; rfl
    · rw [decide_eq_false g, decide_eq_true (by omega)]; rfl
theorem ok_law_due (T : Txt K mg) : FnOk P w K mg base CX0 2 T.f_law_due T.d_law_due ["numbers"] (sp_law_due K) := by
  refine T.F_law_due.ok sc_law_due (fun vs H Q E h => ?_) (fun cdv A outer s H vs Q E hr h => ?_)
  · obtain ⟨a, ns, rfl, _⟩ := h
    rfl
  · obtain ⟨a, ns, rfl, hS, hl, k⟩ := h
    refine ⟨_, (pss_cons (ps_set (i := 1) sc_law_due.nd rfl (Or.inl rfl) (pe_lst pa_nil))
        (pss_cons (ps_for PassesOwn.never rfl (pi_range1 (by rfl) T.n_range (pa_cons (pe_callB call_len_seq (by rfl) T.n_len (by decide +kernel) (pa_cons (pv 0) pa_nil)) pa_nil)) (pg_name (i := 2) sc_law_due.nd rfl (Or.inl rfl)) (pss_cons (ps_if (PW.pt (pw_or (pt_cmpR op_lt (pe_ix ix_list (pv 0) (pv 2) (fun _ _ => rfl)) pe_int (nomark _)) (pw_or1 (pt_cmpR op_gt (pe_ix ix_list (pv 0) (pv 2) (fun _ _ => rfl)) (pe_op op_sub (pe_op op_pow pe_int pe_int) pe_int) (nomark _))))) (pss_one (ps_ret (pe_tup (pa_cons pe_str (pa_cons (pv 2) pa_nil))))) pss_nil)
        (pss_cut (ps_if (pt_cmpR op_gt (pv 2) pe_int (nomark _)) (pss_one (ps_expr (pe_bm PySem.F.plainAttrs_list PySem.F.slot_list_append PySem.F.type_list_append mt_append (pv 1) (pa_cons pe_int pa_nil)))) pss_nil)
        (pss_one (ps_expr (pe_bm PySem.F.plainAttrs_list PySem.F.slot_list_extend PySem.F.type_list_extend mt_extend (pv 1) (pa_cons (pe_call (ok_law_written (P := P) T) (hr.mono (by decide)) (by rfl) T.g_law_written T.F_law_written.kp T.b_law_written .nil pass0 (pa_cons (pe_ix ix_list (pv 0) (pv 2) (fun _ _ => rfl)) pa_nil)) pa_nil)))))))
        (pss_one (ps_ret (pe_tup (pa_cons pe_str (pa_cons (pv 1) pa_nil))))))), ?_⟩
    refine q_asgL (el_lst ea_nil (by decide)) (fun p H1 np e1 hp => ?_)
    have hlen := ev_len (K := K) (ta := tVar 0) (σ := [some (.ref a), some (.ref p), none]) (H := H1) (ev_var rfl) (ex_l e1 hS)
    rw [List.length_map] at hlen
    refine q_forR1 (n := (ns.length : Int)) (ea_cons hlen ea_nil) (by omega) (fun i σ' H' => Ex H H' ∧ (∀ y ∈ ns.take i, badI y = false) ∧ H' p = some (.lst ((wrL (ns.take i)).map V.int)) ∧ ∃ y, σ' = [some (.ref a), some (.ref p), y]) ?_ ?_ ?_
    · intro H2 e2
      exact ⟨e1.trans e2, (fun y hy => by cases hy), e2 _ _ hp, _, rfl⟩
    · rintro i σ' H' hi ⟨fr, hall, hd, y, rfl⟩
      have hin : i < ns.length := by omega
      obtain ⟨c, hc⟩ : ∃ c, ns[i]? = some c := ⟨_, List.getElem?_eq_getElem hin⟩
      have hx : ∀ {G : Hp}, Ex H G → Ev (tOp (rIxL K) (tVar 0) (tVar 2)) [some (.ref a), some (.ref p), some (.int (i : Int))] G (.int c) := fun {G} e => ev_op (ev_var rfl) (ev_var rfl) (rv_ixL (ex_l e hS) (atI_nat (by rw [List.getElem?_map, hc]; rfl)))
      show tSeq _ _ _ [some (.ref a), some (.ref p), some (.int (i : Int))] _
      refine q_when (b := badI c) (by
        rw [← bad_law]
        exact et_or (et_test (ev_op (hx fr) ev_c rv_I0)) (fun _ => et_test (ev_op (hx fr) (ev_op (ev_op ev_c ev_c (rv_pow (by decide))) ev_c rv_I0) rv_I0))) (fun hb H2 e2 => ?_) (fun hb H2 e2 => ?_)
      · have hf := first_at hc hb hall
        have hD : dueD ns = .tuple [.str "refused", .int (i : Int)] := by unfold dueD; rw [hf]
        rw [hD] at k
        exact s_retD (K := K) (ed_tup (eda_cons (ed_str ev_c) (eda_cons (ed_int (ev_var rfl)) eda_nil)) (by show 2 ≤ 100000; decide)) fun v H3 e3 hv => k v H3 (fr.trans (e2.trans e3)) hv
      have hg := good_i hb
      have e02 := fr.trans e2
      have hsm : ∀ x ∈ ns.take i, x.natAbs < 10 ^ 60 := fun x hx => (good_i (hall x hx)).2
      have hwl := wrN_len (ns.take i) hsm
      rw [List.length_take] at hwl
      have hwl2 : (wrL (ns.take i)).length ≤ 800 := by unfold wrL; rw [List.length_map]; omega
      have hdl := dec60 hg.2
      -- a space between two
      refine q_cut (M := fun σ' H' => Ex H H' ∧ H' p = some (.lst ((if i = 0 then ([] : List Int) else wrL (ns.take i) ++ [32]).map V.int)) ∧ σ' = [some (.ref a), some (.ref p), some (.int (i : Int))]) ?_ ?_
      · refine s_when (b := decide ((i : Int) > 0)) (et_test (ev_op (ev_var rfl) ev_c rv_I0)) (fun hb H3 e3 => ?_) (fun hb H3 e3 => ?_)
        · have hi0 : i ≠ 0 := by have := of_decide_eq_true hb; omega
          refine s_app ((e2.trans e3) _ _ hd) (ev_var rfl) ev_c (by rw [List.length_map]; omega) (fun H4 e4 => ⟨(e02.trans (e3.trans e4)).mut np, ?_, rfl⟩)
          rw [if_neg hi0, List.map_append]
          exact upd_same
        · have hi0 : i = 0 := by have := of_decide_eq_false hb; omega
          subst hi0
          exact ⟨e02.trans e3, (e2.trans e3) _ _ hd, rfl⟩
      · rintro σ' H3 ⟨fr3, hd3, rfl⟩
        have hlen3 : (if i = 0 then ([] : List Int) else wrL (ns.take i) ++ [32]).length ≤ 801 := by
          split
          · exact Nat.zero_le _
          · rw [List.length_append]; simp; omega
        refine s_ext hd3 (ev_var rfl) (el_call (ea_cons (hx fr3) ea_nil) (l_law_written hg.1 hg.2)) (by rw [List.length_map, List.length_map, List.length_map]; omega) (fun H4 e4 => ⟨(fr3.trans e4).mut np, ?_, ?_, _, rfl⟩)
        · rw [take_snoc hc]
          intro y hy
          rcases List.mem_append.mp hy with m | m
          · exact hall y m
          · rw [List.mem_singleton.mp m]; exact hb
        · rw [upd_same, ← List.map_append, take_snoc hc]
          congr 3
          unfold wrL
          rw [wrN_snoc]
          by_cases hi0 : i = 0
          · subst hi0
            rw [if_pos rfl, if_pos List.take_zero]
            rfl
          · have : ns.take i ≠ [] := fun z => by
              have := congrArg List.length z
              rw [List.length_take, List.length_nil] at this
              omega
            rw [if_neg hi0, if_neg this, List.map_append, List.map_cons, List.append_assoc]
            rfl
    · rintro σ' H2 ⟨fr, hall, hd, y, rfl⟩
      rw [Int.toNat_natCast, List.take_length] at hall hd
      have hD : dueD ns = .tuple [.str "written", .list ((wrL ns).map PyData.int)] := by unfold dueD; rw [first_no hall]
      rw [hD] at k
      exact s_retD (K := K) (ed_tup (eda_cons (ed_str ev_c) (eda_cons (ed_ev (ev_var rfl) (dp_ints (sq_of hd))) eda_nil)) (by show 2 ≤ 100000; decide)) fun v H3 e3 hv => k v H3 (fr.trans e3) hv
theorem s_retTupS {σ : L2.St} {H : Hp} {te : TE} {t : TA} {sp : Sp} {E : L2.St → XK} {D : Ends} {x : V} {vs : List V} (h : Ev te σ H x) (ht : EvA t σ H vs) (k : ∀ H1, Ex H H1 → sp vs H1 (fun v H2 => ∀ t, H2 t = none → D.rt (.ref t) (upd H2 t (.tup [x, v]))) (E σ)) (mono : ∀ (vs : List V) (H : Hp) (Q Q' : VK) (E : XK), (∀ v H', Q v H' → Q' v H') → sp vs H Q E → sp vs H Q' E) : tRet (tTup (tCons te (tCons (tCallS sp E t) tNil))) D σ H :=
  h H (Ex.refl H) _ fun H1 e1 => ht H1 e1 _ fun H2 e2 => mono _ _ _ _ _ (fun v H3 q => ⟨by show 2 ≤ _; rw [sizeLine_eq]; decide, q⟩) (k H2 (e1.trans e2))
theorem wd_mono {C : Addr} (vs : List V) (H : Hp) (Q Q' : VK) (E : XK) (h : ∀ v H', Q v H' → Q' v H') (s : sp_write_digits K C vs H Q E) : sp_write_digits K C vs H Q' E := by
  obtain ⟨a, ns, h1, h2, h3, h4, h5, h6⟩ := s
  exact ⟨a, ns, h1, h2, h3, h4, fun hn p H2 np e hp => h _ _ (h5 hn p H2 np e hp), h6⟩
def ToldR (K : PySem.W.Frag) (ns : List Int) (H : Hp) (Q : VK) : Prop := ∀ v H', Ex H H' → Dp K H' v (dueD ns) → (firstBad ns = none → ∃ t p, v = .ref t ∧ SqT K H' t [.str "written", .ref p] ∧ H' p = some (.lst ((wrL ns).map V.int))) → Q v H'
def sp_law_told (K : PySem.W.Frag) : Sp := fun vs H Q _ => ∃ (a : Addr) (ns : List Int), vs = [.ref a] ∧ SqL K H a (ns.map V.int) ∧ ns.length ≤ 12 ∧ (∀ i ∈ ns, i.natAbs < 10 ^ 200) ∧ ToldR K ns H Q
theorem ok_law_told (T : Txt K mg) : FnOk P w K mg base CX0 4 T.f_law_told T.d_law_told ["numbers"] (sp_law_told K) := by
  refine T.F_law_told.ok sc_law_told (fun vs H Q E h => ?_) (fun cdv A outer s H vs Q E hr h => ?_)
  · obtain ⟨a, ns, rfl, _⟩ := h
    rfl
  · obtain ⟨a, ns, rfl, hS, hl, hb, k⟩ := h
    refine ⟨_, (pss_one (ps_try_as (i := 1) rfl rfl sc_law_told.nd rfl rfl ⟨(by rfl), by decide, .inl T.g_PlinthError⟩ takes0 (fun W pn xe tk own => (pss_one (ps_ret (pe_tup (pa_cons pe_str (pa_cons (pe_callS (ok_write_digits (P := P) T) (hr.mono (by decide)) (by rfl) T.g_write_digits T.F_write_digits.kp T.b_write_digits (fun σ => passAt tk σ) (by exact (pa_cons (pv 0) pa_nil))) pa_nil)))))) (fun a oe cls d pn hz hf => (pss_cons (ps_if (PW.pt (pw_and (pt_val (pe_callB (Gd.call_isXD ⟨T.ga_NotWritable, T.gg_NotWritable, T.b_NotWritable, T.hd_NotWritable, T.gc_NotWritable, T.gs_NotWritable, T.gt_NotWritable, T.gm_NotWritable⟩ hz hf) (by rfl) T.n_isinstance (by decide +kernel) (pa_cons (pv 1) (pa_cons (pe_glob (v := .ref T.C_NotWritable) (by rfl) T.g_NotWritable rfl) pa_nil)))) (pw_and1 (pt_not (pt_val (pe_callB (Gd.call_isXD ⟨T.ga_NotWritable, T.gg_NotWritable, T.b_NotWritable, T.hd_NotWritable, T.gc_NotWritable, T.gs_NotWritable, T.gt_NotWritable, T.gm_NotWritable⟩ hz hf) (by rfl) T.n_isinstance (by decide +kernel) (pa_cons (pv 1) (pa_cons (pe_glob (v := .ref T.C_NotListable) (by rfl) T.g_NotListable rfl) pa_nil)))))))) (pss_one (ps_ret (pe_tup (pa_cons pe_str (pa_cons (pe_xf ⟨T.ga_NotWritable, T.gg_NotWritable, T.b_NotWritable, T.hd_NotWritable⟩ T.na_NotWritable hz hf (pv 1)) pa_nil))))) pss_nil)
        (pss_one (ps_ret (pe_tup (pa_cons pe_str (pa_cons pe_int pa_nil))))))))), ?_⟩
    refine s_retTupS ev_c (ea_cons (ev_var rfl) ea_nil) (fun H1 e1 => ⟨a, ns, rfl, ex_l e1 hS, hl, hb, (fun hf p H2 np e2 hp t nt => ?_), fun i hf d H2 e2 hd => ?_⟩) wd_mono
    · have hD : dueD ns = .tuple [.str "written", .list ((wrL ns).map PyData.int)] := by unfold dueD; rw [hf]
      have hpt : (upd H2 t (.tup [.str "written", .ref p])) p = some (.lst ((wrL ns).map V.int)) := by rw [upd_ne (ne_of_none hp nt)]; exact hp
      refine k _ _ ((e1.trans e2).trans (Ex.new nt)) ?_ (fun _ => ⟨t, p, rfl, st_of upd_same, hpt⟩)
      rw [hD]
      exact .tup (st_of upd_same) (.cons (.str _) (.cons (dp_ints (sq_of hpt)) .nil))
    · have hD : dueD ns = .tuple [.str "refused", .int (i : Int)] := by unfold dueD; rw [hf]
      refine ⟨true, PySem.W.exm_ref T.b_PlinthError T.hd_PlinthError T.t_PlinthError T.sub_NotWritable_PlinthError, fun _ ae hae => ?_, fun q => nomatch q⟩
      refine q_when (b := true) (et_is (et_and (a := true) (b := true) (et_B (ev_cb (ea_cons (ev_var rfl) (ea_cons ev_c ea_nil)) (rc_isXD hd (fun u h => h) T.kit_NotWritable_NotWritable))) (fun _ => et_is (et_not (et_B (ev_cb (ea_cons (ev_var rfl) (ea_cons ev_c ea_nil)) (rc_isXD hd (fun u h => h) T.kit_NotWritable_NotListable)))) rfl)) rfl) (fun _ H3 e3 => ?_) (fun hb => nomatch hb)
      exact s_retD (K := K) (d := .tuple [.str "refused", .int (i : Int)]) (ed_tup (eda_cons (ed_str ev_c) (eda_cons (ed_int (ev_xf (ev_var rfl) (e3 _ _ hd) rfl)) eda_nil)) (by show 2 ≤ 100000; decide)) fun v H4 e4 hv => k v H4 (e1.trans (e2.trans (e3.trans e4))) (by rw [hD]; exact hv) (fun hn => by rw [hf] at hn; cases hn)
theorem ep_told {H : Hp} {σ : L2.St} {t1 : TE} {E : XK} {a : Addr} {ns : List Int} (h1 : Ev t1 σ H (.ref a)) (hS : SqL K H a (ns.map V.int)) (hl : ns.length ≤ 12) (hb : ∀ i ∈ ns, i.natAbs < 10 ^ 200) : EvP (tCall (sp_law_told K) [] E (tCons t1 tNil)) σ H (fun v H' => Ex H H' ∧ Dp K H' v (dueD ns) ∧ (firstBad ns = none → ∃ t p, v = .ref t ∧ SqT K H' t [.str "written", .ref p] ∧ H' p = some (.lst ((wrL ns).map V.int)))) :=
  ep_call (ea_cons h1 ea_nil) fun H1 e1 Q q => ⟨a, ns, rfl, ex_l e1 hS, hl, hb, fun v H' e h1 h2 => q v H' ⟨e1.trans e, h1, h2⟩⟩
/-! ### the law -/
theorem tens : ((10 : Int) ^ (60 : Int).toNat).natAbs < 10 ^ 62 ∧ ((10 : Int) ^ (59 : Int).toNat).natAbs < 10 ^ 62 := by decide +kernel
def sp_law_entry (K : PySem.W.Frag) : Sp := fun vs H Q _ => ∃ (p : Addr) (g : Bool), vs = [.ref p, .bl g] ∧ Drw p H ∧ ∀ v H', DP p H (fun d => d.natAbs < 10 ^ 100) v H' → Q v H'
theorem ok_law_entry (T : Txt K mg) : FnOk P w K mg base CX0 3 T.f_law_entry T.d_law_entry ["draws", "good"] (sp_law_entry K) := by
  refine T.F_law_entry.ok sc_law_entry (fun vs H Q E h => ?_) (fun cdv A outer s H vs Q E hr h => ?_)
  · obtain ⟨p, g, rfl, _⟩ := h
    rfl
  · obtain ⟨p, g, rfl, hD, k⟩ := h
    refine ⟨_, (pss_cons (ps_set (i := 2) sc_law_entry.nd rfl (Or.inl rfl) (pe_call (ok_law_pick (P := P) T) (hr.mono (by decide)) (by rfl) T.g_law_pick T.F_law_pick.kp T.b_law_pick .nil pass0 (pa_cons (pv 0) (pa_cons pe_int pa_nil))))
        (pss_cons (ps_if (pt_cmpR op_lt (pv 2) pe_int (nomark _)) (pss_one (ps_ret (pe_call (ok_law_pick (P := P) T) (hr.mono (by decide)) (by rfl) T.g_law_pick T.F_law_pick.kp T.b_law_pick .nil pass0 (pa_cons (pv 0) (pa_cons pe_int pa_nil))))) pss_nil)
        (pss_cons (ps_if (pt_cmpR op_lt (pv 2) pe_int (nomark _)) (pss_one (ps_ret (pe_op op_add (pe_op op_add (pe_op op_mul pe_int (pe_call (ok_law_draw (P := P) T) (hr.mono (by decide)) (by rfl) T.g_law_draw T.F_law_draw.kp T.b_law_draw .nil pass0 (pa_cons (pv 0) pa_nil))) (pe_op op_mul pe_int (pe_call (ok_law_draw (P := P) T) (hr.mono (by decide)) (by rfl) T.g_law_draw T.F_law_draw.kp T.b_law_draw .nil pass0 (pa_cons (pv 0) pa_nil)))) (pe_call (ok_law_draw (P := P) T) (hr.mono (by decide)) (by rfl) T.g_law_draw T.F_law_draw.kp T.b_law_draw .nil pass0 (pa_cons (pv 0) pa_nil))))) pss_nil)
        (pss_cons (ps_if (pt_cmpR op_eq (pv 2) pe_int (nomark _)) (pss_one (ps_ret (pe_op op_sub (pe_op op_sub (pe_op op_pow pe_int pe_int) pe_int) (pe_call (ok_law_pick (P := P) T) (hr.mono (by decide)) (by rfl) T.g_law_pick T.F_law_pick.kp T.b_law_pick .nil pass0 (pa_cons (pv 0) (pa_cons pe_int pa_nil)))))) pss_nil)
        (pss_cons (ps_if (pt_val (pv 1)) (pss_one (ps_ret (pe_op op_add (pe_op op_pow pe_int pe_int) (pe_call (ok_law_draw (P := P) T) (hr.mono (by decide)) (by rfl) T.g_law_draw T.F_law_draw.kp T.b_law_draw .nil pass0 (pa_cons (pv 0) pa_nil))))) pss_nil)
        (pss_cons (ps_if (pt_cmpR op_eq (pv 2) pe_int (nomark _)) (pss_one (ps_ret (pe_op op_add (pe_op op_pow pe_int pe_int) (pe_call (ok_law_pick (P := P) T) (hr.mono (by decide)) (by rfl) T.g_law_pick T.F_law_pick.kp T.b_law_pick .nil pass0 (pa_cons (pv 0) (pa_cons pe_int pa_nil)))))) pss_nil)
        (pss_one (ps_ret (pe_op op_sub (pe_op op_sub pe_int pe_int) (pe_call (ok_law_pick (P := P) T) (hr.mono (by decide)) (by rfl) T.g_law_pick T.F_law_pick.kp T.b_law_pick .nil pass0 (pa_cons (pv 0) (pa_cons pe_int pa_nil)))))))))))), ?_⟩
    have h62 : (10 : Nat) ^ 62 + 10 ^ 20 < 10 ^ 100 := by decide +kernel
    obtain ⟨t60, t59⟩ := tens
    generalize (10 : Nat) ^ 62 = b62 at h62 t60 t59
    generalize (10 : Nat) ^ 100 = b100 at h62 k
    refine q_asgP (ep_pick rfl hD ev_c (by decide)) (fun v H1 hv => ?_)
    obtain ⟨kd, rfl, hkd, hD1, b1⟩ := hv
    have fin : ∀ {C : Int → Prop} {H2 : Hp}, Ex H1 H2 → (∀ d, C d → d.natAbs < b100) → ∀ v H', DP p H2 C v H' → Q v H' := fun e hC v H' hv => k v H' (dp_bk hv (b1.trans (ex_but e)) hC)
    refine q_when (b := decide (kd < 3)) (et_test (ev_op (ev_var rfl) ev_c rv_I0)) (fun hb H2 e2 => s_retP (ep_pick rfl (hD1.ex e2) ev_c (by decide)) (fun v H' hv => fin e2 (fun d hd => by omega) v H' hv)) (fun hb H2 e2 => ?_)
    refine q_when (b := decide (kd < 5)) (et_test (ev_op (ev_var rfl) ev_c rv_I0)) (fun hb H3 e3 => ?_) (fun hb H3 e3 => ?_)
    · have e := e2.trans e3
      refine s_retP (ep_opDD (C := fun d => 0 ≤ d ∧ d < 10 ^ 19) (C2 := fun d => 0 ≤ d ∧ d < 1000) (C1 := fun d => 0 ≤ d ∧ d < 10 ^ 20) (g := fun i j => i + j) (ep_opDD (C := fun d => 0 ≤ d ∧ d < 10 ^ 15) (C2 := fun d => 0 ≤ d ∧ d < 10 ^ 6) (g := fun i j => i + j) (ep_opD (g := fun d => 1000000000000 * d) ev_c (fun G eG => ep_draw rfl (hD1.ex (e.trans eG))) (fun d G Q _ q => ⟨_, _, rfl, rfl, .inl (by decide), q⟩) (fun d hd => by omega)) (fun G hG => ep_opD (g := fun d => 1000 * d) ev_c (fun G2 e2 => ep_draw rfl (hG.ex e2)) (fun d G Q _ q => ⟨_, _, rfl, rfl, .inl (by decide), q⟩) (fun d hd => by omega)) (fun d e G Q _ _ q => ⟨_, _, rfl, rfl, q⟩) (fun d e hd he => by omega)) (fun G hG => ep_draw rfl hG) (fun d e G Q _ _ q => ⟨_, _, rfl, rfl, q⟩) (fun d e hd he => by omega)) (fun v H' hv => fin e (fun d hd => by omega) v H' hv)
    refine q_when (b := decide (kd = 5)) (et_test (ev_op (ev_var rfl) ev_c rv_eqI)) (fun hb H4 e4 => ?_) (fun hb H4 e4 => ?_)
    · have e := e2.trans (e3.trans e4)
      exact s_retP (ep_opD (C1 := fun d => d.natAbs < b62 + 10) (g := fun d => (10 : Int) ^ (60 : Int).toNat - 1 - d) (ev_op (ev_op ev_c ev_c (rv_pow (by decide))) ev_c (rv_I0 (g := fun i j => .int (i - j)))) (fun G eG => ep_pick rfl (hD1.ex (e.trans eG)) ev_c (by decide)) (fun d G Q _ q => ⟨_, _, rfl, rfl, q⟩) (fun d hd => by omega)) (fun v H' hv => fin e (fun d hd => by omega) v H' hv)
    have e24 := e2.trans (e3.trans e4)
    refine q_when (b := g) (et_B (ev_var rfl)) (fun hb H5 e5 => ?_) (fun hb H5 e5 => ?_)
    · have e := e24.trans e5
      exact s_retP (ep_opD (C1 := fun d => d.natAbs < b62 + 1010) (g := fun d => (10 : Int) ^ (59 : Int).toNat + d) (ev_op ev_c ev_c (rv_pow (by decide))) (fun G eG => ep_draw rfl (hD1.ex (e.trans eG))) (fun d G Q _ q => ⟨_, _, rfl, rfl, q⟩) (fun d hd => by omega)) (fun v H' hv => fin e (fun d hd => by omega) v H' hv)
    refine q_when (b := decide (kd = 6)) (et_test (ev_op (ev_var rfl) ev_c rv_eqI)) (fun hb H6 e6 => ?_) (fun hb H6 e6 => ?_)
    · have e := e24.trans (e5.trans e6)
      exact s_retP (ep_opD (C1 := fun d => d.natAbs < b62 + 1010) (g := fun d => (10 : Int) ^ (60 : Int).toNat + d) (ev_op ev_c ev_c (rv_pow (by decide))) (fun G eG => ep_pick rfl (hD1.ex (e.trans eG)) ev_c (by decide)) (fun d G Q _ q => ⟨_, _, rfl, rfl, q⟩) (fun d hd => by omega)) (fun v H' hv => fin e (fun d hd => by omega) v H' hv)
    · have e := e24.trans (e5.trans e6)
      exact s_retP (ep_opD (C1 := fun d => d.natAbs < 1010) (g := fun d => 0 - 1 - d) (ev_op ev_c ev_c (rv_I0 (g := fun i j => .int (i - j)))) (fun G eG => ep_pick rfl (hD1.ex (e.trans eG)) ev_c (by decide)) (fun d G Q _ q => ⟨_, _, rfl, rfl, q⟩) (fun d hd => by omega)) (fun v H' hv => fin e (fun d hd => by omega) v H' hv)
theorem ep_entry {p : Addr} {i j : Nat} {g : Bool} {σ : L2.St} {H : Hp} (hi : σ[i]? = some (some (.ref p))) (hj : σ[j]? = some (some (.bl g))) (hD : Drw p H) : EvP (tCall (sp_law_entry K) [] E0 (tCons (tVar i) (tCons (tVar j) tNil))) σ H (DP p H fun d => d.natAbs < 10 ^ 100) := fun Q q => ⟨_, hi, _, hj, p, g, rfl, hD, q⟩
theorem due_eqv (ns : List Int) : PyData.eqv (dueD ns) (dueD ns) = true ∧ SeqAt.shaped (dueD ns) = true := by
  unfold dueD
  cases firstBad ns with
  | some i =>
    refine ⟨by simp [PyData.eqv, PyData.eqvAll], ?_⟩
    have h1 : (PyData.str "refused").canLay0 = true := by decide +kernel
    dsimp only
    unfold SeqAt.shaped
    rw [PyData.canLay0, PyData.canLayAll0, PyData.canLayAll0, PyData.canLayAll0, h1]
    simp [PyData.canLay0, PyData.depth, PyData.depthAll]
  | none =>
    refine ⟨by simp [PyData.eqv, PyData.eqvAll, eqv_ints], ?_⟩
    have h1 : (PyData.str "written").canLay0 = true := by decide +kernel
    have h2 := Gd.depthAll_ints (wrL ns)
    dsimp only
    unfold SeqAt.shaped
    rw [PyData.canLay0, PyData.canLayAll0, PyData.canLayAll0, PyData.canLayAll0, h1, PyData.canLay0, can_ints, PyData.depth, PyData.depthAll, PyData.depthAll, PyData.depthAll, PyData.depth, PyData.depth]
    simp only [Bool.true_and]
    exact decide_eq_true (by omega)
theorem ev_dS {σ : L2.St} {H : Hp} {te : TE} {s : Str} (h : EvD K te σ H (.str s)) : Ev te σ H (.str s) := fun H1 e Q q => h H1 e Q fun v H2 e2 hd => by cases hd; exact q H2 e2
def sp_law (K : PySem.W.Frag) : Sp := fun vs H Q _ => ∃ (a : Addr) (ns : List Int), vs = [.ref a] ∧ SqL K H a (ns.map V.int) ∧ ns.length ≤ 63 ∧ ∀ H', Q (.bl true) H'
theorem ok_law (T : Txt K mg) : FnOk P w K mg base CX0 5 T.f_law T.d_law ["script"] (sp_law K) := by
  refine T.F_law.ok sc_law (fun vs H Q E h => ?_) (fun cdv A outer s H vs Q E hr h => ?_)
  · obtain ⟨a, ns, rfl, _⟩ := h
    rfl
  · obtain ⟨a, ns, rfl, hS, hl, k⟩ := h
    refine ⟨_, (pss_cons (ps_set (i := 1) sc_law.nd rfl (Or.inl rfl) (pe_call (ok_law_draws (P := P) T) (hr.mono (by decide)) (by rfl) T.g_law_draws T.F_law_draws.kp T.b_law_draws .nil pass0 (pa_cons (pv 0) pa_nil)))
        (pss_cons (ps_set (i := 2) sc_law.nd rfl (Or.inl rfl) (pe_cmpR op_eq (pe_call (ok_law_pick (P := P) T) (hr.mono (by decide)) (by rfl) T.g_law_pick T.F_law_pick.kp T.b_law_pick .nil pass0 (pa_cons (pv 1) (pa_cons pe_int pa_nil))) pe_int (nomark _)))
        (pss_cons (ps_set (i := 3) sc_law.nd rfl (Or.inl rfl) (pe_lst pa_nil))
        (pss_cons (ps_for PassesOwn.never rfl (pi_range1 (by rfl) T.n_range (pa_cons (pe_call (ok_law_pick (P := P) T) (hr.mono (by decide)) (by rfl) T.g_law_pick T.F_law_pick.kp T.b_law_pick .nil pass0 (pa_cons (pv 1) (pa_cons pe_int pa_nil))) pa_nil)) (pg_name (i := 4) sc_law.nd rfl (Or.inl rfl)) (pss_one (ps_expr (pe_bm PySem.F.plainAttrs_list PySem.F.slot_list_append PySem.F.type_list_append mt_append (pv 3) (pa_cons (pe_call (ok_law_entry (P := P) T) (hr.mono (by decide)) (by rfl) T.g_law_entry T.F_law_entry.kp T.b_law_entry .nil pass0 (pa_cons (pv 1) (pa_cons (pv 2) pa_nil))) pa_nil)))))
        (pss_cons (ps_set (i := 5) sc_law.nd rfl (Or.inl rfl) (pe_callTy call_list_of (by rfl) T.n_list (by decide +kernel) (pa_cons (pv 3) pa_nil)))
        (pss_cons (ps_set (i := 6) sc_law.nd rfl (Or.inl rfl) (pe_call (ok_law_told (P := P) T) (hr.mono (by decide)) (by rfl) T.g_law_told T.F_law_told.kp T.b_law_told .nil pass0 (pa_cons (pv 5) pa_nil)))
        (pss_cons (ps_if (PW.pt (pw_or (pt_cmpR (op_neD hr.units) (pv 6) (pe_call (ok_law_due (P := P) T) (hr.mono (by decide)) (by rfl) T.g_law_due T.F_law_due.kp T.b_law_due .nil pass0 (pa_cons (pv 3) pa_nil)) (nomark _)) (pw_or1 (pt_cmpR (op_neD hr.units) (pv 5) (pv 3) (nomark _))))) (pss_one (ps_ret pe_bl)) pss_nil)
        (pss_cons (ps_if (pt_cmpR op_eq (pe_ix ix_tup (pv 6) pe_int (fun _ _ => rfl)) pe_str (nomark _)) (pss_one (ps_ret (pe_call (ok_law_is_integer (P := P) T) (hr.mono (by decide)) (by rfl) T.g_law_is_integer T.F_law_is_integer.kp T.b_law_is_integer .nil pass0 (pa_cons (pe_ix ix_tup (pv 6) pe_int (fun _ _ => rfl)) pa_nil)))) pss_nil)
        (pss_one (ps_ret (pe_and (pe_call (ok_law_is_cells (P := P) T) (hr.mono (by decide)) (by rfl) T.g_law_is_cells T.F_law_is_cells.kp T.b_law_is_cells .nil pass0 (pa_cons (pe_ix ix_tup (pv 6) pe_int (fun _ _ => rfl)) pa_nil)) (pe_one (pe_cmpR (op_eqD hr.units) (pe_call (ok_read_digits (P := P) T) (hr.mono (by decide)) (by rfl) T.g_read_digits T.F_read_digits.kp T.b_read_digits .nil pass0 (pa_cons (pe_ix ix_tup (pv 6) pe_int (fun _ _ => rfl)) pa_nil)) (pv 3) (nomark _)))))))))))))), ?_⟩
    refine ⟨_, rfl, a, ns, rfl, hS, hl, fun p H1 hp e1 hD1 => ?_⟩
    refine q_asgP (P := fun v H' => ∃ b, v = .bl b ∧ Drw p H') (ep_op (ep_pick rfl hD1 ev_c (by decide)) (fun x G hx => ?_)) (fun v H2 hv => ?_)
    · obtain ⟨d, rfl, hd, hDd, bd⟩ := hx
      exact fun Q q => ev_c G (Ex.refl G) _ fun G2 e2 => q _ _ fun Q2 q2 => rv_eqI G2 (Ex.refl G2) _ fun G3 e3 => q2 _ _ ⟨_, rfl, (hDd.ex e2).ex e3⟩
    obtain ⟨g, rfl, hD2⟩ := hv
    refine q_asgL (el_lst ea_nil (by decide)) (fun q H3 hq e3 d3 => ?_)
    have hqp : q ≠ p := fun e => by
      obtain ⟨ds, h, _⟩ := hD2
      rw [e, h] at hq
      cases hq
    refine q_forRP (ep_pick rfl (hD2.ex e3) ev_c (by decide)) (fun v H4 hv => ?_)
    obtain ⟨n, rfl, hn, hD4, b4⟩ := hv
    refine ⟨n.toNat, by rw [Int.toNat_of_nonneg hn.1], by omega, fun i σ' H' => Drw p H' ∧ ∃ (cs : List Int) (y : Option V), H' q = some (.lst (cs.map V.int)) ∧ cs.length = i ∧ (∀ c ∈ cs, c.natAbs < 10 ^ 100) ∧ σ' = [some (.ref a), some (.ref p), some (.bl g), some (.ref q), y, none, none], ?_, ?_, ?_⟩
    · exact ⟨hD4, [], none, b4 _ _ hqp d3, rfl, (fun c hc => by cases hc), rfl⟩
    · rintro i σ' H' hi ⟨hD, cs, y, hc, hcl, hcb, rfl⟩
      refine s_appP (ev_var rfl) hc (by rw [List.length_map]; omega) (fun H5 e5 => (ep_entry rfl rfl (hD.ex e5)).imp (P' := DP p H' fun d => d.natAbs < 10 ^ 100) fun v H6 hv => dp_bk hv (ex_but e5) fun _ h => h) (fun v H6 hv => ?_)
      obtain ⟨c, rfl, hcc, hD6, b6⟩ := hv
      refine ⟨b6 _ _ hqp hc, ?_, cs ++ [c], some (.int (i : Int)), ?_, by rw [List.length_append, hcl]; rfl, ?_, rfl⟩
      · obtain ⟨ds, h, s⟩ := hD6
        exact ⟨ds, by rw [upd_ne (Ne.symm hqp)]; exact h, s⟩
      · rw [List.map_append]
        exact upd_same
      · intro x hx
        rcases List.mem_append.mp hx with m | m
        · exact hcb x m
        · rw [List.mem_singleton.mp m]; exact hcc
    · rintro σ' H5 ⟨hD5, cs, y, hc5, hcl, hcb, rfl⟩
      have hcl : cs.length ≤ 12 := by omega
      have hcb : ∀ c ∈ cs, c.natAbs < 10 ^ 200 := fun c hc => Nat.lt_of_lt_of_le (hcb c hc) (Nat.pow_le_pow_right (by decide) (by decide))
      refine q_asgL (el_list (ev_var rfl) (sq_of hc5)) (fun r H6 hr6 e6 d6 => ?_)
      have hc6 := e6 _ _ hc5
      refine q_asgP (ep_told (ev_var rfl) (sq_of d6) hcl hcb) (fun v H7 hv => ?_)
      obtain ⟨e7, hv7, hex⟩ := hv
      have hc7 := e7 _ _ hc6
      have hr7 := e7 _ _ d6
      obtain ⟨hq1, hq2⟩ := due_eqv cs
      show tSeq _ _ _ [some (.ref a), some (.ref p), some (.bl g), some (.ref q), y, some (.ref r), some v] _
      refine q_when (b := false) (et_is (et_or (a := false) (b := false) (et_is (et_test (ev_neD (ed_ev (ev_var rfl) hv7) (ed_due (ev_var rfl) (sq_of hc7) hcl) hq2 hq2)) (by rw [hq1]; rfl)) (fun _ => et_is (et_test (ev_op (ev_var rfl) (ev_var rfl) (rv_neL (sq_of hr7) (sq_of hc7)))) (by rw [decide_eq_true rfl]; rfl))) rfl) (fun hb => nomatch hb) (fun _ H8 e8 => ?_)
      cases hf : firstBad cs with
      | some i =>
        have hD : dueD cs = .tuple [.str "refused", .int (i : Int)] := by unfold dueD; rw [hf]
        rw [hD] at hv7
        refine q_when (b := true) (et_is (et_test (ev_op (ev_dS (ed_ixT (i := 0) (ed_ev (ev_var rfl) (hv7.ex e8)) ev_c rfl)) ev_c (rv_eq rfl))) (decide_eq_true rfl)) (fun _ H9 e9 => ?_) (fun hb => nomatch hb)
        exact s_ret (ev_call (ea_cons (ev_di (ed_ixT (i := 1) (ed_ev (ev_var rfl) (hv7.ex (e8.trans e9))) ev_c rfl)) ea_nil) v_law_is_integer) fun H10 _ => k H10
      | none =>
        obtain ⟨t, u, rfl, ht, hu⟩ := hex hf
        have hall : ∀ i ∈ cs, badI i = false := List.findIdx?_eq_none_iff.mp hf
        have hpos : ∀ i ∈ cs, 0 ≤ i := fun i hi => (good_i (hall i hi)).1
        have hwl := wrN_len cs (fun i hi => (good_i (hall i hi)).2)
        refine q_when (b := false) (et_is (et_test (ev_op (ev_op (ev_var rfl) ev_c (rv_ixT (i := 0) (ex_t e8 ht) rfl)) ev_c (rv_eq rfl))) (by decide)) (fun hb => nomatch hb) (fun _ H9 e9 => ?_)
        have e89 := e8.trans e9
        refine s_ret (v := .bl (true && decide (cs = cs))) (ev_andV (ev_call (ea_cons (ev_op (ev_var rfl) ev_c (rv_ixT (i := 1) (ex_t e89 ht) rfl)) ea_nil) (v_law_is_cells (e89 _ _ hu))) (fun _ => ev_opL1 (el_call (ea_cons (ev_op (ev_var rfl) ev_c (rv_ixT (i := 1) (ex_t e89 ht) rfl)) ea_nil) (by
          have := l_read_digits (K := K) (sq_of (e89 _ _ hu)) (by unfold wrL; rw [List.length_map]; omega)
          rw [rd_wr cs hpos] at this
          exact this)) (fun G e => ev_var rfl) (fun z G hz e => rv_eqL (sq_of hz) (sq_of (e _ _ (e89 _ _ hc7)))))) (fun H10 _ => ?_)
        rw [decide_eq_true rfl]
        exact k H10
theorem law_at (K : PySem.W.Frag) (H : Hp) (a : Addr) (ns : List Int) (hl : ns.length ≤ 63) (hO : Only H) (hS : SqL K H a (ns.map V.int)) : sp_law K [.ref a] H (fun v _ => v = .bl true) fun _ _ _ => False := ⟨a, ns, rfl, hS, hl, fun _ => rfl⟩


end
end K15

set_option Elab.async false
set_option linter.all false
set_option maxRecDepth 100000
set_option maxHeartbeats 4000000
set_option exponentiation.threshold 600
namespace K15
open PySem PySem.Spec PyProof.Rows L2 Evl Gd
open PySem.NumText (AllDigits digitsVal)
/-! ### the head's facts -/
theorem mk_txt {K : PySem.W.Frag} {h : Heap} {mg : Str → Option Value} {p1 p2 p3 p4 p5 p6 p7 p8 p9 p10 p11 p12 p13 p14 p15 p16 p17 p18 p19 p20 C_PlinthError C_NotText C_NotNumeral C_NotWritable fI_NotWritable cc_NotWritable cda_NotWritable C_NotListable : Addr} (X : K.In h) (G : h.Ns mainGlobals mg)
    {t_NEWLINE : Tok}
    {od1 an1 od2 an2 od3 an3 od4 an4 od5 an5 od6 an6 od7 an7 od8 an8 od9 an9 od10 an10 od11 an11 od12 an12 od13 an13 od14 an14 od15 an15 od16 an16 od17 an17 od18 an18 od19 an19 od20 an20 : Option Addr} {sl1 sl2 sl3 sl4 sl5 sl6 sl7 sl8 sl9 sl10 sl11 sl12 sl13 sl14 sl15 sl16 sl17 sl18 sl19 sl20 : Array (Option Value)}
    {xoc_NotWritable xct_NotWritable xkV_NotWritable xdoc_NotWritable xpm_NotWritable xccl_NotWritable xcl_NotWritable : Value} {xod_NotWritable xan_NotWritable xcdd_NotWritable xcld_NotWritable : Option Addr} {xosl_NotWritable xccs_NotWritable xcsl_NotWritable : Array (Option Value)} {xvs_NotWritable : Array Value} {xtf_NotWritable : Tok}
    {xnm_NotWritable xq_NotWritable : Str} {xN_NotWritable : Addr} {xbs_NotWritable xbm_NotWritable xsub_NotWritable : List Value} {xsn_NotWritable : List Str} {xab_NotWritable : Bool} {xcol_NotWritable : Option Bool} {xdd_NotWritable : Option Addr} {xk0_NotWritable xk1_NotWritable xk2_NotWritable xk3_NotWritable xk5_NotWritable : Option Value}
    {oc1 kV1 dc1 pm1 cd1 ct1 oc2 kV2 dc2 pm2 cd2 ct2 oc3 kV3 dc3 pm3 cd3 ct3 oc4 kV4 dc4 pm4 cd4 ct4 oc5 kV5 dc5 pm5 cd5 ct5 oc6 kV6 dc6 pm6 cd6 ct6 oc7 kV7 dc7 pm7 cd7 ct7 oc8 kV8 dc8 pm8 cd8 ct8 oc9 kV9 dc9 pm9 cd9 ct9 oc10 kV10 dc10 pm10 cd10 ct10 oc11 kV11 dc11 pm11 cd11 ct11 oc12 kV12 dc12 pm12 cd12 ct12 oc13 kV13 dc13 pm13 cd13 ct13 oc14 kV14 dc14 pm14 cd14 ct14 oc15 kV15 dc15 pm15 cd15 ct15 oc16 kV16 dc16 pm16 cd16 ct16 oc17 kV17 dc17 pm17 cd17 ct17 oc18 kV18 dc18 pm18 cd18 ct18 oc19 kV19 dc19 pm19 cd19 ct19 oc20 kV20 dc20 pm20 cd20 ct20 : Value}
    (a1 : PySem.W.nsIn K mainGlobals "is_character" = some (some (.ref p1)))
    (l1 : K.lookup p1 = some ⟨oc1, od1, .func (PySem.W.fnOf "is_character" "is_character" (defArgs s_is_character) (defBody s_is_character) (defScope s_is_character) .none kV1 dc1 pm1 an1 cd1 ct1), sl1⟩)
    (c1 : PySem.W.codeIn K cd1 "is_character" = true)
    (k1 : PySem.W.keepIn K (.ref p1) = true)
    (a2 : PySem.W.nsIn K mainGlobals "is_digit" = some (some (.ref p2)))
    (l2 : K.lookup p2 = some ⟨oc2, od2, .func (PySem.W.fnOf "is_digit" "is_digit" (defArgs s_is_digit) (defBody s_is_digit) (defScope s_is_digit) .none kV2 dc2 pm2 an2 cd2 ct2), sl2⟩)
    (c2 : PySem.W.codeIn K cd2 "is_digit" = true)
    (k2 : PySem.W.keepIn K (.ref p2) = true)
    (a3 : PySem.W.nsIn K mainGlobals "with_digit" = some (some (.ref p3)))
    (l3 : K.lookup p3 = some ⟨oc3, od3, .func (PySem.W.fnOf "with_digit" "with_digit" (defArgs s_with_digit) (defBody s_with_digit) (defScope s_with_digit) .none kV3 dc3 pm3 an3 cd3 ct3), sl3⟩)
    (c3 : PySem.W.codeIn K cd3 "with_digit" = true)
    (k3 : PySem.W.keepIn K (.ref p3) = true)
    (a4 : PySem.W.nsIn K mainGlobals "codes_of" = some (some (.ref p4)))
    (l4 : K.lookup p4 = some ⟨oc4, od4, .func (PySem.W.fnOf "codes_of" "codes_of" (defArgs s_codes_of) (defBody s_codes_of) (defScope s_codes_of) .none kV4 dc4 pm4 an4 cd4 ct4), sl4⟩)
    (c4 : PySem.W.codeIn K cd4 "codes_of" = true)
    (k4 : PySem.W.keepIn K (.ref p4) = true)
    (a5 : PySem.W.nsIn K mainGlobals "readable" = some (some (.ref p5)))
    (l5 : K.lookup p5 = some ⟨oc5, od5, .func (PySem.W.fnOf "readable" "readable" (defArgs s_readable) (defBody s_readable) (defScope s_readable) .none kV5 dc5 pm5 an5 cd5 ct5), sl5⟩)
    (c5 : PySem.W.codeIn K cd5 "readable" = true)
    (k5 : PySem.W.keepIn K (.ref p5) = true)
    (a6 : PySem.W.nsIn K mainGlobals "has_numeral" = some (some (.ref p6)))
    (l6 : K.lookup p6 = some ⟨oc6, od6, .func (PySem.W.fnOf "has_numeral" "has_numeral" (defArgs s_has_numeral) (defBody s_has_numeral) (defScope s_has_numeral) .none kV6 dc6 pm6 an6 cd6 ct6), sl6⟩)
    (c6 : PySem.W.codeIn K cd6 "has_numeral" = true)
    (k6 : PySem.W.keepIn K (.ref p6) = true)
    (a7 : PySem.W.nsIn K mainGlobals "numeral" = some (some (.ref p7)))
    (l7 : K.lookup p7 = some ⟨oc7, od7, .func (PySem.W.fnOf "numeral" "numeral" (defArgs s_numeral) (defBody s_numeral) (defScope s_numeral) .none kV7 dc7 pm7 an7 cd7 ct7), sl7⟩)
    (c7 : PySem.W.codeIn K cd7 "numeral" = true)
    (k7 : PySem.W.keepIn K (.ref p7) = true)
    (a8 : PySem.W.nsIn K mainGlobals "read_digits" = some (some (.ref p8)))
    (l8 : K.lookup p8 = some ⟨oc8, od8, .func (PySem.W.fnOf "read_digits" "read_digits" (defArgs s_read_digits) (defBody s_read_digits) (defScope s_read_digits) .none kV8 dc8 pm8 an8 cd8 ct8), sl8⟩)
    (c8 : PySem.W.codeIn K cd8 "read_digits" = true)
    (k8 : PySem.W.keepIn K (.ref p8) = true)
    (a9 : PySem.W.nsIn K mainGlobals "write_digits" = some (some (.ref p9)))
    (l9 : K.lookup p9 = some ⟨oc9, od9, .func (PySem.W.fnOf "write_digits" "write_digits" (defArgs s_write_digits) (defBody s_write_digits) (defScope s_write_digits) .none kV9 dc9 pm9 an9 cd9 ct9), sl9⟩)
    (c9 : PySem.W.codeIn K cd9 "write_digits" = true)
    (k9 : PySem.W.keepIn K (.ref p9) = true)
    (a10 : PySem.W.nsIn K mainGlobals "_law_number" = some (some (.ref p10)))
    (l10 : K.lookup p10 = some ⟨oc10, od10, .func (PySem.W.fnOf "_law_number" "_law_number" (defArgs s_law_number) (defBody s_law_number) (defScope s_law_number) .none kV10 dc10 pm10 an10 cd10 ct10), sl10⟩)
    (c10 : PySem.W.codeIn K cd10 "_law_number" = true)
    (k10 : PySem.W.keepIn K (.ref p10) = true)
    (a11 : PySem.W.nsIn K mainGlobals "_law_draws" = some (some (.ref p11)))
    (l11 : K.lookup p11 = some ⟨oc11, od11, .func (PySem.W.fnOf "_law_draws" "_law_draws" (defArgs s_law_draws) (defBody s_law_draws) (defScope s_law_draws) .none kV11 dc11 pm11 an11 cd11 ct11), sl11⟩)
    (c11 : PySem.W.codeIn K cd11 "_law_draws" = true)
    (k11 : PySem.W.keepIn K (.ref p11) = true)
    (a12 : PySem.W.nsIn K mainGlobals "_law_draw" = some (some (.ref p12)))
    (l12 : K.lookup p12 = some ⟨oc12, od12, .func (PySem.W.fnOf "_law_draw" "_law_draw" (defArgs s_law_draw) (defBody s_law_draw) (defScope s_law_draw) .none kV12 dc12 pm12 an12 cd12 ct12), sl12⟩)
    (c12 : PySem.W.codeIn K cd12 "_law_draw" = true)
    (k12 : PySem.W.keepIn K (.ref p12) = true)
    (a13 : PySem.W.nsIn K mainGlobals "_law_pick" = some (some (.ref p13)))
    (l13 : K.lookup p13 = some ⟨oc13, od13, .func (PySem.W.fnOf "_law_pick" "_law_pick" (defArgs s_law_pick) (defBody s_law_pick) (defScope s_law_pick) .none kV13 dc13 pm13 an13 cd13 ct13), sl13⟩)
    (c13 : PySem.W.codeIn K cd13 "_law_pick" = true)
    (k13 : PySem.W.keepIn K (.ref p13) = true)
    (a14 : PySem.W.nsIn K mainGlobals "_law_is_integer" = some (some (.ref p14)))
    (l14 : K.lookup p14 = some ⟨oc14, od14, .func (PySem.W.fnOf "_law_is_integer" "_law_is_integer" (defArgs s_law_is_integer) (defBody s_law_is_integer) (defScope s_law_is_integer) .none kV14 dc14 pm14 an14 cd14 ct14), sl14⟩)
    (c14 : PySem.W.codeIn K cd14 "_law_is_integer" = true)
    (k14 : PySem.W.keepIn K (.ref p14) = true)
    (a15 : PySem.W.nsIn K mainGlobals "_law_is_cells" = some (some (.ref p15)))
    (l15 : K.lookup p15 = some ⟨oc15, od15, .func (PySem.W.fnOf "_law_is_cells" "_law_is_cells" (defArgs s_law_is_cells) (defBody s_law_is_cells) (defScope s_law_is_cells) .none kV15 dc15 pm15 an15 cd15 ct15), sl15⟩)
    (c15 : PySem.W.codeIn K cd15 "_law_is_cells" = true)
    (k15 : PySem.W.keepIn K (.ref p15) = true)
    (a16 : PySem.W.nsIn K mainGlobals "_law_entry" = some (some (.ref p16)))
    (l16 : K.lookup p16 = some ⟨oc16, od16, .func (PySem.W.fnOf "_law_entry" "_law_entry" (defArgs s_law_entry) (defBody s_law_entry) (defScope s_law_entry) .none kV16 dc16 pm16 an16 cd16 ct16), sl16⟩)
    (c16 : PySem.W.codeIn K cd16 "_law_entry" = true)
    (k16 : PySem.W.keepIn K (.ref p16) = true)
    (a17 : PySem.W.nsIn K mainGlobals "_law_written" = some (some (.ref p17)))
    (l17 : K.lookup p17 = some ⟨oc17, od17, .func (PySem.W.fnOf "_law_written" "_law_written" (defArgs s_law_written) (defBody s_law_written) (defScope s_law_written) .none kV17 dc17 pm17 an17 cd17 ct17), sl17⟩)
    (c17 : PySem.W.codeIn K cd17 "_law_written" = true)
    (k17 : PySem.W.keepIn K (.ref p17) = true)
    (a18 : PySem.W.nsIn K mainGlobals "_law_due" = some (some (.ref p18)))
    (l18 : K.lookup p18 = some ⟨oc18, od18, .func (PySem.W.fnOf "_law_due" "_law_due" (defArgs s_law_due) (defBody s_law_due) (defScope s_law_due) .none kV18 dc18 pm18 an18 cd18 ct18), sl18⟩)
    (c18 : PySem.W.codeIn K cd18 "_law_due" = true)
    (k18 : PySem.W.keepIn K (.ref p18) = true)
    (a19 : PySem.W.nsIn K mainGlobals "_law_told" = some (some (.ref p19)))
    (l19 : K.lookup p19 = some ⟨oc19, od19, .func (PySem.W.fnOf "_law_told" "_law_told" (defArgs s_law_told) (defBody s_law_told) (defScope s_law_told) .none kV19 dc19 pm19 an19 cd19 ct19), sl19⟩)
    (c19 : PySem.W.codeIn K cd19 "_law_told" = true)
    (k19 : PySem.W.keepIn K (.ref p19) = true)
    (a20 : PySem.W.nsIn K mainGlobals "law" = some (some (.ref p20)))
    (l20 : K.lookup p20 = some ⟨oc20, od20, .func (PySem.W.fnOf "law" "law" (defArgs s_law) (defBody s_law) (defScope s_law) .none kV20 dc20 pm20 an20 cd20 ct20), sl20⟩)
    (c20 : PySem.W.codeIn K cd20 "law" = true)
    (k20 : PySem.W.keepIn K (.ref p20) = true)
    (g_PlinthError : PySem.W.nsIn K mainGlobals "PlinthError" = some (some (.ref C_PlinthError)))
    (k_PlinthError : PySem.W.keepIn K (.ref C_PlinthError) = true)
    (x_PlinthError : PySem.W.excIn K C_PlinthError [.type "ValueError", .type "Exception", .type "BaseException", .type "object"] "ValueError.__new__" = true)
    (b_PlinthError : PySem.W.subIn K (.ref C_PlinthError) (.type "BaseException") = some true)
    (t_PlinthError : PySem.W.typeIn K (.ref C_PlinthError) = some (.type "type"))
    (hd_PlinthError : PySem.W.hasDictIn K C_PlinthError = true)
    (s_PlinthError : PySem.W.subIn K (.ref C_PlinthError) (.ref C_PlinthError) = some true)
    (i_PlinthError : PySem.W.isClsIn K C_PlinthError = true)
    (g_NotText : PySem.W.nsIn K mainGlobals "NotText" = some (some (.ref C_NotText)))
    (k_NotText : PySem.W.keepIn K (.ref C_NotText) = true)
    (x_NotText : PySem.W.excIn K C_NotText [.type "ValueError", .type "Exception", .type "BaseException", .type "object"] "ValueError.__new__" = true)
    (b_NotText : PySem.W.subIn K (.ref C_NotText) (.type "BaseException") = some true)
    (t_NotText : PySem.W.typeIn K (.ref C_NotText) = some (.type "type"))
    (hd_NotText : PySem.W.hasDictIn K C_NotText = true)
    (s_NotText : PySem.W.subIn K (.ref C_NotText) (.ref C_NotText) = some true)
    (i_NotText : PySem.W.isClsIn K C_NotText = true)
    (g_NotNumeral : PySem.W.nsIn K mainGlobals "NotNumeral" = some (some (.ref C_NotNumeral)))
    (k_NotNumeral : PySem.W.keepIn K (.ref C_NotNumeral) = true)
    (x_NotNumeral : PySem.W.excIn K C_NotNumeral [.type "ValueError", .type "Exception", .type "BaseException", .type "object"] "ValueError.__new__" = true)
    (b_NotNumeral : PySem.W.subIn K (.ref C_NotNumeral) (.type "BaseException") = some true)
    (t_NotNumeral : PySem.W.typeIn K (.ref C_NotNumeral) = some (.type "type"))
    (hd_NotNumeral : PySem.W.hasDictIn K C_NotNumeral = true)
    (s_NotNumeral : PySem.W.subIn K (.ref C_NotNumeral) (.ref C_NotNumeral) = some true)
    (i_NotNumeral : PySem.W.isClsIn K C_NotNumeral = true)
    (g_NotWritable : PySem.W.nsIn K mainGlobals "NotWritable" = some (some (.ref C_NotWritable)))
    (k_NotWritable : PySem.W.keepIn K (.ref C_NotWritable) = true)
    (xi_NotWritable : PySem.W.findIn K (.ref C_NotWritable) "__init__" = some (some (.ref fI_NotWritable)))
    (xl_NotWritable : K.lookup fI_NotWritable = some ⟨xoc_NotWritable, xod_NotWritable, .func (PySem.W.ksFn "__init__" "NotWritable.__init__" (defArgs sI_NotWritable) (defBody sI_NotWritable) (defScope sI_NotWritable) .none xkV_NotWritable xdoc_NotWritable xpm_NotWritable xan_NotWritable (.ref cda_NotWritable) xct_NotWritable cc_NotWritable), xosl_NotWritable⟩)
    (xc_NotWritable : K.lookup cda_NotWritable = some ⟨xccl_NotWritable, xcdd_NotWritable, .fields xvs_NotWritable, xccs_NotWritable⟩)
    (xv_NotWritable : xvs_NotWritable[2]? = some (.str "/claim/cut.py" xtf_NotWritable))
    (xe_NotWritable : K.lookup cc_NotWritable = some ⟨xcl_NotWritable, xcld_NotWritable, .cell (some (.ref C_NotWritable)), xcsl_NotWritable⟩)
    (xd_NotWritable : PySem.W.codeIn K (.ref cda_NotWritable) "NotWritable.__init__" = true)
    (xp_NotWritable : PySem.W.keepIn K (.ref fI_NotWritable) = true)
    (xm_NotWritable : PySem.W.mroIn K C_NotWritable (.ref C_NotWritable) = some true)
    (xs_NotWritable : PySem.W.ks_superIn K C_NotWritable C_NotWritable "__init__" = some (some (.builtin "ValueError.__init__")))
    (xu_NotWritable : PySem.W.subIn K (.ref C_NotWritable) (.type "ValueError") = some true)
    (xo_NotWritable : PySem.W.nsIn K cStatics "thirdparty.any" = some none)
    (xk_NotWritable : K.lookup C_NotWritable = some (excClassObj xnm_NotWritable xq_NotWritable C_NotWritable xN_NotWritable xbs_NotWritable xbm_NotWritable true xsn_NotWritable xsub_NotWritable xab_NotWritable xcol_NotWritable xdd_NotWritable xk0_NotWritable xk1_NotWritable xk2_NotWritable xk3_NotWritable xk5_NotWritable "ValueError.__new__"))
    (xr_NotWritable : PySem.HandSPX.refsVE xbm_NotWritable = true)
    (xa_NotWritable : PySem.W.findIn K (.ref C_NotWritable) "__setattr__" = some (some (.builtin "object.__setattr__")))
    (xt_NotWritable : PySem.W.typeIn K (.ref fI_NotWritable) = some (.type "function"))
    (xn_NotWritable : PySem.W.findIn K (.ref C_NotWritable) "at" = some none)
    (b_NotWritable : PySem.W.subIn K (.ref C_NotWritable) (.type "BaseException") = some true)
    (t_NotWritable : PySem.W.typeIn K (.ref C_NotWritable) = some (.type "type"))
    (hd_NotWritable : PySem.W.hasDictIn K C_NotWritable = true)
    (s_NotWritable : PySem.W.subIn K (.ref C_NotWritable) (.ref C_NotWritable) = some true)
    (i_NotWritable : PySem.W.isClsIn K C_NotWritable = true)
    (ga_NotWritable : PySem.W.findIn K (.ref C_NotWritable) "__getattribute__" = some (some (.builtin "BaseException.__getattribute__")))
    (gg_NotWritable : PySem.W.findIn K (.ref C_NotWritable) "__getattr__" = some none)
    (gc_NotWritable : PySem.W.findIn K (.ref C_NotWritable) "__class__" = some (some (.builtin "object.__class__")))
    (gs_NotWritable : PySem.W.specialIn K (.builtin "object.__class__") "__get__" = some (some (.builtin "getset_descriptor.__get__")))
    (gt_NotWritable : PySem.W.takesIn K (.builtin "object.__class__") = some true)
    (gm_NotWritable : PySem.W.mroIn K C_NotWritable (.type "object") = some true)
    (g_NotListable : PySem.W.nsIn K mainGlobals "NotListable" = some (some (.ref C_NotListable)))
    (k_NotListable : PySem.W.keepIn K (.ref C_NotListable) = true)
    (b_NotListable : PySem.W.subIn K (.ref C_NotListable) (.type "BaseException") = some true)
    (t_NotListable : PySem.W.typeIn K (.ref C_NotListable) = some (.type "type"))
    (hd_NotListable : PySem.W.hasDictIn K C_NotListable = true)
    (s_NotListable : PySem.W.subIn K (.ref C_NotListable) (.ref C_NotListable) = some true)
    (i_NotListable : PySem.W.isClsIn K C_NotListable = true)
    (sub_NotWritable_PlinthError : PySem.W.subIn K (.ref C_NotWritable) (.ref C_PlinthError) = some true)
    (kit_NotWritable_NotWritable : PySem.W.kitOne K (.ref C_NotWritable) (.ref C_NotWritable) = some true)
    (kit_NotWritable_NotListable : PySem.W.kitOne K (.ref C_NotWritable) (.ref C_NotListable) = some false)
    (c_NEWLINE : PySem.W.nsIn K mainGlobals "NEWLINE" = some (some (.int 10 t_NEWLINE)))
    (n_abs : PySem.W.nsIn K mainGlobals "abs" = some none)
    (n_bool : PySem.W.nsIn K mainGlobals "bool" = some none)
    (n_enumerate : PySem.W.nsIn K mainGlobals "enumerate" = some none)
    (n_int : PySem.W.nsIn K mainGlobals "int" = some none)
    (n_isinstance : PySem.W.nsIn K mainGlobals "isinstance" = some none)
    (n_len : PySem.W.nsIn K mainGlobals "len" = some none)
    (n_list : PySem.W.nsIn K mainGlobals "list" = some none)
    (n_ord : PySem.W.nsIn K mainGlobals "ord" = some none)
    (n_range : PySem.W.nsIn K mainGlobals "range" = some none)
    (n_str : PySem.W.nsIn K mainGlobals "str" = some none)
    (n_super : PySem.W.nsIn K mainGlobals "super" = some none)
    : ∃ T : Txt K mg, T.f_law = p20 := by
  exact ⟨{
      f_is_character := p1
      d_is_character := _
      F_is_character := fun_mk (st := s_is_character) l1 c1 k1
      b_is_character := (fun_mk (st := s_is_character) l1 c1 k1).binds (ps := ["code"]) fun _ _ _ _ _ _ us hl => match us, hl with | [_], _ => rfl
      g_is_character := PySem.W.mg_of X G a1
      f_is_digit := p2
      d_is_digit := _
      F_is_digit := fun_mk (st := s_is_digit) l2 c2 k2
      b_is_digit := (fun_mk (st := s_is_digit) l2 c2 k2).binds (ps := ["code"]) fun _ _ _ _ _ _ us hl => match us, hl with | [_], _ => rfl
      g_is_digit := PySem.W.mg_of X G a2
      f_with_digit := p3
      d_with_digit := _
      F_with_digit := fun_mk (st := s_with_digit) l3 c3 k3
      b_with_digit := (fun_mk (st := s_with_digit) l3 c3 k3).binds (ps := ["number", "code"]) fun _ _ _ _ _ _ us hl => match us, hl with | [_, _], _ => rfl
      g_with_digit := PySem.W.mg_of X G a3
      f_codes_of := p4
      d_codes_of := _
      F_codes_of := fun_mk (st := s_codes_of) l4 c4 k4
      b_codes_of := (fun_mk (st := s_codes_of) l4 c4 k4).binds (ps := ["text"]) fun _ _ _ _ _ _ us hl => match us, hl with | [_], _ => rfl
      g_codes_of := PySem.W.mg_of X G a4
      f_readable := p5
      d_readable := _
      F_readable := fun_mk (st := s_readable) l5 c5 k5
      b_readable := (fun_mk (st := s_readable) l5 c5 k5).binds (ps := ["codes"]) fun _ _ _ _ _ _ us hl => match us, hl with | [_], _ => rfl
      g_readable := PySem.W.mg_of X G a5
      f_has_numeral := p6
      d_has_numeral := _
      F_has_numeral := fun_mk (st := s_has_numeral) l6 c6 k6
      b_has_numeral := (fun_mk (st := s_has_numeral) l6 c6 k6).binds (ps := ["number"]) fun _ _ _ _ _ _ us hl => match us, hl with | [_], _ => rfl
      g_has_numeral := PySem.W.mg_of X G a6
      f_numeral := p7
      d_numeral := _
      F_numeral := fun_mk (st := s_numeral) l7 c7 k7
      b_numeral := (fun_mk (st := s_numeral) l7 c7 k7).binds (ps := ["number"]) fun _ _ _ _ _ _ us hl => match us, hl with | [_], _ => rfl
      g_numeral := PySem.W.mg_of X G a7
      f_read_digits := p8
      d_read_digits := _
      F_read_digits := fun_mk (st := s_read_digits) l8 c8 k8
      b_read_digits := (fun_mk (st := s_read_digits) l8 c8 k8).binds (ps := ["codes"]) fun _ _ _ _ _ _ us hl => match us, hl with | [_], _ => rfl
      g_read_digits := PySem.W.mg_of X G a8
      f_write_digits := p9
      d_write_digits := _
      F_write_digits := fun_mk (st := s_write_digits) l9 c9 k9
      b_write_digits := (fun_mk (st := s_write_digits) l9 c9 k9).binds (ps := ["numbers"]) fun _ _ _ _ _ _ us hl => match us, hl with | [_], _ => rfl
      g_write_digits := PySem.W.mg_of X G a9
      f_law_number := p10
      d_law_number := _
      F_law_number := fun_mk (st := s_law_number) l10 c10 k10
      b_law_number := (fun_mk (st := s_law_number) l10 c10 k10).binds (ps := ["cell"]) fun _ _ _ _ _ _ us hl => match us, hl with | [_], _ => rfl
      g_law_number := PySem.W.mg_of X G a10
      f_law_draws := p11
      d_law_draws := _
      F_law_draws := fun_mk (st := s_law_draws) l11 c11 k11
      b_law_draws := (fun_mk (st := s_law_draws) l11 c11 k11).binds (ps := ["script"]) fun _ _ _ _ _ _ us hl => match us, hl with | [_], _ => rfl
      g_law_draws := PySem.W.mg_of X G a11
      f_law_draw := p12
      d_law_draw := _
      F_law_draw := fun_mk (st := s_law_draw) l12 c12 k12
      b_law_draw := (fun_mk (st := s_law_draw) l12 c12 k12).binds (ps := ["draws"]) fun _ _ _ _ _ _ us hl => match us, hl with | [_], _ => rfl
      g_law_draw := PySem.W.mg_of X G a12
      f_law_pick := p13
      d_law_pick := _
      F_law_pick := fun_mk (st := s_law_pick) l13 c13 k13
      b_law_pick := (fun_mk (st := s_law_pick) l13 c13 k13).binds (ps := ["draws", "many"]) fun _ _ _ _ _ _ us hl => match us, hl with | [_, _], _ => rfl
      g_law_pick := PySem.W.mg_of X G a13
      f_law_is_integer := p14
      d_law_is_integer := _
      F_law_is_integer := fun_mk (st := s_law_is_integer) l14 c14 k14
      b_law_is_integer := (fun_mk (st := s_law_is_integer) l14 c14 k14).binds (ps := ["actual"]) fun _ _ _ _ _ _ us hl => match us, hl with | [_], _ => rfl
      g_law_is_integer := PySem.W.mg_of X G a14
      f_law_is_cells := p15
      d_law_is_cells := _
      F_law_is_cells := fun_mk (st := s_law_is_cells) l15 c15 k15
      b_law_is_cells := (fun_mk (st := s_law_is_cells) l15 c15 k15).binds (ps := ["actual"]) fun _ _ _ _ _ _ us hl => match us, hl with | [_], _ => rfl
      g_law_is_cells := PySem.W.mg_of X G a15
      f_law_entry := p16
      d_law_entry := _
      F_law_entry := fun_mk (st := s_law_entry) l16 c16 k16
      b_law_entry := (fun_mk (st := s_law_entry) l16 c16 k16).binds (ps := ["draws", "good"]) fun _ _ _ _ _ _ us hl => match us, hl with | [_, _], _ => rfl
      g_law_entry := PySem.W.mg_of X G a16
      f_law_written := p17
      d_law_written := _
      F_law_written := fun_mk (st := s_law_written) l17 c17 k17
      b_law_written := (fun_mk (st := s_law_written) l17 c17 k17).binds (ps := ["number"]) fun _ _ _ _ _ _ us hl => match us, hl with | [_], _ => rfl
      g_law_written := PySem.W.mg_of X G a17
      f_law_due := p18
      d_law_due := _
      F_law_due := fun_mk (st := s_law_due) l18 c18 k18
      b_law_due := (fun_mk (st := s_law_due) l18 c18 k18).binds (ps := ["numbers"]) fun _ _ _ _ _ _ us hl => match us, hl with | [_], _ => rfl
      g_law_due := PySem.W.mg_of X G a18
      f_law_told := p19
      d_law_told := _
      F_law_told := fun_mk (st := s_law_told) l19 c19 k19
      b_law_told := (fun_mk (st := s_law_told) l19 c19 k19).binds (ps := ["numbers"]) fun _ _ _ _ _ _ us hl => match us, hl with | [_], _ => rfl
      g_law_told := PySem.W.mg_of X G a19
      f_law := p20
      d_law := _
      F_law := fun_mk (st := s_law) l20 c20 k20
      b_law := (fun_mk (st := s_law) l20 c20 k20).binds (ps := ["script"]) fun _ _ _ _ _ _ us hl => match us, hl with | [_], _ => rfl
      g_law := PySem.W.mg_of X G a20
      h_law := fun s v => .of_eq rfl
      C_PlinthError := C_PlinthError
      g_PlinthError := PySem.W.mg_of X G g_PlinthError
      k_PlinthError := k_PlinthError
      x_PlinthError := x_PlinthError
      b_PlinthError := b_PlinthError
      t_PlinthError := t_PlinthError
      hd_PlinthError := hd_PlinthError
      s_PlinthError := s_PlinthError
      i_PlinthError := i_PlinthError
      C_NotText := C_NotText
      g_NotText := PySem.W.mg_of X G g_NotText
      k_NotText := k_NotText
      x_NotText := x_NotText
      b_NotText := b_NotText
      t_NotText := t_NotText
      hd_NotText := hd_NotText
      s_NotText := s_NotText
      i_NotText := i_NotText
      C_NotNumeral := C_NotNumeral
      g_NotNumeral := PySem.W.mg_of X G g_NotNumeral
      k_NotNumeral := k_NotNumeral
      x_NotNumeral := x_NotNumeral
      b_NotNumeral := b_NotNumeral
      t_NotNumeral := t_NotNumeral
      hd_NotNumeral := hd_NotNumeral
      s_NotNumeral := s_NotNumeral
      i_NotNumeral := i_NotNumeral
      C_NotWritable := C_NotWritable
      g_NotWritable := PySem.W.mg_of X G g_NotWritable
      k_NotWritable := k_NotWritable
      fI_NotWritable := fI_NotWritable
      dI_NotWritable := _
      cc_NotWritable := cc_NotWritable
      cda_NotWritable := cda_NotWritable
      supf_NotWritable := ⟨⟨_, _, _, _, _, _, _, _, _, _, _, _, _, _, _, _, rfl, xl_NotWritable, xc_NotWritable, xv_NotWritable, xe_NotWritable⟩, xd_NotWritable, xp_NotWritable, xm_NotWritable, xs_NotWritable, xu_NotWritable, xo_NotWritable⟩
      oex_NotWritable := ⟨⟨_, _, _, _, _, _, _, _, _, _, _, _, _, _, _, xk_NotWritable, xr_NotWritable⟩, xa_NotWritable, b_NotWritable, t_NotWritable, k_NotWritable⟩
      ii_NotWritable := xi_NotWritable
      ti_NotWritable := xt_NotWritable
      na_NotWritable := xn_NotWritable
      bI_NotWritable := Gd.SupF.binds (C := C_NotWritable) (f := fI_NotWritable) (cc := cc_NotWritable) (cda := cda_NotWritable) (qual := "NotWritable.__init__") (st := sI_NotWritable) (ps := ["self", "at"]) ⟨⟨_, _, _, _, _, _, _, _, _, _, _, _, _, _, _, _, rfl, xl_NotWritable, xc_NotWritable, xv_NotWritable, xe_NotWritable⟩, xd_NotWritable, xp_NotWritable, xm_NotWritable, xs_NotWritable, xu_NotWritable, xo_NotWritable⟩ fun _ _ _ _ _ us hl => match us, hl with | [_, _], _ => rfl
      b_NotWritable := b_NotWritable
      t_NotWritable := t_NotWritable
      hd_NotWritable := hd_NotWritable
      s_NotWritable := s_NotWritable
      i_NotWritable := i_NotWritable
      ga_NotWritable := ga_NotWritable
      gg_NotWritable := gg_NotWritable
      gc_NotWritable := gc_NotWritable
      gs_NotWritable := gs_NotWritable
      gt_NotWritable := gt_NotWritable
      gm_NotWritable := gm_NotWritable
      C_NotListable := C_NotListable
      g_NotListable := PySem.W.mg_of X G g_NotListable
      k_NotListable := k_NotListable
      b_NotListable := b_NotListable
      t_NotListable := t_NotListable
      hd_NotListable := hd_NotListable
      s_NotListable := s_NotListable
      i_NotListable := i_NotListable
      sub_NotWritable_PlinthError := sub_NotWritable_PlinthError
      kit_NotWritable_NotWritable := kit_NotWritable_NotWritable
      kit_NotWritable_NotListable := kit_NotWritable_NotListable
      t_NEWLINE := t_NEWLINE
      c_NEWLINE := PySem.W.mg_of X G c_NEWLINE
      n_abs := PySem.W.mg_none_of X G n_abs
      n_bool := PySem.W.mg_none_of X G n_bool
      n_enumerate := PySem.W.mg_none_of X G n_enumerate
      n_int := PySem.W.mg_none_of X G n_int
      n_isinstance := PySem.W.mg_none_of X G n_isinstance
      n_len := PySem.W.mg_none_of X G n_len
      n_list := PySem.W.mg_none_of X G n_list
      n_ord := PySem.W.mg_none_of X G n_ord
      n_range := PySem.W.mg_none_of X G n_range
      n_str := PySem.W.mg_none_of X G n_str
      n_super := PySem.W.mg_none_of X G n_super }, rfl⟩
theorem all_mk {l : PySem.W.OpenLaw} [Gd.ProgOk l.prog] {w : World} {K : PySem.W.Frag} {h : Heap} {mg : Str → Option Value} {fa p1 p2 p3 p4 p5 p6 p7 p8 p9 p10 p11 p12 p13 p14 p15 p16 p17 p18 p19 p20 C_PlinthError C_NotText C_NotNumeral C_NotWritable fI_NotWritable cc_NotWritable cda_NotWritable C_NotListable : Addr} (X : K.In h) (G : h.Ns mainGlobals mg) (hfa : mg "law" = some (.ref fa))
    {t_NEWLINE : Tok}
    {od1 an1 od2 an2 od3 an3 od4 an4 od5 an5 od6 an6 od7 an7 od8 an8 od9 an9 od10 an10 od11 an11 od12 an12 od13 an13 od14 an14 od15 an15 od16 an16 od17 an17 od18 an18 od19 an19 od20 an20 : Option Addr} {sl1 sl2 sl3 sl4 sl5 sl6 sl7 sl8 sl9 sl10 sl11 sl12 sl13 sl14 sl15 sl16 sl17 sl18 sl19 sl20 : Array (Option Value)}
    {xoc_NotWritable xct_NotWritable xkV_NotWritable xdoc_NotWritable xpm_NotWritable xccl_NotWritable xcl_NotWritable : Value} {xod_NotWritable xan_NotWritable xcdd_NotWritable xcld_NotWritable : Option Addr} {xosl_NotWritable xccs_NotWritable xcsl_NotWritable : Array (Option Value)} {xvs_NotWritable : Array Value} {xtf_NotWritable : Tok}
    {xnm_NotWritable xq_NotWritable : Str} {xN_NotWritable : Addr} {xbs_NotWritable xbm_NotWritable xsub_NotWritable : List Value} {xsn_NotWritable : List Str} {xab_NotWritable : Bool} {xcol_NotWritable : Option Bool} {xdd_NotWritable : Option Addr} {xk0_NotWritable xk1_NotWritable xk2_NotWritable xk3_NotWritable xk5_NotWritable : Option Value}
    {oc1 kV1 dc1 pm1 cd1 ct1 oc2 kV2 dc2 pm2 cd2 ct2 oc3 kV3 dc3 pm3 cd3 ct3 oc4 kV4 dc4 pm4 cd4 ct4 oc5 kV5 dc5 pm5 cd5 ct5 oc6 kV6 dc6 pm6 cd6 ct6 oc7 kV7 dc7 pm7 cd7 ct7 oc8 kV8 dc8 pm8 cd8 ct8 oc9 kV9 dc9 pm9 cd9 ct9 oc10 kV10 dc10 pm10 cd10 ct10 oc11 kV11 dc11 pm11 cd11 ct11 oc12 kV12 dc12 pm12 cd12 ct12 oc13 kV13 dc13 pm13 cd13 ct13 oc14 kV14 dc14 pm14 cd14 ct14 oc15 kV15 dc15 pm15 cd15 ct15 oc16 kV16 dc16 pm16 cd16 ct16 oc17 kV17 dc17 pm17 cd17 ct17 oc18 kV18 dc18 pm18 cd18 ct18 oc19 kV19 dc19 pm19 cd19 ct19 oc20 kV20 dc20 pm20 cd20 ct20 : Value}
    (a1 : PySem.W.nsIn K mainGlobals "is_character" = some (some (.ref p1)))
    (l1 : K.lookup p1 = some ⟨oc1, od1, .func (PySem.W.fnOf "is_character" "is_character" (defArgs s_is_character) (defBody s_is_character) (defScope s_is_character) .none kV1 dc1 pm1 an1 cd1 ct1), sl1⟩)
    (c1 : PySem.W.codeIn K cd1 "is_character" = true)
    (k1 : PySem.W.keepIn K (.ref p1) = true)
    (a2 : PySem.W.nsIn K mainGlobals "is_digit" = some (some (.ref p2)))
    (l2 : K.lookup p2 = some ⟨oc2, od2, .func (PySem.W.fnOf "is_digit" "is_digit" (defArgs s_is_digit) (defBody s_is_digit) (defScope s_is_digit) .none kV2 dc2 pm2 an2 cd2 ct2), sl2⟩)
    (c2 : PySem.W.codeIn K cd2 "is_digit" = true)
    (k2 : PySem.W.keepIn K (.ref p2) = true)
    (a3 : PySem.W.nsIn K mainGlobals "with_digit" = some (some (.ref p3)))
    (l3 : K.lookup p3 = some ⟨oc3, od3, .func (PySem.W.fnOf "with_digit" "with_digit" (defArgs s_with_digit) (defBody s_with_digit) (defScope s_with_digit) .none kV3 dc3 pm3 an3 cd3 ct3), sl3⟩)
    (c3 : PySem.W.codeIn K cd3 "with_digit" = true)
    (k3 : PySem.W.keepIn K (.ref p3) = true)
    (a4 : PySem.W.nsIn K mainGlobals "codes_of" = some (some (.ref p4)))
    (l4 : K.lookup p4 = some ⟨oc4, od4, .func (PySem.W.fnOf "codes_of" "codes_of" (defArgs s_codes_of) (defBody s_codes_of) (defScope s_codes_of) .none kV4 dc4 pm4 an4 cd4 ct4), sl4⟩)
    (c4 : PySem.W.codeIn K cd4 "codes_of" = true)
    (k4 : PySem.W.keepIn K (.ref p4) = true)
    (a5 : PySem.W.nsIn K mainGlobals "readable" = some (some (.ref p5)))
    (l5 : K.lookup p5 = some ⟨oc5, od5, .func (PySem.W.fnOf "readable" "readable" (defArgs s_readable) (defBody s_readable) (defScope s_readable) .none kV5 dc5 pm5 an5 cd5 ct5), sl5⟩)
    (c5 : PySem.W.codeIn K cd5 "readable" = true)
    (k5 : PySem.W.keepIn K (.ref p5) = true)
    (a6 : PySem.W.nsIn K mainGlobals "has_numeral" = some (some (.ref p6)))
    (l6 : K.lookup p6 = some ⟨oc6, od6, .func (PySem.W.fnOf "has_numeral" "has_numeral" (defArgs s_has_numeral) (defBody s_has_numeral) (defScope s_has_numeral) .none kV6 dc6 pm6 an6 cd6 ct6), sl6⟩)
    (c6 : PySem.W.codeIn K cd6 "has_numeral" = true)
    (k6 : PySem.W.keepIn K (.ref p6) = true)
    (a7 : PySem.W.nsIn K mainGlobals "numeral" = some (some (.ref p7)))
    (l7 : K.lookup p7 = some ⟨oc7, od7, .func (PySem.W.fnOf "numeral" "numeral" (defArgs s_numeral) (defBody s_numeral) (defScope s_numeral) .none kV7 dc7 pm7 an7 cd7 ct7), sl7⟩)
    (c7 : PySem.W.codeIn K cd7 "numeral" = true)
    (k7 : PySem.W.keepIn K (.ref p7) = true)
    (a8 : PySem.W.nsIn K mainGlobals "read_digits" = some (some (.ref p8)))
    (l8 : K.lookup p8 = some ⟨oc8, od8, .func (PySem.W.fnOf "read_digits" "read_digits" (defArgs s_read_digits) (defBody s_read_digits) (defScope s_read_digits) .none kV8 dc8 pm8 an8 cd8 ct8), sl8⟩)
    (c8 : PySem.W.codeIn K cd8 "read_digits" = true)
    (k8 : PySem.W.keepIn K (.ref p8) = true)
    (a9 : PySem.W.nsIn K mainGlobals "write_digits" = some (some (.ref p9)))
    (l9 : K.lookup p9 = some ⟨oc9, od9, .func (PySem.W.fnOf "write_digits" "write_digits" (defArgs s_write_digits) (defBody s_write_digits) (defScope s_write_digits) .none kV9 dc9 pm9 an9 cd9 ct9), sl9⟩)
    (c9 : PySem.W.codeIn K cd9 "write_digits" = true)
    (k9 : PySem.W.keepIn K (.ref p9) = true)
    (a10 : PySem.W.nsIn K mainGlobals "_law_number" = some (some (.ref p10)))
    (l10 : K.lookup p10 = some ⟨oc10, od10, .func (PySem.W.fnOf "_law_number" "_law_number" (defArgs s_law_number) (defBody s_law_number) (defScope s_law_number) .none kV10 dc10 pm10 an10 cd10 ct10), sl10⟩)
    (c10 : PySem.W.codeIn K cd10 "_law_number" = true)
    (k10 : PySem.W.keepIn K (.ref p10) = true)
    (a11 : PySem.W.nsIn K mainGlobals "_law_draws" = some (some (.ref p11)))
    (l11 : K.lookup p11 = some ⟨oc11, od11, .func (PySem.W.fnOf "_law_draws" "_law_draws" (defArgs s_law_draws) (defBody s_law_draws) (defScope s_law_draws) .none kV11 dc11 pm11 an11 cd11 ct11), sl11⟩)
    (c11 : PySem.W.codeIn K cd11 "_law_draws" = true)
    (k11 : PySem.W.keepIn K (.ref p11) = true)
    (a12 : PySem.W.nsIn K mainGlobals "_law_draw" = some (some (.ref p12)))
    (l12 : K.lookup p12 = some ⟨oc12, od12, .func (PySem.W.fnOf "_law_draw" "_law_draw" (defArgs s_law_draw) (defBody s_law_draw) (defScope s_law_draw) .none kV12 dc12 pm12 an12 cd12 ct12), sl12⟩)
    (c12 : PySem.W.codeIn K cd12 "_law_draw" = true)
    (k12 : PySem.W.keepIn K (.ref p12) = true)
    (a13 : PySem.W.nsIn K mainGlobals "_law_pick" = some (some (.ref p13)))
    (l13 : K.lookup p13 = some ⟨oc13, od13, .func (PySem.W.fnOf "_law_pick" "_law_pick" (defArgs s_law_pick) (defBody s_law_pick) (defScope s_law_pick) .none kV13 dc13 pm13 an13 cd13 ct13), sl13⟩)
    (c13 : PySem.W.codeIn K cd13 "_law_pick" = true)
    (k13 : PySem.W.keepIn K (.ref p13) = true)
    (a14 : PySem.W.nsIn K mainGlobals "_law_is_integer" = some (some (.ref p14)))
    (l14 : K.lookup p14 = some ⟨oc14, od14, .func (PySem.W.fnOf "_law_is_integer" "_law_is_integer" (defArgs s_law_is_integer) (defBody s_law_is_integer) (defScope s_law_is_integer) .none kV14 dc14 pm14 an14 cd14 ct14), sl14⟩)
    (c14 : PySem.W.codeIn K cd14 "_law_is_integer" = true)
    (k14 : PySem.W.keepIn K (.ref p14) = true)
    (a15 : PySem.W.nsIn K mainGlobals "_law_is_cells" = some (some (.ref p15)))
    (l15 : K.lookup p15 = some ⟨oc15, od15, .func (PySem.W.fnOf "_law_is_cells" "_law_is_cells" (defArgs s_law_is_cells) (defBody s_law_is_cells) (defScope s_law_is_cells) .none kV15 dc15 pm15 an15 cd15 ct15), sl15⟩)
    (c15 : PySem.W.codeIn K cd15 "_law_is_cells" = true)
    (k15 : PySem.W.keepIn K (.ref p15) = true)
    (a16 : PySem.W.nsIn K mainGlobals "_law_entry" = some (some (.ref p16)))
    (l16 : K.lookup p16 = some ⟨oc16, od16, .func (PySem.W.fnOf "_law_entry" "_law_entry" (defArgs s_law_entry) (defBody s_law_entry) (defScope s_law_entry) .none kV16 dc16 pm16 an16 cd16 ct16), sl16⟩)
    (c16 : PySem.W.codeIn K cd16 "_law_entry" = true)
    (k16 : PySem.W.keepIn K (.ref p16) = true)
    (a17 : PySem.W.nsIn K mainGlobals "_law_written" = some (some (.ref p17)))
    (l17 : K.lookup p17 = some ⟨oc17, od17, .func (PySem.W.fnOf "_law_written" "_law_written" (defArgs s_law_written) (defBody s_law_written) (defScope s_law_written) .none kV17 dc17 pm17 an17 cd17 ct17), sl17⟩)
    (c17 : PySem.W.codeIn K cd17 "_law_written" = true)
    (k17 : PySem.W.keepIn K (.ref p17) = true)
    (a18 : PySem.W.nsIn K mainGlobals "_law_due" = some (some (.ref p18)))
    (l18 : K.lookup p18 = some ⟨oc18, od18, .func (PySem.W.fnOf "_law_due" "_law_due" (defArgs s_law_due) (defBody s_law_due) (defScope s_law_due) .none kV18 dc18 pm18 an18 cd18 ct18), sl18⟩)
    (c18 : PySem.W.codeIn K cd18 "_law_due" = true)
    (k18 : PySem.W.keepIn K (.ref p18) = true)
    (a19 : PySem.W.nsIn K mainGlobals "_law_told" = some (some (.ref p19)))
    (l19 : K.lookup p19 = some ⟨oc19, od19, .func (PySem.W.fnOf "_law_told" "_law_told" (defArgs s_law_told) (defBody s_law_told) (defScope s_law_told) .none kV19 dc19 pm19 an19 cd19 ct19), sl19⟩)
    (c19 : PySem.W.codeIn K cd19 "_law_told" = true)
    (k19 : PySem.W.keepIn K (.ref p19) = true)
    (a20 : PySem.W.nsIn K mainGlobals "law" = some (some (.ref p20)))
    (l20 : K.lookup p20 = some ⟨oc20, od20, .func (PySem.W.fnOf "law" "law" (defArgs s_law) (defBody s_law) (defScope s_law) .none kV20 dc20 pm20 an20 cd20 ct20), sl20⟩)
    (c20 : PySem.W.codeIn K cd20 "law" = true)
    (k20 : PySem.W.keepIn K (.ref p20) = true)
    (g_PlinthError : PySem.W.nsIn K mainGlobals "PlinthError" = some (some (.ref C_PlinthError)))
    (k_PlinthError : PySem.W.keepIn K (.ref C_PlinthError) = true)
    (x_PlinthError : PySem.W.excIn K C_PlinthError [.type "ValueError", .type "Exception", .type "BaseException", .type "object"] "ValueError.__new__" = true)
    (b_PlinthError : PySem.W.subIn K (.ref C_PlinthError) (.type "BaseException") = some true)
    (t_PlinthError : PySem.W.typeIn K (.ref C_PlinthError) = some (.type "type"))
    (hd_PlinthError : PySem.W.hasDictIn K C_PlinthError = true)
    (s_PlinthError : PySem.W.subIn K (.ref C_PlinthError) (.ref C_PlinthError) = some true)
    (i_PlinthError : PySem.W.isClsIn K C_PlinthError = true)
    (g_NotText : PySem.W.nsIn K mainGlobals "NotText" = some (some (.ref C_NotText)))
    (k_NotText : PySem.W.keepIn K (.ref C_NotText) = true)
    (x_NotText : PySem.W.excIn K C_NotText [.type "ValueError", .type "Exception", .type "BaseException", .type "object"] "ValueError.__new__" = true)
    (b_NotText : PySem.W.subIn K (.ref C_NotText) (.type "BaseException") = some true)
    (t_NotText : PySem.W.typeIn K (.ref C_NotText) = some (.type "type"))
    (hd_NotText : PySem.W.hasDictIn K C_NotText = true)
    (s_NotText : PySem.W.subIn K (.ref C_NotText) (.ref C_NotText) = some true)
    (i_NotText : PySem.W.isClsIn K C_NotText = true)
    (g_NotNumeral : PySem.W.nsIn K mainGlobals "NotNumeral" = some (some (.ref C_NotNumeral)))
    (k_NotNumeral : PySem.W.keepIn K (.ref C_NotNumeral) = true)
    (x_NotNumeral : PySem.W.excIn K C_NotNumeral [.type "ValueError", .type "Exception", .type "BaseException", .type "object"] "ValueError.__new__" = true)
    (b_NotNumeral : PySem.W.subIn K (.ref C_NotNumeral) (.type "BaseException") = some true)
    (t_NotNumeral : PySem.W.typeIn K (.ref C_NotNumeral) = some (.type "type"))
    (hd_NotNumeral : PySem.W.hasDictIn K C_NotNumeral = true)
    (s_NotNumeral : PySem.W.subIn K (.ref C_NotNumeral) (.ref C_NotNumeral) = some true)
    (i_NotNumeral : PySem.W.isClsIn K C_NotNumeral = true)
    (g_NotWritable : PySem.W.nsIn K mainGlobals "NotWritable" = some (some (.ref C_NotWritable)))
    (k_NotWritable : PySem.W.keepIn K (.ref C_NotWritable) = true)
    (xi_NotWritable : PySem.W.findIn K (.ref C_NotWritable) "__init__" = some (some (.ref fI_NotWritable)))
    (xl_NotWritable : K.lookup fI_NotWritable = some ⟨xoc_NotWritable, xod_NotWritable, .func (PySem.W.ksFn "__init__" "NotWritable.__init__" (defArgs sI_NotWritable) (defBody sI_NotWritable) (defScope sI_NotWritable) .none xkV_NotWritable xdoc_NotWritable xpm_NotWritable xan_NotWritable (.ref cda_NotWritable) xct_NotWritable cc_NotWritable), xosl_NotWritable⟩)
    (xc_NotWritable : K.lookup cda_NotWritable = some ⟨xccl_NotWritable, xcdd_NotWritable, .fields xvs_NotWritable, xccs_NotWritable⟩)
    (xv_NotWritable : xvs_NotWritable[2]? = some (.str "/claim/cut.py" xtf_NotWritable))
    (xe_NotWritable : K.lookup cc_NotWritable = some ⟨xcl_NotWritable, xcld_NotWritable, .cell (some (.ref C_NotWritable)), xcsl_NotWritable⟩)
    (xd_NotWritable : PySem.W.codeIn K (.ref cda_NotWritable) "NotWritable.__init__" = true)
    (xp_NotWritable : PySem.W.keepIn K (.ref fI_NotWritable) = true)
    (xm_NotWritable : PySem.W.mroIn K C_NotWritable (.ref C_NotWritable) = some true)
    (xs_NotWritable : PySem.W.ks_superIn K C_NotWritable C_NotWritable "__init__" = some (some (.builtin "ValueError.__init__")))
    (xu_NotWritable : PySem.W.subIn K (.ref C_NotWritable) (.type "ValueError") = some true)
    (xo_NotWritable : PySem.W.nsIn K cStatics "thirdparty.any" = some none)
    (xk_NotWritable : K.lookup C_NotWritable = some (excClassObj xnm_NotWritable xq_NotWritable C_NotWritable xN_NotWritable xbs_NotWritable xbm_NotWritable true xsn_NotWritable xsub_NotWritable xab_NotWritable xcol_NotWritable xdd_NotWritable xk0_NotWritable xk1_NotWritable xk2_NotWritable xk3_NotWritable xk5_NotWritable "ValueError.__new__"))
    (xr_NotWritable : PySem.HandSPX.refsVE xbm_NotWritable = true)
    (xa_NotWritable : PySem.W.findIn K (.ref C_NotWritable) "__setattr__" = some (some (.builtin "object.__setattr__")))
    (xt_NotWritable : PySem.W.typeIn K (.ref fI_NotWritable) = some (.type "function"))
    (xn_NotWritable : PySem.W.findIn K (.ref C_NotWritable) "at" = some none)
    (b_NotWritable : PySem.W.subIn K (.ref C_NotWritable) (.type "BaseException") = some true)
    (t_NotWritable : PySem.W.typeIn K (.ref C_NotWritable) = some (.type "type"))
    (hd_NotWritable : PySem.W.hasDictIn K C_NotWritable = true)
    (s_NotWritable : PySem.W.subIn K (.ref C_NotWritable) (.ref C_NotWritable) = some true)
    (i_NotWritable : PySem.W.isClsIn K C_NotWritable = true)
    (ga_NotWritable : PySem.W.findIn K (.ref C_NotWritable) "__getattribute__" = some (some (.builtin "BaseException.__getattribute__")))
    (gg_NotWritable : PySem.W.findIn K (.ref C_NotWritable) "__getattr__" = some none)
    (gc_NotWritable : PySem.W.findIn K (.ref C_NotWritable) "__class__" = some (some (.builtin "object.__class__")))
    (gs_NotWritable : PySem.W.specialIn K (.builtin "object.__class__") "__get__" = some (some (.builtin "getset_descriptor.__get__")))
    (gt_NotWritable : PySem.W.takesIn K (.builtin "object.__class__") = some true)
    (gm_NotWritable : PySem.W.mroIn K C_NotWritable (.type "object") = some true)
    (g_NotListable : PySem.W.nsIn K mainGlobals "NotListable" = some (some (.ref C_NotListable)))
    (k_NotListable : PySem.W.keepIn K (.ref C_NotListable) = true)
    (b_NotListable : PySem.W.subIn K (.ref C_NotListable) (.type "BaseException") = some true)
    (t_NotListable : PySem.W.typeIn K (.ref C_NotListable) = some (.type "type"))
    (hd_NotListable : PySem.W.hasDictIn K C_NotListable = true)
    (s_NotListable : PySem.W.subIn K (.ref C_NotListable) (.ref C_NotListable) = some true)
    (i_NotListable : PySem.W.isClsIn K C_NotListable = true)
    (sub_NotWritable_PlinthError : PySem.W.subIn K (.ref C_NotWritable) (.ref C_PlinthError) = some true)
    (kit_NotWritable_NotWritable : PySem.W.kitOne K (.ref C_NotWritable) (.ref C_NotWritable) = some true)
    (kit_NotWritable_NotListable : PySem.W.kitOne K (.ref C_NotWritable) (.ref C_NotListable) = some false)
    (c_NEWLINE : PySem.W.nsIn K mainGlobals "NEWLINE" = some (some (.int 10 t_NEWLINE)))
    (n_abs : PySem.W.nsIn K mainGlobals "abs" = some none)
    (n_bool : PySem.W.nsIn K mainGlobals "bool" = some none)
    (n_enumerate : PySem.W.nsIn K mainGlobals "enumerate" = some none)
    (n_int : PySem.W.nsIn K mainGlobals "int" = some none)
    (n_isinstance : PySem.W.nsIn K mainGlobals "isinstance" = some none)
    (n_len : PySem.W.nsIn K mainGlobals "len" = some none)
    (n_list : PySem.W.nsIn K mainGlobals "list" = some none)
    (n_ord : PySem.W.nsIn K mainGlobals "ord" = some none)
    (n_range : PySem.W.nsIn K mainGlobals "range" = some none)
    (n_str : PySem.W.nsIn K mainGlobals "str" = some none)
    (n_super : PySem.W.nsIn K mainGlobals "super" = some none)
    : ∃ fd : FuncData, (∀ (s : Shared) (v : Value), BindsTo s fd ⟨[v], []⟩ [("script", v)]) ∧ ∀ base : Heap, K.In base → base.Ns mainGlobals mg → FnOk l.prog w K mg base CX0 5 fa fd ["script"] (sp_law K) := by
  obtain ⟨T, eT⟩ := mk_txt X G a1 l1 c1 k1 a2 l2 c2 k2 a3 l3 c3 k3 a4 l4 c4 k4 a5 l5 c5 k5 a6 l6 c6 k6 a7 l7 c7 k7 a8 l8 c8 k8 a9 l9 c9 k9 a10 l10 c10 k10 a11 l11 c11 k11 a12 l12 c12 k12 a13 l13 c13 k13 a14 l14 c14 k14 a15 l15 c15 k15 a16 l16 c16 k16 a17 l17 c17 k17 a18 l18 c18 k18 a19 l19 c19 k19 a20 l20 c20 k20 g_PlinthError k_PlinthError x_PlinthError b_PlinthError t_PlinthError hd_PlinthError s_PlinthError i_PlinthError g_NotText k_NotText x_NotText b_NotText t_NotText hd_NotText s_NotText i_NotText g_NotNumeral k_NotNumeral x_NotNumeral b_NotNumeral t_NotNumeral hd_NotNumeral s_NotNumeral i_NotNumeral g_NotWritable k_NotWritable xi_NotWritable xl_NotWritable xc_NotWritable xv_NotWritable xe_NotWritable xd_NotWritable xp_NotWritable xm_NotWritable xs_NotWritable xu_NotWritable xo_NotWritable xk_NotWritable xr_NotWritable xa_NotWritable xt_NotWritable xn_NotWritable b_NotWritable t_NotWritable hd_NotWritable s_NotWritable i_NotWritable ga_NotWritable gg_NotWritable gc_NotWritable gs_NotWritable gt_NotWritable gm_NotWritable g_NotListable k_NotListable b_NotListable t_NotListable hd_NotListable s_NotListable i_NotListable sub_NotWritable_PlinthError kit_NotWritable_NotWritable kit_NotWritable_NotListable c_NEWLINE n_abs n_bool n_enumerate n_int n_isinstance n_len n_list n_ord n_range n_str n_super
  cases hfa.symm.trans T.g_law
  exact ⟨T.d_law, T.h_law, fun base _ _ => ok_law T⟩
end K15
instance : Gd.ProgOk PySem.Challenge.rw_plinth_k15_write_digits.prog := ⟨by decide +kernel, by decide +kernel⟩
open PySem PySem.W PyProof.Rows
set_option maxRecDepth 100000 in
set_option maxHeartbeats 0 in
theorem PySem.Challenge.cw_plinth_k15_write_digits_holds : PySem.Challenge.rw_plinth_k15_write_digits.Holds := by
  w_on; o_law; k_head; (case hw => w_witness2)
  k_fill
  refine L2.walk_ofK (l := PySem.Challenge.rw_plinth_k15_write_digits) (n := 63) (k := 5) (x := "script") (CX := L2.CX0) (sp := K15.sp_law) rfl (by decide) rfl ⟨rfl, by decide, by decide⟩ (fun w h Y => PySem.W.kIn_of Y) ?F K15.law_at (fun _ _ _ _ z => z)
  case F =>
    intro w mg fa h KX G hmg
    refine' K15.all_mk KX G hmg ?a1 ?l1 ?c1 ?k1 ?a2 ?l2 ?c2 ?k2 ?a3 ?l3 ?c3 ?k3 ?a4 ?l4 ?c4 ?k4 ?a5 ?l5 ?c5 ?k5 ?a6 ?l6 ?c6 ?k6 ?a7 ?l7 ?c7 ?k7 ?a8 ?l8 ?c8 ?k8 ?a9 ?l9 ?c9 ?k9 ?a10 ?l10 ?c10 ?k10 ?a11 ?l11 ?c11 ?k11 ?a12 ?l12 ?c12 ?k12 ?a13 ?l13 ?c13 ?k13 ?a14 ?l14 ?c14 ?k14 ?a15 ?l15 ?c15 ?k15 ?a16 ?l16 ?c16 ?k16 ?a17 ?l17 ?c17 ?k17 ?a18 ?l18 ?c18 ?k18 ?a19 ?l19 ?c19 ?k19 ?a20 ?l20 ?c20 ?k20 ?g_PlinthError ?k_PlinthError ?x_PlinthError ?b_PlinthError ?t_PlinthError ?hd_PlinthError ?s_PlinthError ?i_PlinthError ?g_NotText ?k_NotText ?x_NotText ?b_NotText ?t_NotText ?hd_NotText ?s_NotText ?i_NotText ?g_NotNumeral ?k_NotNumeral ?x_NotNumeral ?b_NotNumeral ?t_NotNumeral ?hd_NotNumeral ?s_NotNumeral ?i_NotNumeral ?g_NotWritable ?k_NotWritable ?xi_NotWritable ?xl_NotWritable ?xc_NotWritable ?xv_NotWritable ?xe_NotWritable ?xd_NotWritable ?xp_NotWritable ?xm_NotWritable ?xs_NotWritable ?xu_NotWritable ?xo_NotWritable ?xk_NotWritable ?xr_NotWritable ?xa_NotWritable ?xt_NotWritable ?xn_NotWritable ?b_NotWritable ?t_NotWritable ?hd_NotWritable ?s_NotWritable ?i_NotWritable ?ga_NotWritable ?gg_NotWritable ?gc_NotWritable ?gs_NotWritable ?gt_NotWritable ?gm_NotWritable ?g_NotListable ?k_NotListable ?b_NotListable ?t_NotListable ?hd_NotListable ?s_NotListable ?i_NotListable ?sub_NotWritable_PlinthError ?kit_NotWritable_NotWritable ?kit_NotWritable_NotListable ?c_NEWLINE ?n_abs ?n_bool ?n_enumerate ?n_int ?n_isinstance ?n_len ?n_list ?n_ord ?n_range ?n_str ?n_super
    (case a1 => k_is)
    (case l1 => k_is)
    (case c1 => k_is)
    (case k1 => k_is)
    (case a2 => k_is)
    (case l2 => k_is)
    (case c2 => k_is)
    (case k2 => k_is)
    (case a3 => k_is)
    (case l3 => k_is)
    (case c3 => k_is)
    (case k3 => k_is)
    (case a4 => k_is)
    (case l4 => k_is)
    (case c4 => k_is)
    (case k4 => k_is)
    (case a5 => k_is)
    (case l5 => k_is)
    (case c5 => k_is)
    (case k5 => k_is)
    (case a6 => k_is)
    (case l6 => k_is)
    (case c6 => k_is)
    (case k6 => k_is)
    (case a7 => k_is)
    (case l7 => k_is)
    (case c7 => k_is)
    (case k7 => k_is)
    (case a8 => k_is)
    (case l8 => k_is)
    (case c8 => k_is)
    (case k8 => k_is)
    (case a9 => k_is)
    (case l9 => k_is)
    (case c9 => k_is)
    (case k9 => k_is)
    (case a10 => k_is)
    (case l10 => k_is)
    (case c10 => k_is)
    (case k10 => k_is)
    (case a11 => k_is)
    (case l11 => k_is)
    (case c11 => k_is)
    (case k11 => k_is)
    (case a12 => k_is)
    (case l12 => k_is)
    (case c12 => k_is)
    (case k12 => k_is)
    (case a13 => k_is)
    (case l13 => k_is)
    (case c13 => k_is)
    (case k13 => k_is)
    (case a14 => k_is)
    (case l14 => k_is)
    (case c14 => k_is)
    (case k14 => k_is)
    (case a15 => k_is)
    (case l15 => k_is)
    (case c15 => k_is)
    (case k15 => k_is)
    (case a16 => k_is)
    (case l16 => k_is)
    (case c16 => k_is)
    (case k16 => k_is)
    (case a17 => k_is)
    (case l17 => k_is)
    (case c17 => k_is)
    (case k17 => k_is)
    (case a18 => k_is)
    (case l18 => k_is)
    (case c18 => k_is)
    (case k18 => k_is)
    (case a19 => k_is)
    (case l19 => k_is)
    (case c19 => k_is)
    (case k19 => k_is)
    (case a20 => k_is)
    (case l20 => k_is)
    (case c20 => k_is)
    (case k20 => k_is)
    (case g_PlinthError => k_is)
    (case k_PlinthError => k_is)
    (case x_PlinthError => k_exc)
    (case b_PlinthError => k_is)
    (case t_PlinthError => k_is)
    (case hd_PlinthError => k_is)
    (case s_PlinthError => first | rfl | k_is)
    (case i_PlinthError => k_is)
    (case g_NotText => k_is)
    (case k_NotText => k_is)
    (case x_NotText => k_exc)
    (case b_NotText => k_is)
    (case t_NotText => k_is)
    (case hd_NotText => k_is)
    (case s_NotText => first | rfl | k_is)
    (case i_NotText => k_is)
    (case g_NotNumeral => k_is)
    (case k_NotNumeral => k_is)
    (case x_NotNumeral => k_exc)
    (case b_NotNumeral => k_is)
    (case t_NotNumeral => k_is)
    (case hd_NotNumeral => k_is)
    (case s_NotNumeral => first | rfl | k_is)
    (case i_NotNumeral => k_is)
    (case g_NotWritable => k_is)
    (case k_NotWritable => k_is)
    (case xi_NotWritable => k_is)
    (case xl_NotWritable => k_is)
    (case xc_NotWritable => k_is)
    (case xv_NotWritable => first | rfl | decide +kernel)
    (case xe_NotWritable => k_is)
    (case xd_NotWritable => k_is)
    (case xp_NotWritable => k_is)
    (case xm_NotWritable => k_is)
    (case xs_NotWritable => ks_is)
    (case xu_NotWritable => k_is)
    (case xo_NotWritable => k_is)
    (case xk_NotWritable => k_is)
    (case xr_NotWritable => first | rfl | decide +kernel)
    (case xa_NotWritable => k_is)
    (case xt_NotWritable => k_is)
    (case xn_NotWritable => k_is)
    (case b_NotWritable => k_is)
    (case t_NotWritable => k_is)
    (case hd_NotWritable => k_is)
    (case s_NotWritable => first | rfl | k_is)
    (case i_NotWritable => k_is)
    (case ga_NotWritable => k_is)
    (case gg_NotWritable => k_is)
    (case gc_NotWritable => k_is)
    (case gs_NotWritable => k_is)
    (case gt_NotWritable => k_is)
    (case gm_NotWritable => k_is)
    (case g_NotListable => k_is)
    (case k_NotListable => k_is)
    (case b_NotListable => k_is)
    (case t_NotListable => k_is)
    (case hd_NotListable => k_is)
    (case s_NotListable => first | rfl | k_is)
    (case i_NotListable => k_is)
    (case sub_NotWritable_PlinthError => first | rfl | k_is)
    (case kit_NotWritable_NotWritable => kit_is)
    (case kit_NotWritable_NotListable => kit_is)
    (case c_NEWLINE => k_is)
    (case n_abs => k_is)
    (case n_bool => k_is)
    (case n_enumerate => k_is)
    (case n_int => k_is)
    (case n_isinstance => k_is)
    (case n_len => k_is)
    (case n_list => k_is)
    (case n_ord => k_is)
    (case n_range => k_is)
    (case n_str => k_is)
    (case n_super => k_is)


